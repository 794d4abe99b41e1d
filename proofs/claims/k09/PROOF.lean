import PyProof.Rows.All
import Wide.All
import OpenK.AllK
import Wide.FinOn
import HandS.ForMost
import HandS.ExcOwn
import HandS.IsInst
import HandS.Wide
import HandS.Ends
import HandS.TupAny
import HandS.ExcInit
import PyProof.Rows.RegFStrParts
import HandS.More
import HandS.Star
import HandS.SetKeys
import HandS.DictComp
import HandS.OwnEq
import HandS.MethStar
import HandS.Property
import HandS.IterVal
import OpenK.KMeth
import PyProof.ReprRoads
import HandS.Style
import HandS.Strs
import HandS.Walk
import KE.GoesEnum
import KE.GoesMore
import HandS.Deep
import HandS.WideBits
import KE.KBits
import KE.OsArith
import PyProof.Rows.RuleB_and
import PyProof.Rows.RuleB_or
import PyProof.AttrMiss
import PyProof.InstEq
import HandS.SlotsOwn
import HandS.FStr
import HandS.Text
import KE.KxField
import PyProof.Rows.StrIntSpec
import PyProof.FString3
import PyProof.StrOps2
import HandS.RaiseMore
import PyProof.StrLawsRepr
import PyProof.StrBlockL
import KE.KDictSum
import KE.KCallOwn
import KE.KDictPairs
import PyProof.TupleOfStr
import PyProof.Rows.TmSorted
import PyProof.Rows.StrMeet
import HandS.Comp
import HandS.List
import KE.KUnpackStar
import HandS.Dict
import HandS.HeadHook3
import PyProof.DictUpdate
import HandS.Exc
import HandS.ExcField
import HandS.ExcIs
import KE.KExcIs
import KE.KExcInit
import HandS.Flow
import HandS.SortInts
import KE.OsRunLaw
import HandS.Head0
import HandS.Head1
import HandS.Head2
import PySem.Challenge.RW_nextbehind_k09_worlds_defined
set_option Elab.async false
set_option maxRecDepth 100000
set_option maxHeartbeats 4000000
/-! A def of the text that keeps its promise, with all that a caller must know of it. -/
namespace Nb
open PySem L2
structure Dn (P : Program) (w : World) (K : PySem.W.Frag) (mg : Str → Option Value) (base : Heap) (CX : CXT) (k : Nat) (x : Str) (ps : List Str) (sp : Sp) : Prop where
  ex : ∃ (f : Addr) (fd : FuncData), PySem.W.keepIn K (.ref f) = true ∧ Binds K fd ps [] ∧ mg x = some (.ref f) ∧ FnOk P w K mg base CX k f fd ps sp
theorem Dn.imp {P : Program} {w : World} {K : PySem.W.Frag} {mg : Str → Option Value} {base : Heap} {CX : CXT} {k : Nat} {x : Str} {ps : List Str} {sp sp' : Sp} (D : Dn P w K mg base CX k x ps sp) (h : ∀ vs H Q E, sp' vs H Q E → sp vs H Q E) : Dn P w K mg base CX k x ps sp' :=
  let ⟨f, fd, a, b, c, F⟩ := D.ex
  ⟨f, fd, a, b, c, F.imp h⟩
section
variable {X : Cx} {CX : CXT} {k : Nat} {ps : List Str} {sp : Sp} {E : XK} {W : L2.St → XK} {x : Str} {p pos : Pos} {e : Expr} {es : List Expr} {t : TA}
theorem pe_D (D : Dn X.prog X.w X.K X.mg X.base CX k x ps sp) (hr : Room k X.A) (hg : Gl X x) (hx : Passes CX X E) (ha : PA X (e :: es) t)
    (hdb : (x == ("__debug__" : Str)) = false := by decide) (he : starEach (e :: es) X.env = (false, eval e X.env) :: starEach es X.env := by rfl) (hpl : (backTo pos (starEach es X.env)).any (·.1) = false := by rfl) : PE X (.Call (.Name x p) (e :: es) [] pos) (tCall sp [] E t) :=
  let ⟨_, _, kp, b, g, G⟩ := D.ex
  pe_call G hr hg g kp b .nil hx ha hdb he hpl
theorem pe_D0 (D : Dn X.prog X.w X.K X.mg X.base CX k x ps sp) (hr : Room k X.A) (hg : Gl X x) (hx : Passes CX X E) (hdb : (x == ("__debug__" : Str)) = false := by decide) : PE X (.Call (.Name x p) [] [] pos) (tCall sp [] E tNil) :=
  let ⟨_, _, kp, b, g, G⟩ := D.ex
  pe_call0 G hr hg g kp b .nil hx hdb
theorem pe_DS (D : Dn X.prog X.w X.K X.mg X.base CX k x ps sp) (hr : Room k X.A) (hg : Gl X x) (hx : ∀ σ, PassesAt CX X σ (W σ)) (ha : PA X (e :: es) t)
    (hdb : (x == ("__debug__" : Str)) = false := by decide) (he : starEach (e :: es) X.env = (false, eval e X.env) :: starEach es X.env := by rfl) (hpl : (backTo pos (starEach es X.env)).any (·.1) = false := by rfl) : PE X (.Call (.Name x p) (e :: es) [] pos) (tCallS sp W t) :=
  let ⟨_, _, kp, b, g, G⟩ := D.ex
  pe_callS G hr hg g kp b hx ha hdb he hpl
end
end Nb

set_option Elab.async false
set_option maxRecDepth 100000
set_option maxHeartbeats 4000000
/-! Heaps, and the numbers that the laws draw: what is common to all of them. -/
namespace Nb
open PySem L2
/-! ### heaps -/
theorem same_new {H : Hp} {p : Addr} {o : HO} (h : H p = none) : Same H (upd H p o) := fun b x e => by
  rw [upd_ne (ne_of_none e h)]
  exact e
/-- F says nothing of p: so what is stored at p leaves F as it is -/
theorem same_at {F H : Hp} {p : Addr} {o : HO} (s : Same F H) (h : F p = none) : Same F (upd H p o) := fun b x e => by
  rw [upd_ne (ne_of_none e h)]
  exact s _ _ e
theorem same_in {F H : Hp} {p : Addr} {o : HO} (s : Same F H) (h : H p = none) : Same F (upd H p o) := s.trans (same_new h)
/-- the heap without p -/
def del (H : Hp) (p : Addr) : Hp := fun b => if b = p then none else H b
theorem del_at {H : Hp} {p : Addr} : del H p p = none := if_pos rfl
theorem del_ne {H : Hp} {p b : Addr} (h : b ≠ p) : del H p b = H b := if_neg h
theorem del_same {H : Hp} {p : Addr} : Same (del H p) H := fun b o e => by
  by_cases h : b = p
  · subst h
    rw [del_at] at e
    cases e
  · rw [del_ne h] at e
    exact e
theorem same_del {F H : Hp} {p : Addr} (s : Same F H) (h : F p = none) : Same F (del H p) := fun b o e => by
  rw [del_ne (ne_of_none e h)]
  exact s _ _ e
theorem Same.tup {K : PySem.W.Frag} {H H' : Hp} {a : Addr} {xs : List V} (e : Same H H') (h : SqT K H a xs) : SqT K H' a xs := by
  rcases h with (h | ⟨o, h⟩) | h
  · exact .inl (.inl (e _ _ h))
  · exact .inl (.inr ⟨o, e _ _ h⟩)
  · exact .inr h
/-! ### data under more objects -/
section
variable {K : PySem.W.Frag} {H H' : Hp} (s : Same H H')
include s
mutual
theorem dp_same : ∀ (d : PyData) (v : V), Dp K H v d → Dp K H' v d
  | .none, _, .non => .non
  | .bool b, _, .bl _ => .bl b
  | .int i, _, .int _ => .int i
  | .str x, _, .str _ => .str x
  | .list ds, _, .lst h1 h2 => .lst (s.seq h1) (dp_sames ds _ h2)
  | .tuple ds, _, .tup h1 h2 => .tup (Nb.Same.tup s h1) (dp_sames ds _ h2)
theorem dp_sames : ∀ (ds : List PyData) (vs : List V), DpAll K H vs ds → DpAll K H' vs ds
  | [], _, .nil => .nil
  | d :: ds, _, .cons h1 h2 => .cons (dp_same d _ h1) (dp_sames ds _ h2)
end
end
theorem dp_ints {K : PySem.W.Frag} {H : Hp} : ∀ ns : List Int, DpAll K H (ns.map V.int) (ns.map PyData.int)
  | [] => .nil
  | n :: ns => .cons (.int n) (dp_ints ns)
/-- data without dicts, whose texts are texts, not deeper than n -/
def Fine (n : Nat) (d : PyData) : Prop := d.canLay0 = true ∧ d.depth ≤ n
theorem Fine.mono {n m : Nat} {d : PyData} (h : Fine n d) (l : n ≤ m) : Fine m d := ⟨h.1, Nat.le_trans h.2 l⟩
theorem Fine.shaped {n : Nat} {d : PyData} (h : Fine n d) (l : n ≤ 64) : SeqAt.shaped d = true := by
  unfold SeqAt.shaped
  rw [h.1, Bool.true_and]
  exact decide_eq_true (Nat.le_trans h.2 l)
theorem fine_all : ∀ {n : Nat} {ds : List PyData}, (∀ d ∈ ds, Fine n d) → PyData.canLayAll0 ds = true ∧ PyData.depthAll ds ≤ n
  | n, [], _ => by simp [PyData.canLayAll0, PyData.depthAll]
  | n, d :: ds, h => by
    have h1 := h d (List.mem_cons_self ..)
    have h2 := fine_all (n := n) (ds := ds) fun e he => h e (List.mem_cons_of_mem _ he)
    refine ⟨by simp [PyData.canLayAll0, h1.1, h2.1], ?_⟩
    simp only [PyData.depthAll]
    exact Nat.max_le.mpr ⟨h1.2, h2.2⟩
theorem fine_list {n : Nat} {ds : List PyData} (h : ∀ d ∈ ds, Fine n d) : Fine (n + 1) (.list ds) := by
  have k := fine_all h
  exact ⟨by simpa [PyData.canLay0] using k.1, by simpa [PyData.depth] using k.2⟩
theorem fine_tup {n : Nat} {ds : List PyData} (h : ∀ d ∈ ds, Fine n d) : Fine (n + 1) (.tuple ds) := by
  have k := fine_all h
  exact ⟨by simpa [PyData.canLay0] using k.1, by simpa [PyData.depth] using k.2⟩
theorem fine_int (i : Int) : Fine 0 (.int i) := ⟨by simp [PyData.canLay0], by simp [PyData.depth]⟩
theorem fine_non : Fine 0 .none := ⟨by simp [PyData.canLay0], by simp [PyData.depth]⟩
theorem fine_bl (b : Bool) : Fine 0 (.bool b) := ⟨by simp [PyData.canLay0], by simp [PyData.depth]⟩
theorem fine_str {x : Str} (h : PyData.strOk x = true) : Fine 0 (.str x) := ⟨by simpa [PyData.canLay0] using h, by simp [PyData.depth]⟩
theorem fine_ints (ns : List Int) : Fine 1 (.list (ns.map PyData.int)) := fine_list fun d hd => by
  obtain ⟨i, _, rfl⟩ := List.mem_map.mp hd
  exact fine_int i
theorem eqv_nil (ds : List PyData) : PyData.eqv (.list ds) (.list []) = ds.isEmpty := by
  cases ds <;> simp [PyData.eqv, PyData.eqvAll]
/-! ### the source of numbers: a list of three ints -/
def Src (H : Hp) (p : Addr) (b : Nat) : Prop := ∃ c n r : Int, H p = some (.lst [.int c, .int n, .int r]) ∧ 0 ≤ n ∧ n ≤ b
theorem Src.mono {H : Hp} {p : Addr} {b c : Nat} (h : Src H p b) (l : b ≤ c) : Src H p c := by
  obtain ⟨x, n, r, h1, h2, h3⟩ := h
  exact ⟨x, n, r, h1, h2, by omega⟩
theorem Src.some {H : Hp} {p : Addr} {b : Nat} (h : Src H p b) : ∃ o, H p = some o := let ⟨_, _, _, e, _⟩ := h; ⟨_, e⟩
theorem Src.same {F H : Hp} {p : Addr} {b : Nat} (h : Src F p b) (s : Same F H) : Src H p b :=
  let ⟨c, n, r, e, k⟩ := h; ⟨c, n, r, s _ _ e, k⟩
/-- _law_source's promise -/
def spSource (K : PySem.W.Frag) : Sp := fun vs H Q _ => ∃ (a : Addr) (ns : List Int) (k : Nat), vs = [.ref a, .int k] ∧ SqL K H a (ns.map V.int) ∧ ns.length ≤ 63 ∧ k ≤ 1000 ∧
  ∀ H' p, Same H H' → H p = none → Src H' p (3 * k) → Q (.ref p) H'
/-- _law_next's: a number below the second argument; nothing but the source is changed -/
def spNext : Sp := fun vs H Q _ => ∃ (p : Addr) (m : Int) (b : Nat) (F : Hp), vs = [.ref p, .int m] ∧ 1 ≤ m ∧ m < 1000000 ∧ Src H p b ∧ b ≤ 1000000 ∧ F p = none ∧ Same F H ∧
  ∀ H' k, 0 ≤ k → k < m → Same F H' → Src H' p (b + 1) → Q (.int k) H'
/-- _law_pick's: an item of the list -/
def spPick : Sp := fun vs H Q _ => ∃ (p l : Addr) (xs : List V) (b : Nat) (F : Hp), vs = [.ref p, .ref l] ∧ F l = some (.lst xs) ∧ 1 ≤ xs.length ∧ xs.length ≤ 1000 ∧ Src H p b ∧ b ≤ 1000000 ∧ F p = none ∧ Same F H ∧
  ∀ H' x, x ∈ xs → Same F H' → Src H' p (b + 1) → Q x H'
/-! ### frames: what stands beside the source -/
theorem grow_same {F H : Hp} {l : Addr} {o : HO} (s : Same F H) (h : H l = none) : Same F (upd F l o) := same_new (s.free h)
theorem grow_up {F H : Hp} {l : Addr} {o : HO} (s : Same F H) : Same (upd F l o) (upd H l o) := fun b x e => by
  by_cases hb : b = l
  · subst hb
    rw [upd_same] at e ⊢
    exact e
  · rw [upd_ne hb] at e ⊢
    exact s _ _ e
theorem grow_at {F H : Hp} {p l : Addr} {o : HO} {b : Nat} (hF : F p = none) (S : Src H p b) (h : H l = none) : (upd F l o) p = none := by
  obtain ⟨u, e⟩ := S.some
  rw [upd_ne (ne_of_none e h)]
  exact hF
theorem src_new {H : Hp} {p l : Addr} {o : HO} {b : Nat} (S : Src H p b) (h : H l = none) : Src (upd H l o) p b := S.same (same_new h)
/-- what stood at b, not the source, stands there behind a call that was framed by the heap without the source -/
theorem del_get {H H' : Hp} {p b : Addr} {o : HO} (s : Same (del H p) H') (n : b ≠ p) (e : H b = some o) : H' b = some o := s _ _ (by rw [del_ne n]; exact e)
theorem src_ne {H : Hp} {p b : Addr} {n : Nat} {o : HO} (S : Src H p n) (e : H b = some o) (d : ∀ xs, o ≠ .lst xs) : b ≠ p := by
  obtain ⟨c, m, r, e2, _⟩ := S
  exact ne_of e e2 (d _)
/-- the primes -/
def primes : List Int := [2147483647, 2147483629, 2147483587, 2147483579, 2147483563, 2147483549, 2147483543, 2147483497, 2147483489, 2147483477, 2147483423]
theorem prime_at (k : Int) (h0 : 0 ≤ k) (h : k < 11) : ∃ q : Int, atI (primes.map V.int) k = some (.int q) ∧ 2 ≤ q ∧ q < 2 ^ 31 := by
  have hk : k = 0 ∨ k = 1 ∨ k = 2 ∨ k = 3 ∨ k = 4 ∨ k = 5 ∨ k = 6 ∨ k = 7 ∨ k = 8 ∨ k = 9 ∨ k = 10 := by omega
  rcases hk with rfl | rfl | rfl | rfl | rfl | rfl | rfl | rfl | rfl | rfl | rfl
  all_goals exact ⟨_, rfl, by decide, by decide⟩
theorem fmod_pos (x : Int) {m : Int} (h : 1 ≤ m) : 0 ≤ x.fmod m ∧ x.fmod m < m := by
  rw [Int.fmod_eq_emod_of_nonneg x (by omega)]
  exact ⟨Int.emod_nonneg _ (by omega), Int.emod_lt_of_pos _ (by omega)⟩
end Nb

set_option Elab.async false
set_option maxRecDepth 100000
set_option maxHeartbeats 4000000
/-! A law whose own body asks for repr of nested data: its def is run where no repr is under way. -/
namespace Nb
open PySem PySem.Spec L2
/-- what the def promises, where no repr is under way -/
def RunsG (P : Program) (w : World) (K : PySem.W.Frag) (mg : Str → Option Value) (base : Heap) (CX : CXT) (k : Nat) (f : Addr) (fd : FuncData) (ps : List Str) (sp : Sp) : Prop :=
  ∀ (A : Around) (outer : List Env) (s : Shared) (H : Hp) (args : Args) (us : List Value) (vs : List V) (Q : VK) (E : XK), A.guards = some [] → Room k A → Env0 P w K mg base A outer s H → BindsTo s fd args (ps.zip us) → Vals vs us → sp vs H Q E →
    codeAny (model P w) A (.call (.ref f) args) (CR CX outer P w H s Q E) s
section
variable {P : Program} {w : World} {K : PySem.W.Frag} {mg : Str → Option Value} {base : Heap}
theorem okG {x qual : Str} {st : Stmt} {f : Addr} {fd : FuncData} {N ps : List Str} {k : Nat} {sp : Sp} (F : Fun K x qual st f fd) (S : FnScope N ps (defScope st)) (len : ∀ vs H Q E, sp vs H Q E → vs.length = ps.length)
    (bd : ∀ (cdv : Value) (A : Around) (outer : List Env) (s : Shared) (H : Hp) (vs : List V) (Q : VK) (E : XK), A.guards = some [] → Room k (A.deeper (PyProof.Rows.envOfC qual (defScope st) s.heap.objs.size f cdv)) → sp vs H Q E →
      ∃ t, PSs (cxOf CX0 P w K mg base N qual (defScope st) f cdv A outer s H E).nox (defBody st) t ∧ t { nx := fun _ H' => Q .non H', rt := Q } (start N vs) H) : RunsG P w K mg base CX0 (k + 1) f fd ps sp := by
  obtain ⟨oc, od, kV, doc, pm, an, cdv, ct, osl, rfl, lk, hcd⟩ := F.ex
  intro A outer s H args us vs Q E gd hr e0 hb rv hs
  have inK : K.In s.heap := e0.mod.kin.keeps fun b o e => (e0.bs b o e).1
  have nl : s.heap.NoLimit := e0.mod.nolimit.keeps fun b o e => (e0.bs b o e).1
  have kinds : ∀ y ∈ ps.zip us, (defScope st).names.lookup y.1 = some .local ∨ ((defScope st).names.lookup y.1 = some .cell ∧ ((PySem.cellsFrom (s.heap.objs.size + 1) (defScope st).names []).lookup y.1).isSome = true) := by
    rintro ⟨n, v⟩ hy
    exact (S.par n (List.of_mem_zip hy).1).imp id fun q => ⟨q, PySem.W.cellsFrom_some _ _ _ (.inl q)⟩
  refine codeAny_call_function hr.depth (inK _ _ lk) rfl S.co S.gen rfl (PySem.W.codeRec_of inK hcd) (hb _ _ _ _ ?_)
  refine wpAny_newFunctionEnv_cells S.kind kinds fun env he s1 x1 => ?_
  subst he
  obtain ⟨t, ht, q⟩ := bd cdv A outer s H vs Q E gd (hr.deeper _) hs
  have I : Inv (cxOf CX0 P w K mg base N qual (defScope st) f cdv A outer s H E) [] (start N vs) H s1 := inv_start S hr.hd e0 (len _ _ _ _ hs) rv x1
  refine ⟨nl.keeps x1.toInCall.keep, codeAny_func (wpAny_mono (ht.nox.run [] s1 (start N vs) H _ I q) (fun fl s2 r => ?_) fun _ _ r => r)⟩
  cases fl with
  | ret u =>
    obtain ⟨v, σ, H2, J, e, r⟩ := r
    exact ⟨v, H2, J.os, J.bare, J.base, J.hok, e, r⟩
  | next =>
    obtain ⟨σ, H2, J, r⟩ := r
    exact ⟨.non, H2, J.os, J.bare, J.base, J.hok, rfl, r⟩
  | brk => exact False.elim r.choose_spec.choose_spec.2
  | cont => exact False.elim r.choose_spec.choose_spec.2
end
open PyProof.Rows (IntsAre AllBare)
/-- the heap at the law's call: nothing is told but the script, if it is no object of the module -/
theorem script_heap {P : Program} {w : World} {K : PySem.W.Frag} {h : Heap} {a : Addr} {vs : List Value} {ns : List Int} (inK : K.In h) (ea : h.get? a = some { cls := .type "list", data := .seq vs.toArray }) (hi : IntsAre vs ns) (hl : ns.length ≤ sizeLine) :
    ∃ H : Hp, Only H ∧ SqL K H a (ns.map V.int) ∧ HOk P w H h ∧ ∀ b, H b ≠ none → b = a ∧ K.lookup b = none := by
  have rv := vals_ints hi
  cases hk : K.lookup a with
  | none =>
    obtain ⟨H, eH⟩ : ∃ H : Hp, H = upd (fun _ => none) a (.frz { cls := .type "list", data := .seq vs.toArray } (.lst (ns.map V.int))) := ⟨_, rfl⟩
    have at_a : H a = some (.frz { cls := .type "list", data := .seq vs.toArray } (.lst (ns.map V.int))) := by
      rw [eH]
      exact upd_same
    have off : ∀ b, b ≠ a → H b = none := fun b hb => by
      rw [eH, upd_ne hb]
    refine ⟨H, fun b => ?_, .inl (.inr ⟨_, at_a⟩), fun b o e => ?_, fun b e => ?_⟩
    · by_cases hb : b = a
      · exact .inr ⟨_, _, hb ▸ at_a⟩
      · exact .inl (off b hb)
    · by_cases hb : b = a
      · subst hb
        rw [at_a] at e
        cases e
        exact ⟨ea, by rw [List.length_map]; exact hl, vs, _, rv, ea⟩
      · rw [off b hb] at e
        cases e
    · by_cases hb : b = a
      · exact ⟨hb, hb ▸ hk⟩
      · exact absurd (off b hb) e
  | some o =>
    have e := inK a o hk
    rw [ea] at e
    cases e
    exact ⟨fun _ => none, fun _ => .inl rfl, .inr ⟨_, vs.toArray, _, hk, rfl, rfl, rfl, by rw [List.size_toArray, hi.length]; exact hl, by simpa using rv⟩, fun b u z => (nomatch (show (none : Option HO) = some u from z)), fun b z => absurd rfl z⟩
theorem law_runs {P : Program} {w : World} {K : PySem.W.Frag} {mg mb : Str → Option Value} {CX : CXT} {k : Nat} {fa a : Addr} {fd : FuncData} {x : Str} {sp : Sp} {s1 : Shared} {vs : List Value} {ns : List Int}
    (inK : K.In s1.heap) (n1 : s1.heap.Ns mainGlobals mg) (n2 : s1.heap.Ns builtinsNs mb) (n3 : ∀ x : Str, x ≠ "__name__" → mb x = bootBuiltins x) (n4 : s1.heap.NoLimit) (hg : s1.gens = #[])
    (ea : s1.heap.get? a = some { cls := .type "list", data := .seq vs.toArray }) (hi : IntsAre vs ns) (hl : ns.length ≤ sizeLine) (hr : Room k callerA)
    (F : ∀ base : Heap, K.In base → base.Ns mainGlobals mg → RunsG P w K mg base CX k fa fd [x] sp) (bd : ∀ (s : Shared) (u : Value), BindsTo s fd ⟨[u], []⟩ [(x, u)])
    (hs : ∀ H : Hp, Only H → SqL K H a (ns.map V.int) → sp [.ref a] H (fun v _ => v = .bl true) fun _ _ _ => False) (hx : ∀ H e s', CX [] H s1 (fun _ _ _ => False) e s' → False) :
    codeAny (model P w) callerA (.call (.ref fa) ⟨[.ref a], []⟩) (fun r s' => r = .ok (.ret (.bool true)) ∧ OldK s1.heap s'.heap ∧ s'.os = s1.os ∧ AllBare s'.gens) s1 := by
  obtain ⟨H, hO, hS, hok, hA⟩ := script_heap (P := P) (w := w) inK ea hi hl
  have notDict : ∀ {b : Addr} {o : Obj} {es : Array DictEntry} {ep : Nat}, s1.heap.get? b = some o → o.data = .dict es ep → H b = none := fun {b o es ep} e d => by
    cases q : H b with
    | none => rfl
    | some u =>
      obtain ⟨rfl, _⟩ := hA b (by rw [q]; exact fun z => nomatch z)
      rw [ea] at e
      cases e
      cases (show Data.seq vs.toArray _ = Data.dict es ep from d)
  have names : ∀ {b : Addr} {m : Str → Option Value}, s1.heap.Ns b m → (hidT s1.heap H).Ns b m := fun ⟨o, es, ep, e, d, r⟩ => ⟨o, es, ep, hidT_get e (notDict e d), d, r⟩
  have inB : K.In (hidT s1.heap H) := fun b o e => hidT_get (inK b o e) (by
    cases q : H b with
    | none => rfl
    | some u =>
      have z := (hA b (by rw [q]; exact fun z => nomatch z)).2
      rw [z] at e
      cases e)
  obtain ⟨mc, c1, c2⟩ := n4
  have e0 : Env0 P w K mg (hidT s1.heap H) callerA [] s1 H := ⟨rfl, ⟨inB, names n1, ⟨mb, names n2, n3⟩, ⟨mc, names c1, c2⟩⟩, fun b o e => of_hidT e, Nat.le_of_eq (hidT_size _ _), trivial, fun b hb => (nomatch hb), hok, .of_eq hg⟩
  refine codeAny_mono (F _ inB (names n1) callerA [] s1 H ⟨[.ref a], []⟩ [.ref a] [.ref a] _ _ rfl hr e0 (bd s1 (.ref a)) (.cons rfl .nil) (hs H hO hS)) fun r s2 q => ?_
  cases r with
  | error e => exact (hx H e s2 q).elim
  | ok fl =>
    cases fl with
    | ret u =>
      obtain ⟨v, H2, os, bare, un, hok2, r1, r2⟩ := q
      cases (show v = .bl true from r2)
      cases (show u = Value.bool true from r1)
      refine ⟨rfl, OldK.of_keep fun b o e => ?_, os, bare⟩
      rcases hO b with z | ⟨ob, xs, z⟩
      · exact un.keep b o e z (fun z => nomatch z) (fun z => nomatch z)
      · obtain ⟨g1, _⟩ := hok b _ z
        obtain ⟨g2, _⟩ := hok2 b _ (un.frzs b ob _ z)
        rw [e] at g1
        cases g1
        exact g2
    | next => exact False.elim q
    | brk => exact False.elim q
    | cont => exact False.elim q
/-- the head, where the law's own def is run with no repr under way -/
theorem walk_ofG {l : PySem.W.OpenLaw} {n k : Nat} {q : Program} {loose : List Str} {XP : (Str → Option Value) → Heap → Prop} {YP : World → Heap → Prop} {d : DefRec} {K : Params → PySem.W.Frag} {CX : World → CXT} {sp : World → Sp} {x : Str}
    (hn : l.most = some n) (hm : n ≤ sizeLine) (hd : d.params.defaults = []) (hr : Room k callerA) (hY : ∀ (w : World) (h : Heap), YP w h → (K w.params).In h)
    (F : ∀ (w : World) (mg : Str → Option Value) (fa : Addr) (h : Heap), (K w.params).In h → h.Ns mainGlobals mg → mg d.name = some (.ref fa) → ∃ fd : FuncData, (∀ (s : Shared) (u : Value), BindsTo s fd ⟨[u], []⟩ [(x, u)]) ∧
      ∀ base : Heap, (K w.params).In base → base.Ns mainGlobals mg → RunsG l.prog w (K w.params) mg base (CX w) k fa fd [x] (sp w))
    (hs : ∀ (w : World) (H : Hp) (a : Addr) (ns : List Int), ns.length ≤ n → Only H → SqL (K w.params) H a (ns.map V.int) → sp w [.ref a] H (fun v _ => v = .bl true) fun _ _ _ => False)
    (hx : ∀ (w : World) (H : Hp) (s : Shared) (e : Value) (s' : Shared), CX w [] H s (fun _ _ _ => False) e s' → False) : PySem.W.WalkO q loose XP YP l.row.toRowW d [] (fun f vs => PySem.call f vs) := by
  refine Att.attach_call hn hd fun w s0 s1 mg mb fa o pm cd doc a vs ns G Y e1 e2 e3 e4 ea hi hl hg => ?_
  obtain ⟨fd, bd, R⟩ := F w mg fa _ (hY w _ Y) G.T.g e4
  exact law_runs (hY w _ Y) G.T.g G.T.b G.T.builtins G.T.nolimit hg ea hi (Nat.le_trans hl hm) hr R bd (fun H hO hS => hs w H a ns hl hO hS) fun H e s' => hx w H s1 e s'
end Nb

set_option Elab.async false
set_option maxRecDepth 100000
set_option maxHeartbeats 4000000
/-! The rules of new objects, told by what stood before: every heap that keeps what was told, with the new object in it. -/
namespace Nb
open PySem PySem.Spec PyProof.Rows
open L2 hiding del del_ne del_same
def aUp (t : TA) : TA := fun σ H Q => ∃ R : List V → Hp → Prop, t σ H R ∧ ∀ vs H1, R vs H1 → Q vs H1
def eUp (t : TE) : TE := fun σ H Q => ∃ R : VK, t σ H R ∧ ∀ v H1, R v H1 → Q v H1
section
variable {X : Cx} {e : Expr} {es : List Expr} {t u : TE} {ta : TA} {pos : Pos}
theorem PE.to (h : PE X e t) (k : ∀ σ H Q, u σ H Q → t σ H Q) : PE X e u := ⟨fun pins s σ H Q I z => h.run pins s σ H Q I (k _ _ _ z)⟩
theorem pa_up (h : PA X es ta) : PA X es (aUp ta) := ⟨fun pos pins s σ H _ I ⟨R, r, k⟩ => thn (h.run pos pins s σ H R I r) fun us s1 ⟨vs, H1, I1, r1, q⟩ => ⟨vs, H1, I1, r1, k vs H1 q⟩⟩
theorem pe_up (h : PE X e t) : PE X e (eUp t) := ⟨fun pins s σ H _ I ⟨R, r, k⟩ => thn (h.run pins s σ H R I r) fun us s1 ⟨v, H1, I1, r1, q⟩ => ⟨v, H1, I1, r1, k v H1 q⟩⟩
/-- [e, ..] -/
def tLstS (ta : TA) : TE := fun σ H Q => ta σ H fun vs H1 => vs.length ≤ 100000 ∧ ∀ H2 l, Same H1 H2 → H1 l = none → H2 l = some (.lst vs) → Q (.ref l) H2
theorem line100 {n : Nat} (h : n ≤ 100000) : n ≤ sizeLine := Nat.le_trans h (by decide)
theorem pe_lstS (h : PA X es ta) : PE X (.List es pos) (tLstS ta) := PE.to (pe_lst (pa_up h)) fun σ H Q z => ⟨_, z, fun vs H1 ⟨l, q⟩ => ⟨line100 l, fun a na => q _ a (same_new na) na upd_same⟩⟩
/-- (e, ..) -/
def tTupS (ta : TA) : TE := fun σ H Q => ta σ H fun vs H1 => vs.length ≤ 100000 ∧ ∀ H2 l, Same H1 H2 → H1 l = none → H2 l = some (.tup vs) → Q (.ref l) H2
theorem pe_tupS {c} (h : PA X es ta) : PE X (.Tuple es c pos) (tTupS ta) := PE.to (pe_tup (pa_up h)) fun σ H Q z => ⟨_, z, fun vs H1 ⟨l, q⟩ => ⟨line100 l, fun a na => q _ a (same_new na) na upd_same⟩⟩
theorem OpR.to {f : Value → Value → Sem Value} {r r' : R2} (h : OpR X f r) (k : ∀ x y H Q, r' x y H Q → r x y H Q) : OpR X f r' := fun pins s σ H x y v u Q I rx ry z => h pins s σ H x y v u Q I rx ry (k _ _ _ _ z)
theorem CallR.to {f : Value} {r r' : List V → Hp → VK → Prop} (h : CallR X f r) (k : ∀ xs H Q, r' xs H Q → r xs H Q) : CallR X f r' := fun pins s σ H xs us Q I rr z => h pins s σ H xs us Q I rr (k _ _ _ z)
/-- list + list -/
def rCatS : R2 := fun x y H Q => ∃ l b xs zs, x = .ref l ∧ y = .ref b ∧ H l = some (.lst xs) ∧ H b = some (.lst zs) ∧ xs.length + zs.length ≤ 100000 ∧ ∀ H2 p, Same H H2 → H p = none → H2 p = some (.lst (xs ++ zs)) → Q (.ref p) H2
theorem op_catS : OpR X (binaryOp .Add) rCatS := OpR.to op_cat fun x y H Q ⟨l, b, xs, zs, e1, e2, h1, h2, z, q⟩ => ⟨l, b, xs, zs, e1, e2, h1, h2, line100 z, fun p np => q _ p (same_new np) np upd_same⟩
/-- list * int -/
def rRepS : R2 := fun x y H Q => ∃ (l : Addr) (k : Nat) (xs : List V), x = .ref l ∧ y = .int k ∧ H l = some (.lst xs) ∧ k ≤ 100000 ∧ xs.length * k ≤ 100000 ∧ ∀ H2 p, Same H H2 → H p = none → H2 p = some (.lst (List.replicate k xs).flatten) → Q (.ref p) H2
theorem op_repS : OpR X (binaryOp .Mult) rRepS := OpR.to op_rep fun x y H Q ⟨l, k, xs, e1, e2, h1, h2, z, q⟩ => ⟨l, k, xs, e1, e2, h1, by omega, by omega, line100 z, fun p np => q _ p (same_new np) np upd_same⟩
/-- tuple + tuple -/
def rCatT (K : PySem.W.Frag) : R2 := fun x y H Q => ∃ a b xs ys, x = .ref a ∧ y = .ref b ∧ H a = some (.tup xs) ∧ H b = some (.tup ys) ∧ xs.length + ys.length ≤ 100000 ∧ ∀ H2 p, Same H H2 → H2 p = some (.tup (xs ++ ys)) → Q (.ref p) H2
theorem op_catT' : OpR X (binaryOp .Add) (rCatT X.K) := OpR.to op_catA fun x y H Q ⟨a, b, xs, ys, e1, e2, h1, h2, z, q⟩ => ⟨a, b, xs, ys, e1, e2, SqT.of h1, SqT.of h2, line100 z,
  fun e => q _ b (Same.refl H) (by rw [e]; exact h2), fun _ e => q _ a (Same.refl H) (by rw [e, List.append_nil]; exact h1), fun _ _ p np => q _ p (same_new np) upd_same⟩
/-- tuple(xs), list(xs) -/
theorem cr_tupleS : CallR X (.type "tuple") (fun xs H Q => ∃ p ys, xs = [.ref p] ∧ (H p = some (.lst ys) ∨ H p = some (.tup ys)) ∧ ∀ H2 l, Same H H2 → H2 l = some (.tup ys) → Q (.ref l) H2) :=
  CallR.to call_tuple_of fun xs H Q ⟨p, ys, e, h, q⟩ => ⟨p, ys, e, h.elim (fun h => .inl ⟨SqL.of h, fun l nl => q _ l (same_new nl) upd_same⟩) fun h => .inr ⟨SqT.of h, q H p (Same.refl H) h⟩⟩
theorem cr_listS : CallR X (.type "list") (fun xs H Q => ∃ p ys, xs = [.ref p] ∧ (SqL X.K H p ys ∨ SqT X.K H p ys) ∧ ∀ H2 l, Same H H2 → H l = none → H2 l = some (.lst ys) → Q (.ref l) H2) :=
  CallR.to call_list_of fun xs H Q ⟨p, ys, e, h, q⟩ => ⟨p, ys, e, h, fun l nl => q _ l (same_new nl) nl upd_same⟩
end
/-! ### defs that are run where no repr is under way -/
structure DnG (P : Program) (w : World) (K : PySem.W.Frag) (mg : Str → Option Value) (base : Heap) (CX : CXT) (k : Nat) (x : Str) (ps : List Str) (sp : Sp) : Prop where
  ex : ∃ (f : Addr) (fd : FuncData), PySem.W.keepIn K (.ref f) = true ∧ Binds K fd ps [] ∧ mg x = some (.ref f) ∧ (∀ vs H Q E, sp vs H Q E → vs.length = ps.length) ∧ RunsG P w K mg base CX k f fd ps sp
section
variable {X : Cx} {CX : CXT} {k : Nat} {ps : List Str} {sp : Sp} {E : XK} {x : Str} {p pos : Pos} {e : Expr} {es : List Expr} {t : TA}
theorem pe_DG (D : DnG X.prog X.w X.K X.mg X.base CX k x ps sp) (gd : X.A.guards = some []) (hr : Room k X.A) (hg : Gl X x) (hx : Passes CX X E) (ha : PA X (e :: es) t)
    (hdb : (x == ("__debug__" : Str)) = false := by decide) (he : starEach (e :: es) X.env = (false, eval e X.env) :: starEach es X.env := by rfl) (hpl : (backTo pos (starEach es X.env)).any (·.1) = false := by rfl) : PE X (.Call (.Name x p) (e :: es) [] pos) (tCall sp [] E t) := by
  obtain ⟨f, fd, kp, b, g, len, G⟩ := D.ex
  refine ⟨fun pins s σ H Q I h => wpAny_Call_Name_kw (ld_glob I hg g (PySem.W.callWith_K (h₀ := X.base) I.ok.mod.kin kp (thn (ha.run pos pins s σ H _ I h) fun us s1 ⟨vs, H1, I1, r, q⟩ => ⟨I1.kIn, ?_⟩) he hpl) hdb)⟩
  have q : sp vs H1 Q E := by
    have q' : sp (vs ++ []) H1 Q E := q
    rwa [List.append_nil] at q'
  have hl : (us ++ []).length = ps.length := by rw [List.append_nil, ← Paired.length r]; exact len _ _ _ _ q
  refine wpAny_call (codeAny_mono (G X.A X.stack s1 H1 ⟨us, []⟩ us vs Q E gd hr I1.env0 (by simpa using b s1 us I1.kIn hl) r q) fun r s' hq => ?_)
  cases r with
  | error e => exact hx pins σ H1 s1 e s' I1 hq
  | ok fl =>
    cases fl with
    | ret u => exact I1.after hq
    | next => exact False.elim hq
    | brk => exact False.elim hq
    | cont => exact False.elim hq
end
/-! ### repr of data in which empty dicts may stand -/
mutual
inductive Tz (H : Hp) : V → PyData → Prop
  | non : Tz H .non .none
  | bl (b) : Tz H (.bl b) (.bool b)
  | int (i) : Tz H (.int i) (.int i)
  | str (z) : Tz H (.str z) (.str z)
  | lst {a xs ds} : H a = some (.lst xs) → Tzs H xs ds → Tz H (.ref a) (.list ds)
  | tup {a xs ds} : H a = some (.tup xs) → Tzs H xs ds → Tz H (.ref a) (.tuple ds)
  | dct {a} : H a = some (.dK []) → Tz H (.ref a) (.dict [])
inductive Tzs (H : Hp) : List V → List PyData → Prop
  | nil : Tzs H [] []
  | cons {x d xs ds} : Tz H x d → Tzs H xs ds → Tzs H (x :: xs) (d :: ds)
end
mutual
theorem tz_same {H H' : Hp} (s : Same H H') : ∀ {x : V} {d : PyData}, Tz H x d → Tz H' x d
  | _, _, .non => .non
  | _, _, .bl b => .bl b
  | _, _, .int i => .int i
  | _, _, .str z => .str z
  | _, _, .lst e h => .lst (s _ _ e) (tzs_same s h)
  | _, _, .tup e h => .tup (s _ _ e) (tzs_same s h)
  | _, _, .dct e => .dct (s _ _ e)
theorem tzs_same {H H' : Hp} (s : Same H H') : ∀ {xs : List V} {ds : List PyData}, Tzs H xs ds → Tzs H' xs ds
  | _, _, .nil => .nil
  | _, _, .cons h k => .cons (tz_same s h) (tzs_same s k)
end
mutual
theorem tz_reads {X : Cx} {pins : List (Addr × Obj)} {σ : L2.St} {H : Hp} {s : Shared} (I : Inv X pins σ H s) : ∀ {x : V} {d : PyData} {u : Value}, Tz H x d → RelV x u → ∃ as, Reads s.heap u d as ∧ ∀ a ∈ as, H a ≠ none
  | _, _, _, .non, r => by cases r; exact ⟨_, .none, fun _ h => nomatch h⟩
  | _, _, _, .bl b, r => by cases r; exact ⟨_, .bool b, fun _ h => nomatch h⟩
  | _, _, _, .int i, r => by obtain ⟨t, rfl⟩ := r; exact ⟨_, .int i t, fun _ h => nomatch h⟩
  | _, _, _, .str z, r => by obtain ⟨t, rfl⟩ := r; exact ⟨_, .str z t, fun _ h => nomatch h⟩
  | _, _, _, .lst (a := a) e h, r => by
    cases r
    obtain ⟨its, rv, ⟨o, n, ho, hc, _, hd⟩, _⟩ := I.list (SqL.of e)
    obtain ⟨as, hr, al⟩ := tzs_reads I h rv
    refine ⟨_, .list ho hc hd hr, fun b hb => ?_⟩
    rcases List.mem_cons.mp hb with z | z
    · rw [z, e]
      exact fun q => nomatch q
    · exact al b z
  | _, _, _, .tup e h, r => by
    cases r
    obtain ⟨its, rv, ⟨o, ho, hc, n, hd⟩, _⟩ := I.tuple (SqT.of e)
    obtain ⟨as, hr, al⟩ := tzs_reads I h rv
    exact ⟨_, .tuple ho hc hd hr, al⟩
  | _, _, _, .dct (a := a) e, r => by
    cases r
    have ho : ObjOk X.prog X.w H s.heap a (.dK []) := I.hok a _ e
    obtain ⟨_, nm, vs, kv, o, es, ep, e1, e2, e3, _, e5, _⟩ := ho
    cases kv
    have e6 : es.toList = [] := by
      cases hz : es.toList with
      | nil => rfl
      | cons z zs =>
        rw [hz] at e5
        cases e5
    refine ⟨_, .dict (as := []) (bs := []) e1 e2.1 e3 (by rw [e6]; exact .nil) (by rw [e6]; exact .nil), fun b hb => ?_⟩
    have hb : b = a := by simpa using hb
    rw [hb, e]
    exact fun q => nomatch q
theorem tzs_reads {X : Cx} {pins : List (Addr × Obj)} {σ : L2.St} {H : Hp} {s : Shared} (I : Inv X pins σ H s) : ∀ {xs : List V} {ds : List PyData} {us : List Value}, Tzs H xs ds → Vals xs us → ∃ as, ReadsAll s.heap us ds as ∧ ∀ a ∈ as, H a ≠ none
  | _, _, _, .nil, r => by cases r; exact ⟨_, .nil, fun _ h => nomatch h⟩
  | _, _, _, .cons h k, r => by
    cases r with
    | cons r1 r2 =>
      obtain ⟨as, q1, a1⟩ := tz_reads I h r1
      obtain ⟨bs, q2, a2⟩ := tzs_reads I k r2
      exact ⟨_, .cons q1 q2, fun a ha => (List.mem_append.mp ha).elim (a1 a) (a2 a)⟩
end
/-- the module's table of modules is a written object -/
def SysIn (K : PySem.W.Frag) : Prop := (K.lookup sysModules).isSome = true
theorem cr_reprZ {X : Cx} (sy : SysIn X.K) (g : X.A.guards = some []) (u : X.A.units + 100 < cLine) : CallR X (.builtin "repr") (fun xs H Q => ∃ (x : V) (d : PyData), xs = [x] ∧ Tz H x d ∧ d.showable = true ∧ d.depth ≤ 60 ∧ d.shown.length ≤ sizeLine ∧ Q (.str d.shown) H) := by
  intro pins s σ H xs us Q I r h
  obtain ⟨x, d, rfl, hd, hs, hn, hz, q⟩ := h
  obtain ⟨v, rfl, rv⟩ := vals1 r
  obtain ⟨as, rd, al⟩ := tz_reads I hd rv
  obtain ⟨so, hso⟩ := Option.isSome_iff_exists.mp sy
  have nsy : sysModules ∉ as := fun hm => al _ hm (I.bs _ _ (I.ok.mod.kin _ _ hso)).2
  have byRef : ∀ a : Addr, v = .ref a → wpAny (model X.prog X.w) X.A (call (.builtin "repr") [v]) (EP X pins σ Q) X.xe s := fun a e => by
    subst e
    exact repr_of_reads' rd hs (fun _ => nsy) g (by omega) (fun _ _ e => e) (fun h' t tk hk => ⟨.str d.shown, H, I.kept (t' := tk) hk, ⟨_, rfl⟩, q⟩) hz
  cases hd with
  | non =>
    cases (show v = Value.none from rv)
    exact PySem.P.repr_of_none ⟨.str _, H, I.tok _, ⟨_, rfl⟩, q⟩
  | bl b =>
    cases (show v = Value.bool b from rv)
    exact PySem.P.repr_of_bool ⟨.str _, H, I.tok _, ⟨_, rfl⟩, q⟩
  | int i =>
    obtain ⟨t, rfl⟩ := rv
    exact PySem.P.repr_of_int (of_decide_eq_true hs) ⟨.str _, H, I.tok _, ⟨_, rfl⟩, q⟩
  | str z =>
    obtain ⟨t, rfl⟩ := rv
    exact PySem.P.repr_of_str ⟨.str _, H, I.tok _, ⟨_, rfl⟩, q⟩ hz
  | lst e ts => exact byRef _ rv
  | tup e ts => exact byRef _ rv
  | dct e => exact byRef _ rv
end Nb
namespace Nb
open PySem PySem.Spec PyProof.Rows
open L2 hiding del del_ne del_same
theorem eqv_bls : ∀ xs ys : List Bool, PyData.eqvAll (xs.map PyData.bool) (ys.map PyData.bool) = decide (xs = ys)
  | [], [] => rfl
  | [], y :: ys => rfl
  | x :: xs, [] => rfl
  | x :: xs, y :: ys => by
    have ih := eqv_bls xs ys
    simp only [List.map_cons, PyData.eqvAll, ih]
    cases x <;> cases y <;> simp [PyData.eqv]
theorem dp_bls {K : PySem.W.Frag} {H : Hp} : ∀ bs : List Bool, DpAll K H (bs.map V.bl) (bs.map PyData.bool)
  | [] => .nil
  | b :: bs => .cons (.bl b) (dp_bls bs)
theorem fine_bls (bs : List Bool) : Fine 1 (.list (bs.map PyData.bool)) := fine_list fun d hd => by
  obtain ⟨b, _, rfl⟩ := List.mem_map.mp hd
  exact fine_bl b
/-- lists of bools compared -/
def rBls (k : Bool → Bool) : R2 := fun x y H Q => ∃ (a b : Addr) (xs ys : List Bool), x = .ref a ∧ y = .ref b ∧ H a = some (.lst (xs.map V.bl)) ∧ H b = some (.lst (ys.map V.bl)) ∧ Q (.bl (k (decide (xs = ys)))) H
section
variable {X : Cx}
theorem op_eqBls (hu : X.A.units + 64 < cLine) : OpR X (compareOp .Eq) (rBls id) := OpR.to (op_eqD hu) fun x y H Q h => by
  obtain ⟨a, b, xs, ys, rfl, rfl, h1, h2, q⟩ := h
  refine ⟨.list (xs.map PyData.bool), .list (ys.map PyData.bool), .lst (SqL.of h1) (dp_bls xs), .lst (SqL.of h2) (dp_bls ys), (fine_bls xs).shaped (by decide), (fine_bls ys).shaped (by decide), ?_⟩
  have e : PyData.eqv (.list (xs.map PyData.bool)) (.list (ys.map PyData.bool)) = decide (xs = ys) := by rw [← eqv_bls]; simp [PyData.eqv]
  rw [e]
  exact q
theorem op_neBls (hu : X.A.units + 64 < cLine) : OpR X (compareOp .NotEq) (rBls not) := OpR.to (op_neD hu) fun x y H Q h => by
  obtain ⟨a, b, xs, ys, rfl, rfl, h1, h2, q⟩ := h
  refine ⟨.list (xs.map PyData.bool), .list (ys.map PyData.bool), .lst (SqL.of h1) (dp_bls xs), .lst (SqL.of h2) (dp_bls ys), (fine_bls xs).shaped (by decide), (fine_bls ys).shaped (by decide), ?_⟩
  have e : PyData.eqv (.list (xs.map PyData.bool)) (.list (ys.map PyData.bool)) = decide (xs = ys) := by rw [← eqv_bls]; simp [PyData.eqv]
  rw [e]
  exact q
end
end Nb
namespace Nb
open PySem PySem.Spec PyProof.Rows
open L2 hiding del del_ne del_same
theorem eqv_ints : ∀ xs ys : List Int, PyData.eqvAll (xs.map PyData.int) (ys.map PyData.int) = decide (xs = ys)
  | [], [] => rfl
  | [], y :: ys => rfl
  | x :: xs, [] => rfl
  | x :: xs, y :: ys => by
    simp only [List.map_cons, PyData.eqvAll, eqv_ints xs ys, PyData.eqv]
    rw [Bool.eq_iff_iff]
    simp
/-- lists of ints compared -/
def rInts (k : Bool → Bool) : R2 := fun x y H Q => ∃ (a b : Addr) (xs ys : List Int), x = .ref a ∧ y = .ref b ∧ H a = some (.lst (xs.map V.int)) ∧ H b = some (.lst (ys.map V.int)) ∧ Q (.bl (k (decide (xs = ys)))) H
section
variable {X : Cx}
theorem op_eqInts (hu : X.A.units + 64 < cLine) : OpR X (compareOp .Eq) (rInts id) := OpR.to (op_eqD hu) fun x y H Q h => by
  obtain ⟨a, b, xs, ys, rfl, rfl, h1, h2, q⟩ := h
  refine ⟨.list (xs.map PyData.int), .list (ys.map PyData.int), .lst (SqL.of h1) (dp_ints xs), .lst (SqL.of h2) (dp_ints ys), (fine_ints xs).shaped (by decide), (fine_ints ys).shaped (by decide), ?_⟩
  have e : PyData.eqv (.list (xs.map PyData.int)) (.list (ys.map PyData.int)) = decide (xs = ys) := by rw [← eqv_ints]; simp [PyData.eqv]
  rw [e]
  exact q
theorem op_neInts (hu : X.A.units + 64 < cLine) : OpR X (compareOp .NotEq) (rInts not) := OpR.to (op_neD hu) fun x y H Q h => by
  obtain ⟨a, b, xs, ys, rfl, rfl, h1, h2, q⟩ := h
  refine ⟨.list (xs.map PyData.int), .list (ys.map PyData.int), .lst (SqL.of h1) (dp_ints xs), .lst (SqL.of h2) (dp_ints ys), (fine_ints xs).shaped (by decide), (fine_ints ys).shaped (by decide), ?_⟩
  have e : PyData.eqv (.list (xs.map PyData.int)) (.list (ys.map PyData.int)) = decide (xs = ys) := by rw [← eqv_ints]; simp [PyData.eqv]
  rw [e]
  exact q
/-- {} -/
theorem pe_dnewS {pos : Pos} : PE X (.Dict [] [] pos) (fun _ H Q => ∀ H2 d, Same H H2 → H d = none → H2 d = some (.dK []) → Q (.ref d) H2) := PE.to pe_dnewK fun σ H Q z d hd => z _ d (same_new hd) hd upd_same
end
theorem tzs_rep {H : Hp} {x : V} {d : PyData} (h : Tz H x d) : ∀ n, Tzs H (List.replicate n x) (List.replicate n d)
  | 0 => .nil
  | n + 1 => .cons h (tzs_rep h n)
/-- what stands in a heap beside the source -/
theorem del_keep {H : Hp} {p a : Addr} {o : HO} (e : H a = some o) (n : a ≠ p) : del H p a = some o := by rw [del_ne n]; exact e
theorem same_upd {F H : Hp} {p : Addr} (s : Same F H) (h : F p = none) : Same F (del H p) := same_del s h
theorem del_mono {H H' : Hp} {p : Addr} (s : Same H H') : Same (del H p) (del H' p) := same_del (del_same.trans s) del_at
theorem src_away {H : Hp} {p l : Addr} {b : Nat} (S : Src H p b) (h : H l = none) : l ≠ p := fun z => by
  obtain ⟨c, n, r, e, _⟩ := S
  rw [z, e] at h
  cases h
end Nb
namespace Nb
open PySem L2
theorem un100 {k : Nat} {A : Around} (hr : Room k A) : A.units + 100 < cLine := by
  have := hr.un
  omega
end Nb
namespace Nb
open PySem L2
/-- a law's own promise -/
def spLaw0 (K : PySem.W.Frag) : Sp := fun vs H Q _ => ∃ (a : Addr) (ns : List Int), vs = [.ref a] ∧ SqL K H a (ns.map V.int) ∧ ns.length ≤ 63 ∧ ∀ H', Q (.bl true) H'
end Nb

set_option Elab.async false
set_option linter.all false
set_option maxRecDepth 100000
set_option maxHeartbeats 4000000
/-! Classes, their methods, and defs with a star, each with all that a caller must know. -/
namespace Nb
open PySem PySem.Spec PyProof.Rows
open L2 hiding del del_ne del_same
/-- a class of the text: the names of its instances' attributes are no names of the class -/
structure Kl (K : PySem.W.Frag) (mg : Str → Option Value) (x : Str) (C : Addr) (fs : List Str) : Prop where
  cl : Cls K C
  g : mg x = some (.ref C)
  no : ∀ f ∈ fs, NoAttr K C f
structure Mn (P : Program) (w : World) (K : PySem.W.Frag) (mg : Str → Option Value) (base : Heap) (CX : CXT) (k : Nat) (C : Addr) (m : Str) (ps : List Str) (sp : Sp) : Prop where
  ex : ∃ (f : Addr) (fd : FuncData), Meth K C m f ∧ Binds K fd ps [] ∧ FnOk P w K mg base CX k f fd ps sp
/-- a class's own __init__ -/
structure Mi (P : Program) (w : World) (K : PySem.W.Frag) (mg : Str → Option Value) (base : Heap) (CX : CXT) (k : Nat) (C : Addr) (ps : List Str) (sp : Sp) : Prop where
  ex : ∃ (f : Addr) (fd : FuncData), Mk K C f ∧ Binds K fd ps [] ∧ FnOk P w K mg base CX k f fd ps sp
/-- a def with a star: its promise is of the positional arguments -/
structure Dr (P : Program) (w : World) (K : PySem.W.Frag) (mg : Str → Option Value) (base : Heap) (CX : CXT) (k : Nat) (x : Str) (sp : Sp) : Prop where
  ex : ∃ f : Addr, PySem.W.keepIn K (.ref f) = true ∧ mg x = some (.ref f) ∧ FnR P w K mg base CX k f sp
section
variable {X : Cx} {CX : CXT} {k : Nat} {ps : List Str} {sp : Sp} {E : XK} {W : L2.St → XK} {x m : Str} {p pos apos : Pos} {o e : Expr} {es : List Expr} {ta : TE} {t : TA} {C : Addr}
theorem pe_M {pl : Sem Bool} (D : Mn X.prog X.w X.K X.mg X.base CX k C m ps sp) (c : Cls X.K C) (he : PE X o ta) (hr : Room k X.A) (hx : Passes CX X E) (ha : PA X (e :: es) t)
    (hst : starEach (e :: es) X.env = (false, eval e X.env) :: starEach es X.env := by rfl) (hpl : (backTo pos (starEach es X.env)).any (·.1) = false := by rfl)
    (ht : eval (.Call (.Attribute o m apos) (e :: es) [] pos) X.env = (do
      let ov ← eval o X.env
      standAt apos.atName
      let (f, first) ← holding [ov] (getMethod ov m pl)
      callWith pos f first (backTo pos (starEach (e :: es) X.env)) (backToKw pos (keywordEach [] X.env))) := by rfl) : PE X (.Call (.Attribute o m apos) (e :: es) [] pos) (tMeth C m sp [] E ta t) :=
  let ⟨_, _, M, b, F⟩ := D.ex
  pe_meth he c M F hr b .nil hx ha hst hpl ht
theorem pe_M0 {pl : Sem Bool} (D : Mn X.prog X.w X.K X.mg X.base CX k C m ps sp) (c : Cls X.K C) (he : PE X o ta) (hr : Room k X.A) (hx : Passes CX X E)
    (ht : eval (.Call (.Attribute o m apos) [] [] pos) X.env = (do
      let ov ← eval o X.env
      standAt apos.atName
      let (f, first) ← holding [ov] (getMethod ov m pl)
      callWith pos f first (backTo pos (starEach [] X.env)) (backToKw pos (keywordEach [] X.env))) := by rfl) : PE X (.Call (.Attribute o m apos) [] [] pos) (tMeth C m sp [] E ta tNil) :=
  let ⟨_, _, M, b, F⟩ := D.ex
  pe_meth0 he c M F hr b .nil hx ht
theorem pe_Mi (D : Mi X.prog X.w X.K X.mg X.base CX k C ps sp) (hr : Room (k + 1) X.A) (hg : Gl X x) (hm : X.mg x = some (.ref C)) (hx : Passes CX X E) (ha : PA X (e :: es) t)
    (hdb : (x == ("__debug__" : Str)) = false := by decide) (he : starEach (e :: es) X.env = (false, eval e X.env) :: starEach es X.env := by rfl) (hpl : (backTo pos (starEach es X.env)).any (·.1) = false := by rfl) : PE X (.Call (.Name x p) (e :: es) [] pos) (tMake C sp [] E t) :=
  let ⟨_, _, M, b, F⟩ := D.ex
  pe_make M F hr hg hm b .nil hx ha hdb he hpl
theorem pe_Mi0 (D : Mi X.prog X.w X.K X.mg X.base CX k C ps sp) (hr : Room (k + 1) X.A) (hg : Gl X x) (hm : X.mg x = some (.ref C)) (hx : Passes CX X E) (hdb : (x == ("__debug__" : Str)) = false := by decide) : PE X (.Call (.Name x p) [] [] pos) (tMake C sp [] E tNil) :=
  let ⟨_, _, M, b, F⟩ := D.ex
  pe_make0 M F hr hg hm b .nil hx hdb
def tR (sp : Sp) (E : XK) (t : TA) : TE := fun σ H Q => t σ H fun vs H1 => sp vs H1 Q E
theorem pe_R (D : Dr X.prog X.w X.K X.mg X.base CX k x sp) (hr : Room k X.A) (hg : Gl X x) (hx : Passes CX X E) (ha : PA X (e :: es) t)
    (hdb : (x == ("__debug__" : Str)) = false := by decide) (he : starEach (e :: es) X.env = (false, eval e X.env) :: starEach es X.env := by rfl) (hpl : (backTo pos (starEach es X.env)).any (·.1) = false := by rfl) : PE X (.Call (.Name x p) (e :: es) [] pos) (tR sp E t) := by
  obtain ⟨f, kp, g, F⟩ := D.ex
  exact ⟨fun pins s σ H Q I h => wpAny_Call_Name_kw (ld_glob I hg g (PySem.W.callWith_K (h₀ := X.base) I.ok.mod.kin kp (thn (ha.run pos pins s σ H _ I h) fun us s1 ⟨vs, H1, I1, r, q⟩ => ⟨I1.kIn, wpAny_call (run_fnR F hr hx I1 r q)⟩) he hpl) hdb)⟩
theorem pe_R0 (D : Dr X.prog X.w X.K X.mg X.base CX k x sp) (hr : Room k X.A) (hg : Gl X x) (hx : Passes CX X E) (hdb : (x == ("__debug__" : Str)) = false := by decide) : PE X (.Call (.Name x p) [] [] pos) (tR sp E tNil) := by
  obtain ⟨f, kp, g, F⟩ := D.ex
  exact ⟨fun pins s σ H Q I h => wpAny_Call_Name_kw (ld_glob I hg g (PySem.W.callWith_K0 I.kIn kp (wpAny_call (run_fnR F hr hx I .nil h))) hdb)⟩
theorem pe_Rs {sq : Pos} (D : Dr X.prog X.w X.K X.mg X.base CX k x sp) (hr : Room k X.A) (hg : Gl X x) (hx : Passes CX X E) (he : PE X e ta) (hdb : (x == ("__debug__" : Str)) = false := by decide) (hst : starEach [.Starred e sq] X.env = [(true, eval e X.env)] := by rfl) :
    PE X (.Call (.Name x p) [.Starred e sq] [] pos) (fun σ H Q => ta σ H fun y H1 => ∃ a xs, y = V.ref a ∧ (SqT X.K H1 a xs ∨ SqL X.K H1 a xs) ∧ sp xs H1 Q E) :=
  let ⟨_, kp, g, F⟩ := D.ex
  StX.pe_callS1 F hr kp hg g hx he hdb hst
/-- a def that is never called needs no promise -/
theorem fn_never {P : Program} {w : World} {K : PySem.W.Frag} {mg : Str → Option Value} {base : Heap} {f : Addr} {fd : FuncData} : FnOk P w K mg base CX k f fd ps fun _ _ _ _ => False := ⟨fun _ _ _ _ h => h.elim, fun _ _ _ _ _ _ _ _ _ _ _ _ _ h => h.elim⟩
end
/-! ### an instance whose attributes are told in the order of their first store -/
theorem ins_put {H : Hp} {a C dx : Addr} {fs : List (Str × V)} : upd H a (.ins C dx fs) a = some (.ins C dx fs) := upd_same
end Nb
namespace Nb
open PySem
open L2 hiding del del_ne del_same
/-- e.f within a comprehension: the written part is named -/
theorem pe_fldK {X : Cx} {K : PySem.W.Frag} {e : Expr} {f : Str} {pos : Pos} {ta : TE} (hK : X.K = K) (he : PE X e ta) (hb : attributeBase e f X.env (eval e X.env) = eval e X.env) : PE X (.Attribute e f pos) (tFld K ta f) := by
  subst hK
  exact pe_fld he hb
/-- len(x) within a comprehension: the written part is named -/
theorem call_len_seqK {X : Cx} {K : PySem.W.Frag} (hK : X.K = K) : CallR X (.builtin "len") (fun xs H Q => ∃ p ys, xs = [.ref p] ∧ (SqL K H p ys ∨ SqT K H p ys) ∧ Q (.int ys.length) H) := by
  subst hK
  exact call_len_seq
def spStar (sp : Sp) : Sp := fun vs H Q E => vs.length ≤ 100000 ∧ ∀ p, H p = none → sp [.ref p] (upd H p (.tup vs)) Q E
/-- a def with a star and nothing else, by its body -/
theorem okStar {P : Program} {w : World} {K : PySem.W.Frag} {mg : Str → Option Value} {base : Heap} {x qual pv : Str} {st : Stmt} {f : Addr} {fd : FuncData} {N : List Str} {k : Nat} {sp : Sp} (F : Fun K x qual st f fd) (S : FnScope N [pv] (defScope st))
    (hb0 : ∀ (kV doc pm : Value) (an : Option Addr) (cdv ct : Value), bindArgs (PySem.W.fnOf x qual (defArgs st) (defBody st) (defScope st) .none kV doc pm an cdv ct) ⟨[], []⟩ = (newTuple [] >>= fun t => pure [(pv, t)]))
    (hb1 : ∀ (kV doc pm : Value) (an : Option Addr) (cdv ct : Value) (r : Value) (rs : List Value), bindArgs (PySem.W.fnOf x qual (defArgs st) (defBody st) (defScope st) .none kV doc pm an cdv ct) ⟨r :: rs, []⟩ = (newTuple (r :: rs) >>= fun t => pure [(pv, t)]))
    (hbody : ∀ (cdv : Value) (A : Around) (outer : List Env) (s : Shared) (H : Hp) (vs : List V) (Q : VK) (E : XK), Room k (A.deeper (PyProof.Rows.envOfC qual (defScope st) s.heap.objs.size f cdv)) → sp vs H Q E →
      ∃ t, PSs (cxOf CX0 P w K mg base N qual (defScope st) f cdv A outer s H E).nox (defBody st) t ∧ t { nx := fun _ H' => Q .non H', rt := Q } (start N vs) H) : FnR P w K mg base CX0 (k + 1) f (spStar sp) := by
  obtain ⟨oc, od, kV, doc, pm, an, cdv, ct, osl, rfl, lk, hcd⟩ := F.ex
  refine (StX.fn_star (ps := []) (sp := sp) lk hcd S StX.cxUp_none (fun us rest hl => ?_) (fun A outer s H vs Q E hr h => ?_)).imp fun vs H Q E h => ⟨[], vs, rfl, rfl, line100 h.1, fun p np => h.2 p np⟩
  · cases us with
    | cons a as => cases hl
    | nil =>
      cases rest with
      | nil => exact hb0 kV doc pm an cdv ct
      | cons r rs => exact hb1 kV doc pm an cdv ct r rs
  · obtain ⟨t, h, q⟩ := hbody cdv A outer s H vs Q E hr h
    exact ⟨t, h.nox, q⟩
end Nb

set_option Elab.async false
set_option linter.all false
set_option maxRecDepth 100000
set_option maxHeartbeats 2000000
/-! ==, +, len and truth by a class's own methods. -/
namespace Nb
open PySem PySem.Spec PyProof.Rows
open L2 hiding del del_ne del_same
section
variable {X : Cx} {CX : CXT} {n : Nat} {f : Addr} {fd : FuncData} {ps : List Str} {sp : Sp} {E : XK} {A : Around} {pins : List (Addr × Obj)} {σ : L2.St} {H : Hp} {s : Shared} {Q : VK} {vs : List V} {us : List Value}
/-- an own def, called from within a builtin -/
theorem own_run (F : FnOk X.prog X.w X.K X.mg X.base CX n f fd ps sp) (hb : Binds X.K fd ps []) (hx : Passes CX X E) (sb : L2.Sub X n A) (I : Inv X pins σ H s) (r : Vals vs us) (hsp : sp vs H Q E) :
    wpAny (model X.prog X.w) A (call (.ref f) us) (EP X pins σ Q) X.xe s := by
  have e0 : Env0 X.prog X.w X.K X.mg X.base A X.stack s H := by
    have e := I.env0
    exact ⟨by rw [sb.fr]; exact e.frames, e.mod, e.bs, e.bsz, e.funs, e.frf, e.hok, e.bare⟩
  have hl := F.len _ _ _ _ hsp
  have hl2 : us.length = ps.length := by rw [← r.length]; exact hl
  refine wpAny_call (codeAny_mono (F.run A X.stack s H ⟨us, []⟩ us vs _ E sb.room e0 (by
    have := hb s us I.kIn (by simpa using hl2)
    simpa using this) r hsp) fun r s' hq => ?_)
  cases r with
  | error e => exact hx pins σ H s e s' I hq
  | ok fl =>
    cases fl with
    | ret w => exact I.after hq
    | next => exact False.elim hq
    | brk => exact False.elim hq
    | cont => exact False.elim hq
/-- a method that is asked by its name in the class -/
structure Om (X : Cx) (CX : CXT) (n : Nat) (C : Addr) (m : Str) (ps : List Str) (sp : Sp) : Prop where
  ex : ∃ (f : Addr) (fd : FuncData), PySem.W.findIn X.K (.ref C) m = some (some (.ref f)) ∧ PySem.W.isFn X.K (.ref f) = true ∧ Binds X.K fd ps [] ∧ FnOk X.prog X.w X.K X.mg X.base CX n f fd ps sp
theorem Mn.om {m : Str} {C : Addr} (D : Mn X.prog X.w X.K X.mg X.base CX n C m ps sp) : Om X CX n C m ps sp := let ⟨f, fd, M, b, F⟩ := D.ex; ⟨f, fd, M.at_, M.fn, b, F⟩
/-- x == y by the own __eq__ of x's class, which answers True or False -/
def rEqO (C : Addr) (sp : Sp) (E : XK) (K : PySem.W.Frag) : R2 := fun x y H Q => ∃ a b dx fs D dy gs, x = .ref a ∧ y = .ref b ∧ H a = some (.ins C dx fs) ∧ H b = some (.ins D dy gs) ∧ PySem.W.notFirst K C (.ref D) = true ∧
  sp [.ref a, .ref b] H (fun v H' => ∃ c, v = .bl c ∧ Q (.bl c) H') E
theorem op_eqO {C : Addr} (O : Om X CX n C "__eq__" ps sp) (hr : Room n X.A) (hx : Passes CX X E) : OpR X (compareOp .Eq) (rEqO C sp E X.K) := by
  intro pins s σ H x y v u Q I rx ry hq
  obtain ⟨a, b, dx, fs, D, dy, gs, rfl, rfl, ha, hb', nf, h⟩ := hq
  obtain ⟨f, fd, hs, hf, hbn, F⟩ := O.ex
  cases rx
  cases ry
  obtain ⟨mA, J, _⟩ := ins_get I.hok ha
  obtain ⟨mB, J', _⟩ := ins_get I.hok hb'
  obtain ⟨od, J, _⟩ := J.look
  obtain ⟨od', J', _⟩ := J'.look
  obtain ⟨m, hF⟩ := I.fr
  show wpAny (model X.prog X.w) X.A (richCompare .Eq (.ref a) (.ref b)) (EP X pins σ Q) X.xe s
  refine PySem.W.cmp_K (op := .Eq) (tb := .ref D) hr.units0 hF I.ok.mod.kin J J'.type nf hs hf ?_
  refine wpAny_mono (own_run (vs := [.ref a, .ref b]) F hbn hx ⟨hr, rfl⟩ I (.cons rfl (.cons rfl .nil)) h) (fun r s' z => ?_) fun _ _ e => e
  obtain ⟨v, H', I', rz, c, ez, q⟩ := z
  subst ez
  cases rz
  exact ⟨.bl c, H', I', rfl, q⟩
/-- len(x) by the own __len__ -/
theorem call_lenO {C : Addr} (O : Om X CX n C "__len__" ps sp) (hr : Room (n + 1) X.A) (hx : Passes CX X E) : CallR X (.builtin "len") (fun xs H Q => ∃ a dx fs, xs = [.ref a] ∧ H a = some (.ins C dx fs) ∧ sp [.ref a] H (fun v H' => ∃ k : Int, v = .int k ∧ 0 ≤ k ∧ k < 2 ^ 63 ∧ Q (.int k) H') E) := by
  intro pins s σ H xs us Q I r h
  obtain ⟨a, dx, fs, rfl, ha, h⟩ := h
  obtain ⟨f, fd, hs, hf, hbn, F⟩ := O.ex
  obtain ⟨u, rfl, rx⟩ := vals1 r
  cases rx
  obtain ⟨mA, J, _⟩ := ins_get I.hok ha
  obtain ⟨od, J, _⟩ := J.look
  obtain ⟨m, hF⟩ := I.fr
  refine PySem.W.len_K hF I.ok.mod.kin J hs hf ?_
  refine wpAny_mono (own_run (vs := [.ref a]) F hbn hx (L2.Sub.in1 ⟨hr, rfl⟩) I (.cons rfl .nil) h) (fun r s' z => ?_) fun _ _ e => e
  obtain ⟨v, H', I', rz, k, ez, k0, k1, q⟩ := z
  subst ez
  obtain ⟨t, rfl⟩ := rz
  exact ⟨⟨k0, k1⟩, .int k, H', I'.tok _, ⟨_, rfl⟩, q⟩
end
/-! ### calls of two or more arguments, some of them with a star -/
theorem evalArgs_two {M : Model} {A : Around} {E : Value → Shared → Prop} {s : Shared} {f : Value} {a b : Bool × Sem Value} {rest : List (Bool × Sem Value)} {Q : Args → Shared → Prop}
    (h : wpAny M A (spliced (a :: b :: rest)) (fun vs s' => Q ⟨vs, []⟩ s') E s) : wpAny M A (evalArgs f true (a :: b :: rest) []) Q E s := by
  obtain ⟨c, x⟩ := a
  unfold evalArgs
  cases c
  · show wpAny M A (spliced ((false, x) :: b :: rest) >>= _) Q E s
    refine wpAny_bind (wpAny_mono h (fun vs s' h' => ?_) fun _ _ x => x)
    exact wpAny_holding (wpAny_bind (wpAny_pure (wpAny_bind (wpAny_pure (wpAny_pure h')))))
  · show wpAny M A (spliced ((true, x) :: b :: rest) >>= _) Q E s
    refine wpAny_bind (wpAny_mono h (fun vs s' h' => ?_) fun _ _ x => x)
    exact wpAny_holding (wpAny_bind (wpAny_pure (wpAny_bind (wpAny_pure (wpAny_pure h')))))
/-- x( *a, b, ..): a def with a star of its own, stars among two or more arguments -/
theorem pe_Rmix {X : Cx} {CX : CXT} {k : Nat} {sp : Sp} {E : XK} {x : Str} {p pos : Pos} {e e2 : Expr} {es : List Expr} {t : TA} {b1 b2 : Bool} {y1 y2 : Sem Value} {r1 : List (Bool × Sem Value)} (D : Dr X.prog X.w X.K X.mg X.base CX k x sp) (hr : Room k X.A) (hg : Gl X x) (hx : Passes CX X E) (ha : PA X (e :: e2 :: es) t)
    (hdb : (x == ("__debug__" : Str)) = false := by decide) (he : backTo pos (starEach (e :: e2 :: es) X.env) = (b1, y1) :: (b2, y2) :: r1 := by rfl) (hst : ((b1, y1) :: (b2, y2) :: r1).any (·.1) = true := by rfl) : PE X (.Call (.Name x p) (e :: e2 :: es) [] pos) (tR sp E t) := by
  obtain ⟨f, kp, g, F⟩ := D.ex
  refine ⟨fun pins s σ H Q I h => ?_⟩
  refine wpAny_Call_Name_kw (ld_glob I hg g ?_ hdb)
  have run := ha.run pos pins s σ H _ I h
  rw [he] at run ⊢
  exact PySem.W.ks_call hst (PySem.W.keeps_K kp) (evalArgs_two (thn run fun us s1 ⟨vs, H1, I1, r, q⟩ => ⟨I1.kIn, wpAny_call (run_fnR F hr hx I1 r q)⟩))
end Nb

set_option Elab.async false
set_option linter.all false
set_option maxRecDepth 100000
set_option maxHeartbeats 4000000
/-! Methods with a star, methods called with a star, properties, own membership; each with all that a caller must know. -/
namespace Nb
open PySem PySem.Spec PyProof.Rows
open L2 hiding del del_ne del_same
/-- a method whose promise is of the positional arguments -/
structure Ms (P : Program) (w : World) (K : PySem.W.Frag) (mg : Str → Option Value) (base : Heap) (CX : CXT) (k : Nat) (C : Addr) (m : Str) (sp : Sp) : Prop where
  ex : ∃ f : Addr, Meth K C m f ∧ FnR P w K mg base CX k f sp
/-- a method that is called with a star -/
structure Mb (P : Program) (w : World) (K : PySem.W.Frag) (mg : Str → Option Value) (base : Heap) (CX : CXT) (k : Nat) (C : Addr) (m : Str) (g : Addr) (sp : Sp) : Prop where
  b : BMeth K C m g
  F : FnR P w K mg base CX k g sp
/-- a property -/
structure Pr (P : Program) (w : World) (K : PySem.W.Frag) (mg : Str → Option Value) (base : Heap) (CX : CXT) (k : Nat) (C : Addr) (m : Str) (sp : Sp) : Prop where
  ex : ∃ (p g : Addr) (fd : FuncData), PropOf K C m p g ∧ Binds K fd ["self"] [] ∧ FnOk P w K mg base CX k g fd ["self"] sp
/-- a def with a star that is also handed on as a value: it stands at f -/
structure Df (P : Program) (w : World) (K : PySem.W.Frag) (mg : Str → Option Value) (base : Heap) (CX : CXT) (k : Nat) (x : Str) (f : Addr) (sp : Sp) : Prop where
  kp : PySem.W.keepIn K (.ref f) = true
  g : mg x = some (.ref f)
  F : FnR P w K mg base CX k f sp
theorem Df.dr {P : Program} {w : World} {K : PySem.W.Frag} {mg : Str → Option Value} {base : Heap} {CX : CXT} {k : Nat} {x : Str} {f : Addr} {sp : Sp} (D : Df P w K mg base CX k x f sp) : Dr P w K mg base CX k x sp := ⟨f, D.kp, D.g, D.F⟩
section
variable {X : Cx} {CX : CXT} {k : Nat} {ps : List Str} {sp : Sp} {E : XK} {x m : Str} {p pos apos : Pos} {o e e1 e2 : Expr} {es : List Expr} {ta t1 t2 : TE} {t : TA} {C : Addr}
def tMs (C : Addr) (m : Str) (sp : Sp) (E : XK) (ta : TE) (t : TA) : TE := fun σ H Q => ta σ H fun x H1 => ∃ a dx fs, x = .ref a ∧ H1 a = some (.ins C dx fs) ∧ fs.lookup m = none ∧ t σ H1 fun vs H2 => sp (.ref a :: vs) H2 Q E
theorem pe_Ms {pl : Sem Bool} (D : Ms X.prog X.w X.K X.mg X.base CX k C m sp) (c : Cls X.K C) (he : PE X o ta) (hr : Room k X.A) (hx : Passes CX X E) (ha : PA X (e :: es) t)
    (hst : starEach (e :: es) X.env = (false, eval e X.env) :: starEach es X.env := by rfl) (hpl : (backTo pos (starEach es X.env)).any (·.1) = false := by rfl)
    (ht : eval (.Call (.Attribute o m apos) (e :: es) [] pos) X.env = (do
      let ov ← eval o X.env
      standAt apos.atName
      let (f, first) ← holding [ov] (getMethod ov m pl)
      callWith pos f first (backTo pos (starEach (e :: es) X.env)) (backToKw pos (keywordEach [] X.env))) := by rfl) : PE X (.Call (.Attribute o m apos) (e :: es) [] pos) (tMs C m sp E ta t) := by
  obtain ⟨f, hm, F⟩ := D.ex
  refine ⟨fun pins s σ H Q I h => ?_⟩
  refine PySem.W.methodCall_KW (pl := pl) (thn (he.run pins s σ H _ I h) fun u s1 ⟨x, H1, I1, rx, a, dx, fs, ex, ea, l, q⟩ => ?_) ht
  subst ex
  obtain rfl : u = Value.ref a := rx
  refine getmeth_ok I1 ea c hm l ?_
  refine PySem.W.callWith_K (first := [.ref a]) (h₀ := X.base) I.ok.mod.kin hm.kp (thn (ha.run pos pins s1 σ H1 _ I1 q) fun us s2 ⟨vs, H2, I2, r, q2⟩ => ⟨I2.kIn, ?_⟩) hst hpl
  exact wpAny_call (run_fnR (us := .ref a :: us) (vs := .ref a :: vs) F hr hx I2 (.cons rfl r) q2)
theorem pe_Mb {g : Addr} (D : Mb X.prog X.w X.K X.mg X.base CX k C m g sp) (c : Cls X.K C) (he : PE X o ta) (hr : Room k X.A)
    (hx : Passes CX X E) (h1 : PE X e1 t1) (h2 : PE X e2 t2) (hbase : attributeBase o m X.env (eval o X.env) = eval o X.env := by rfl)
    (hst : starEach [e1, .Starred e2 p] X.env = [(false, eval e1 X.env), (true, eval e2 X.env)] := by rfl) : PE X (.Call (.Attribute o m apos) [e1, .Starred e2 p] [] pos) (tMethSB X.K C m g sp E ta t1 t2) :=
  pe_methSB he c D.b D.F hr hx h1 h2 hbase hst
theorem pe_P (D : Pr X.prog X.w X.K X.mg X.base CX k C m sp) (c : Cls X.K C) (he : PE X e ta) (hr : Room (k + 1) X.A) (hx : Passes CX X.nox E)
    (hab : attributeBase e m X.env (eval e X.env) = eval e X.env := by rfl) : PE X (.Attribute e m pos) (tProp C sp [] E ta) :=
  let ⟨_, _, _, hp, b, F⟩ := D.ex
  pe_prop he c hp F hr b .nil hx hab
theorem pa_starK {K : PySem.W.Frag} {te : TE} (hK : X.K = K) (he : PE X e te) (hr : PA X es t) (hs : starEach (.Starred e p :: es) X.env = (true, eval e X.env) :: starEach es X.env := by rfl) : PA X (.Starred e p :: es) (StX.tStar K te t) := hK ▸ StX.pa_star he hr hs
/-- y in x, y not in x by the own __contains__ of x's class, which answers True or False -/
def rInO (neg : Bool) (C : Addr) (sp : Sp) (E : XK) : R2 := fun x y H Q => ∃ b dx fs, y = .ref b ∧ H b = some (.ins C dx fs) ∧ sp [.ref b, x] H (fun v H' => ∃ c, v = .bl c ∧ Q (.bl (c != neg)) H') E
theorem op_inO {C : Addr} (O : Om X CX k C "__contains__" ps sp) (hr : Room k X.A) (hx : Passes CX X E) : OpR X (compareOp .In) (rInO false C sp E) := by
  intro pins s σ H x y v u Q I rx ry hq
  obtain ⟨b, dx, fs, rfl, hb', h⟩ := hq
  obtain ⟨f, fd, hs, hf, hbn, F⟩ := O.ex
  cases ry
  obtain ⟨mB, J', _⟩ := ins_get I.hok hb'
  obtain ⟨od', J', _⟩ := J'.look
  obtain ⟨m, hF⟩ := I.fr
  refine PySem.W.in_K hF I.ok.mod.kin J' hs hf ?_
  refine wpAny_mono (own_run (vs := [.ref b, x]) F hbn hx ⟨hr, rfl⟩ I (.cons rfl (.cons rx .nil)) h) (fun r s' z => ?_) fun _ _ e => e
  obtain ⟨v, H', I', rz, c, ez, q⟩ := z
  subst ez
  cases rz
  refine wpAny_pure ⟨_, H', I', ?_, q⟩
  cases c <;> rfl
theorem op_notInO {C : Addr} (O : Om X CX k C "__contains__" ps sp) (hr : Room k X.A) (hx : Passes CX X E) : OpR X (compareOp .NotIn) (rInO true C sp E) := by
  intro pins s σ H x y v u Q I rx ry hq
  obtain ⟨b, dx, fs, rfl, hb', h⟩ := hq
  obtain ⟨f, fd, hs, hf, hbn, F⟩ := O.ex
  cases ry
  obtain ⟨mB, J', _⟩ := ins_get I.hok hb'
  obtain ⟨od', J', _⟩ := J'.look
  obtain ⟨m, hF⟩ := I.fr
  refine PySem.W.notIn_K hF I.ok.mod.kin J' hs hf ?_
  refine wpAny_mono (own_run (vs := [.ref b, x]) F hbn hx ⟨hr, rfl⟩ I (.cons rfl (.cons rx .nil)) h) (fun r s' z => ?_) fun _ _ e => e
  obtain ⟨v, H', I', rz, c, ez, q⟩ := z
  subst ez
  cases rz
  refine wpAny_pure ⟨_, H', I', ?_, q⟩
  cases c <;> rfl
end
/-- def f(a, *v): its promise tells a and the tuple -/
def spStar1 (sp : Sp) : Sp := fun vs H Q E => ∃ a rest, vs = a :: rest ∧ rest.length ≤ 100000 ∧ ∀ p, H p = none → sp [a, .ref p] (upd H p (.tup rest)) Q E
theorem okStar1 {P : Program} {w : World} {K : PySem.W.Frag} {mg : Str → Option Value} {base : Heap} {x qual av pv : Str} {st : Stmt} {f : Addr} {fd : FuncData} {N : List Str} {k : Nat} {sp : Sp} (F : Fun K x qual st f fd) (S : FnScope N [av, pv] (defScope st))
    (hb0 : ∀ (kV doc pm : Value) (an : Option Addr) (cdv ct : Value) (a : Value), bindArgs (PySem.W.fnOf x qual (defArgs st) (defBody st) (defScope st) .none kV doc pm an cdv ct) ⟨[a], []⟩ = (newTuple [] >>= fun t => pure [(av, a), (pv, t)]))
    (hb1 : ∀ (kV doc pm : Value) (an : Option Addr) (cdv ct : Value) (a r : Value) (rs : List Value), bindArgs (PySem.W.fnOf x qual (defArgs st) (defBody st) (defScope st) .none kV doc pm an cdv ct) ⟨a :: r :: rs, []⟩ = (newTuple (r :: rs) >>= fun t => pure [(av, a), (pv, t)]))
    (hlen : ∀ vs H Q E, sp vs H Q E → vs.length = 2)
    (hbody : ∀ (cdv : Value) (A : Around) (outer : List Env) (s : Shared) (H : Hp) (vs : List V) (Q : VK) (E : XK), Room k (A.deeper (PyProof.Rows.envOfC qual (defScope st) s.heap.objs.size f cdv)) → sp vs H Q E →
      ∃ t, PSs (cxOf CX0 P w K mg base N qual (defScope st) f cdv A outer s H E).nox (defBody st) t ∧ t { nx := fun _ H' => Q .non H', rt := Q } (start N vs) H) : FnR P w K mg base CX0 (k + 1) f (spStar1 sp) := by
  obtain ⟨oc, od, kV, doc, pm, an, cdv, ct, osl, rfl, lk, hcd⟩ := F.ex
  refine (StX.fn_star (ps := [av]) (sp := sp) lk hcd S StX.cxUp_none (fun us rest hl => ?_) (fun A outer s H vs Q E hr h => ?_)).imp fun vs H Q E ⟨a, rest, e, l, h⟩ => ⟨[a], rest, e, rfl, line100 l, fun p np => h p np⟩
  · match us, hl with
    | [a], _ =>
      cases rest with
      | nil => exact hb0 kV doc pm an cdv ct a
      | cons r rs => exact hb1 kV doc pm an cdv ct a r rs
  · obtain ⟨t, h, q⟩ := hbody cdv A outer s H vs Q E hr h
    exact ⟨t, h.nox, q⟩
end Nb

set_option Elab.async false
set_option linter.all false
set_option maxRecDepth 100000
set_option maxHeartbeats 4000000
/-! d != {}; defs with a star and two stars, called without keywords. -/
namespace Nb
open PySem PySem.Spec PyProof.Rows
open L2 hiding del del_ne del_same
def rNeD0 : R2 := fun x y H Q => ∃ a b ks, x = .ref a ∧ y = .ref b ∧ H a = some (.dK ks) ∧ H b = some (.dK []) ∧ Q (.bl (!ks.isEmpty)) H
theorem op_ne_dict0 {X : Cx} (hu : X.A.units < cLine) : OpR X (compareOp .NotEq) rNeD0 := by
  intro pins s σ H x y v u Q I rx ry h
  obtain ⟨a, b, ks, rfl, rfl, ea, eb, q⟩ := h
  cases rx
  cases ry
  obtain ⟨_, far, vs, kv, da⟩ : ObjOk X.prog X.w H s.heap a (.dK ks) := I.hok a _ ea
  obtain ⟨_, far2, us, kv2, db⟩ : ObjOk X.prog X.w H s.heap b (.dK []) := I.hok b _ eb
  have l1 : ks.length = vs.length := Paired.length kv
  cases kv2
  refine PySem.W.keq_ne (knd := mixKind X.prog X.w) (r := true) far far2 da db hu (fun e => ?_) ?_
  · cases vs with
    | nil => exact .nil
    | cons z zs => cases e
  · refine ⟨.bl (!ks.isEmpty), H, I, ?_, q⟩
    cases ks with
    | nil =>
      have : vs = [] := List.length_eq_zero_iff.mp l1.symm
      rw [this]
      rfl
    | cons k ks =>
      cases vs with
      | nil => cases l1
      | cons z zs => rfl
/-- def f(a, b, *v, **d), called without keywords -/
def spStarKw (sp : Sp) : Sp := fun vs H Q E => ∃ a n rest, vs = a :: n :: rest ∧ rest.length ≤ 100000 ∧ ∀ p d, H p = none → H d = none → d ≠ p → sp [a, n, .ref p, .ref d] (upd (upd H p (.tup rest)) d (.dK [])) Q E
theorem okStarKw {P : Program} {w : World} {K : PySem.W.Frag} {mg : Str → Option Value} {base : Heap} {x qual av nv pv dv : Str} {st : Stmt} {f : Addr} {fd : FuncData} {N : List Str} {k : Nat} {sp : Sp} (F : Fun K x qual st f fd) (S : FnScope N [av, nv, pv, dv] (defScope st))
    (hb0 : ∀ (kV doc pm : Value) (an : Option Addr) (cdv ct : Value) (a n : Value), bindArgs (PySem.W.fnOf x qual (defArgs st) (defBody st) (defScope st) .none kV doc pm an cdv ct) ⟨[a, n], []⟩ = (newTuple [] >>= fun t => (alloc ({ cls := .type "dict", data := .dict #[] } : Obj) : Sem Addr) >>= fun d => pure [(av, a), (nv, n), (pv, t), (dv, Value.ref d)]))
    (hb1 : ∀ (kV doc pm : Value) (an : Option Addr) (cdv ct : Value) (a n r : Value) (rs : List Value), bindArgs (PySem.W.fnOf x qual (defArgs st) (defBody st) (defScope st) .none kV doc pm an cdv ct) ⟨a :: n :: r :: rs, []⟩ = (newTuple (r :: rs) >>= fun t => (alloc ({ cls := .type "dict", data := .dict #[] } : Obj) : Sem Addr) >>= fun d => pure [(av, a), (nv, n), (pv, t), (dv, Value.ref d)]))
    (hbody : ∀ (cdv : Value) (A : Around) (outer : List Env) (s : Shared) (H : Hp) (vs : List V) (Q : VK) (E : XK), Room k (A.deeper (PyProof.Rows.envOfC qual (defScope st) s.heap.objs.size f cdv)) → sp vs H Q E →
      ∃ t, PSs (cxOf CX0 P w K mg base N qual (defScope st) f cdv A outer s H E).nox (defBody st) t ∧ t { nx := fun _ H' => Q .non H', rt := Q } (start N vs) H) : FnR P w K mg base CX0 (k + 1) f (spStarKw sp) := by
  obtain ⟨oc, od, kV, doc, pm, an, cdv, ct, osl, rfl, lk, hcd⟩ := F.ex
  refine (StX.fn_starkw (ps := [av, nv]) (sp := sp) lk hcd S StX.cxUp_none (fun us rest hl => ?_) (fun A outer s H vs Q E hr h => ?_)).imp fun vs H Q E ⟨a, n, rest, e, l, h⟩ => ⟨[a, n], rest, e, rfl, line100 l, fun p d np nd ne => h p d np nd ne⟩
  · match us, hl with
    | [a, n], _ =>
      cases rest with
      | nil => exact hb0 kV doc pm an cdv ct a n
      | cons r rs => exact hb1 kV doc pm an cdv ct a n r rs
  · obtain ⟨t, h, q⟩ := hbody cdv A outer s H vs Q E hr h
    exact ⟨t, h.nox, q⟩
end Nb

set_option Elab.async false
set_option linter.all false
set_option maxRecDepth 100000
set_option maxHeartbeats 2000000
/-! x[y] by the own __getitem__. -/
namespace Nb
open PySem PySem.Spec PyProof.Rows
open L2 hiding del del_ne del_same
section
variable {X : Cx} {CX : CXT} {n : Nat} {sp : Sp} {E : XK} {C g : Addr} {a b : Expr} {ta tb : TE} {pos : Pos}
theorem raw_run {f : Addr} {A : Around} {pins : List (Addr × Obj)} {σ : L2.St} {H : Hp} {s : Shared} {Q : VK} {vs : List V} {us : List Value} (F : FnR X.prog X.w X.K X.mg X.base CX n f sp) (hx : Passes CX X E) (sb : L2.Sub X n A) (I : L2.Inv X pins σ H s) (r : Vals vs us) (hsp : sp vs H Q E) :
    wpAny (model X.prog X.w) A (call (.ref f) us) (EP X pins σ Q) X.xe s := by
  have e0 : Env0 X.prog X.w X.K X.mg X.base A X.stack s H := by
    have e := I.env0
    exact ⟨by rw [sb.fr]; exact e.frames, e.mod, e.bs, e.bsz, e.funs, e.frf, e.hok, e.bare⟩
  refine wpAny_call (codeAny_mono (F A X.stack s H us vs _ E sb.room e0 r hsp) fun r s' hq => ?_)
  cases r with
  | error e => exact hx pins σ H s e s' I hq
  | ok fl =>
    cases fl with
    | ret w => exact I.after hq
    | next => exact False.elim hq
    | brk => exact False.elim hq
    | cont => exact False.elim hq
def tIxO (C : Addr) (sp : Sp) (E : XK) (ta tb : TE) : TE := fun σ H Q => ta σ H fun x H1 => tb σ H1 fun y H2 => ∃ a dx fs, x = .ref a ∧ H2 a = some (.ins C dx fs) ∧ sp [.ref a, y] H2 Q E
theorem pe_ixO (B : Mb X.prog X.w X.K X.mg X.base CX n C "__getitem__" g sp) (hr : Room (n + 1) X.A) (hx : Passes CX X E) (ha : PE X a ta) (hb : PE X b tb)
    (hs : ∀ v u : Value, subscripted b true v u = runValue (.builtin "lifetime.subscript" ⟨[v, u], []⟩) := by intro _ _; rfl) : PE X (.Subscript a b pos) (tIxO C sp E ta tb) := by
  refine ⟨fun pins s σ H Q I h => ?_⟩
  refine Subscript_ (binT ha hb I h fun v u s2 x y H2 I2 rx ry q => ?_)
  obtain ⟨p, dx, fs, rfl, hp, q⟩ := q
  cases rx
  obtain ⟨mA, J, _⟩ := ins_get I2.hok hp
  obtain ⟨od, J, _⟩ := J.look
  obtain ⟨m, hF⟩ := I2.fr
  refine PySem.W.sub_K hF I2.ok.mod.kin J B.b.mt.at_ B.b.fi B.b.mt.fn ?_ (hs _ _)
  exact raw_run (vs := [.ref p, y]) B.F hx (L2.Sub.in1 ⟨hr, rfl⟩) I2 (.cons rfl (.cons ry .nil)) q
end
end Nb

set_option Elab.async false
set_option linter.all false
set_option maxRecDepth 100000
set_option maxHeartbeats 4000000
/-! repr of a list that holds one thing many times, also where this thing is an empty dict. -/
namespace Nb
open PySem PySem.Spec PyProof.Rows
open L2 hiding del del_ne del_same
theorem shows_list {prog : Program} {w : World} {h0 : Heap} {l : Addr} {ob : Obj} {us : Array Value} {n : Nat} {ds : List PyData} {as : List Addr} (e1 : h0.get? l = some ob) (e2 : ob.cls = .type "list") (e3 : ob.data = .seq us n) (rd : ReadsAll h0 us.toList ds as)
    (ok : PyData.showableAll ds = true) (away : PyData.hasDictAll ds = true → sysModules ∉ as) (few : (listText (PyData.shownAll ds)).length ≤ sizeLine) : ShowsBy prog w h0 l (.list ds) "list" "list.__repr__" := by
  obtain ⟨bs, most, each⟩ := ReprAllK.of_readsAll (prog := prog) (w := w) rd ok away fun t ht => Nat.le_trans (listText_mem_le ht) few
  have off : l ∉ bs := not_mem_of_deeper (.list e1 e2 e3 rd) (by simp only [PyData.depth]; omega) most
  refine { slotRepr := F.slot_list_repr.toG, slotStr := F.slot_list_str, slotFmt := F.slot_list_format, typeIs := fun s k => ⟨ob, k _ _ e1, e2⟩, call := fun A E s Q g u k q => ?_ }
  simp only [PyData.depth] at u
  simp only [PyData.shown] at q
  obtain ⟨us⟩ := us
  cases us with
  | nil =>
    cases (show ReadsAll h0 [] ds as from rd)
    simp only [PyData.shownAll, listText_nil] at q
    exact call_list_repr_empty ⟨ob, k _ _ e1, e2⟩ (k _ _ e1) e3 (q s.heap _ _ fun _ _ z => z)
  | cons u0 us => exact call_list_reprK e1 e2 e3 off (by simpa using each.length_eq) (fun i y z => each.item i y (by simpa using z)) g (fun b _ => Clear.nil b) u k q few
theorem vals_rep {x : V} : ∀ {n : Nat} {us : List Value}, Vals (List.replicate n x) us → ∀ u ∈ us, RelV x u
  | 0, _, h, u, hu => by cases h; cases hu
  | n + 1, _, h, u, hu => by
    cases h with
    | cons h1 h2 =>
      rcases List.mem_cons.mp hu with rfl | z
      · exact h1
      · exact vals_rep h2 u z
theorem reads_rep {h : Heap} {d : PyData} {as : List Addr} : ∀ {us : List Value}, (∀ u ∈ us, ∃ bs, Reads h u d bs ∧ ∀ b ∈ bs, b ∈ as) → ∃ bs, ReadsAll h us (List.replicate us.length d) bs ∧ ∀ b ∈ bs, b ∈ as
  | [], _ => ⟨[], .nil, fun _ z => nomatch z⟩
  | u :: us, k => by
    obtain ⟨b1, r1, m1⟩ := k u (List.mem_cons_self ..)
    obtain ⟨b2, r2, m2⟩ := reads_rep (us := us) fun v hv => k v (List.mem_cons_of_mem _ hv)
    exact ⟨b1 ++ b2, .cons r1 r2, fun b hb => (List.mem_append.mp hb).elim (m1 b) (m2 b)⟩
/-- a thing without a dict in it, or an empty dict -/
def One (H : Hp) (x : V) (d : PyData) : Prop := (Tz H x d ∧ d.hasDict = false) ∨ d = .dict [] ∧ ∃ a, x = .ref a ∧ H a = some (.dK [])
theorem one_same {H H' : Hp} (s : Same H H') {x : V} {d : PyData} (h : One H x d) : One H' x d := h.elim (fun h => .inl ⟨tz_same s h.1, h.2⟩) fun ⟨e, a, z, k⟩ => .inr ⟨e, a, z, s _ _ k⟩
theorem cr_reprRep {X : Cx} (g : X.A.guards = some []) (u : X.A.units + 100 < cLine) : CallR X (.builtin "repr") (fun xs H Q => ∃ (l : Addr) (x : V) (n : Nat) (d : PyData), xs = [.ref l] ∧ H l = some (.lst (List.replicate n x)) ∧ One H x d ∧
    (PyData.list (List.replicate n d)).showable = true ∧ (PyData.list (List.replicate n d)).depth ≤ 60 ∧ (PyData.list (List.replicate n d)).shown.length ≤ sizeLine ∧ Q (.str (PyData.list (List.replicate n d)).shown) H) := by
  intro pins s σ H xs us Q I r h
  obtain ⟨l, x, n, d, rfl, hl, hx, ok, dp, few, q⟩ := h
  obtain ⟨v, rfl, rv⟩ := vals1 r
  cases rv
  obtain ⟨its, ri, ⟨ob, n2, e1, e2, _, e3⟩, _⟩ := I.list (SqL.of hl)
  have len : its.length = n := by rw [← Paired.length ri, List.length_replicate]
  obtain ⟨as, each, away⟩ : ∃ as : List Addr, (∀ u ∈ its, ∃ bs, Reads s.heap u d bs ∧ ∀ b ∈ bs, b ∈ as) ∧ (d.hasDict = true → sysModules ∉ as) := by
    rcases hx with ⟨hx, nd⟩ | ⟨rfl, a, rfl, ha⟩
    · have key : ∀ us : List Value, (∀ u ∈ us, RelV x u) → ∃ as : List Addr, ∀ u ∈ us, ∃ bs, Reads s.heap u d bs ∧ ∀ b ∈ bs, b ∈ as := by
        intro us
        induction us with
        | nil => exact fun _ => ⟨[], fun _ z => nomatch z⟩
        | cons u us ih =>
          intro k
          obtain ⟨b1, r1, _⟩ := tz_reads I hx (k u (List.mem_cons_self ..))
          obtain ⟨b2, m2⟩ := ih fun v hv => k v (List.mem_cons_of_mem _ hv)
          refine ⟨b1 ++ b2, fun v hv => ?_⟩
          rcases List.mem_cons.mp hv with rfl | z
          · exact ⟨b1, r1, fun b hb => List.mem_append_left _ hb⟩
          · obtain ⟨bs, r3, m3⟩ := m2 v z
            exact ⟨bs, r3, fun b hb => List.mem_append_right _ (m3 b hb)⟩
      obtain ⟨as, m⟩ := key its (vals_rep ri)
      exact ⟨as, m, fun z => by rw [nd] at z; cases z⟩
    · have ho : ObjOk X.prog X.w H s.heap a (.dK []) := I.hok a _ ha
      obtain ⟨_, nm, vs, kv, o, es, ep, d1, d2, d3, _, d5, _⟩ := ho
      cases kv
      have d6 : es.toList = [] := by
        cases hz : es.toList with
        | nil => rfl
        | cons z zs =>
          rw [hz] at d5
          cases d5
      refine ⟨[a], fun u hu => ?_, fun _ hm => ?_⟩
      · cases vals_rep ri u hu
        exact ⟨_, .dict (as := []) (bs := []) d1 d2.1 d3 (by rw [d6]; exact .nil) (by rw [d6]; exact .nil), fun b hb => by simpa using hb⟩
      · have : sysModules = a := by simpa using hm
        rw [this] at nm
        exact absurd nm (by simp)
  obtain ⟨bs, rd, mem⟩ := reads_rep each
  rw [len] at rd
  have S := shows_list (prog := X.prog) (w := X.w) (l := l) e1 e2 e3 (by simpa using rd) (by simpa [PyData.showable] using ok) (fun hd hm => ?_) (by simpa only [PyData.shown] using few)
  · exact call_repr_slot (by omega) (S.typeIs s fun _ _ z => z) S.slotRepr (S.call X.A.in1 _ s _ g (by show X.A.units + 1 + _ < cLine; omega) (fun _ _ z => z) fun h' t tk hk => ⟨_, _, rfl, ⟨.str _, H, I.kept (t' := tk) hk, ⟨_, rfl⟩, q⟩⟩)
  · refine away ?_ (mem _ hm)
    have key : ∀ n, PyData.hasDictAll (List.replicate n d) = true → d.hasDict = true := by
      intro n
      induction n with
      | zero => exact fun z => by cases z
      | succ n ih =>
        intro z
        rw [List.replicate_succ] at z
        simp only [PyData.hasDictAll, Bool.or_eq_true] at z
        exact z.elim id ih
    exact key n hd
end Nb

set_option Elab.async false
set_option maxRecDepth 100000
set_option maxHeartbeats 4000000
/-! t[::-1], t a tuple; tuples cut and added, whichever object comes back. -/
namespace Nb
open PySem PySem.Spec PyProof.Rows L2 HT
section
variable {prog : Program} {w : World} {A : Around} {E : Value → Shared → Prop} {s : Shared}
theorem applied_back {sl : Addr} {vl vu vs : Value} {n : Nat} {Q : Int × Int × Nat → Shared → Prop} (hs : s.heap.IsSliceOf sl vl vu vs) (pl : IsPart vl none) (pu : IsPart vu none) (ps : IsPart vs (some (-1)))
    (h : Q ((n : Int) - 1, -1, n) s) : wpAny (model prog w) A (Builtin.Slice.sliceApplied (.ref sl) (pure (n : Int))) Q E s := by
  obtain ⟨os, hos, hcs, hds⟩ := id hs
  unfold Builtin.Slice.sliceApplied Builtin.Slice.sliceFields
  refine wpAny_bind (wpAny_bind (wpAny_field hos hds (x := vl) rfl (wpAny_bind (wpAny_field hos hds (x := vu) rfl (wpAny_bind (wpAny_field hos hds (x := vs) rfl (wpAny_pure ?_)))))))
  refine wpAny_bind (slicePart_ ps ?_)
  show wpAny _ _ (if ((-1 : Int) == 0) = true then _ else _) _ _ s
  rw [if_neg (by decide)]
  refine wpAny_bind (slicePart_ pl (wpAny_bind (slicePart_ pu (wpAny_bind (wpAny_pure ?_)))))
  have e1 : Builtin.Slice.sliceAdjust none none (-1) (n : Int) = ((n : Int) - 1, -1) := by
    unfold Builtin.Slice.sliceAdjust
    simp
  have e2 : Builtin.Slice.slicePlaces ((n : Int) - 1) (-1) (-1) = n := by
    unfold Builtin.Slice.slicePlaces
    simp
    omega
  show wpAny _ _ (match Builtin.Slice.sliceAdjust none none (-1) (n : Int) with | (lo, hi) => pure (lo, (-1 : Int), Builtin.Slice.slicePlaces lo hi (-1))) _ _ s
  rw [e1]
  show wpAny _ _ (pure ((n : Int) - 1, (-1 : Int), Builtin.Slice.slicePlaces ((n : Int) - 1) (-1) (-1))) _ _ s
  rw [e2]
  exact wpAny_pure h
theorem pick_back (xs : Array Value) : ((List.range xs.size).filterMap fun (m : Nat) => xs[((xs.size : Int) - 1 + (m : Int) * -1).toNat]?).toArray = xs.toList.reverse.toArray := by
  congr 1
  apply List.ext_getElem?
  intro i
  have e : ∀ k, k ≤ xs.size → (List.range k).filterMap (fun (m : Nat) => xs[((xs.size : Int) - 1 + (m : Int) * -1).toNat]?) = (xs.toList.reverse).take k := by
    intro k
    induction k with
    | zero => intro _; rfl
    | succ k ih =>
      intro hk
      have hlt : xs.size - 1 - k < xs.size := by omega
      have ix : ((xs.size : Int) - 1 + (k : Int) * -1).toNat = xs.size - 1 - k := by omega
      rw [List.range_succ, List.filterMap_append, ih (by omega), List.take_add_one]
      congr 1
      simp only [List.filterMap_cons, List.filterMap_nil, ix]
      rw [Array.getElem?_eq_getElem hlt, List.getElem?_reverse (by simp; omega)]
      simp [hlt]
  rw [e xs.size (Nat.le_refl _), List.take_of_length_le (by simp)]
theorem getItem_back {t sl : Addr} {items : Array Value} {vl vu vs : Value} {Q : Value → Shared → Prop} (ht : IsTup s.heap t items) (hs : s.heap.IsSliceOf sl vl vu vs) (pl : IsPart vl none) (pu : IsPart vu none) (ps : IsPart vs (some (-1)))
    (h : Q (.ref s.heap.objs.size) { s with heap := s.heap.push { cls := .type "tuple", data := .seq items.toList.reverse.toArray } }) (hsz : items.size ≤ sizeLine) : wpAny (model prog w) A (getItem (.ref t) (.ref sl)) Q E s := by
  have fits : sizeOk (.seq items.toList.reverse.toArray) := by
    show items.toList.reverse.toArray.size ≤ sizeLine
    rw [List.size_toArray, List.length_reverse, Array.length_toList]
    exact hsz
  obtain ⟨os, hos, hcs, hds⟩ := id hs
  unfold getItem
  try with_reducible refine wpAny_holding ?_
  first | refine wpAny_bind (wpAny_pure ?_) | skip
  refine wpAny_bind (wpAny_sequenceKey ht.typeIs (by decide) ?_)
  refine wpAny_bind (wpAny_callSpecial?_slot (name := Str.ofString "__getitem__") ht.typeIs PyProof.Rows.slot_tuple_getitem (wpAny_call_entry PyProof.Rows.slot_tuple_getitem ht.typeIs entry_tuple_getitem ?_ (args_tuple_getitem _ _)))
  show wpAny _ _ (Builtin.Tuple.tupleItemsOf (.ref t) >>= _) _ _ s
  refine wpAny_bind (tupleItemsOf_ ht (wpAny_bind (wpAny_typeOf ⟨os, hos, hcs⟩ ?_)))
  rw [if_pos (by decide)]
  refine wpAny_bind (applied_back hs pl pu ps ?_)
  have no : ¬ ((((items.size : Int) - 1) == 0 && (-1 : Int) == 1 && items.size == items.size) = true) := by
    intro q
    rw [Bool.and_eq_true, Bool.and_eq_true] at q
    exact absurd q.1.2 (by decide)
  show wpAny _ _ (if (((items.size : Int) - 1) == 0 && (-1 : Int) == 1 && items.size == items.size) = true then _ else _) _ _ s
  rw [if_neg no, pick_back]
  first
    | exact wpAny_bind (m := Builtin.Tuple.tupleExact _) (wpAny_newObj_type (wpAny_pure ⟨_, rfl, wpAny_pure h⟩) fits)
    | exact wpAny_bind (m := Builtin.Tuple.tupleExact _) (wpAny_newObj_type (wpAny_bind (wpAny_pure (wpAny_pure ⟨_, rfl, wpAny_pure h⟩))) fits)
    | exact wpAny_bind (wpAny_bind (m := Builtin.Tuple.tupleExact _) (wpAny_newObj_type (wpAny_pure (wpAny_pure ⟨_, rfl, wpAny_pure h⟩)) fits))
    | exact wpAny_bind (wpAny_bind (m := Builtin.Tuple.tupleExact _) (wpAny_newObj_type (wpAny_pure ⟨_, rfl, wpAny_pure h⟩) fits))
end
def tRevT (K : PySem.W.Frag) (te : TE) : TE := fun σ H Q => te σ H fun x H1 => ∃ a xs, x = .ref a ∧ SqT K H1 a xs ∧ ∀ p, H1 p = none → Q (.ref p) (upd H1 p (.tup xs.reverse))
theorem pe_revT {X : Cx} {e : Expr} {te : TE} {k : Nat} {p1 p2 p3 pos : Pos} (he : PE X e te) : PE X (.Subscript e (.Slice none none (some (.UnaryOp .USub (.Constant (.int 1) k p1) p2)) p3) pos) (tRevT X.K te) := by
  refine ⟨fun pins s σ H Q I h => Subscript_ (thn (he.run pins s σ H _ I h) fun v s1 ⟨x, H1, I1, r1, q1⟩ => ?_)⟩
  obtain ⟨a, xs, rfl, hx, q⟩ := q1
  cases r1
  have back : PO X (some (.UnaryOp .USub (.Constant (.int 1) k p1) p2)) (tPart (tUn (rU fun i => .int (-i)) (tC (.int 1)))) := po_some (pe_un un_neg pe_int)
  refine wpAny_Slice (thn (po_none.run pins s1 σ H1 (fun o H2 => o = none ∧ H2 = H1) I1 ⟨rfl, rfl⟩) fun vl s2 ⟨l, H2, I2, pl, el, e2⟩ => ?_)
  subst el e2
  refine thn (po_none.run pins s2 σ H2 (fun o H3 => o = none ∧ H3 = H2) I2 ⟨rfl, rfl⟩) fun vu s3 ⟨u, H3, I3, pu, eu, e3⟩ => ?_
  subst eu e3
  refine thn (back.run pins s3 σ H3 (fun o H4 => o = some (-1) ∧ H4 = H3) I3 ⟨1, rfl, -1, rfl, rfl, rfl⟩) fun vs s4 ⟨o, H4, I4, ps, eo, e4⟩ => ?_
  subst eo e4
  have I5 : Inv X pins σ H4 { s4 with heap := s4.heap.push { cls := .type "slice", data := .fields #[vl, vu, vs] } } := I4.kept (t' := s4.toks) fun b ob q => Heap.get?_push_of_some _ q
  obtain ⟨its, r, ht, hz⟩ := I5.tuple hx
  have hlen := r.length
  show wpAny (model X.prog X.w) X.A (subscriptTail e (.Slice none none (some (.UnaryOp .USub (.Constant (.int 1) k p1) p2)) p3) (.ref a) (.ref s4.heap.objs.size)) (EP X pins σ Q) X.xe { s4 with heap := s4.heap.push { cls := .type "slice", data := .fields #[vl, vu, vs] } }
  refine tail_any (ops := [.ref a, .ref s4.heap.objs.size]) ht.typeIs (PyProof.Rows.slot_tuple_getitem.lookup) ?_ (by with_unfolding_all rfl)
  refine getItem_back ht (Heap.IsSliceOf.new _ vl vu vs) pl pu ps ?_ (by rw [List.size_toArray]; omega)
  refine ⟨.ref _, _, I5.laid (t' := s4.toks) (o := .tup xs.reverse) (fun b ob q => Heap.get?_push_of_some _ q) (Nat.le_refl _) ?_, rfl, q _ (I5.hok.fresh (Nat.le_refl _))⟩
  exact ⟨by rw [List.length_reverse]; exact hz, its.reverse, r.reverse, ⟨_, Heap.get?_push_size _ rfl, rfl, 0, by simp⟩⟩
end Nb

set_option Elab.async false
set_option maxRecDepth 100000
/-! How many different texts a tuple holds: the value of len(set(t)). -/
namespace Nb
open PySem PySem.Spec PyProof.Rows L2
/-- the different texts of a list, each where it is met first -/
def dis : List Str → List Str
  | [] => []
  | x :: r => x :: (dis r).filter (fun y => !(y == x))
/-- seen so far: one text more -/
def grow (l : List Str) (x : Str) : List Str := if l.any (· == x) then l else l ++ [x]
def seen (xs : List Str) : List Str := xs.foldl grow []
theorem seen_snoc (xs : List Str) (x : Str) : seen (xs ++ [x]) = grow (seen xs) x := by
  unfold seen
  rw [List.foldl_append]
  rfl
theorem grow_any (l : List Str) (x k : Str) : (grow l x).any (· == k) = (l.any (· == k) || decide (k = x)) := by
  unfold grow
  by_cases h : l.any (· == x) = true
  · rw [if_pos h]
    by_cases e : k = x
    · subst e
      rw [h]
      rfl
    · simp [e]
  · rw [if_neg h, List.any_append]
    by_cases e : k = x
    · subst e
      simp
    · have e2 : (x == k) = false := beq_eq_false_iff_ne.mpr fun z => e z.symm
      simp [e, e2]
theorem grow_len (l : List Str) (x : Str) : (grow l x).length = if l.any (· == x) = true then l.length else l.length + 1 := by
  unfold grow
  split <;> simp
theorem grow_le (l : List Str) (x : Str) : (grow l x).length ≤ l.length + 1 := by
  rw [grow_len]
  split <;> omega
theorem seen_le : ∀ xs : List Str, (seen xs).length ≤ xs.length := by
  have key : ∀ (xs l : List Str), (xs.foldl grow l).length ≤ l.length + xs.length := by
    intro xs
    induction xs with
    | nil => intro l; exact Nat.le_refl _
    | cons x r ih =>
      intro l
      have h1 := ih (grow l x)
      have h2 := grow_le l x
      show (r.foldl grow (grow l x)).length ≤ l.length + (r.length + 1)
      omega
  intro xs
  have h := key xs []
  simpa [seen] using h

section
variable {P : Program} {w : World} {A : Around} {E : Value → Shared → Prop} {s : Shared}
abbrev SetS (P : Program) (w : World) (h : Heap) (S : Addr) (l : List Str) : Prop := h.SetOf (PySem.strKind P w) S (fun k => l.any (· == k)) l.length
theorem SetS.to {h h' : Heap} {S : Addr} {l : List Str} (x : SetS P w h S l) (k : ∀ o, h.get? S = some o → h'.get? S = some o) : SetS P w h' S l :=
  let ⟨o, es, ep, t, ho, r⟩ := x
  ⟨o, es, ep, t, k o ho, r⟩
/-- the set takes what is walked, text by text -/
theorem takes_texts {I : Addr} {fp wr : List Addr} {G : Array GenState → Array GenState → Prop} {n : Nat} {Pv : Nat → Value → Prop} {St : Nat → Shared → Prop} {R : Result → Shared → Prop}
    (W : WalksS P w A.in1 I fp wr G n Pv St) (S : Addr) (apart : S ∉ fp) (xs : List Str) (size : n = xs.length) (few : xs.length + 1 < scanBound) (val : ∀ i v, Pv i v → ∃ x t, xs[i]? = some x ∧ v = .str x t) :
    ∀ (m i : Nat) (s : Shared), m + i = n → St i s → SetS P w s.heap S (seen (xs.take i)) →
      (∀ s', Moved (S :: wr) G s s' → SetS P w s'.heap S (seen xs) → R (.ok (.ret .none)) s') → codeAny (model P w) A (.builtin "set.update.loop" ⟨[.ref S, .ref I], []⟩) R s := by
  have out : S ∉ wr := fun z => apart (W.sub _ z)
  have wide : ∀ b ∈ wr, b ∈ S :: wr := fun b z => List.mem_cons_of_mem _ z
  intro m
  induction m with
  | zero =>
    intro i s em here held fin
    refine codeAny_builtin F.entry_set_update_loop (by
      rw [Around.under_plainId F.plain_set_update_loop _]
      refine wpAny_bind (m := pyNext (.ref I)) (W.done s _ _ (by rw [← em, Nat.zero_add]; exact here) fun s' mv => ?_)
      refine wpAny_pure (fin s' (mv.mono wide) ?_)
      have all : xs.take i = xs := List.take_of_length_le (by omega)
      rw [all] at held
      exact held.to fun o e => mv.heap S o out e)
  | succ m ih =>
    intro i s em here held fin
    refine codeAny_builtin F.entry_set_update_loop (by
      rw [Around.under_plainId F.plain_set_update_loop _]
      refine wpAny_bind (m := pyNext (.ref I)) (W.item i s _ _ (by omega) here fun v s' hv here' mv => ?_)
      obtain ⟨x, t, ex, rfl⟩ := val i v hv
      have held' : SetS P w s'.heap S (seen (xs.take i)) := held.to fun o e => mv.heap S o out e
      refine wpAny_bind (m := holding [Value.str x t] (setAdd S (.str x t))) (wpAny_holding ?_)
      unfold setAdd
      refine wpAny_holding (wpAny_bind ((PySem.strKind P w).pyHash (k := x) (strKind_is _ _ _ _) ?_))
      have room : (seen (xs.take i)).length + 1 < scanBound := by
        have h1 := seen_le (xs.take i)
        have h2 : (xs.take i).length ≤ xs.length := by rw [List.length_take]; omega
        omega
      refine wpAny_setAddHashed_of (knd := PySem.strKind P w) (s := { s' with toks := s'.toks + 1 }) (strKind_is _ _ _ _) rfl held' room fun h' only more => ?_
      have step : seen (xs.take (i + 1)) = grow (seen (xs.take i)) x := by
        rw [List.take_add_one, ex]
        exact seen_snoc _ _
      have held2 : SetS P w h' S (seen (xs.take (i + 1))) := by
        rw [step]
        exact SetOf_congr more (fun k => (grow_any _ _ _).symm) (grow_len _ _).symm
      have still : ∀ b, b ≠ S → ∀ o, s'.heap.get? b = some o → h'.get? b = some o := fun b nb o e => by
        rw [only.2 b nb]
        exact e
      exact wpAny_pure ⟨plainId_quiet F.plain_set_update_loop _, ih (i + 1) _ (by omega) (W.frame _ s' _ _ here' (Nat.le_succ _) fun b hb o e => still b (fun z => apart (z ▸ hb)) o e) held2 fun s2 mv2 held3 =>
        fin s2 (Moved.trans W.gtrans ((mv.mono wide).then_heap (Nat.le_succ _) fun b o hb e => still b (fun z => hb (z ▸ List.mem_cons_self)) o e) mv2) held3⟩)
/-- an empty set as it is laid -/
abbrev bareSet (led : Bool) : Obj := { cls := .type "set", dict := none, data := .set #[] 0 (.fresh 0 0 led) }
set_option maxHeartbeats 3200000 in
/-- set(t), t a tuple of texts -/
theorem set_of_texts {l : Addr} {items : Array Value} {xs : List Str} {Q : Value → Shared → Prop} (calm : A.handled = none) (tup : s.heap.IsTuple l items) (txt : StrsAre items.toList xs) (few : xs.length + 1 < scanBound)
    (h : ∀ (h' : Heap) (tk : Nat), SetS P w h' s.heap.objs.size (seen xs) → (∀ b o, s.heap.get? b = some o → h'.get? b = some o) → Q (.ref s.heap.objs.size) { s with heap := h', toks := tk }) :
    wpAny (model P w) A (call (.type "set") [.ref l]) Q E s := by
  have size : items.size = xs.length := by
    have q := StrsAre.len_eq txt
    rw [Array.length_toList] at q
    exact q
  obtain ⟨c, tl, hmro⟩ := F.called_set.mro
  have g1 := F.called_set.made
  have g2 := F.called_set.sub
  have g3 := F.called_set.notType
  have g4 := F.called_set.canCreate
  have g5 := F.typeCall_set_1 (.ref l)
  refine wpAny_call (codeAny_of_tree (show wpAny _ _ (callAny (.type "set") _) _ _ _ from wpAny_pure ⟨Code.quiet_builtin _ (by decide +kernel), codeAny_builtin F.entry_type_call ?_⟩))
  rw [Around.under_plain (weight_type_call_type "set" [.ref l] []) rfl]
  repeat (any_goals (first | assumption | wp_step))
  refine codeAny_mono (code_set_new_1 (.ref l) (E := E) (Q₁ := fun obj s₁ => ∃ led : Bool, obj = .ref s.heap.objs.size ∧ s₁ = { s with heap := s.heap.push (bareSet led) }) fun led => ⟨led, rfl, rfl⟩) fun r s₁ hr => ?_
  rcases r with e | fl
  · exact hr
  cases fl with
  | ret obj =>
    obtain ⟨led, rfl, rfl⟩ := hr
    have at0 : (s.heap.push (bareSet led)).get? s.heap.objs.size = some (bareSet led) := Heap.get?_push_size _ rfl
    have ty0 : Shared.TypeIs { s with heap := s.heap.push (bareSet led) } (.ref s.heap.objs.size) "set" := ⟨_, at0, rfl⟩
    have g6 := F.called_set.init.lookup
    have g7 := F.called_set.init.bind (.ref s.heap.objs.size)
    repeat (any_goals (first | assumption | wp_step))
    refine codeAny_mono (codeAny_call_builtin (R := wants (fun r s₂ => r = .none ∧ ∃ h' tk, s₂ = { s with heap := h', toks := tk } ∧ SetS P w h' s.heap.objs.size (seen xs) ∧ (∀ b o, s.heap.get? b = some o → h'.get? b = some o)) E)
      F.called_set.init.plain F.entry_set_init (check_set_init_1 ty0 ?_)) fun r₂ s₂ hr₂ => ?_
    · obtain ⟨⟨ocls, odict, odata, oslots⟩, ho, hc, nl, hd⟩ := tup
      simp only at hc hd
      subst hc hd
      have ho1 : (s.heap.push (bareSet led)).get? l = some { cls := .type "tuple", dict := odict, data := .seq items nl, slots := oslots } := Heap.get?_push_of_some _ ho
      have g8 := F.sub_tuple_set
      have g9 := F.sub_tuple_frozenset
      have g10 : (Value.type "tuple" == Value.type "dict") = false := by decide
      have tup1 : (s.heap.push (bareSet led)).IsTuple l items := ⟨_, ho1, rfl, nl, rfl⟩
      unfold Builtin.«set.__init__» noKeywords Builtin.Frozenset.updateFrom
      generalize hPI : pyIter = PI
      wp_walk
      subst hPI
      refine wpAny_pyIter_tuple tup1 (wpAny_bind (wpAny_runValue ?_))
      have lt0 : l < s.heap.objs.size := Heap.lt_size ho
      have sz1 : (s.heap.push (bareSet led)).objs.size = s.heap.objs.size + 1 := Heap.size_push ..
      have calm3 : A.in1.in1.in1.handled = none := by simp [calm]
      have ne1 : l ≠ (s.heap.push (bareSet led)).objs.size := by
        rw [sz1]
        exact Nat.ne_of_lt (Nat.lt_succ_of_lt lt0)
      have apart : s.heap.objs.size ∉ [(s.heap.push (bareSet led)).objs.size, l] := fun z => by
        rcases List.mem_cons.mp z with z | z
        · rw [sz1] at z
          exact absurd z (Nat.ne_of_lt (Nat.lt_succ_self _))
        · exact absurd (List.mem_singleton.mp z) (Nat.ne_of_gt lt0)
      refine takes_texts ((Walks.tuple calm3 _ l ne1 items).toS) s.heap.objs.size apart xs size few (fun i v hv => ?_) items.size 0 _ (by omega) ⟨⟨_, Heap.get?_push_size _ rfl, rfl, rfl⟩, (tup1.push _)⟩ ?start fun s' mv held => ?_
      case start =>
        have at1 : ((s.heap.push (bareSet led)).push { cls := .type "tuple_iterator", data := .fields #[.ref l, .int 0 0] }).get? s.heap.objs.size = some (bareSet led) := Heap.get?_push_of_some _ at0
        exact SetOf_congr ((setObjOf_fresh (knd := PySem.strKind P w) led).setOf at1 (by unfold scanBound; omega)) (fun _ => rfl) rfl
      · have hi : i < xs.length := by
          rw [← size]
          exact (Array.getElem?_eq_some_iff.mp hv).1
        obtain ⟨t, e⟩ := SS.strs_at txt i v (by rw [Array.getElem?_toList]; exact hv)
        refine ⟨xs[i], t, List.getElem?_eq_getElem hi, ?_⟩
        rw [e, List.getD_eq_getElem?_getD, List.getElem?_eq_getElem hi]
        rfl
      · obtain ⟨h', gn, dr, tk, os'⟩ := s'
        have eg : gn = s.gens := mv.gens
        have ed : dr = s.drawn := mv.drawn
        have eo : os' = s.os := mv.os
        subst eg ed eo
        refine wpAny_pure ?_
        show wpAny _ _ (ret Value.none) _ _ _
        refine wpAny_pure ⟨rfl, h', tk, rfl, held, fun b o e => ?_⟩
        have lt1 : b < s.heap.objs.size := Heap.lt_size e
        refine mv.heap b o (fun z => ?_) (Heap.get?_push_of_some _ (Heap.get?_push_of_some _ e))
        rcases List.mem_cons.mp z with z | z
        · exact absurd z (Nat.ne_of_lt lt1)
        · rw [List.mem_singleton.mp z, sz1] at lt1
          exact absurd (Nat.lt_trans lt1 (Nat.lt_succ_self _)) (by
            intro q
            have := Nat.lt_of_lt_of_le lt1 (Nat.le_refl _)
            omega)
    · rcases r₂ with e | fl₂
      · exact hr₂
      cases fl₂ with
      | ret r =>
        obtain ⟨rfl, h', tk, rfl, held, kept⟩ := hr₂
        repeat (any_goals (first | assumption | wp_step))
        exact h _ _ held kept
      | _ => exact hr₂.elim
  | _ => exact hr.elim
end
section
variable {X : Cx}
theorem texts_of : ∀ {xs : List Str} {us : List Value}, Vals (xs.map V.str) us → StrsAre us xs
  | [], _, .nil => .nil
  | x :: xs, _, .cons r t => by
    obtain ⟨k, rfl⟩ := r
    exact .cons x k (texts_of t)
/-- len(set(t)), t a tuple of texts -/
def tManyS (K : PySem.W.Frag) (ta : TE) : TE := fun σ H Q => ta σ H fun x H1 => ∃ (l : Addr) (xs : List Str), x = .ref l ∧ SqT K H1 l (xs.map V.str) ∧ xs.length ≤ 4000 ∧ Q (.int ((seen xs).length : Nat)) H1
theorem pe_manyS {a : Expr} {ta : TE} {p p2 q pos : Pos} (hg : Gl X "len") (hm : X.mg "len" = none) (hg2 : Gl X "set") (hm2 : X.mg "set" = none) (ha : PE X a ta) (hc : X.calm = true := by rfl)
    (na : starEach [a] X.env = (false, eval a X.env) :: starEach [] X.env := by rfl) : PE X (.Call (.Name "len" p) [.Call (.Name "set" p2) [a] [] q] [] pos) (tManyS X.K ta) := by
  refine ⟨fun pins s σ H Q I h => Call_ (ld_blt I hg hm boot_len (callWith_builtin1 (args_cons (Call_ (ld_blt I hg2 hm2 boot_set ?_)) rfl) rfl rfl))⟩
  refine callWith_type1 (args_cons (thn (ha.run pins s σ H _ I h) fun v s1 ⟨x, H1, I1, r1, q1⟩ => args_nil ?_) na) na rfl
  obtain ⟨l, xs, rfl, hq, hl, q1⟩ := q1
  cases r1
  obtain ⟨its, r, pl, hz⟩ := I1.tuple hq
  have few := seen_le xs
  refine set_of_texts (I1.ok.hd hc) pl (by simpa using texts_of r) (by unfold scanBound; omega) fun h' tk held kept => args_nil ?_
  obtain ⟨o, es, ep, t, ho, hex, hd, _, _, _, hf, hn⟩ := held
  exact call_len_set ho hex hd hf (by rw [hn]; omega) ⟨.int (seen xs).length, H1, (I1.kept kept).tok _, ⟨_, by rw [hn]⟩, q1⟩
end
end Nb

set_option Elab.async false
set_option maxRecDepth 100000
set_option maxHeartbeats 4000000
/-! Names and rows of names, as values. -/
namespace Nb
open PySem L2
def lowA : List Nat := ("a" : Str).cps.toList
def lowZ : List Nat := ("z" : Str).cps.toList
def letterOk (c : Nat) : Bool := !decide ([c] < lowA) && !decide (lowZ < [c])
def isNm (z : Str) : Bool := decide (1 ≤ (z.length : Int)) && decide ((z.length : Int) ≤ 8) && z.cps.toList.all letterOk
def nameV : V → Bool
  | .str z => isNm z
  | _ => false
/-- what is known of a value that may be a name -/
def Known (K : PySem.W.Frag) (H : Hp) (x : V) : Prop := (∃ z, x = .str z ∧ z.length ≤ 1000 ∧ PyData.strOk z = true) ∨ (∀ z, x ≠ .str z) ∧ ∃ T, TyX K H x (.type T) ∧ kitB T "str" = some false
def Item (K : PySem.W.Frag) (H : Hp) (x : V) : Prop := Known K H x ∧ ∃ d, Dp K H x d ∧ Fine 8 d
def tupOf (H : Hp) : V → Option (List V)
  | .ref a => match H a with
    | some (.tup xs) => some xs
    | some (.frz _ (.tup xs)) => some xs
    | _ => none
  | _ => none
def Thing (K : PySem.W.Frag) (H : Hp) (x : V) : Prop :=
  (∃ a xs, x = .ref a ∧ Rd H a (.tup xs) ∧ xs.length ≤ 1000 ∧ ∀ y ∈ xs, Item K H y) ∨ (∀ H', Same H H' → tupOf H' x = none) ∧ ∃ T, TyX K H x (.type T) ∧ kitB T "tuple" = some false
def strsOf (xs : List V) : List Str := xs.filterMap fun | .str z => some z | _ => none
def diffV (xs : List V) : Bool := xs.all nameV && decide (((seen (strsOf xs)).length : Int) = xs.length)
def namesV (H : Hp) (x : V) : Bool := match tupOf H x with
  | some xs => xs.all nameV
  | none => false
def diffOf (H : Hp) (x : V) : Bool := match tupOf H x with
  | some xs => diffV xs
  | none => false
def rowV (H : Hp) (x : V) : Bool := match tupOf H x with
  | some xs => diffV xs && decide ((xs.length : Int) ≤ 4)
  | none => false
theorem tupOf_at {H : Hp} {a : Addr} {xs : List V} (h : Rd H a (.tup xs)) : tupOf H (.ref a) = some xs := by
  show (match H a with | some (.tup xs) => some xs | some (.frz _ (.tup xs)) => some xs | _ => none) = some xs
  rcases h with h | ⟨o, h⟩
  · rw [h]
  · rw [h]
theorem rd_same {H H' : Hp} (s : Same H H') {a : Addr} {u : HO} (h : Rd H a u) : Rd H' a u := by
  rcases h with h | ⟨o, h⟩
  · exact .inl (s _ _ h)
  · exact .inr ⟨o, s _ _ h⟩
theorem rd_ty {K : PySem.W.Frag} {H : Hp} {a : Addr} {xs : List V} (h : Rd H a (.tup xs)) : TyX K H (.ref a) (.type "tuple") := by
  rcases h with h | ⟨o, h⟩
  · exact .base (.tup h)
  · exact .fTuple h
theorem strs_map : ∀ {xs : List V}, xs.all nameV = true → xs = (strsOf xs).map V.str
  | [], _ => rfl
  | x :: xs, h => by
    rw [List.all_cons, Bool.and_eq_true] at h
    have ih := strs_map h.2
    cases x with
    | str z =>
      show V.str z :: xs = V.str z :: (strsOf xs).map V.str
      rw [← ih]
    | _ => exact absurd h.1 (by simp [nameV])
theorem tyx_same {K : PySem.W.Frag} {H H' : Hp} (s : Same H H') {x : V} {t : Value} (h : TyX K H x t) : TyX K H' x t := by
  cases h with
  | base b =>
    refine .base ?_
    cases b with
    | non => exact .non
    | bl x => exact .bl x
    | int i => exact .int i
    | str x => exact .str x
    | flt x => exact .flt x
    | lst e => exact .lst (s _ _ e)
    | frz e => exact .frz (s _ _ e)
    | tup e => exact .tup (s _ _ e)
    | dK e => exact .dK (s _ _ e)
    | dT e => exact .dT (s _ _ e)
    | ins e cl ha hn htk hm => exact .ins (s _ _ e) cl ha hn htk hm
  | byt b => exact .byt b
  | set e => exact .set (s _ _ e)
  | kList e c => exact .kList e c
  | kTuple e c => exact .kTuple e c
  | kDict e c => exact .kDict e c
  | fTuple e => exact .fTuple (s _ _ e)
  | fDict e => exact .fDict (s _ _ e)
theorem known_same {K : PySem.W.Frag} {H H' : Hp} (s : Same H H') {x : V} (h : Known K H x) : Known K H' x := by
  rcases h with h | ⟨h1, T, h2, h3⟩
  · exact .inl h
  · exact .inr ⟨h1, T, tyx_same s h2, h3⟩
theorem item_same {K : PySem.W.Frag} {H H' : Hp} (s : Same H H') {x : V} (h : Item K H x) : Item K H' x :=
  ⟨known_same s h.1, let ⟨d, h1, h2⟩ := h.2; ⟨d, dp_same s d x h1, h2⟩⟩
theorem thing_same {K : PySem.W.Frag} {H H' : Hp} (s : Same H H') {x : V} (h : Thing K H x) : Thing K H' x := by
  rcases h with ⟨a, xs, h1, h2, h3, h4⟩ | ⟨h1, T, h2, h3⟩
  · exact .inl ⟨a, xs, h1, rd_same s h2, h3, fun y hy => item_same s (h4 y hy)⟩
  · exact .inr ⟨fun H2 s2 => h1 H2 (s.trans s2), T, tyx_same s h2, h3⟩
theorem thing_tup {K : PySem.W.Frag} {H H' : Hp} (s : Same H H') {x : V} (h : Thing K H x) : tupOf H' x = tupOf H x := by
  rcases h with ⟨a, xs, rfl, h2, h3, h4⟩ | ⟨h1, _⟩
  · rw [tupOf_at h2, tupOf_at (rd_same s h2)]
  · rw [h1 _ s, h1 _ (Same.refl H)]
theorem thing_row {K : PySem.W.Frag} {H H' : Hp} (s : Same H H') {x : V} (h : Thing K H x) : rowV H' x = rowV H x := by
  unfold rowV
  rw [thing_tup s h]
/-- a value that is no object -/
theorem thing_flat {K : PySem.W.Frag} {H : Hp} {x : V} (h : ∀ a, x ≠ .ref a) {T : String} (t : TyX K H x (.type T)) (k : kitB T "tuple" = some false) : Thing K H x := by
  refine .inr ⟨fun H' _ => ?_, T, t, k⟩
  cases x with
  | ref a => exact absurd rfl (h a)
  | _ => rfl
theorem thing_str {K : PySem.W.Frag} {H : Hp} (z : Str) : Thing K H (.str z) := thing_flat (fun a => by intro e; cases e) (.base (.str z)) (by decide +kernel)
theorem thing_lst {K : PySem.W.Frag} {H : Hp} {a : Addr} {xs : List V} (h : H a = some (.lst xs)) : Thing K H (.ref a) := by
  refine .inr ⟨fun H' s => ?_, "list", .base (.lst h), by decide +kernel⟩
  show (match H' a with | some (.tup xs) => some xs | some (.frz _ (.tup xs)) => some xs | _ => none) = none
  rw [s _ _ h]
theorem thing_dct {K : PySem.W.Frag} {H : Hp} {a : Addr} {xs : List (Key × V)} (h : H a = some (.dK xs)) : Thing K H (.ref a) := by
  refine .inr ⟨fun H' s => ?_, "dict", .base (.dK h), by decide +kernel⟩
  show (match H' a with | some (.tup xs) => some xs | some (.frz _ (.tup xs)) => some xs | _ => none) = none
  rw [s _ _ h]
theorem known_str {K : PySem.W.Frag} {H : Hp} {z : Str} (h : z.length ≤ 1000) (o : PyData.strOk z = true) : Known K H (.str z) := .inl ⟨z, rfl, h, o⟩
theorem known_non {K : PySem.W.Frag} {H : Hp} : Known K H .non := .inr ⟨(fun z e => by cases e), "NoneType", .base .non, by decide +kernel⟩
theorem known_int {K : PySem.W.Frag} {H : Hp} (i : Int) : Known K H (.int i) := .inr ⟨(fun z e => by cases e), "int", .base (.int i), by decide +kernel⟩
theorem known_bl {K : PySem.W.Frag} {H : Hp} (b : Bool) : Known K H (.bl b) := .inr ⟨(fun z e => by cases e), "bool", .base (.bl b), by decide +kernel⟩
theorem known_tup {K : PySem.W.Frag} {H : Hp} {a : Addr} {xs : List V} (h : H a = some (.tup xs)) : Known K H (.ref a) := .inr ⟨(fun z e => by cases e), "tuple", .base (.tup h), by decide +kernel⟩
theorem known_lst {K : PySem.W.Frag} {H : Hp} {a : Addr} {xs : List V} (h : H a = some (.lst xs)) : Known K H (.ref a) := .inr ⟨(fun z e => by cases e), "list", .base (.lst h), by decide +kernel⟩
theorem known_dct {K : PySem.W.Frag} {H : Hp} {a : Addr} {xs : List (Key × V)} (h : H a = some (.dK xs)) : Known K H (.ref a) := .inr ⟨(fun z e => by cases e), "dict", .base (.dK h), by decide +kernel⟩
theorem item_str {K : PySem.W.Frag} {H : Hp} {z : Str} (h : z.length ≤ 1000) (o : PyData.strOk z = true) : Item K H (.str z) := ⟨known_str h o, .str z, .str z, (fine_str o).mono (by decide)⟩
theorem item_non {K : PySem.W.Frag} {H : Hp} : Item K H .non := ⟨known_non, .none, .non, fine_non.mono (by decide)⟩
/-- a text that is short, its signs signs -/
def Word (z : Str) : Prop := z.length ≤ 1000 ∧ PyData.strOk z = true
theorem Word.item {K : PySem.W.Frag} {H : Hp} {z : Str} (h : Word z) : Item K H (.str z) := item_str h.1 h.2
theorem strOk_append {x y : Str} (h : PyData.strOk x = true) (k : PyData.strOk y = true) : PyData.strOk (x ++ y) = true := by
  unfold PyData.strOk at *
  rw [Array.all_eq_true_iff_forall_mem] at *
  intro c hc
  have hc2 : c ∈ x.cps ++ y.cps := hc
  rcases Array.mem_append.mp hc2 with z | z
  · exact h c z
  · exact k c z
theorem strOk_cut {x : Str} (h : PyData.strOk x = true) (lo hi : Option Int) : PyData.strOk (cutS x lo hi) = true := by
  unfold PyData.strOk at *
  rw [Array.all_eq_true_iff_forall_mem] at *
  intro c hc
  have hc2 : c ∈ ((x.cps.toList.drop (HT.sIx x.length 0 lo)).take (HT.sIx x.length x.length hi - HT.sIx x.length 0 lo)) := by
    have : c ∈ (cutS x lo hi).cps.toList := by simpa using hc
    simpa [cutS] using this
  have h3 : c ∈ x.cps.toList := List.mem_of_mem_drop (List.mem_of_mem_take hc2)
  exact h c (by simpa using h3)
/-- repr(b), b a bool -/
theorem cr_reprB {X : Cx} : CallR X (.builtin "repr") (fun xs H Q => ∃ b : Bool, xs = [.bl b] ∧ Q (.str (if b then "True" else "False")) H) := by
  intro pins s σ H xs us Q I r h
  obtain ⟨b, rfl, q⟩ := h
  obtain ⟨u, rfl, ru⟩ := vals1 r
  cases (show u = Value.bool b from ru)
  refine PySem.P.repr_of_bool ⟨.str _, H, I.tok _, ⟨_, rfl⟩, ?_⟩
  exact q
/-- a comprehension over a text, its elements read off the signs -/
theorem lc_str {x : Str} {g : TG} {tt : TT} {te : TE} {vs : List Nat} {σ : St} {H1 : Hp} {D : Addr} {Qd : Hp → Prop} (Pv : Nat → Hp → Prop) (h0 : Pv 0 (upd H1 D (.lst [])))
    (hs : ∀ i c H, x.cps.toList[i]? = some c → Pv i H → g (.str ⟨#[c]⟩) (wipe σ vs) H fun σ2 H2 => wipe σ2 vs = wipe σ vs ∧ tt σ2 H2 fun b H3 =>
      if b = true then te σ2 H3 fun y H4 => ∃ acc, H4 D = some (.lst acc) ∧ acc.length < sizeLine ∧ Pv (i + 1) (upd H4 D (.lst (acc ++ [y]))) else Pv (i + 1) H3) (hd : ∀ H, Pv x.cps.toList.length H → Qd H) :
    ∃ W : Nat → Nat → Hp → Prop, (∃ m, W 0 m (upd H1 D (.lst []))) ∧ ∀ i m H, W i m H →
      ((Its x).stop i H ∧ Qd H) ∨ ((Its x).go i H ∧ ∃ Nx : Hp → Prop, (∀ H', Nx H' → ∃ m', m' < m ∧ W (i + 1) m' H') ∧ ∀ y H', (Its x).yld i H y H' → g y (wipe σ vs) H' fun σ2 H2 => wipe σ2 vs = wipe σ vs ∧ tt σ2 H2 fun b H3 =>
        if b = true then te σ2 H3 fun y H4 => ∃ acc, H4 D = some (.lst acc) ∧ acc.length < sizeLine ∧ Nx (upd H4 D (.lst (acc ++ [y]))) else Nx H3) := by
  have sz : x.cps.toList.length = x.cps.size := Array.length_toList
  refine ⟨fun i m H => m + i = x.cps.size ∧ Pv i H, ⟨x.cps.size, by omega, h0⟩, fun i m H ⟨em, p⟩ => ?_⟩
  by_cases hlt : i < x.cps.size
  · refine .inr ⟨hlt, Pv (i + 1), fun H' p' => ⟨m - 1, by omega, by omega, p'⟩, fun y H' hy => ?_⟩
    obtain ⟨rfl, c, hc, rfl⟩ := hy
    exact hs i c _ (by rw [Array.getElem?_toList]; exact hc) p
  · have e : i = x.cps.toList.length := by omega
    subst e
    exact .inl ⟨by show x.cps.size ≤ _; omega, hd H p⟩
theorem all_filter {α : Type} (f : α → Bool) : ∀ xs : List α, (xs.filter fun x => !f x).isEmpty = xs.all f
  | [] => rfl
  | x :: xs => by
    rw [List.filter_cons, List.all_cons, ← all_filter f xs]
    cases f x <;> rfl
theorem dps {K : PySem.W.Frag} {H : Hp} : ∀ {xs : List V}, (∀ x ∈ xs, ∃ d, Dp K H x d ∧ Fine 8 d) → ∃ ds, DpAll K H xs ds ∧ (∀ d ∈ ds, Fine 8 d) ∧ ds.isEmpty = xs.isEmpty
  | [], _ => ⟨[], .nil, (fun _ h => by cases h), rfl⟩
  | x :: xs, h => by
    obtain ⟨d, h1, h2⟩ := h x (List.mem_cons_self ..)
    obtain ⟨ds, h3, h4, _⟩ := dps (xs := xs) fun y hy => h y (List.mem_cons_of_mem _ hy)
    exact ⟨d :: ds, .cons h1 h3, fun e he => by
      rcases List.mem_cons.mp he with rfl | he
      · exact h2
      · exact h4 e he, rfl⟩
/-- is_name's promise -/
def spName (K : PySem.W.Frag) : Sp := fun vs H Q _ => ∃ x, vs = [x] ∧ Known K H x ∧ ∀ H', Same H H' → Q (.bl (nameV x)) H'
def spOf (K : PySem.W.Frag) (f : Hp → V → Bool) : Sp := fun vs H Q _ => ∃ x, vs = [x] ∧ Thing K H x ∧ ∀ H', Same H H' → Q (.bl (f H x)) H'
/-- what is asked of the module's names -/
structure NamesTxt (mg : Str → Option Value) : Prop where
  len : mg "len" = none
  isi : mg "isinstance" = none
  str : mg "str" = none
  tup : mg "tuple" = none
  all : mg "all" = none
  set : mg "set" = none
end Nb

set_option Elab.async false
set_option maxRecDepth 100000
set_option maxHeartbeats 4000000
/-! enumerate(t), t a tuple. -/
namespace Nb
open PySem PySem.Spec PyProof.Rows L2
/-- the two cells of an enumerate over what begins -/
theorem enumerates {v : Value} {o : Obj} {G : Heap → Prop} (B : Begins v o G) :
    Meets (Builtin.«enumerate.__new__» ⟨[.type "enumerate", v], []⟩) (fun _ R s => G s.heap ∧
      R (.ok (.ret (.ref (s.heap.push o).objs.size))) { s with heap := (s.heap.push o).push { cls := .type "enumerate", data := .fields #[.none, .bool false, .ref s.heap.objs.size, rawInt 0, .none, .none] } }) :=
  .of_wp fun prog w A R s h => by
    obtain ⟨hp, g, d, tk, os⟩ := s
    obtain ⟨here, h⟩ := h
    have hsub := sub_enumerate
    have begin_ : ∀ {A' : Around} {E : Value → Shared → Prop} {Q : Value → Shared → Prop}, Q (.ref hp.objs.size) ⟨hp.push o, g, d, tk, os⟩ → wpAny (model prog w) A' (pyIter v) Q E ⟨hp, g, d, tk, os⟩ :=
      fun q => B.iter prog w _ _ ⟨hp, g, d, tk, os⟩ _ here q
    wp_walk using begin_
    refine wpAny_stack_any fun st => wpAny_pure ?_
    split
    case h_1 c _ _ _ _ _ =>
      cases (c == Value.type "enumerate") <;> (wp_walk using begin_; exact ⟨_, rfl, h⟩)
    case h_2 =>
      wp_walk using begin_
      exact ⟨_, rfl, h⟩
theorem enumerate_made {prog : Program} {w : World} {A : Around} {E : Value → Shared → Prop} {s : Shared} {v : Value} {o : Obj} {G : Heap → Prop} {Q : Value → Shared → Prop} (B : Begins v o G) (here : G s.heap)
    (h : ∀ h', IsEnum h' (s.heap.objs.size + 1) s.heap.objs.size 0 .none → h'.get? s.heap.objs.size = some o → (∀ b u, s.heap.get? b = some u → h'.get? b = some u) → Q (.ref (s.heap.objs.size + 1)) { s with heap := h' }) :
    wpAny (model prog w) A (call (.type "enumerate") [v]) Q E s := by
  refine callType_new F.called_enumerate (by decide) (F.typeCall_enumerate_1 _) (F.newCall_enumerate_1 _) (fun obj => F.args_object_init_2 obj _) F.entry_enumerate_new (enumerates B) ⟨here, ?_⟩
  have two : (s.heap.push o).objs.size = s.heap.objs.size + 1 := Heap.size_push ..
  show _ ∧ _
  rw [two]
  have made := Heap.get?_push_size (s.heap.push o) (o := { cls := .type "enumerate", data := .fields #[.none, .bool false, .ref s.heap.objs.size, rawInt 0, .none, .none] }) rfl
  rw [two] at made
  exact ⟨⟨_, made, rfl⟩, h _ made (Heap.get?_push_of_some _ (Heap.get?_push_size _ B.free)) fun b u x => Heap.get?_push_of_some _ (Heap.get?_push_of_some _ x)⟩
/-- the tuple at a, each item in a new pair with its index -/
def Itet (K : PySem.W.Frag) (a : Addr) : It :=
  ⟨fun i H => ∃ (xs : List V) (x : V), SqT K H a xs ∧ xs[i]? = some x, fun i H v H' => ∃ T x, v = .ref T ∧ H T = none ∧ H' = upd H T (.tup [.int (i : Nat), x]) ∧ ∀ xs, SqT K H a xs → xs[i]? = some x, fun i H => ∃ xs : List V, SqT K H a xs ∧ xs.length = i⟩
theorem turn_enumT {P : Program} {w : World} {K : PySem.W.Frag} {elts : List Expr} {kk : Nat} {tpos : Pos} (a e it : Addr) :
    Turn P w K (.Tuple elts kk tpos) (Itet K a) [e, it] e (fun i h => (∃ old, IsEnum h e it ((i : Nat) : Int) old) ∧ h.IsTupleIter it a i ∧ e ≠ it) where
  mem := by simp
  obj := fun i h st b hb => by
    obtain ⟨⟨old, he⟩, ⟨o, ho, _, hd⟩, _⟩ := st
    have z : b = e ∨ b = it := by simpa using hb
    rcases z with rfl | rfl
    · exact ⟨_, he, fun v q => nomatch q⟩
    · exact ⟨o, ho, fun v q => by rw [hd] at q; cases q⟩
  keep := fun i h h' ⟨⟨old, he⟩, hi, hne⟩ k => ⟨⟨old, k e (by simp) _ he⟩, hi.at fun o q => k it (by simp) o q, hne⟩
  item := by
    intro X hP hw hK hc i pins s σ H E I hf st hg
    subst hP hw hK
    obtain ⟨⟨old, he⟩, hit, hne⟩ := st
    obtain ⟨xs, x, hq, hx⟩ := hg
    obtain ⟨its, rv, tp, hz⟩ := I.tuple hq
    obtain ⟨u, hu, ru⟩ := rv.get hx
    have hel : e < s.heap.objs.size := Heap.lt_size he
    have hil : it < s.heap.objs.size := by
      obtain ⟨_, q, _⟩ := hit
      exact Heap.lt_size q
    have nta : a ≠ it := fun z => by
      obtain ⟨o1, e1, c1, _⟩ := hit
      obtain ⟨o2, e2, c2, _⟩ := tp
      rw [z, e1] at e2
      cases e2
      rw [c1] at c2
      injection c2 with c3
      exact absurd c3 (by decide)
    have nea : e ≠ a := fun z => by
      obtain ⟨o2, e2, c2, _⟩ := tp
      have e3 : s.heap.get? a = _ := z ▸ he
      rw [e3] at e2
      cases e2
      injection c2 with c3
      exact absurd c3 (by decide)
    have D := Draws.tuple (prog := X.prog) (w := X.w) (A := X.A.in1) (show X.A.in1.handled = none from I.ok.hd hc) it a nta its.toArray
    have sz : i < its.toArray.size := by
      have := (List.getElem?_eq_some_iff.mp hu).1
      simpa using this
    refine wpAny_pyNext_enum_itemD D he ⟨hit, tp⟩ sz hne (by simp [hne, nea]) fun y h' tk py ho st' hT hsz hk => ?_
    have ey : y = u := by
      have p2 : its.toArray[i]? = some u := by simpa using hu
      exact Option.some.inj (py.symm.trans p2)
    subst ey
    refine ⟨_, rfl, wpAny_letOwnedTupleGo_enum (s := { s with heap := h', toks := tk + 1 }) ho fun h'' he' sb => ?_⟩
    have hT2 : h''.get? s.heap.objs.size = some { cls := .type "tuple", data := .seq #[.int i tk, y] } := (sb.2 _ (Nat.ne_of_gt hel)).trans hT
    have new : ObjOk X.prog X.w (upd H s.heap.objs.size (.tup [.int (i : Nat), x])) h'' s.heap.objs.size (.tup [.int (i : Nat), x]) :=
      ⟨by show 2 ≤ sizeLine; decide, [.int i tk, y], .cons ⟨_, rfl⟩ (.cons ru .nil), ⟨_, hT2, rfl, _, rfl⟩⟩
    have I1 : Inv X pins σ (upd H s.heap.objs.size (.tup [.int (i : Nat), x])) { s with heap := h'', toks := tk + 1 } :=
      I.turnedNew (ch := [e, it]) (fun b ob hb q => (sb.2 b (fun z => hb (by simp [z]))).trans (hk b ob (fun z => hb (by simp [z])) (fun z => hb (by simp [z])) q)) hf (Nat.le_refl _) new
    refine ⟨.ref s.heap.objs.size, _, I1, rfl, ⟨_, x, rfl, I.hok.fresh (Nat.le_refl _), rfl, fun ys hy => by rw [I.tuple_inj hy hq]; exact hx⟩, ⟨⟨y, ?_⟩, st'.1.at fun o q => (sb.2 it (Ne.symm hne)).trans q, hne⟩, fun b hb => ?_⟩
    · have e1 : ((i + 1 : Nat) : Int) = (i : Int) + 1 := by omega
      rw [e1]
      exact he'
    · have hb' : b < s.heap.objs.size := by
        have z : b = e ∨ b = it := by simpa using hb
        rcases z with rfl | rfl
        · exact hel
        · exact hil
      rw [upd_ne (Nat.ne_of_lt hb')]
      exact (hf b hb).1
  done := by
    intro X hP hw hK hc i pins s σ H E I hf st hg
    subst hP hw hK
    obtain ⟨⟨old, he⟩, hit, hne⟩ := st
    obtain ⟨xs, hq, hx⟩ := hg
    obtain ⟨its, rv, tp, hz⟩ := I.tuple hq
    obtain ⟨f0, f1, f2, f3, f4, f5⟩ := hf it (by simp)
    have nta : a ≠ it := fun z => by
      obtain ⟨o1, e1, c1, _⟩ := hit
      obtain ⟨o2, e2, c2, _⟩ := tp
      rw [z, e1] at e2
      cases e2
      rw [c1] at c2
      injection c2 with c3
      exact absurd c3 (by decide)
    have sz : its.toArray.size = i := by
      have hl := rv.length
      rw [List.size_toArray, ← hl, hx]
    have D := Draws.tuple (prog := X.prog) (w := X.w) (A := X.A.in1) (show X.A.in1.handled = none from I.ok.hd hc) it a nta its.toArray
    refine wpAny_pyNext_enum_endD D he ⟨by rw [sz]; exact hit, tp⟩ fun h' eb => ⟨rfl, I.turned (t' := s.toks) (fun b o hb q => eb b o hb q) f0 f1 f3 f4 f5⟩
  self := fun A i s Q E st h => let ⟨⟨_, he⟩, _⟩ := st; wpAny_pyIter_enum he h
def iEnumT (K : PySem.W.Frag) (ta : TA) : TI := fun σ H R => ta σ H fun vs H1 => ∃ a xs, vs = [.ref a] ∧ SqT K H1 a xs ∧ R (Itet K a) H1
theorem pi_enumT {X : Cx} {e : Expr} {ta : TA} {p pos tpos : Pos} {elts : List Expr} {kk : Nat} (hg : Gl X "enumerate") (hm : X.mg "enumerate" = none) (ha : PA X [e] ta) (hs : starEach [e] X.env = [(false, eval e X.env)] := by rfl) :
    PI X (.Tuple elts kk tpos) (.Call (.Name "enumerate" p) [e] [] pos) (iEnumT X.K ta) := by
  refine ⟨fun pins s σ H R I h => Call_ (ld_blt I hg hm boot_enumerate (callWith_type1 (thn (ha.run pos pins s σ H _ I h) fun us s1 ⟨vs, H1, I1, r1, q1⟩ => ?_) hs rfl))⟩
  obtain ⟨a, xs, rfl, hq, q⟩ := q1
  cases r1 with
  | cons r rr =>
    cases rr
    cases r
    obtain ⟨its, rv, tp, hz⟩ := I1.tuple hq
    refine enumerate_made (begins_tuple a its.toArray) tp fun h' he hit hk => wpAny_pyIter_enum he ?_
    refine ⟨s1.heap.objs.size + 1, [s1.heap.objs.size + 1, s1.heap.objs.size], _, _, H1, rfl, I1.kept (t' := s1.toks) hk, turn_enumT a (s1.heap.objs.size + 1) s1.heap.objs.size, ⟨⟨.none, he⟩, ⟨_, hit, rfl, rfl⟩, Nat.succ_ne_self _⟩, fun b hb => ?_, q⟩
    have hle : s1.heap.objs.size ≤ b := by
      have z : b = s1.heap.objs.size + 1 ∨ b = s1.heap.objs.size := by simpa using hb
      rcases z with rfl | rfl
      · exact Nat.le_succ _
      · exact Nat.le_refl _
    have I2 : Inv X pins σ H1 { s1 with heap := h' } := I1.kept (t' := s1.toks) hk
    have old := I1.fpOk hle (I1.hok.fresh hle)
    exact old
theorem walk_enumT {K : PySem.W.Frag} {a : Addr} {xs : List V} : Walk (Itet K a) xs.length (fun H => SqT K H a xs) (YPair (fun i => some (.int (i : Nat))) (fun i => xs[i]?)) :=
  ⟨fun i H hi h => ⟨xs, xs[i], h, List.getElem?_eq_getElem hi⟩, fun H h => ⟨xs, h, rfl⟩, fun i H v H' hi h hy => by
    obtain ⟨T, x, e1, e2, e3, e4⟩ := hy
    exact ⟨T, .int (i : Nat), x, e1, e2, e3, rfl, e4 xs h⟩⟩
end Nb

set_option Elab.async false
set_option maxRecDepth 100000
set_option maxHeartbeats 4000000
/-! Data that stands in the heap, to a depth; rows of names. -/
namespace Nb
open PySem L2
mutual
/-- the value is this data: texts short, lists and tuples short, not deeper than n, no dict -/
inductive Td (H : Hp) : Nat → V → PyData → Prop
  | non {n} : Td H n .non .none
  | bl {n} (b : Bool) : Td H n (.bl b) (.bool b)
  | int {n} (i : Int) : Td H n (.int i) (.int i)
  | str {n} {z : Str} (h : Word z) : Td H n (.str z) (.str z)
  | lst {n} {a : Addr} {xs : List V} {ds : List PyData} (e : H a = some (.lst xs)) (l : xs.length ≤ 1000) (h : Tds H n xs ds) : Td H (n + 1) (.ref a) (.list ds)
  | tup {n} {a : Addr} {xs : List V} {ds : List PyData} (e : H a = some (.tup xs)) (l : xs.length ≤ 1000) (h : Tds H n xs ds) : Td H (n + 1) (.ref a) (.tuple ds)
inductive Tds (H : Hp) : Nat → List V → List PyData → Prop
  | nil {n} : Tds H n [] []
  | cons {n} {x : V} {d : PyData} {xs : List V} {ds : List PyData} (h : Td H n x d) (t : Tds H n xs ds) : Tds H n (x :: xs) (d :: ds)
end
section
variable {H H' : Hp}
mutual
theorem td_same (s : Same H H') : ∀ {n : Nat} {x : V} {d : PyData}, Td H n x d → Td H' n x d
  | _, _, _, .non => .non
  | _, _, _, .bl b => .bl b
  | _, _, _, .int i => .int i
  | _, _, _, .str h => .str h
  | _, _, _, .lst e l h => .lst (s _ _ e) l (tds_same s h)
  | _, _, _, .tup e l h => .tup (s _ _ e) l (tds_same s h)
theorem tds_same (s : Same H H') : ∀ {n : Nat} {xs : List V} {ds : List PyData}, Tds H n xs ds → Tds H' n xs ds
  | _, _, _, .nil => .nil
  | _, _, _, .cons h t => .cons (td_same s h) (tds_same s t)
end
mutual
theorem td_up : ∀ {n : Nat} {x : V} {d : PyData}, Td H n x d → Td H (n + 1) x d
  | _, _, _, .non => .non
  | _, _, _, .bl b => .bl b
  | _, _, _, .int i => .int i
  | _, _, _, .str h => .str h
  | _, _, _, .lst e l h => .lst e l (tds_up h)
  | _, _, _, .tup e l h => .tup e l (tds_up h)
theorem tds_up : ∀ {n : Nat} {xs : List V} {ds : List PyData}, Tds H n xs ds → Tds H (n + 1) xs ds
  | _, _, _, .nil => .nil
  | _, _, _, .cons h t => .cons (td_up h) (tds_up t)
end
mutual
theorem td_dp {K : PySem.W.Frag} : ∀ {n : Nat} {x : V} {d : PyData}, Td H n x d → Dp K H x d ∧ d.canLay0 = true ∧ d.depth ≤ n
  | _, _, _, .non => ⟨.non, by simp [PyData.canLay0], by simp [PyData.depth]⟩
  | _, _, _, .bl b => ⟨.bl b, by simp [PyData.canLay0], by simp [PyData.depth]⟩
  | _, _, _, .int i => ⟨.int i, by simp [PyData.canLay0], by simp [PyData.depth]⟩
  | _, _, _, .str h => ⟨.str _, by simpa [PyData.canLay0] using h.2, by simp [PyData.depth]⟩
  | _, _, _, .lst e l h => by
    have k := tds_dp (K := K) h
    exact ⟨.lst (SqL.of e) k.1, by simpa [PyData.canLay0] using k.2.1, by simpa [PyData.depth] using k.2.2⟩
  | _, _, _, .tup e l h => by
    have k := tds_dp (K := K) h
    exact ⟨.tup (SqT.of e) k.1, by simpa [PyData.canLay0] using k.2.1, by simpa [PyData.depth] using k.2.2⟩
theorem tds_dp {K : PySem.W.Frag} : ∀ {n : Nat} {xs : List V} {ds : List PyData}, Tds H n xs ds → DpAll K H xs ds ∧ PyData.canLayAll0 ds = true ∧ PyData.depthAll ds ≤ n
  | _, _, _, .nil => ⟨.nil, by simp [PyData.canLayAll0], by simp [PyData.depthAll]⟩
  | _, _, _, .cons h t => by
    have k := td_dp (K := K) h
    have j := tds_dp (K := K) t
    refine ⟨.cons k.1 j.1, by simp [PyData.canLayAll0, k.2.1, j.2.1], ?_⟩
    simp only [PyData.depthAll]
    exact Nat.max_le.mpr ⟨k.2.2, j.2.2⟩
end
theorem td_shaped {K : PySem.W.Frag} {n : Nat} {x : V} {d : PyData} (h : Td H n x d) (l : n ≤ 64) : SeqAt.shaped d = true := by
  have k := td_dp (K := K) h
  exact Fine.shaped (n := n) ⟨k.2.1, k.2.2⟩ l
theorem tds_len : ∀ {n : Nat} {xs : List V} {ds : List PyData}, Tds H n xs ds → xs.length = ds.length
  | _, _, _, .nil => rfl
  | _, _, _, .cons _ t => congrArg (· + 1) (tds_len t)
theorem tds_get : ∀ {n : Nat} {xs : List V} {ds : List PyData} {i : Nat} {x : V}, Tds H n xs ds → xs[i]? = some x → ∃ d, ds[i]? = some d ∧ Td H n x d
  | _, _, _, _, _, .nil, e => by simp at e
  | _, _, _, 0, _, .cons h t, e => by
    simp at e
    subst e
    exact ⟨_, rfl, h⟩
  | _, _, _, i + 1, _, .cons h t, e => by
    obtain ⟨d, e1, e2⟩ := tds_get (i := i) t (by simpa using e)
    exact ⟨d, by simpa using e1, e2⟩
theorem tds_app : ∀ {n : Nat} {xs ys : List V} {ds es : List PyData}, Tds H n xs ds → Tds H n ys es → Tds H n (xs ++ ys) (ds ++ es)
  | _, _, _, _, _, .nil, k => k
  | _, _, _, _, _, .cons h t, k => .cons h (tds_app t k)
theorem tds_take : ∀ {n : Nat} {xs : List V} {ds : List PyData} (i : Nat), Tds H n xs ds → Tds H n (xs.take i) (ds.take i)
  | _, _, _, 0, _ => .nil
  | _, _, _, i + 1, .nil => .nil
  | _, _, _, i + 1, .cons h t => .cons h (tds_take i t)
theorem tds_drop : ∀ {n : Nat} {xs : List V} {ds : List PyData} (i : Nat), Tds H n xs ds → Tds H n (xs.drop i) (ds.drop i)
  | _, _, _, 0, t => t
  | _, _, _, i + 1, .nil => .nil
  | _, _, _, i + 1, .cons _ t => tds_drop i t
theorem tds_rev : ∀ {n : Nat} {xs : List V} {ds : List PyData}, Tds H n xs ds → Tds H n xs.reverse ds.reverse
  | _, _, _, .nil => .nil
  | _, _, _, .cons h t => by
    rw [List.reverse_cons, List.reverse_cons]
    exact tds_app (tds_rev t) (.cons h .nil)
/-- some data for each -/
theorem tds_ex : ∀ {n : Nat} {xs : List V}, (∀ x ∈ xs, ∃ d, Td H n x d) → ∃ ds, Tds H n xs ds
  | _, [], _ => ⟨[], .nil⟩
  | n, x :: xs, h => by
    obtain ⟨d, k⟩ := h x (List.mem_cons_self ..)
    obtain ⟨ds, j⟩ := tds_ex (n := n) (xs := xs) fun y hy => h y (List.mem_cons_of_mem _ hy)
    exact ⟨d :: ds, .cons k j⟩
theorem tds_mem : ∀ {n : Nat} {xs : List V} {ds : List PyData} {x : V}, Tds H n xs ds → x ∈ xs → ∃ d, d ∈ ds ∧ Td H n x d
  | _, _, _, _, .nil, e => by cases e
  | _, _, _, _, .cons h t, e => by
    rcases List.mem_cons.mp e with rfl | e
    · exact ⟨_, List.mem_cons_self .., h⟩
    · obtain ⟨d, e1, e2⟩ := tds_mem t e
      exact ⟨d, List.mem_cons_of_mem _ e1, e2⟩
theorem td_ty {K : PySem.W.Frag} : ∀ {n : Nat} {x : V} {d : PyData}, Td H n x d → TyX K H x (.type (match d with | .none => "NoneType" | .bool _ => "bool" | .int _ => "int" | .str _ => "str" | .list _ => "list" | .tuple _ => "tuple" | .dict _ => "dict"))
  | _, _, _, .non => .base .non
  | _, _, _, .bl b => .base (.bl b)
  | _, _, _, .int i => .base (.int i)
  | _, _, _, .str (z := z) h => .base (.str z)
  | _, _, _, .lst e l h => .base (.lst e)
  | _, _, _, .tup e l h => .base (.tup e)
theorem td_known {K : PySem.W.Frag} : ∀ {n : Nat} {x : V} {d : PyData}, Td H n x d → Known K H x
  | _, _, _, .non => known_non
  | _, _, _, .bl b => known_bl b
  | _, _, _, .int i => known_int i
  | _, _, _, .str h => known_str h.1 h.2
  | _, _, _, .lst e l h => known_lst e
  | _, _, _, .tup e l h => known_tup e
end
/-- in, a tuple of data -/
def rInT (K : PySem.W.Frag) : R2 := fun x y H Q => ∃ d ds, Dp K H x d ∧ Dp K H y (.tuple ds) ∧ SeqAt.shaped d = true ∧ SeqAt.shaped (.tuple ds) = true ∧ Q (.bl (ds.any fun z => PyData.eqv z d)) H
theorem op_inT {X : Cx} (hu : X.A.units + 65 < cLine) : OpR X (compareOp .In) (rInT X.K) := by
  intro pins s σ H x y v u Q I rx ry h
  obtain ⟨d, ds, hd, he, sd, se, q⟩ := h
  obtain ⟨as, r1⟩ := Dp.reads I d x v hd rx
  obtain ⟨bs, r2⟩ := Dp.reads I (.tuple ds) y u he ry
  have l1 := SeqAt.canLay_of_shaped se
  have d1 := SeqAt.depth_of_shaped sd
  refine SeqAt.in_tuple_reads r2 r1 (by simpa [PyData.canLay0] using l1) (SeqAt.canLay_of_shaped sd) ?_ ⟨.bl _, H, I, rfl, q⟩
  have := Nat.min_le_right (PyData.depthAll ds) d.depth
  omega
/-! ### rows of names -/
def GoodRow (row : List Str) : Prop := row.Nodup ∧ (∀ z ∈ row, isNm z = true ∧ Word z) ∧ row.length ≤ 8
def RowsAt (H : Hp) (r : Addr) (rows : List (List Str)) : Prop := ∃ as : List Addr, H r = some (.tup (as.map V.ref)) ∧ as.length = rows.length ∧ ∀ (k : Nat) (a : Addr) (row : List Str), as[k]? = some a → rows[k]? = some row → Rd H a (.tup (row.map V.str))
theorem rows_same {H H' : Hp} {r : Addr} {rows : List (List Str)} (s : Same H H') (h : RowsAt H r rows) : RowsAt H' r rows :=
  let ⟨as, h1, h2, h3⟩ := h; ⟨as, s _ _ h1, h2, fun k a row e1 e2 => rd_same s (h3 k a row e1 e2)⟩
theorem strsOf_map : ∀ l : List Str, strsOf (l.map V.str) = l
  | [] => rfl
  | x :: l => by
    show x :: strsOf (l.map V.str) = x :: l
    rw [strsOf_map l]
theorem seen_nodup : ∀ (l acc : List Str), (acc ++ l).Nodup → l.foldl grow acc = acc ++ l
  | [], acc, _ => by simp
  | x :: l, acc, h => by
    have hx : acc.any (· == x) = false := by
      cases e : acc.any (· == x) with
      | false => rfl
      | true =>
        obtain ⟨y, hy, ey⟩ := List.any_eq_true.mp e
        have ey2 : y = x := eq_of_beq ey
        subst ey2
        have h2 := (List.nodup_append.mp h).2.2 y hy y (List.mem_cons_self ..)
        exact absurd rfl h2
    have g : grow acc x = acc ++ [x] := by
      unfold grow
      rw [hx]
      rfl
    show l.foldl grow (grow acc x) = acc ++ x :: l
    rw [g, seen_nodup l (acc ++ [x]) (by simpa using h)]
    simp
theorem good_diff {row : List Str} (h : GoodRow row) : diffV (row.map V.str) = true := by
  unfold diffV
  have h1 : (row.map V.str).all nameV = true := by
    rw [List.all_map, List.all_eq_true]
    intro z hz
    exact (h.2.1 z hz).1
  have h2 : seen row = row := by
    have := seen_nodup row [] (by simpa using h.1)
    simpa [seen] using this
  rw [h1, strsOf_map, h2]
  simp
theorem good_thing {K : PySem.W.Frag} {H : Hp} {a : Addr} {row : List Str} (h : GoodRow row) (e : Rd H a (.tup (row.map V.str))) : Thing K H (.ref a) :=
  .inl ⟨a, _, rfl, e, by rw [List.length_map]; exact Nat.le_trans h.2.2 (by decide), fun y hy => by
    obtain ⟨z, hz, rfl⟩ := List.mem_map.mp hy
    exact (h.2.1 z hz).2.item⟩
/-! ### clashes, as data -/
/-- the place of a name in a row -/
def place (row : List Str) (d : PyData) : Option Nat := match d with
  | .str x => row.findIdx? (· == x)
  | _ => none
def nmD : PyData → Bool
  | .str x => isNm x
  | _ => false
def ixD (n : Nat) : PyData → Bool
  | .int i => decide (0 ≤ i) && decide (i < n)
  | _ => false
def before (row : List Str) (a b : PyData) : Bool := match place row a, place row b with
  | some i, some j => decide (i < j)
  | _, _ => false
theorem before_str (row : List Str) (x y : Str) : before row (.str x) (.str y) = match row.findIdx? (· == x), row.findIdx? (· == y) with
  | some i, some j => decide (i < j)
  | _, _ => false := rfl
def stepD (rows : List (List Str)) : PyData → Bool
  | .tuple [a, b, .int i] => ixD rows.length (.int i) && before (rows.getD i.toNat []) a b
  | _ => false
def sndD : PyData → PyData
  | .tuple [_, b, _] => b
  | _ => .none
def fstD : PyData → PyData
  | .tuple [a, _, _] => a
  | _ => .none
def strD : PyData → Str
  | .str x => x
  | _ => Str.empty
/-- each step begins where the one ahead of it ends, the first one where the last one ends -/
def ringP (ds : List PyData) (j : Nat) : Bool := decide (strD (sndD (ds.getD (if j = 0 then ds.length - 1 else j - 1) .none)) = strD (fstD (ds.getD j .none)))
def ringD (ds : List PyData) : Bool := (List.range ds.length).all (ringP ds)
def clashD (rows : List (List Str)) : PyData → Bool
  | .tuple ds => decide (2 ≤ ds.length) && ds.all (stepD rows) && ringD ds
  | _ => false
theorem clash_tup (rows : List (List Str)) (ds : List PyData) : clashD rows (.tuple ds) = (decide (2 ≤ ds.length) && ds.all (stepD rows) && ringD ds) := rfl
/-- a step that fits is three values -/
theorem step_form {rows : List (List Str)} {H : Hp} {n : Nat} {v : V} {d : PyData} (h : stepD rows d = true) (t : Td H n v d) : ∃ b x y k, v = .ref b ∧ d = .tuple [.str x, .str y, .int k] ∧ H b = some (.tup [.str x, .str y, .int k]) := by
  cases t with
  | tup e l ts =>
    rename_i m a xs ds
    match ds, h with
    | [d1, d2, .int k], h =>
      cases ts with
      | cons k1 ts => cases ts with
        | cons k2 ts => cases ts with
          | cons k3 ts =>
            cases ts
            have hb : before (rows.getD k.toNat []) d1 d2 = true := (Bool.and_eq_true_iff.mp h).2
            cases k3
            cases k1 with
            | str w1 => cases k2 with
              | str w2 => exact ⟨_, _, _, _, rfl, rfl, e⟩
              | _ => simp [before, place] at hb
            | _ => simp [before, place] at hb
  | _ => cases h
/-- a dict comprehension over what walks -/
theorem dc_it {J : It} {n : Nat} {G : Hp → Prop} {Y : Nat → Hp → V → Hp → Prop} (w : Walk J n G Y) {g : TG} {tt : TT} {tk tv : TE} {vs : List Nat} {σ : St} {H1 : Hp} {D : Addr} {Qd : Hp → Prop} (Pv : Nat → Hp → Prop) (h0 : Pv 0 (upd H1 D (.dK []))) (hG : ∀ i H, i ≤ n → Pv i H → G H)
    (hs : ∀ i x H H', i < n → Pv i H → Y i H x H' → g x (wipe σ vs) H' fun σ2 H2 => wipe σ2 vs = wipe σ vs ∧ tt σ2 H2 fun b H3 =>
      if b = true then tk σ2 H3 fun y H4 => tv σ2 H4 fun z H5 => ∃ kvs k, y = kV k ∧ H5 D = some (.dK kvs) ∧ kvs.length < sizeLine ∧ Pv (i + 1) (upd H5 D (.dK (putK kvs k z))) else Pv (i + 1) H3) (hd : ∀ H, Pv n H → Qd H) :
    ∃ W : Nat → Nat → Hp → Prop, (∃ m, W 0 m (upd H1 D (.dK []))) ∧ ∀ i m H, W i m H →
      (J.stop i H ∧ Qd H) ∨ (J.go i H ∧ ∃ Nx : Hp → Prop, (∀ H', Nx H' → ∃ m', m' < m ∧ W (i + 1) m' H') ∧ ∀ x H', J.yld i H x H' → g x (wipe σ vs) H' fun σ2 H2 => wipe σ2 vs = wipe σ vs ∧ tt σ2 H2 fun b H3 =>
        if b = true then tk σ2 H3 fun y H4 => tv σ2 H4 fun z H5 => ∃ kvs k, y = kV k ∧ H5 D = some (.dK kvs) ∧ kvs.length < sizeLine ∧ Nx (upd H5 D (.dK (putK kvs k z))) else Nx H3) := by
  refine ⟨fun i m H => m + i = n ∧ Pv i H, ⟨n, rfl, h0⟩, fun i m H ⟨em, p⟩ => ?_⟩
  by_cases hlt : i < n
  · exact .inr ⟨w.goes i H hlt (hG i H (Nat.le_of_lt hlt) p), Pv (i + 1), fun H' p' => ⟨m - 1, by omega, by omega, p'⟩, fun x H' y => hs i x H H' hlt p (w.yields i H x H' hlt (hG i H (Nat.le_of_lt hlt) p) y)⟩
  · have e : i = n := by omega
    subst e
    exact .inl ⟨w.stops H (hG _ H (Nat.le_refl _) p), hd H p⟩
end Nb

set_option Elab.async false
set_option maxRecDepth 100000
set_option maxHeartbeats 4000000
namespace Nb
open PySem L2
theorem src_at {H : Hp} {p D : Addr} {o : HO} {b : Nat} (S : Src H p b) (n : p ≠ D) : Src (upd H D o) p b := by
  obtain ⟨c, m, r, e, k⟩ := S
  exact ⟨c, m, r, by rw [upd_ne n]; exact e, k⟩
theorem src_fresh {H : Hp} {p D : Addr} {b : Nat} (S : Src H p b) (h : H D = none) : D ≠ p := fun z => by
  obtain ⟨u, e⟩ := S.some
  rw [← z, h] at e
  cases e
/-- tuple + tuple, whichever of the two is empty -/
theorem cat_tup {K : PySem.W.Frag} {H : Hp} {a b : Addr} {xs ys : List V} {Q : VK} (ha : SqT K H a xs) (hb : H b = some (.tup ys)) (hy : ys ≠ []) (hl : xs.length + ys.length ≤ sizeLine)
    (h : ∀ p H', Same H H' → (∀ c, H c ≠ none → H' c = H c) → H' p = some (.tup (xs ++ ys)) → Q (.ref p) H') : rCatA K (.ref a) (.ref b) H Q := by
  refine ⟨a, b, xs, ys, rfl, rfl, ha, SqT.of hb, hl, fun e => ?_, fun _ e => absurd e hy, fun _ _ p hp => ?_⟩
  · subst e
    exact h b H (Same.refl H) (fun _ _ => rfl) hb
  · exact h p _ (same_new hp) (fun c hc => upd_ne (fun z => hc (z ▸ hp))) upd_same
theorem cut_mem {xs : List V} {lo hi : Option Int} {y : V} (h : y ∈ cutV xs lo hi) : y ∈ xs := List.mem_of_mem_drop (List.mem_of_mem_take h)
theorem map_item {K : PySem.W.Frag} {H : Hp} {ys : List Str} (h : ∀ z ∈ ys, Word z) : ∀ y ∈ ys.map V.str, Item K H y := fun y hy => by
  obtain ⟨z, hz, rfl⟩ := List.mem_map.mp hy
  exact (h z hz).item
/-- the law's promise -/
def spLaw (K : PySem.W.Frag) : Sp := fun vs H Q _ => ∃ (a : Addr) (ns : List Int), vs = [.ref a] ∧ SqL K H a (ns.map V.int) ∧ ns.length ≤ 63 ∧ ∀ H', Q (.bl true) H'
end Nb

set_option Elab.async false
set_option maxRecDepth 100000
set_option maxHeartbeats 4000000
/-! A tuple that tuple(..) makes, known to its object; t.index of such. -/
namespace Nb
open PySem PySem.Spec PyProof.Rows L2
/-- a tuple as it is made: no dict -/
def TupObj (o : Obj) : Prop := o.cls = .type "tuple" ∧ o.dict = none
theorem cr_tupleF {X : Cx} : CallR X (.type "tuple") (fun xs H Q => ∃ p ys, xs = [.ref p] ∧ SqL X.K H p ys ∧ ∀ l o, H l = none → TupObj o → Q (.ref l) (upd H l (.frz o (.tup ys)))) := by
  intro pins s σ H xs us Q I r h
  obtain ⟨p, ys, rfl, hq, q⟩ := h
  obtain ⟨u, rfl, rx⟩ := vals1 r
  cases rx
  obtain ⟨its, r', pl, hz⟩ := I.list hq
  have len := r'.length
  refine call_tuple_list pl.isList (fun h' kp => ?_) (by simp only [List.size_toArray]; omega)
  have I1 : Inv X pins σ H { s with heap := h' } := I.kept (t' := s.toks) kp
  have made : (h'.push { cls := .type "tuple", data := .seq its.toArray }).get? h'.objs.size = some { cls := .type "tuple", data := .seq its.toArray } := Heap.get?_push_size _ rfl
  have I2 : Inv X pins σ (upd H h'.objs.size (.frz { cls := .type "tuple", data := .seq its.toArray } (.tup ys))) { s with heap := h'.push { cls := .type "tuple", data := .seq its.toArray } } :=
    I1.laid (t' := s.toks) (fun b o e => Heap.get?_push_of_some _ e) (Nat.le_refl _) ⟨made, hz, its, r', IsTup.new _ _⟩
  exact ⟨.ref h'.objs.size, _, I2, rfl, q _ _ (I1.hok.fresh (Nat.le_refl _)) ⟨rfl, rfl⟩⟩
/-- t.index(e), t such a tuple of texts -/
def tTupIx (to : TE) (t : TA) : TE := fun σ H Q => to σ H fun x H1 => ∃ (p : Addr) (o : Obj) (ys : List Str), x = .ref p ∧ H1 p = some (.frz o (.tup (ys.map V.str))) ∧ TupObj o ∧ t σ H1 fun vs H2 =>
  ∃ (z : Str) (j : Nat), vs = [.str z] ∧ H2 p = some (.frz o (.tup (ys.map V.str))) ∧ ys[j]? = some z ∧ (∀ m, m < j → ys[m]? ≠ some z) ∧ Q (.int (j : Nat)) H2
theorem pe_tupIx {X : Cx} {o e : Expr} {to : TE} {t : TA} {apos cpos : Pos} (ho : PE X o to) (ha : PA X (e :: []) t)
    (hbase : attributeBase o "index" X.env (eval o X.env) = eval o X.env := by rfl)
    (hfew : ((backTo cpos (starEach (e :: []) X.env)).all (fun x => !x.1) && (backToKw cpos (keywordEach [] X.env)).all (fun x => x.1.isSome)
      && decide ((e :: ([] : List Expr)).length + ([] : List Keyword).length + (if ([] : List Keyword).isEmpty then 0 else 1) < 30)) = true := by rfl)
    (hline : (apos.endLine == cpos.line) = true := by rfl) (hs : starEach (e :: []) X.env = (false, eval e X.env) :: starEach [] X.env := by rfl) (hplain : (backTo cpos (starEach [] X.env)).any (·.1) = false := by rfl) :
    PE X (.Call (.Attribute o "index" apos) (e :: []) [] cpos) (tTupIx to t) := by
  refine ⟨fun pins s σ H Q I h => ?_⟩
  refine wpAny_Call_method_late hbase hfew hline rfl (thn (ho.run pins s σ H _ I h) fun v s1 ⟨x, H1, I1, r1, p, ob, ys, ex, ep, to', q1⟩ => ?_)
  subst ex
  cases r1
  obtain ⟨hget, _⟩ := (show ObjOk X.prog X.w H1 s1.heap p (.frz ob (.tup (ys.map V.str))) from I1.hok p _ ep)
  refine ⟨"tuple", "tuple.index", PySem.F.plainAttrs_tuple, PySem.F.slot_tuple_index, PySem.F.type_tuple_index, ⟨ob, hget, to'.1⟩, fun a e2 => by
    cases e2
    exact ⟨ob, hget, to'.2⟩, ?_⟩
  have hA := ha.run cpos pins s1 σ H1 _ I1 q1
  rw [hs] at hA ⊢
  refine Calls.callWith_builtin (by show (false || (backTo cpos (starEach [] X.env)).any (·.1)) = false; rw [hplain]; rfl) (Calls.evalArgs_plain ?_)
  exact thn hA fun us s2 ⟨vs, H2, I2, r2, z, j, ev, ep2, hy, hno, q⟩ => mt_tup_index pins s2 σ H2 (.ref p) vs (.ref p) us Q I2 rfl r2 ⟨p, ys, z, j, rfl, ev, .inl (.inr ⟨ob, ep2⟩), hy, hno, q⟩
end Nb

set_option Elab.async false
set_option maxRecDepth 100000
set_option maxHeartbeats 4000000
/-! Data in the heap, cut and added; data beside the source of numbers; methods, as data. -/
namespace Nb
open PySem L2
theorem noPart {σ : St} {H : Hp} {Q : Option Int → Hp → Prop} (h : Q none H) : tNoPart σ H Q := h
theorem cut_whole {xs : List V} {lo hi : Option Int} (h : HT.sIx xs.length 0 lo = 0 ∧ HT.sIx xs.length xs.length hi = xs.length) : cutV xs lo hi = xs := by
  unfold cutV
  rw [h.1, h.2]
  simp
theorem cutS_tup {K : PySem.W.Frag} {H : Hp} {a : Addr} {xs : List V} {lo hi : Option Int} {Q : VK} (ha : SqT K H a xs) (h : ∀ p H', Same H H' → SqT K H' p (cutV xs lo hi) → Q (.ref p) H') : rSlA K (.ref a) lo hi H Q :=
  ⟨a, xs, rfl, ha, fun w => h a H (Same.refl H) (by rw [cut_whole w]; exact ha), fun _ p hp => h p _ (same_new hp) (SqT.of upd_same)⟩
theorem cutT_tup {K : PySem.W.Frag} {H : Hp} {a : Addr} {xs : List V} {lo hi : Option Int} {Q : VK} (ha : H a = some (.tup xs)) (h : ∀ p H', Same H H' → H' p = some (.tup (cutV xs lo hi)) → Q (.ref p) H') : rSlA K (.ref a) lo hi H Q :=
  ⟨a, xs, rfl, SqT.of ha, fun w => h a H (Same.refl H) (by rw [cut_whole w]; exact ha), fun _ p hp => h p _ (same_new hp) upd_same⟩
theorem catT_tup {K : PySem.W.Frag} {H : Hp} {a b : Addr} {xs ys : List V} {Q : VK} (ha : H a = some (.tup xs)) (hb : H b = some (.tup ys)) (hl : xs.length + ys.length ≤ 2000) (h : ∀ p H', Same H H' → H' p = some (.tup (xs ++ ys)) → Q (.ref p) H') : rCatA K (.ref a) (.ref b) H Q := by
  refine ⟨a, b, xs, ys, rfl, rfl, SqT.of ha, SqT.of hb, Nat.le_trans hl (by decide), fun e => ?_, fun _ e => ?_, fun _ _ p hp => h p _ (same_new hp) upd_same⟩
  · subst e
    exact h b H (Same.refl H) hb
  · subst e
    exact h a H (Same.refl H) (by rw [List.append_nil]; exact ha)
/-- all steps of the rows, as a new list -/
def Tq (H : Hp) (n : Nat) (v : V) : Prop := ∃ d, Td H n v d
theorem tq_same {H H' : Hp} (s : Same H H') {n : Nat} {v : V} (h : Tq H n v) : Tq H' n v := let ⟨d, k⟩ := h; ⟨d, td_same s k⟩
theorem tq_up {H : Hp} {n : Nat} {v : V} (h : Tq H n v) : Tq H (n + 1) v := let ⟨d, k⟩ := h; ⟨d, td_up k⟩
theorem tq_le {H : Hp} {v : V} {n : Nat} (h : Tq H n v) : ∀ k, Tq H (n + k) v
  | 0 => h
  | k + 1 => tq_up (tq_le h k)
theorem tq_tup {H : Hp} {n : Nat} {a : Addr} {xs : List V} (e : H a = some (.tup xs)) (l : xs.length ≤ 1000) (h : ∀ v ∈ xs, Tq H n v) : Tq H (n + 1) (.ref a) := let ⟨_, k⟩ := tds_ex h; ⟨_, .tup e l k⟩
theorem tq_lst {H : Hp} {n : Nat} {a : Addr} {xs : List V} (e : H a = some (.lst xs)) (l : xs.length ≤ 1000) (h : ∀ v ∈ xs, Tq H n v) : Tq H (n + 1) (.ref a) := let ⟨_, k⟩ := tds_ex h; ⟨_, .lst e l k⟩
theorem cut_sub (xs : List V) (lo hi : Option Int) : (cutV xs lo hi).Sublist xs := by
  unfold cutV
  exact (List.take_sublist _ _).trans (List.drop_sublist _ _)
theorem upd_of {H : Hp} {a : Addr} {o : HO} (h : H a = none) : (upd H a o) a = some o := upd_same
theorem eqv_nilT (ds : List PyData) : PyData.eqv (.tuple ds) (.tuple []) = ds.isEmpty := by
  cases ds <;> simp [PyData.eqv, PyData.eqvAll]
theorem del_tup {H : Hp} {p a : Addr} {b : Nat} {xs : List V} (S : Src H p b) (e : H a = some (.tup xs)) : del H p a = some (.tup xs) := by
  rw [del_ne (src_ne S e (fun xs z => by cases z))]
  exact e
theorem del_lstS {H : Hp} {p a : Addr} {b : Nat} {x : Str} {xs : List V} (S : Src H p b) (e : H a = some (.lst (.str x :: xs))) : del H p a = some (.lst (.str x :: xs)) := by
  have n : a ≠ p := fun z => by
    obtain ⟨c, m, r, e2, _⟩ := S
    rw [z, e2] at e
    cases e
  rw [del_ne n]
  exact e
theorem del_up {H H' : Hp} {p : Addr} (s : Same H H') : Same (del H p) (del H' p) := same_del (del_same.trans s) del_at
section
variable {H : Hp} {n : Nat} {a : Addr} {u v w x : V}
theorem tqS {z : Str} (h : Word z) : Tq H n (.str z) := ⟨_, .str h⟩
theorem tqI (i : Int) : Tq H n (.int i) := ⟨_, .int i⟩
theorem tqN : Tq H n .non := ⟨_, .non⟩
theorem tqB (b : Bool) : Tq H n (.bl b) := ⟨_, .bl b⟩
theorem tq0 (e : H a = some (.tup [])) : Tq H (n + 1) (.ref a) := ⟨_, .tup e (by decide) .nil⟩
theorem tq2 (e : H a = some (.tup [u, v])) (h1 : Tq H n u) (h2 : Tq H n v) : Tq H (n + 1) (.ref a) := let ⟨_, k1⟩ := h1; let ⟨_, k2⟩ := h2; ⟨_, .tup e (by show 2 ≤ 1000; decide) (.cons k1 (.cons k2 .nil))⟩
theorem tq3 (e : H a = some (.tup [u, v, w])) (h1 : Tq H n u) (h2 : Tq H n v) (h3 : Tq H n w) : Tq H (n + 1) (.ref a) := let ⟨_, k1⟩ := h1; let ⟨_, k2⟩ := h2; let ⟨_, k3⟩ := h3; ⟨_, .tup e (by show 3 ≤ 1000; decide) (.cons k1 (.cons k2 (.cons k3 .nil)))⟩
theorem tq4 (e : H a = some (.tup [u, v, w, x])) (h1 : Tq H n u) (h2 : Tq H n v) (h3 : Tq H n w) (h4 : Tq H n x) : Tq H (n + 1) (.ref a) := let ⟨_, k1⟩ := h1; let ⟨_, k2⟩ := h2; let ⟨_, k3⟩ := h3; let ⟨_, k4⟩ := h4; ⟨_, .tup e (by show 4 ≤ 1000; decide) (.cons k1 (.cons k2 (.cons k3 (.cons k4 .nil))))⟩
theorem tl1 (e : H a = some (.lst [u])) (h1 : Tq H n u) : Tq H (n + 1) (.ref a) := let ⟨_, k1⟩ := h1; ⟨_, .lst e (by show 1 ≤ 1000; decide) (.cons k1 .nil)⟩
theorem tl3 (e : H a = some (.lst [u, v, w])) (h1 : Tq H n u) (h2 : Tq H n v) (h3 : Tq H n w) : Tq H (n + 1) (.ref a) := let ⟨_, k1⟩ := h1; let ⟨_, k2⟩ := h2; let ⟨_, k3⟩ := h3; ⟨_, .lst e (by show 3 ≤ 1000; decide) (.cons k1 (.cons k2 (.cons k3 .nil)))⟩
end
theorem td_mono {H : Hp} {n : Nat} {x : V} {d : PyData} (h : Td H n x d) : ∀ k, Td H (n + k) x d
  | 0 => h
  | k + 1 => td_up (td_mono h k)
theorem tds_items {K : PySem.W.Frag} {H : Hp} : ∀ {n : Nat} {xs : List V} {ds : List PyData}, n ≤ 8 → Tds H n xs ds → ∀ y ∈ xs, Item K H y
  | _, _, _, _, .nil, _, hy => by cases hy
  | n, _, _, l, .cons h t, y, hy => by
    rcases List.mem_cons.mp hy with rfl | hy
    · have k := td_dp (K := K) h
      exact ⟨td_known h, _, k.1, k.2.1, Nat.le_trans k.2.2 l⟩
    · exact tds_items l t y hy
theorem td_thing {K : PySem.W.Frag} {H : Hp} {n : Nat} {x : V} {d : PyData} (l : n ≤ 8) (h : Td H n x d) : Thing K H x := by
  cases h with
  | non => exact thing_flat (fun a e => by cases e) (.base .non) (by decide +kernel)
  | bl b => exact thing_flat (fun a e => by cases e) (.base (.bl b)) (by decide +kernel)
  | int i => exact thing_flat (fun a e => by cases e) (.base (.int i)) (by decide +kernel)
  | str h => exact thing_str _
  | lst e _ _ => exact thing_lst e
  | tup e le ts => exact .inl ⟨_, _, rfl, .inl e, le, tds_items (by omega) ts⟩
/-! methods -/
def strsD (ds : List PyData) : List Str := ds.filterMap fun | .str z => some z | _ => none
def rowD : PyData → Bool
  | .tuple ds => ds.all nmD && decide (((seen (strsD ds)).length : Int) = ds.length) && decide ((ds.length : Int) ≤ 4)
  | _ => false
def wordsD : PyData → Bool
  | .tuple ds => ds.all nmD && decide ((ds.length : Int) ≤ 4)
  | _ => false
def nilD : PyData → Bool
  | .tuple [] => true
  | _ => false
def methD : PyData → Bool
  | .tuple [t, b, .none, a] => rowD t && wordsD b && wordsD a && nilD a
  | .tuple [t, b, p, a] => rowD t && wordsD b && wordsD a && rowD p
  | _ => false
theorem td_nm {H : Hp} {n : Nat} {x : V} {d : PyData} (h : Td H n x d) : nameV x = nmD d := by
  cases h <;> rfl
theorem tds_nms {H : Hp} : ∀ {n : Nat} {xs : List V} {ds : List PyData}, Tds H n xs ds → xs.all nameV = ds.all nmD ∧ strsOf xs = strsD ds
  | _, _, _, .nil => ⟨rfl, rfl⟩
  | _, _, _, .cons (x := x) (d := d) h t => by
    obtain ⟨i1, i2⟩ := tds_nms t
    refine ⟨by rw [List.all_cons, List.all_cons, i1, td_nm h], ?_⟩
    cases h <;> simp [strsOf, strsD] at i2 ⊢ <;> exact i2
theorem tupOf_lst {H : Hp} {a : Addr} {xs : List V} (h : H a = some (.lst xs)) : tupOf H (.ref a) = none := by
  show (match H a with | some (.tup xs) => some xs | some (.frz _ (.tup xs)) => some xs | _ => none) = none
  rw [h]
def namesD : PyData → Bool
  | .tuple ds => ds.all nmD
  | _ => false
theorem td_row {H : Hp} {n : Nat} {x : V} {d : PyData} (h : Td H n x d) : rowV H x = rowD d := by
  cases h with
  | tup e l ts =>
    unfold rowV
    rw [tupOf_at (.inl e)]
    obtain ⟨i1, i2⟩ := tds_nms ts
    show (diffV _ && _) = _
    unfold diffV
    rw [i1, i2, tds_len ts]
    rfl
  | lst e l ts =>
    unfold rowV
    rw [tupOf_lst e]
    rfl
  | _ => rfl
theorem td_names {H : Hp} {n : Nat} {x : V} {d : PyData} (h : Td H n x d) : namesV H x = namesD d := by
  cases h with
  | tup e l ts =>
    unfold namesV
    rw [tupOf_at (.inl e)]
    exact (tds_nms ts).1
  | lst e l ts =>
    unfold namesV
    rw [tupOf_lst e]
    rfl
  | _ => rfl
end Nb

set_option Elab.async false
set_option maxRecDepth 100000
set_option maxHeartbeats 4000000
/-! repr of small data, where no repr is under way. -/
namespace Nb
open PySem L2
def okR (w : Nat) (d : PyData) : Prop := d.showable = true ∧ d.intsShort 13 = true ∧ d.weight ≤ w
/-- small data: w is its weight at most -/
def Tw (H : Hp) (n w : Nat) (v : V) : Prop := ∃ d, Td H n v d ∧ okR w d
section
variable {H H' : Hp} {n w : Nat} {v : V}
theorem tw_same (s : Same H H') (h : Tw H n w v) : Tw H' n w v := let ⟨d, k, o⟩ := h; ⟨d, td_same s k, o⟩
theorem tw_up (h : Tw H n w v) (k : Nat) : Tw H (n + k) w v := let ⟨d, t, o⟩ := h; ⟨d, td_mono t k, o⟩
theorem tw_mono (h : Tw H n w v) {u : Nat} (l : w ≤ u) : Tw H n u v := let ⟨d, t, o⟩ := h; ⟨d, t, o.1, o.2.1, Nat.le_trans o.2.2 l⟩
theorem tw_non : Tw H n w .non := ⟨_, .non, rfl, rfl, by simp [PyData.weight]⟩
theorem tw_bl (b : Bool) : Tw H n w (.bl b) := ⟨_, .bl b, rfl, rfl, by simp [PyData.weight]⟩
theorem tw_str {z : Str} (h : Word z) (l : z.length ≤ w) : Tw H n w (.str z) := ⟨_, .str h, rfl, rfl, l⟩
theorem tw_int {i : Int} (h : okR w (.int i)) : Tw H n w (.int i) := ⟨_, .int i, h⟩
theorem tw_all : ∀ {xs : List V}, (∀ x ∈ xs, Tw H n w x) → ∃ ds, Tds H n xs ds ∧ PyData.showableAll ds = true ∧ PyData.intsShortAll 13 ds = true ∧ PyData.weightAll ds ≤ (w + 1) * xs.length
  | [], _ => ⟨[], .nil, rfl, rfl, by simp [PyData.weightAll]⟩
  | x :: xs, h => by
    obtain ⟨d, t, o1, o2, o3⟩ := h x (List.mem_cons_self ..)
    obtain ⟨ds, ts, p1, p2, p3⟩ := tw_all (xs := xs) fun y hy => h y (List.mem_cons_of_mem _ hy)
    refine ⟨d :: ds, .cons t ts, by simp [PyData.showableAll, o1, p1], by simp [PyData.intsShortAll, o2, p2], ?_⟩
    simp only [PyData.weightAll, List.length_cons, Nat.mul_add]
    omega
theorem tw_tup {a : Addr} {xs : List V} (e : H a = some (.tup xs)) (l : xs.length ≤ 1000) (h : ∀ x ∈ xs, Tw H n w x) : Tw H (n + 1) ((w + 1) * xs.length) (.ref a) := by
  obtain ⟨ds, t, p1, p2, p3⟩ := tw_all h
  exact ⟨.tuple ds, .tup e l t, by simpa [PyData.showable] using p1, by simpa [PyData.intsShort] using p2, by simpa [PyData.weight] using p3⟩
theorem tw_lst {a : Addr} {xs : List V} (e : H a = some (.lst xs)) (l : xs.length ≤ 1000) (h : ∀ x ∈ xs, Tw H n w x) : Tw H (n + 1) ((w + 1) * xs.length) (.ref a) := by
  obtain ⟨ds, t, p1, p2, p3⟩ := tw_all h
  exact ⟨.list ds, .lst e l t, by simpa [PyData.showable] using p1, by simpa [PyData.intsShort] using p2, by simpa [PyData.weight] using p3⟩
end
theorem td_hasDict {H : Hp} : ∀ {n : Nat} {x : V} {d : PyData}, Td H n x d → d.hasDict = false := fun h => PyData.hasDict_of_canLay _ (td_dp (K := []) h).2.1
/-- repr of small data -/
theorem cr_reprD {X : Cx} (g : X.A.guards = some []) (u : X.A.units + 100 < cLine) : CallR X (.builtin "repr") (fun xs H Q => ∃ (x : V) (d : PyData) (n : Nat), xs = [x] ∧ Td H n x d ∧ n ≤ 60 ∧ okR (2 ^ 20) d ∧ Q (.str d.shown) H) := by
  intro pins s σ H xs us Q I r h
  obtain ⟨x, d, n, rfl, hd, hn, o, q⟩ := h
  obtain ⟨v, rfl, rv⟩ := vals1 r
  obtain ⟨k1, k2, k3⟩ := td_dp (K := X.K) hd
  obtain ⟨as, rd⟩ := Dp.reads I d x v k1 rv
  have lay : PyData.layable0 d = true := by
    unfold PyData.layable0
    rw [k2, decide_eq_true (show d.depth ≤ 64 by omega), decide_eq_true o.2.2]
    rfl
  have sz : d.shown.length ≤ sizeLine := Nat.le_trans (PyProof.Rows.shown_le13 lay o.2.1) (by decide)
  have nd := td_hasDict hd
  have byRef : ∀ a : Addr, v = .ref a → wpAny (model X.prog X.w) X.A (call (.builtin "repr") [v]) (EP X pins σ Q) X.xe s := fun a e => by
    subst e
    exact repr_of_reads' rd o.1 (fun z => by rw [nd] at z; cases z) g (by omega) (fun _ _ e => e) (fun h' t tk hk => ⟨.str d.shown, H, I.kept (t' := tk) hk, ⟨_, rfl⟩, q⟩) sz
  cases hd with
  | non =>
    cases (show v = Value.none from rv)
    exact PySem.P.repr_of_none ⟨.str _, H, I.tok _, ⟨_, rfl⟩, q⟩
  | bl b =>
    cases (show v = Value.bool b from rv)
    exact PySem.P.repr_of_bool ⟨.str _, H, I.tok _, ⟨_, rfl⟩, q⟩
  | int i =>
    obtain ⟨t, rfl⟩ := rv
    exact PySem.P.repr_of_int (of_decide_eq_true o.1) ⟨.str _, H, I.tok _, ⟨_, rfl⟩, q⟩
  | str z =>
    obtain ⟨t, rfl⟩ := rv
    exact PySem.P.repr_of_str ⟨.str _, H, I.tok _, ⟨_, rfl⟩, q⟩ sz
  | lst e l ts => exact byRef _ rv
  | tup e l ts => exact byRef _ rv
/-- repr of small data, or of an empty dict -/
theorem cr_reprX {X : Cx} (g : X.A.guards = some []) (u : X.A.units + 100 < cLine) : CallR X (.builtin "repr") (fun xs H Q => (∃ (x : V) (d : PyData) (n : Nat), xs = [x] ∧ Td H n x d ∧ n ≤ 60 ∧ okR (2 ^ 20) d ∧ Q (.str d.shown) H) ∨
    ∃ a, xs = [.ref a] ∧ H a = some (.dK []) ∧ Q (.str (PyData.dict []).shown) H) := by
  intro pins s σ H xs us Q I r h
  rcases h with h | ⟨a, rfl, e, q⟩
  · exact cr_reprD g u pins s σ H xs us Q I r h
  · obtain ⟨v, rfl, rv⟩ := vals1 r
    cases rv
    have ho : ObjOk X.prog X.w H s.heap a (.dK []) := I.hok a _ e
    obtain ⟨_, nm, vs, kv, o, es, ep, e1, e2, e3, _, e5, _⟩ := ho
    cases kv
    have e6 : es.toList = [] := by
      cases hz : es.toList with
      | nil => rfl
      | cons z zs =>
        rw [hz] at e5
        cases e5
    have rd : Reads s.heap (.ref a) (.dict []) (a :: [] ++ []) := .dict e1 e2.1 e3 (by rw [e6]; exact .nil) (by rw [e6]; exact .nil)
    have dz : (PyData.dict []).depth ≤ 10 := by decide +kernel
    refine repr_of_reads' rd rfl (fun _ hm => ?_) g (by omega) (fun _ _ e => e) (fun h' t tk hk => ⟨.str _, H, I.kept (t' := tk) hk, ⟨_, rfl⟩, q⟩) (by decide +kernel)
    have : sysModules = a := by simpa using hm
    rw [this] at nm
    simp at nm
end Nb

set_option Elab.async false
set_option maxRecDepth 100000
set_option maxHeartbeats 4000000
/-! Rows of names as the laws make them, each a tuple known to its object. -/
namespace Nb
open PySem
open L2 hiding del del_ne del_same
theorem hu65 {A : PySem.Around} {k : Nat} (hr : Room k A) : A.units + 65 < PySem.cLine := by
  have := hr.un
  omega
theorem seqIx {j n : Nat} (h : j < n) : PySem.seqIndex? (j : Int) n = some j := by
  have e : PySem.seqIndex? (j : Int) n = if (decide (0 ≤ (if (j : Int) < 0 then (j : Int) + n else (j : Int))) && decide ((if (j : Int) < 0 then (j : Int) + n else (j : Int)) < n)) = true then some (if (j : Int) < 0 then (j : Int) + n else (j : Int)).toNat else none := rfl
  rw [e, if_neg (show ¬ ((j : Int) < 0) by omega), if_pos (by simp; omega), Int.toNat_natCast]
theorem erase_map (l : List Str) (j : Nat) : (l.map V.str).eraseIdx j = (l.eraseIdx j).map V.str := by
  induction l generalizing j with
  | nil => rfl
  | cons x l ih =>
    cases j with
    | zero => rfl
    | succ j =>
      show V.str x :: (l.map V.str).eraseIdx j = V.str x :: (l.eraseIdx j).map V.str
      rw [ih]
theorem erase_perm {l : List Str} {j : Nat} (h : j < l.length) : (l[j] :: l.eraseIdx j).Perm l := by
  induction l generalizing j with
  | nil => simp at h
  | cons x l ih =>
    cases j with
    | zero => exact List.Perm.refl _
    | succ j =>
      have hj : j < l.length := by simpa using h
      show (l[j] :: x :: l.eraseIdx j).Perm (x :: l)
      exact (List.Perm.swap x l[j] _).trans ((ih hj).cons x)
theorem dps_strs {K : PySem.W.Frag} {H : Hp} : ∀ zs : List Str, DpAll K H (zs.map V.str) (zs.map PyData.str)
  | [] => .nil
  | z :: zs => .cons (.str z) (dps_strs zs)
theorem fine_strs {zs : List Str} (h : ∀ z ∈ zs, Word z) : Fine 1 (.list (zs.map PyData.str)) := fine_list fun d hd => by
  obtain ⟨z, hz, rfl⟩ := List.mem_map.mp hd
  exact fine_str (h z hz).2
/-- where a value stands in a row, or -1 -/
def spotI (row : List Str) (d : PyData) : Int := match place row d with
  | some j => (j : Nat)
  | none => -1
theorem any_place (row : List Str) (d : PyData) : ((row.map PyData.str).any fun z => PyData.eqv z d) = (place row d).isSome := by
  rw [List.any_map]
  cases d with
  | str x =>
    show row.any ((fun z => PyData.eqv z (.str x)) ∘ PyData.str) = (row.findIdx? (· == x)).isSome
    rw [List.findIdx?_isSome]
    congr 1
  | _ =>
    show row.any _ = false
    rw [List.any_eq_false]
    intro z _
    simp [PyData.eqv]
def badK (i j : Int) (k : Nat) : Bool := if k = 0 then decide (i < 0) else decide (j < 0) || decide (j ≤ i)
theorem before_spots (row : List Str) (a b : PyData) : ((List.range 2).filter (badK (spotI row a) (spotI row b))).isEmpty = before row a b := by
  have e : ((List.range 2).filter (badK (spotI row a) (spotI row b))).isEmpty = (!badK (spotI row a) (spotI row b) 0 && !badK (spotI row a) (spotI row b) 1) := by
    show (([0, 1] : List Nat).filter _).isEmpty = _
    cases h0 : badK (spotI row a) (spotI row b) 0 <;> cases h1 : badK (spotI row a) (spotI row b) 1 <;> simp [List.filter, h0, h1]
  rw [e]
  unfold badK spotI before
  cases ha : place row a with
  | none => simp
  | some i =>
    cases hb : place row b with
    | none => simp
    | some j =>
      simp
      rw [Bool.eq_iff_iff]
      simp
theorem dps_ints {K : PySem.W.Frag} {H : Hp} (ns : List Int) : DpAll K H (ns.map V.int) (ns.map PyData.int) := dp_ints ns
theorem good_words {row : List Str} (h : GoodRow row) : ∀ z ∈ row, Word z := fun z hz => (h.2.1 z hz).2
theorem fine_row {row : List Str} (h : ∀ z ∈ row, Word z) : Fine 1 (.tuple (row.map PyData.str)) := fine_tup fun d hd => by
  obtain ⟨z, hz, rfl⟩ := List.mem_map.mp hd
  exact fine_str (h z hz).2
def RowsL (H : Hp) (as : List Addr) (rows : List (List Str)) : Prop := as.length = rows.length ∧ ∀ (k : Nat) (a : Addr) (row : List Str), as[k]? = some a → rows[k]? = some row → ∃ o, H a = some (.frz o (.tup (row.map V.str))) ∧ TupObj o
theorem rowsL_same {H H' : Hp} {as : List Addr} {rows : List (List Str)} (s : Same H H') (h : RowsL H as rows) : RowsL H' as rows :=
  ⟨h.1, fun k a row e1 e2 => let ⟨o, e3, e4⟩ := h.2 k a row e1 e2; ⟨o, s _ _ e3, e4⟩⟩
theorem rowsL_del {H H' : Hp} {p : Addr} {b : Nat} {as : List Addr} {rows : List (List Str)} (S : Src H p b) (s : Same (del H p) H') (h : RowsL H as rows) : RowsL H' as rows :=
  ⟨h.1, fun k a row e1 e2 => let ⟨o, e3, e4⟩ := h.2 k a row e1 e2; ⟨o, del_get s (src_ne S e3 (fun xs z => by cases z)) e3, e4⟩⟩
theorem rowsL_snoc {H : Hp} {as : List Addr} {rows : List (List Str)} {a : Addr} {row : List Str} {o : PySem.Obj} (h : RowsL H as rows) (e : H a = some (.frz o (.tup (row.map V.str)))) (t : TupObj o) : RowsL H (as ++ [a]) (rows ++ [row]) := by
  refine ⟨by simp [h.1], fun k b r e1 e2 => ?_⟩
  by_cases hk : k < as.length
  · rw [List.getElem?_append_left hk] at e1
    rw [List.getElem?_append_left (by rw [← h.1]; exact hk)] at e2
    exact h.2 k b r e1 e2
  · have e3 : k = as.length := by
      have := (List.getElem?_eq_some_iff.mp e1).1
      simp at this
      omega
    subst e3
    rw [List.getElem?_append_right (Nat.le_refl _)] at e1
    rw [h.1, List.getElem?_append_right (Nat.le_refl _)] at e2
    simp at e1 e2
    subst e1 e2
    exact ⟨o, e, t⟩
theorem good_sub {r s : List Str} (h : GoodRow r) (l : s.Sublist r) : GoodRow s :=
  ⟨h.1.sublist l, fun z hz => h.2.1 z (l.subset hz), Nat.le_trans l.length_le h.2.2⟩
theorem good_perm {r s : List Str} (h : GoodRow r) (l : s.Perm r) : GoodRow s :=
  ⟨l.nodup_iff.mpr h.1, fun z hz => h.2.1 z (l.subset hz), by rw [l.length_eq]; exact h.2.2⟩
theorem cut_strs (ys : List Str) (lo hi : Option Int) : ∃ ws : List Str, cutV (ys.map V.str) lo hi = ws.map V.str ∧ ws.Sublist ys := by
  refine ⟨(ys.drop (HT.sIx (ys.map V.str).length 0 lo)).take (HT.sIx (ys.map V.str).length (ys.map V.str).length hi - HT.sIx (ys.map V.str).length 0 lo), ?_, (List.take_sublist _ _).trans (List.drop_sublist _ _)⟩
  unfold cutV
  rw [List.map_take, List.map_drop]
def eight : List Str := ["a", "b", "c", "d", "node", "f", "box", "h"]
theorem good_eight : GoodRow eight := by
  refine ⟨by decide +kernel, fun z hz => ?_, by decide⟩
  have h1 : eight.all (fun z => isNm z && (decide (z.length ≤ 1000) && PyData.strOk z)) = true := by decide +kernel
  have h2 := List.all_eq_true.mp h1 z hz
  rw [Bool.and_eq_true, Bool.and_eq_true, decide_eq_true_eq] at h2
  exact h2
/-- rows of names, each a tuple of some of the names -/
def spRows : Sp := fun vs H Q _ => ∃ (p : Addr) (m t : Nat) (free : Bool) (b : Nat) (F : Hp), vs = [.ref p, .int m, .int t, .bl free] ∧ m ≤ 10 ∧ t ≤ 20 ∧ Src H p b ∧ b ≤ 800000 ∧ F p = none ∧ Same F H ∧
  ∀ (H' : Hp) (l : Addr) (as : List Addr) (rows : List (List Str)), Same F H' → F l = none → l ≠ p → H' l = some (.lst (as.map V.ref)) → RowsL H' as rows → rows.length = m → (∀ row ∈ rows, GoodRow row) → Src H' p (b + 8 + 17 * m) → Q (.ref l) H'
/-- the same texts in another order, as a new list -/
def spMixed : Sp := fun vs H Q _ => ∃ (p l : Addr) (zs : List Str) (b : Nat) (F : Hp), vs = [.ref p, .ref l] ∧ F l = some (.lst (zs.map V.str)) ∧ zs.length ≤ 20 ∧ (∀ z ∈ zs, Word z) ∧ Src H p b ∧ b ≤ 900000 ∧ F p = none ∧ Same F H ∧
  ∀ (H' : Hp) (l' : Addr) (ys : List Str), Same F H' → F l' = none → l' ≠ p → H' l' = some (.lst (ys.map V.str)) → ys.Perm zs → Src H' p (b + zs.length) → Q (.ref l') H'
theorem cr_tupleFS {X : Cx} : CallR X (.type "tuple") (fun xs H Q => ∃ p ys, xs = [.ref p] ∧ SqL X.K H p ys ∧ ∀ H2 l o, Same H H2 → H l = none → H2 l = some (.frz o (.tup ys)) → TupObj o → Q (.ref l) H2) :=
  CallR.to cr_tupleF fun xs H Q ⟨p, ys, e, h, q⟩ => ⟨p, ys, e, h, fun l o nl t => q _ l o (same_new nl) nl upd_same t⟩
/-- repr of lists and tuples that are read -/
theorem cr_reprP {X : Cx} (g : X.A.guards = some []) (u : X.A.units + 100 < cLine) : CallR X (.builtin "repr") (fun xs H Q => ∃ (p : Addr) (d : PyData), xs = [.ref p] ∧ Dp X.K H (.ref p) d ∧ d.canLay0 = true ∧ d.depth ≤ 60 ∧ okR (2 ^ 20) d ∧ Q (.str d.shown) H) := by
  intro pins s σ H xs us Q I r h
  obtain ⟨p, d, rfl, k1, k2, k3, o, q⟩ := h
  obtain ⟨v, rfl, rv⟩ := vals1 r
  cases rv
  obtain ⟨as, rd⟩ := Dp.reads I d (.ref p) (.ref p) k1 rfl
  have lay : PyData.layable0 d = true := by
    unfold PyData.layable0
    rw [k2, decide_eq_true (show d.depth ≤ 64 by omega), decide_eq_true o.2.2]
    rfl
  have sz : d.shown.length ≤ sizeLine := Nat.le_trans (PyProof.Rows.shown_le13 lay o.2.1) (by decide)
  have nd := PyData.hasDict_of_canLay _ k2
  exact repr_of_reads' rd o.1 (fun z => by rw [nd] at z; cases z) g (by omega) (fun _ _ e => e) (fun h' t tk hk => ⟨.str d.shown, H, I.kept (t' := tk) hk, ⟨_, rfl⟩, q⟩) sz
end Nb

set_option linter.all false
set_option maxRecDepth 100000
/-! Merges of rows, and a merge that is made with a head in each row. No Python here. -/
namespace Nb.Mg
variable {α : Type} [DecidableEq α]
def alive (gone : List α) (rows : List (List α)) : List (List α) := rows.map fun r => r.filter fun x => decide (x ∉ gone)
def good (rows : List (List α)) (x : α) : Bool := rows.all fun r => decide (x ∉ r.tail)
def pick (rows : List (List α)) : Option α := (rows.filterMap List.head?).find? (good rows)
def without (x : α) (rows : List (List α)) : List (List α) := rows.map fun r => r.filter fun y => decide (y ≠ x)
/-- the names that a merge takes until it is done or stuck -/
def greedy : Nat → List (List α) → List α
  | 0, _ => []
  | n + 1, rows => match pick rows with
    | none => []
    | some x => x :: greedy n (without x rows)
theorem without_alive (gone : List α) (rows : List (List α)) (x : α) : without x (alive gone rows) = alive (gone ++ [x]) rows := by
  unfold without alive
  rw [List.map_map]
  refine List.map_congr_left fun r _ => ?_
  show (r.filter _).filter _ = _
  rw [List.filter_filter]
  refine List.filter_congr fun y _ => ?_
  simp
  exact Bool.and_comm _ _
theorem alive_nil (rows : List (List α)) : alive [] rows = rows := by
  unfold alive
  conv => rhs; rw [← List.map_id rows]
  refine List.map_congr_left fun r _ => ?_
  exact List.filter_eq_self.mpr fun _ _ => by simp
theorem pick_at {l1 l2 : List (List α)} {r : List α} {x : α} {all : List (List α)} (h : r.head? = some x) (g : good all x = true) (no : ∀ r' ∈ l1, ∀ y, r'.head? = some y → good all y = false) : ((l1 ++ r :: l2).filterMap List.head?).find? (good all) = some x := by
  induction l1 with
  | nil =>
    rw [List.nil_append, List.filterMap_cons, h]
    simp [g]
  | cons a l ih =>
    rw [List.cons_append, List.filterMap_cons]
    have ih := ih fun r' hr => no r' (List.mem_cons_of_mem _ hr)
    cases e : a.head? with
    | none => exact ih
    | some y =>
      have := no a (List.mem_cons_self ..) y e
      simp only [List.find?_cons, this]
      exact ih
theorem pick_none {rows all : List (List α)} (no : ∀ r' ∈ rows, ∀ y, r'.head? = some y → good all y = false) : (rows.filterMap List.head?).find? (good all) = none := by
  rw [List.find?_eq_none]
  intro y hy
  obtain ⟨r, hr, e⟩ := List.mem_filterMap.mp hy
  rw [no r hr y e]
  exact Bool.false_ne_true
/-! ### heads -/
/-- in how many rows x stands behind the head -/
def behN : List (List α) → List Nat → α → Nat
  | r :: rs, h :: hs, x => (if x ∈ r ∧ h < r.idxOf x then 1 else 0) + behN rs hs x
  | _, _, _ => 0
theorem behN_set (x : α) (h2 : Nat) : ∀ (rows : List (List α)) (hs : List Nat) (i : Nat) (r : List α) (h : Nat), rows[i]? = some r → hs[i]? = some h →
    behN rows (hs.set i h2) x + (if x ∈ r ∧ h < r.idxOf x then 1 else 0) = behN rows hs x + (if x ∈ r ∧ h2 < r.idxOf x then 1 else 0)
  | r0 :: rs, h0 :: hs, 0, r, h, e1, e2 => by
    cases e1
    cases e2
    simp only [List.set_cons_zero, behN]
    omega
  | r0 :: rs, h0 :: hs, i + 1, r, h, e1, e2 => by
    have := behN_set x h2 rs hs i r h e1 e2
    simp only [List.set_cons_succ, behN]
    omega
  | [], _, i, r, h, e1, _ => by simp at e1
  | _ :: _, [], i, r, h, _, e2 => by simp at e2
theorem behN_zero (x : α) : ∀ (rows : List (List α)) (hs : List Nat), hs.length = rows.length → (behN rows hs x = 0 ↔ ∀ (i : Nat) (r : List α) (h : Nat), rows[i]? = some r → hs[i]? = some h → ¬ (x ∈ r ∧ h < r.idxOf x))
  | [], hs, _ => ⟨fun _ i r h e => by simp at e, fun _ => by cases hs <;> rfl⟩
  | r0 :: rs, [], l => by simp at l
  | r0 :: rs, h0 :: hs, l => by
    have ih := behN_zero x rs hs (by simpa using l)
    simp only [behN]
    constructor
    · intro z i r h e1 e2
      cases i with
      | zero =>
        cases e1
        cases e2
        intro k
        rw [if_pos k] at z
        omega
      | succ i => exact ih.mp (by omega) i r h e1 e2
    · intro k
      have k0 := k 0 r0 h0 (by rfl) (by rfl)
      rw [if_neg k0, Nat.zero_add]
      exact ih.mpr fun i r h e1 e2 => k (i + 1) r h e1 e2
/-- the first row that has x -/
def first (rows : List (List α)) (x : α) : Nat := rows.findIdx fun r => decide (x ∈ r)
theorem first_le {rows : List (List α)} {x : α} {i : Nat} {r : List α} (e : rows[i]? = some r) (h : x ∈ r) : first rows x ≤ i := by
  unfold first
  obtain ⟨hi, e⟩ := List.getElem?_eq_some_iff.mp e
  apply Nat.le_of_not_lt
  intro k
  have := List.not_of_lt_findIdx k
  rw [e] at this
  simp [h] at this
theorem first_at {rows : List (List α)} {x : α} (h : x ∈ rows.flatten) : ∃ r, rows[first rows x]? = some r ∧ x ∈ r := by
  obtain ⟨r, hr, hx⟩ := List.mem_flatten.mp h
  have lt : first rows x < rows.length := List.findIdx_lt_length_of_exists ⟨r, hr, by simpa using hx⟩
  refine ⟨rows[first rows x], List.getElem?_eq_getElem lt, ?_⟩
  have := List.findIdx_getElem (w := lt)
  exact of_decide_eq_true this
/-- a merge under way: nm's rows in pend are not yet moved on -/
structure Inv (rows : List (List α)) (gone : List α) (hs : List Nat) (rdy : Nat) (nm : Option α) (pend : Nat → Prop) : Prop where
  len : hs.length = rows.length
  nd : ∀ r ∈ rows, r.Nodup
  le : ∀ (i : Nat) (r : List α) (h : Nat), rows[i]? = some r → hs[i]? = some h → h ≤ r.length
  past : ∀ (i : Nat) (r : List α) (h : Nat), rows[i]? = some r → hs[i]? = some h → ∀ (j : Nat) (y : α), j < h → r[j]? = some y → y ∈ gone
  hd : ∀ (i : Nat) (r : List α) (h : Nat), rows[i]? = some r → hs[i]? = some h → ∀ y, r[h]? = some y → y ∈ gone → nm = some y ∧ pend i
  rd : ∀ j, rdy.testBit j = true ↔ ∃ x, x ∉ gone ∧ x ∈ rows.flatten ∧ behN rows hs x = 0 ∧ first rows x = j
theorem idx_of {r : List α} (nd : r.Nodup) {i : Nat} {x : α} (e : r[i]? = some x) : r.idxOf x = i := by
  obtain ⟨hi, e⟩ := List.getElem?_eq_some_iff.mp e
  rw [← e]
  exact nd.idxOf_getElem i hi
theorem at_idx {r : List α} {x : α} (h : x ∈ r) : r[r.idxOf x]? = some x := by
  have lt := List.idxOf_lt_length_of_mem h
  rw [List.getElem?_eq_getElem lt, List.getElem_idxOf]
/-- what is alive of a row: its head, and behind it what stands behind the head -/
theorem alive_row {gone r : List α} {h : Nat} (nd : r.Nodup) (past : ∀ (j : Nat) (y : α), j < h → r[j]? = some y → y ∈ gone) (hd : ∀ y, r[h]? = some y → y ∉ gone) :
    (r.filter fun x => decide (x ∉ gone)).head? = r[h]? ∧ ∀ y, y ∈ (r.filter fun x => decide (x ∉ gone)).tail ↔ y ∈ r ∧ y ∉ gone ∧ h < r.idxOf y := by
  have e : r.filter (fun x => decide (x ∉ gone)) = (r.drop h).filter fun x => decide (x ∉ gone) := by
    conv => lhs; rw [← List.take_append_drop h r]
    rw [List.filter_append]
    have : (r.take h).filter (fun x => decide (x ∉ gone)) = [] := by
      rw [List.filter_eq_nil_iff]
      intro y hy
      obtain ⟨j, hj⟩ := List.getElem?_of_mem hy
      rw [List.getElem?_take] at hj
      split at hj
      · rename_i lt
        simp [past j y lt hj]
      · cases hj
    rw [this, List.nil_append]
  rw [e]
  cases k : r[h]? with
  | none =>
    have hl : r.length ≤ h := List.getElem?_eq_none_iff.mp k
    rw [List.drop_eq_nil_of_le hl]
    refine ⟨rfl, fun y => ⟨fun z => (nomatch z), fun ⟨z, _, l⟩ => ?_⟩⟩
    have := List.idxOf_lt_length_of_mem z
    omega
  | some x =>
    have hx := hd x k
    obtain ⟨hl, ex⟩ := List.getElem?_eq_some_iff.mp k
    rw [List.drop_eq_getElem_cons hl, ex, List.filter_cons]
    simp only [hx, not_false_eq_true, decide_true, if_true, List.head?_cons, List.tail_cons, true_and]
    intro y
    rw [List.mem_filter]
    constructor
    · rintro ⟨m, g⟩
      obtain ⟨j, hj⟩ := List.getElem?_of_mem m
      rw [List.getElem?_drop] at hj
      have := idx_of nd hj
      exact ⟨List.mem_of_getElem? hj, by simpa using g, by omega⟩
    · rintro ⟨m, g, l⟩
      refine ⟨?_, by simpa using g⟩
      have a := at_idx m
      refine List.mem_of_getElem? (i := r.idxOf y - (h + 1)) ?_
      rw [List.getElem?_drop, show h + 1 + (r.idxOf y - (h + 1)) = r.idxOf y by omega]
      exact a
section
variable {rows : List (List α)} {gone : List α} {hs : List Nat} {rdy : Nat} {nm : Option α}
theorem Inv.row (I : Inv rows gone hs rdy nm fun _ => False) {i : Nat} {r : List α} {h : Nat} (e1 : rows[i]? = some r) (e2 : hs[i]? = some h) :
    (r.filter fun x => decide (x ∉ gone)).head? = r[h]? ∧ ∀ y, y ∈ (r.filter fun x => decide (x ∉ gone)).tail ↔ y ∈ r ∧ y ∉ gone ∧ h < r.idxOf y :=
  alive_row (I.nd r (List.mem_of_getElem? e1)) (I.past i r h e1 e2) fun y k g => (I.hd i r h e1 e2 y k g).2.elim
theorem Inv.hs_at {pd : Nat → Prop} (I : Inv rows gone hs rdy nm pd) {i : Nat} {r : List α} (e1 : rows[i]? = some r) : ∃ h, hs[i]? = some h := by
  have := (List.getElem?_eq_some_iff.mp e1).1
  exact ⟨_, List.getElem?_eq_getElem (by rw [I.len]; exact this)⟩
/-- a name that is left is good if it stands behind no head -/
theorem Inv.good_iff (I : Inv rows gone hs rdy nm fun _ => False) {x : α} (hx : x ∉ gone) : good (alive gone rows) x = true ↔ behN rows hs x = 0 := by
  unfold good alive
  rw [List.all_map, List.all_eq_true, behN_zero x rows hs I.len]
  constructor
  · intro k i r h e1 e2 ⟨m, l⟩
    have := k r (List.mem_of_getElem? e1)
    simp only [Function.comp, decide_eq_true_eq] at this
    exact this (((I.row e1 e2).2 x).mpr ⟨m, hx, l⟩)
  · intro k r hr
    obtain ⟨i, e1⟩ := List.getElem?_of_mem hr
    obtain ⟨h, e2⟩ := I.hs_at e1
    simp only [Function.comp, decide_eq_true_eq]
    intro m
    obtain ⟨m1, _, m2⟩ := ((I.row e1 e2).2 x).mp m
    exact k i r h e1 e2 ⟨m1, m2⟩
theorem Inv.pick_none (I : Inv rows gone hs rdy nm fun _ => False) (z : rdy = 0) : pick (alive gone rows) = none := by
  refine Mg.pick_none fun r' hr y e => ?_
  obtain ⟨r, hr2, rfl⟩ := List.mem_map.mp hr
  obtain ⟨i, e1⟩ := List.getElem?_of_mem hr2
  obtain ⟨h, e2⟩ := I.hs_at e1
  rw [(I.row e1 e2).1] at e
  have hy : y ∉ gone := fun g => (I.hd i r h e1 e2 y e g).2
  cases k : good (alive gone rows) y with
  | false => rfl
  | true =>
    have := (I.rd (first rows y)).mpr ⟨y, hy, List.mem_flatten.mpr ⟨r, hr2, List.mem_of_getElem? e⟩, (I.good_iff hy).mp k, rfl⟩
    rw [z] at this
    simp at this
/-- the lowest bit tells the name that is taken -/
theorem Inv.pick_low (I : Inv rows gone hs rdy nm fun _ => False) {k : Nat} (b : rdy.testBit k = true) (low : ∀ j, j < k → rdy.testBit j = false) :
    ∃ x r h, pick (alive gone rows) = some x ∧ rows[k]? = some r ∧ hs[k]? = some h ∧ r[h]? = some x ∧ x ∉ gone ∧ x ∈ rows.flatten ∧ behN rows hs x = 0 := by
  obtain ⟨x, hx, mx, zx, fx⟩ := (I.rd k).mp b
  obtain ⟨r, er, mr⟩ := first_at mx
  rw [fx] at er
  obtain ⟨h, eh⟩ := I.hs_at er
  have n1 := (behN_zero x rows hs I.len).mp zx k r h er eh
  have ix := at_idx mr
  have le : r.idxOf x ≤ h := Nat.le_of_not_lt fun l => n1 ⟨mr, l⟩
  have ge : ¬ r.idxOf x < h := fun l => hx (I.past k r h er eh _ _ l ix)
  have eq : r.idxOf x = h := by omega
  rw [eq] at ix
  refine ⟨x, r, h, ?_, er, eh, ix, hx, mx, zx⟩
  unfold pick
  have sp : alive gone rows = alive gone (rows.take k) ++ (r.filter fun x => decide (x ∉ gone)) :: alive gone (rows.drop (k + 1)) := by
    obtain ⟨hl, e⟩ := List.getElem?_eq_some_iff.mp er
    unfold alive
    rw [← List.map_cons (f := fun r : List α => r.filter fun x => decide (x ∉ gone)), ← List.map_append, ← e, ← List.drop_eq_getElem_cons hl, List.take_append_drop]
  conv => lhs; arg 2; rw [sp]
  refine pick_at (by rw [(I.row er eh).1]; exact ix) ((I.good_iff hx).mpr zx) fun r' hr y e => ?_
  obtain ⟨r2, hr2, rfl⟩ := List.mem_map.mp hr
  obtain ⟨i, e1⟩ := List.getElem?_of_mem hr2
  have ik : i < k := by
    have := (List.getElem?_eq_some_iff.mp e1).1
    rw [List.length_take] at this
    omega
  rw [List.getElem?_take, if_pos ik] at e1
  obtain ⟨h2, e2⟩ := I.hs_at e1
  rw [(I.row e1 e2).1] at e
  have hy : y ∉ gone := fun g => (I.hd i r2 h2 e1 e2 y e g).2
  cases q : good (alive gone rows) y with
  | false => rfl
  | true =>
    have my := List.mem_of_getElem? e
    have := (I.rd (first rows y)).mpr ⟨y, hy, List.mem_flatten.mpr ⟨r2, List.mem_of_getElem? e1, my⟩, (I.good_iff hy).mp q, rfl⟩
    rw [low _ (Nat.lt_of_le_of_lt (first_le e1 my) ik)] at this
    cases this
end

/-! ### a head is moved on -/
section
variable {rows : List (List α)} {gone : List α} {hs : List Nat} {rdy : Nat} {x : α} {pd pd' : Nat → Prop} {i h h2 : Nat} {r : List α}
/-- the bits that a moved head leaves -/
def bits (rows : List (List α)) (hs : List Nat) (rdy : Nat) : Option α → Nat
  | none => rdy
  | some y => if behN rows hs y = 0 then rdy ||| 2 ^ first rows y else rdy
theorem Inv.beh_move (I : Inv rows gone hs rdy nm pd) (e1 : rows[i]? = some r) (e2 : hs[i]? = some h) (l1 : h < h2) (skip : ∀ (j : Nat) (y : α), h ≤ j → j < h2 → r[j]? = some y → y ∈ gone) : ∀ y, y ∉ gone → behN rows (hs.set i h2) y + (if r[h2]? = some y then 1 else 0) = behN rows hs y := by
  have nr := I.nd r (List.mem_of_getElem? e1)
  intro y gy
  have z := behN_set y h2 rows hs i r h e1 e2
  by_cases m : y ∈ r
  · have a := at_idx m
    by_cases q : h < r.idxOf y
    · rw [if_pos ⟨m, q⟩] at z
      by_cases q2 : h2 < r.idxOf y
      · rw [if_pos ⟨m, q2⟩] at z
        have : ¬ r[h2]? = some y := fun e => by
          have := idx_of nr e
          omega
        rw [if_neg this]
        omega
      · rw [if_neg (fun k => q2 k.2)] at z
        have : r.idxOf y = h2 := by
          apply Nat.le_antisymm (Nat.le_of_not_lt q2)
          apply Nat.le_of_not_lt
          intro k
          exact gy (skip _ y (Nat.le_of_lt q) k a)
        rw [this] at a
        rw [if_pos a]
        omega
    · rw [if_neg (fun k => q k.2)] at z
      have q2 : ¬ h2 < r.idxOf y := by omega
      rw [if_neg (fun k => q2 k.2)] at z
      have : ¬ r[h2]? = some y := fun e => by
        have := idx_of nr e
        omega
      rw [if_neg this]
      omega
  · rw [if_neg (fun k => m k.1), if_neg (fun k => m k.1)] at z
    have : ¬ r[h2]? = some y := fun e => m (List.mem_of_getElem? e)
    rw [if_neg this]
    omega
theorem Inv.move (I : Inv rows gone hs rdy (some x) pd) (e1 : rows[i]? = some r) (e2 : hs[i]? = some h) (ex : r[h]? = some x) (gx : x ∈ gone) (l1 : h < h2) (l2 : h2 ≤ r.length) (skip : ∀ (j : Nat) (y : α), h ≤ j → j < h2 → r[j]? = some y → y ∈ gone) (stop : ∀ y, r[h2]? = some y → y ∉ gone)
    (hp : ∀ k, pd k → k ≠ i → pd' k) : Inv rows gone (hs.set i h2) (bits rows (hs.set i h2) rdy r[h2]?) (some x) pd' := by
  have hil : i < hs.length := (List.getElem?_eq_some_iff.mp e2).1
  have at_i : (hs.set i h2)[i]? = some h2 := by rw [List.getElem?_set_self hil]
  have off : ∀ k, k ≠ i → (hs.set i h2)[k]? = hs[k]? := fun k n => List.getElem?_set_ne (Ne.symm n)
  have nr := I.nd r (List.mem_of_getElem? e1)
  have beh : ∀ y, y ∉ gone → behN rows (hs.set i h2) y + (if r[h2]? = some y then 1 else 0) = behN rows hs y := fun y gy => by
    have z := behN_set y h2 rows hs i r h e1 e2
    by_cases m : y ∈ r
    · have a := at_idx m
      by_cases q : h < r.idxOf y
      · rw [if_pos ⟨m, q⟩] at z
        by_cases q2 : h2 < r.idxOf y
        · rw [if_pos ⟨m, q2⟩] at z
          have : ¬ r[h2]? = some y := fun e => by
            have := idx_of nr e
            omega
          rw [if_neg this]
          omega
        · rw [if_neg (fun k => q2 k.2)] at z
          have : r.idxOf y = h2 := by
            apply Nat.le_antisymm (Nat.le_of_not_lt q2)
            apply Nat.le_of_not_lt
            intro k
            exact gy (skip _ y (Nat.le_of_lt q) k a)
          rw [this] at a
          rw [if_pos a]
          omega
      · rw [if_neg (fun k => q k.2)] at z
        have q2 : ¬ h2 < r.idxOf y := by omega
        rw [if_neg (fun k => q2 k.2)] at z
        have : ¬ r[h2]? = some y := fun e => by
          have := idx_of nr e
          omega
        rw [if_neg this]
        omega
    · rw [if_neg (fun k => m k.1), if_neg (fun k => m k.1)] at z
      have : ¬ r[h2]? = some y := fun e => m (List.mem_of_getElem? e)
      rw [if_neg this]
      omega
  refine ⟨by rw [List.length_set]; exact I.len, I.nd, fun k r' h' f1 f2 => ?_, fun k r' h' f1 f2 => ?_, fun k r' h' f1 f2 => ?_, fun j => ?_⟩
  · by_cases n : k = i
    · subst n
      rw [at_i] at f2
      rw [e1] at f1
      cases f1
      cases f2
      exact l2
    · rw [off k n] at f2
      exact I.le k r' h' f1 f2
  · by_cases n : k = i
    · subst n
      rw [at_i] at f2
      rw [e1] at f1
      cases f1
      cases f2
      intro j y lj ey
      by_cases q : j < h
      · exact I.past k r h e1 e2 j y q ey
      · exact skip j y (Nat.le_of_not_lt q) lj ey
    · rw [off k n] at f2
      exact I.past k r' h' f1 f2
  · intro y ey gy
    by_cases n : k = i
    · subst n
      rw [at_i] at f2
      rw [e1] at f1
      cases f1
      cases f2
      exact absurd gy (stop y ey)
    · rw [off k n] at f2
      obtain ⟨a, b⟩ := I.hd k r' h' f1 f2 y ey gy
      exact ⟨a, hp k b n⟩
  · have old : (∃ y, y ∉ gone ∧ y ∈ rows.flatten ∧ behN rows (hs.set i h2) y = 0 ∧ first rows y = j) ↔ rdy.testBit j = true ∨ ∃ y, r[h2]? = some y ∧ behN rows (hs.set i h2) y = 0 ∧ first rows y = j := by
      constructor
      · rintro ⟨y, gy, my, zy, fy⟩
        by_cases q : r[h2]? = some y
        · exact .inr ⟨y, q, zy, fy⟩
        · have b := beh y gy
          rw [if_neg q, zy] at b
          exact .inl ((I.rd j).mpr ⟨y, gy, my, b.symm, fy⟩)
      · rintro (b | ⟨y, q, zy, fy⟩)
        · obtain ⟨y, gy, my, zy, fy⟩ := (I.rd j).mp b
          have b := beh y gy
          exact ⟨y, gy, my, by omega, fy⟩
        · exact ⟨y, stop y q, List.mem_flatten.mpr ⟨r, List.mem_of_getElem? e1, List.mem_of_getElem? q⟩, zy, fy⟩
    rw [old]
    cases q : r[h2]? with
    | none => simp [bits]
    | some y =>
      simp only [bits]
      by_cases z : behN rows (hs.set i h2) y = 0
      · rw [if_pos z, Nat.testBit_or, Nat.testBit_two_pow]
        simp only [Bool.or_eq_true, decide_eq_true_eq, Option.some.injEq]
        constructor
        · rintro (b | b)
          · exact .inl b
          · exact .inr ⟨y, rfl, z, b⟩
        · rintro (b | ⟨y', rfl, _, b⟩)
          · exact .inl b
          · exact .inr b
      · rw [if_neg z]
        constructor
        · exact .inl
        · rintro (b | ⟨y', e, z', _⟩)
          · exact b
          · cases e
            exact absurd z' z
/-- nothing is left to move -/
theorem Inv.done (I : Inv rows gone hs rdy nm pd) (no : ∀ k, ¬ pd k) : Inv rows gone hs rdy nm' fun _ => False := ⟨I.len, I.nd, I.le, I.past, fun i r h e1 e2 y ey gy => (no i (I.hd i r h e1 e2 y ey gy).2).elim, I.rd⟩
/-- one more name is gone: the rows whose head it is are to be moved on; its bit was taken away, or it had none -/
theorem Inv.drop (I : Inv rows gone hs rdy nm fun _ => False) (rdy' : Nat) (b : ∀ j, rdy'.testBit j = true ↔ ∃ y, y ∉ gone ++ [x] ∧ y ∈ rows.flatten ∧ behN rows hs y = 0 ∧ first rows y = j) :
    Inv rows (gone ++ [x]) hs rdy' (some x) fun i => ∃ r h, rows[i]? = some r ∧ hs[i]? = some h ∧ r[h]? = some x := by
  refine ⟨I.len, I.nd, I.le, fun i r h e1 e2 j y l ey => List.mem_append_left _ (I.past i r h e1 e2 j y l ey), fun i r h e1 e2 y ey gy => ?_, b⟩
  rcases List.mem_append.mp gy with g | g
  · exact (I.hd i r h e1 e2 y ey g).2.elim
  · have : y = x := by simpa using g
    subst this
    exact ⟨rfl, r, h, e1, e2, ey⟩
end

/-! ### all that is taken -/
theorem pick_mem {rows : List (List α)} {x : α} (h : pick rows = some x) : x ∈ rows.flatten := by
  have := List.mem_of_find?_eq_some h
  obtain ⟨r, hr, e⟩ := List.mem_filterMap.mp this
  exact List.mem_flatten.mpr ⟨r, hr, List.mem_of_mem_head? (by rw [e]; rfl)⟩
theorem without_len {rows : List (List α)} {x : α} (h : x ∈ rows.flatten) : (without x rows).flatten.length < rows.flatten.length := by
  have e : (without x rows).flatten = rows.flatten.filter fun y => decide (y ≠ x) := by
    unfold without
    induction rows with
    | nil => rfl
    | cons r rs ih =>
      simp only [List.map_cons, List.flatten_cons, List.filter_append]
      by_cases k : x ∈ rs.flatten
      · rw [ih k]
      · have : ∀ rs : List (List α), (rs.map fun r => r.filter fun y => decide (y ≠ x)).flatten = rs.flatten.filter fun y => decide (y ≠ x) := by
          intro rs
          induction rs with
          | nil => rfl
          | cons a as ih => simp only [List.map_cons, List.flatten_cons, List.filter_append, ih]
        rw [this rs]
  rw [e]
  obtain ⟨a, b, e2⟩ := List.append_of_mem h
  rw [e2, List.filter_append, List.filter_cons, if_neg (by simp), List.length_append, List.length_append, List.length_cons]
  have h1 := List.length_filter_le (fun y => decide (y ≠ x)) a
  have h2 := List.length_filter_le (fun y => decide (y ≠ x)) b
  omega
theorem greedy_more : ∀ (n : Nat) (rows : List (List α)), rows.flatten.length ≤ n → greedy n rows = greedy rows.flatten.length rows := by
  intro n
  induction n using Nat.strongRecOn with
  | ind n ih =>
    intro rows hn
    cases h : pick rows with
    | none =>
      have z : ∀ m, greedy m rows = [] := fun m => by cases m <;> simp [greedy, h]
      rw [z, z]
    | some x =>
      have l := without_len (pick_mem h)
      obtain ⟨L, eL⟩ : ∃ L, rows.flatten.length = L + 1 := ⟨rows.flatten.length - 1, by omega⟩
      obtain ⟨m, em⟩ : ∃ m, n = m + 1 := ⟨n - 1, by omega⟩
      rw [eL, em]
      simp only [greedy, h]
      rw [ih m (by omega) _ (by omega)]
      by_cases q : L < n
      · rw [ih L q _ (by omega)]
      · omega
/-- the names that a merge takes -/
def drawn (rows : List (List α)) : List α := greedy rows.flatten.length rows
theorem drawn_none {rows : List (List α)} (h : pick rows = none) : drawn rows = [] := by
  unfold drawn
  cases rows.flatten.length <;> simp [greedy, h]
theorem drawn_some {rows : List (List α)} {x : α} (h : pick rows = some x) : drawn rows = x :: drawn (without x rows) := by
  have l := without_len (pick_mem h)
  unfold drawn
  obtain ⟨L, eL⟩ : ∃ L, rows.flatten.length = L + 1 := ⟨rows.flatten.length - 1, by omega⟩
  rw [eL]
  simp only [greedy, h]
  rw [greedy_more L _ (by omega)]
/-- a ready name loses its bit -/
theorem Inv.lose {rows : List (List α)} {gone : List α} {hs : List Nat} {rdy rdy' k : Nat} {nm : Option α} {x : α} (I : Inv rows gone hs rdy nm fun _ => False) {r : List α} {h : Nat} (er : rows[k]? = some r) (eh : hs[k]? = some h) (ex : r[h]? = some x) (hx : x ∉ gone) (zx : behN rows hs x = 0) (fx : rdy.testBit k = true)
    (b : ∀ j, rdy'.testBit j = (decide (j ≠ k) && rdy.testBit j)) : ∀ j, rdy'.testBit j = true ↔ ∃ y, y ∉ gone ++ [x] ∧ y ∈ rows.flatten ∧ behN rows hs y = 0 ∧ first rows y = j := by
  have uniq : ∀ y, y ∉ gone → y ∈ rows.flatten → behN rows hs y = 0 → first rows y = k → y = x := fun y gy my zy fy => by
    obtain ⟨r2, e2, m2⟩ := first_at my
    rw [fy, er] at e2
    cases e2
    have a := at_idx m2
    have n1 := (behN_zero y rows hs I.len).mp zy k r h er eh
    have le : r.idxOf y ≤ h := Nat.le_of_not_lt fun l => n1 ⟨m2, l⟩
    have ge : ¬ r.idxOf y < h := fun l => gy (I.past k r h er eh _ _ l a)
    have : r.idxOf y = h := by omega
    rw [this, ex] at a
    exact (Option.some.inj a).symm
  obtain ⟨x', gx', mx', zx', fx'⟩ := (I.rd k).mp fx
  have e0 := uniq x' gx' mx' zx' fx'
  subst e0
  intro j
  rw [b j, Bool.and_eq_true, decide_eq_true_eq, I.rd j]
  constructor
  · rintro ⟨n, y, gy, my, zy, fy⟩
    refine ⟨y, fun m => ?_, my, zy, fy⟩
    rcases List.mem_append.mp m with m | m
    · exact gy m
    · have : y = x' := by simpa using m
      subst this
      exact n (fy.symm.trans fx')
  · rintro ⟨y, gy, my, zy, fy⟩
    refine ⟨fun e => ?_, y, fun m => gy (List.mem_append_left _ m), my, zy, fy⟩
    have := uniq y (fun m => gy (List.mem_append_left _ m)) my zy (fy.trans e)
    subst this
    exact gy (List.mem_append_right _ (by simp))
end Nb.Mg

set_option linter.all false
set_option maxRecDepth 100000
/-! How merges of related rows are related. No Python here. -/
namespace Nb.Mg
variable {α : Type} [DecidableEq α]
theorem drop_self {x : α} {t : List α} (h : x ∉ t) : (t.filter fun y => decide (y ≠ x)) = t := List.filter_eq_self.mpr fun z hz => decide_eq_true fun e => h (e ▸ hz)
theorem drop_head {x : α} {t : List α} (h : x ∉ t) : ((x :: t).filter fun y => decide (y ≠ x)) = t := by
  rw [List.filter_cons_of_neg (by simp)]
  exact drop_self h
theorem good_not {rows : List (List α)} {x : α} : good rows x = true ↔ ∀ r ∈ rows, x ∉ r.tail := by
  unfold good
  rw [List.all_eq_true]
  exact ⟨fun h r hr => of_decide_eq_true (h r hr), fun h r hr => decide_eq_true (h r hr)⟩
theorem split_heads {p : α → Bool} : ∀ {rows : List (List α)} {x : α}, (rows.filterMap List.head?).find? p = some x → ∃ l1 r l2, rows = l1 ++ r :: l2 ∧ r.head? = some x ∧ p x = true ∧ ∀ r' ∈ l1, ∀ y, r'.head? = some y → p y = false
  | [], x, h => by cases h
  | [] :: rows, x, h => by
    obtain ⟨l1, r, l2, e, h1, h2, h3⟩ := split_heads (rows := rows) h
    refine ⟨[] :: l1, r, l2, by rw [e]; rfl, h1, h2, fun r' hr y hy => ?_⟩
    rcases List.mem_cons.mp hr with rfl | hr
    · cases hy
    · exact h3 r' hr y hy
  | (z :: w) :: rows, x, h => by
    rw [List.filterMap_cons_some (by rfl), List.find?_cons] at h
    by_cases q : p z = true
    · rw [q] at h
      cases h
      exact ⟨[], z :: w, rows, rfl, rfl, q, fun _ h => nomatch h⟩
    · rw [eq_false_of_ne_true q] at h
      obtain ⟨l1, r, l2, e, h1, h2, h3⟩ := split_heads (rows := rows) h
      refine ⟨(z :: w) :: l1, r, l2, by rw [e]; rfl, h1, h2, fun r' hr y hy => ?_⟩
      rcases List.mem_cons.mp hr with rfl | hr
      · cases hy
        exact eq_false_of_ne_true q
      · exact h3 r' hr y hy
theorem pick_good {rows : List (List α)} {x : α} (h : pick rows = some x) : ∀ r ∈ rows, x ∉ r.tail := good_not.mp (List.find?_some h)
theorem none_heads {rows : List (List α)} (h : pick rows = none) {r : List α} (hr : r ∈ rows) {y : α} (e : r.head? = some y) : good rows y = false := by
  have := List.find?_eq_none.mp h y (List.mem_filterMap.mpr ⟨r, hr, e⟩)
  exact eq_false_of_ne_true this
theorem pick_only {rows : List (List α)} {x : α} (h : ∃ r ∈ rows, r.head? = some x) (g : good rows x = true) (u : ∀ r ∈ rows, ∀ y, r.head? = some y → good rows y = true → y = x) : pick rows = some x := by
  cases e : pick rows with
  | none =>
    obtain ⟨r, hr, e2⟩ := h
    rw [none_heads e hr e2] at g
    cases g
  | some y =>
    obtain ⟨l1, r, l2, e1, e2, e3, _⟩ := split_heads (rows := rows) e
    rw [u r (by rw [e1]; simp) y e2 e3]
theorem mem_without {x y : α} {rows : List (List α)} : y ∈ (without x rows).flatten ↔ y ∈ rows.flatten ∧ y ≠ x := by
  constructor
  · intro h
    obtain ⟨a, ha, hy⟩ := List.mem_flatten.mp h
    obtain ⟨r, hr, rfl⟩ := List.mem_map.mp ha
    obtain ⟨h1, h2⟩ := List.mem_filter.mp hy
    exact ⟨List.mem_flatten.mpr ⟨r, hr, h1⟩, of_decide_eq_true h2⟩
  · rintro ⟨h, n⟩
    obtain ⟨r, hr, hy⟩ := List.mem_flatten.mp h
    exact List.mem_flatten.mpr ⟨_, List.mem_map.mpr ⟨r, hr, rfl⟩, List.mem_filter.mpr ⟨hy, decide_eq_true n⟩⟩
/-- induction over what is drawn -/
theorem draw_ind {P : List (List α) → Prop} (h0 : ∀ rows, pick rows = none → P rows) (h1 : ∀ rows x, pick rows = some x → P (without x rows) → P rows) : ∀ rows, P rows := by
  have key : ∀ (n : Nat) (rows : List (List α)), rows.flatten.length ≤ n → P rows := by
    intro n
    induction n with
    | zero =>
      intro rows h
      cases e : pick rows with
      | none => exact h0 rows e
      | some x =>
        have := List.length_pos_of_mem (pick_mem e)
        omega
    | succ n ih =>
      intro rows h
      cases e : pick rows with
      | none => exact h0 rows e
      | some x =>
        have := without_len (pick_mem e)
        exact h1 rows x e (ih _ (by omega))
  exact fun rows => key _ rows (Nat.le_refl _)
theorem drawn_in : ∀ rows : List (List α), ∀ x ∈ drawn rows, x ∈ rows.flatten := by
  refine draw_ind (fun rows e x hx => ?_) fun rows y e ih x hx => ?_
  · rw [drawn_none e] at hx
    cases hx
  · rw [drawn_some e] at hx
    rcases List.mem_cons.mp hx with rfl | hx
    · exact pick_mem e
    · exact (mem_without.mp (ih x hx)).1
theorem drawn_nodup : ∀ rows : List (List α), (drawn rows).Nodup := by
  refine draw_ind (fun rows e => ?_) fun rows y e ih => ?_
  · rw [drawn_none e]
    exact List.nodup_nil
  · rw [drawn_some e, List.nodup_cons]
    exact ⟨fun h => (mem_without.mp (drawn_in _ y h)).2 rfl, ih⟩
/-- all names are drawn -/
def Cov (rows : List (List α)) : Prop := ∀ x ∈ rows.flatten, x ∈ drawn rows
theorem cov_step {rows : List (List α)} {x : α} (e : pick rows = some x) : Cov rows ↔ Cov (without x rows) := by
  unfold Cov
  rw [drawn_some e]
  constructor
  · intro h y hy
    obtain ⟨a, b⟩ := mem_without.mp hy
    exact (List.mem_cons.mp (h y a)).resolve_left b
  · intro h y hy
    by_cases q : y = x
    · exact q ▸ List.mem_cons_self ..
    · exact List.mem_cons_of_mem _ (h y (mem_without.mpr ⟨hy, q⟩))
theorem cov_none {rows : List (List α)} (e : pick rows = none) (c : Cov rows) : ∀ r ∈ rows, r = [] := fun r hr => by
  cases r with
  | nil => rfl
  | cons y t =>
    have := c y (List.mem_flatten.mpr ⟨_, hr, List.mem_cons_self ..⟩)
    rw [drawn_none e] at this
    cases this
/-- each row stands in order in what is drawn -/
theorem drawn_ord : ∀ rows : List (List α), Cov rows → ∀ r ∈ rows, r.Sublist (drawn rows) := by
  refine draw_ind (fun rows e c r hr => ?_) fun rows x e ih c r hr => ?_
  · rw [cov_none e c r hr]
    exact List.nil_sublist _
  · have h := ih ((cov_step e).mp c) _ (List.mem_map.mpr ⟨r, hr, rfl⟩)
    have g := pick_good e r hr
    rw [drawn_some e]
    cases r with
    | nil => exact List.nil_sublist _
    | cons y t =>
      have g : x ∉ t := g
      by_cases q : y = x
      · subst q
        rw [drop_head g] at h
        exact h.cons₂ y
      · rw [List.filter_cons_of_pos (by simpa using q), drop_self g] at h
        exact h.cons x
/-- rows of one order have a merge -/
theorem heads_sub {rows : List (List α)} : ∀ {W : List α}, W.Nodup → (∀ r ∈ rows, r.Sublist W) → pick rows = none → ∀ r ∈ rows, r = []
  | [], _, h, _, r, hr => List.sublist_nil.mp (h r hr)
  | x :: t, nd, h, e, r, hr => by
    obtain ⟨nx, nt⟩ := List.nodup_cons.mp nd
    by_cases q : ∃ r ∈ rows, r.head? = some x
    · obtain ⟨r0, h0, e0⟩ := q
      have g : good rows x = true := good_not.mpr fun r hr hx => nx ((h r hr).tail.subset hx)
      rw [none_heads e h0 e0] at g
      cases g
    · refine heads_sub nt (fun r hr => ?_) e r hr
      cases h r hr with
      | cons _ s => exact s
      | cons_cons _ s => exact (q ⟨_, hr, rfl⟩).elim
theorem cov_sub {W : List α} (nd : W.Nodup) : ∀ rows : List (List α), (∀ r ∈ rows, r.Sublist W) → Cov rows := by
  refine draw_ind (fun rows e h x hx => ?_) fun rows x e ih h => (cov_step e).mpr (ih fun r hr => ?_)
  · obtain ⟨r, hr, hx⟩ := List.mem_flatten.mp hx
    rw [heads_sub nd h e r hr] at hx
    cases hx
  · obtain ⟨r0, h0, rfl⟩ := List.mem_map.mp hr
    exact List.filter_sublist.trans (h r0 h0)
/-- a row that holds all the others in order is the merge -/
theorem drawn_super : ∀ {D : List α} {rows : List (List α)}, D.Nodup → D ∈ rows → (∀ r ∈ rows, r.Sublist D) → drawn rows = D
  | [], rows, _, _, h => by
    refine drawn_none ?_
    unfold pick
    rw [List.filterMap_eq_nil_iff.mpr fun r hr => by rw [List.sublist_nil.mp (h r hr)]; rfl]
    rfl
  | x :: t, rows, nd, m, h => by
    obtain ⟨nx, nt⟩ := List.nodup_cons.mp nd
    have g : good rows x = true := good_not.mpr fun r hr hx => nx ((h r hr).tail.subset hx)
    have p : pick rows = some x := by
      refine pick_only ⟨_, m, rfl⟩ g fun r hr y ey gy => ?_
      have hy : y ∈ x :: t := (h r hr).subset (List.mem_of_mem_head? (by rw [ey]; rfl))
      exact (List.mem_cons.mp hy).resolve_right (good_not.mp gy _ m)
    rw [drawn_some p]
    congr 1
    refine drawn_super nt (List.mem_map.mpr ⟨_, m, drop_head nx⟩) fun r hr => ?_
    obtain ⟨r0, h0, rfl⟩ := List.mem_map.mp hr
    have := (h r0 h0).filter fun y => decide (y ≠ x)
    rw [drop_head nx] at this
    exact this
/-- two rows without a common name are joined -/
theorem drawn_join {E : List α} : ∀ {D : List α}, (D ++ E).Nodup → drawn [D, E] = D ++ E
  | [], nd => drawn_super nd (by simp) fun r hr => by
    rcases List.mem_cons.mp hr with rfl | hr
    · exact List.nil_sublist _
    · rw [List.mem_singleton.mp hr]
      exact List.Sublist.refl _
  | x :: t, nd => by
    obtain ⟨nx, nt⟩ := List.nodup_cons.mp nd
    have nt1 : x ∉ t := fun h => nx (List.mem_append_left _ h)
    have ne1 : x ∉ E := fun h => nx (List.mem_append_right _ h)
    have p : pick [x :: t, E] = some x := pick_at (l1 := []) (all := [x :: t, E]) rfl (good_not.mpr fun r hr hx => by
      rcases List.mem_cons.mp hr with rfl | hr
      · exact nt1 hx
      · rw [List.mem_singleton.mp hr] at hx
        exact ne1 (List.mem_of_mem_tail hx)) fun _ h => nomatch h
    rw [drawn_some p]
    show x :: drawn [(x :: t).filter _, E.filter _] = _
    rw [drop_head nt1, drop_self ne1, drawn_join nt]
    rfl
/-- a part of the merge behind all rows changes nothing -/
theorem drawn_part : ∀ (rows : List (List α)) (s : List α), s.Sublist (drawn rows) → drawn (rows ++ [s]) = drawn rows := by
  refine draw_ind (fun rows e s h => ?_) fun rows x e ih s h => ?_
  · rw [drawn_none e] at h ⊢
    rw [List.sublist_nil.mp h]
    refine drawn_none (pick_none fun r hr y ey => ?_)
    have gg : good (rows ++ [[]]) y = good rows y := by
      unfold good
      rw [List.all_append]
      simp
    rw [gg]
    rcases List.mem_append.mp hr with hr | hr
    · exact none_heads e hr ey
    · rw [List.mem_singleton.mp hr] at ey
      cases ey
  · have nd := drawn_nodup rows
    rw [drawn_some e] at h nd ⊢
    obtain ⟨nx, nt⟩ := List.nodup_cons.mp nd
    obtain ⟨l1, r, l2, e1, e2, e3, e4⟩ := split_heads (rows := rows) e
    have g1 : ∀ y, good (rows ++ [s]) y = (good rows y && decide (y ∉ s.tail)) := fun y => by
      unfold good
      rw [List.all_append]
      simp
    have p : pick (rows ++ [s]) = some x := by
      have := pick_at (l1 := l1) (l2 := l2 ++ [s]) (r := r) (all := rows ++ [s]) e2 (by
        rw [g1, e3, decide_eq_true (show x ∉ s.tail from fun hx => nx (h.tail.subset hx))]
        rfl) fun r' hr y hy => by rw [g1, e4 r' hr y hy]; rfl
      unfold pick
      conv => lhs; arg 2; rw [e1]
      rw [List.append_assoc]
      exact this
    rw [drawn_some p]
    congr 1
    have w : without x (rows ++ [s]) = without x rows ++ [s.filter fun y => decide (y ≠ x)] := by
      unfold without
      rw [List.map_append]
      rfl
    rw [w]
    refine ih _ ?_
    have := h.filter fun y => decide (y ≠ x)
    rw [drop_head nx] at this
    exact this
/-- a new name at the front of all rows -/
theorem drawn_top {top : α} {rows : List (List α)} (n : top ∉ rows.flatten) (ne : rows ≠ []) : drawn (rows.map (top :: ·)) = top :: drawn rows := by
  have off : ∀ r ∈ rows, top ∉ r := fun r hr h => n (List.mem_flatten.mpr ⟨r, hr, h⟩)
  have p : pick (rows.map (top :: ·)) = some top := by
    cases rows with
    | nil => exact (ne rfl).elim
    | cons r rs =>
      refine pick_at (l1 := []) (r := top :: r) (l2 := rs.map (top :: ·)) (all := (r :: rs).map (top :: ·)) rfl (good_not.mpr fun q hq h => ?_) fun _ h => nomatch h
      obtain ⟨q0, h0, rfl⟩ := List.mem_map.mp hq
      exact off q0 h0 h
  rw [drawn_some p]
  congr 2
  unfold without
  rw [List.map_map]
  conv => rhs; rw [← List.map_id rows]
  exact List.map_congr_left fun r hr => drop_head (off r hr)
/-- a new name at the end of all rows -/
theorem drawn_end {e : α} : ∀ rows : List (List α), e ∉ rows.flatten → rows ≠ [] → Cov rows → drawn (rows.map (· ++ [e])) = drawn rows ++ [e] := by
  refine draw_ind (fun rows p n ne c => ?_) fun rows x p ih n ne c => ?_
  · have all := cov_none p c
    have er : rows.map (· ++ [e]) = List.replicate rows.length [e] := by
      rw [List.eq_replicate_iff]
      refine ⟨List.length_map .., fun b hb => ?_⟩
      obtain ⟨r, hr, rfl⟩ := List.mem_map.mp hb
      rw [all r hr]
      rfl
    rw [drawn_none p, er]
    refine drawn_super (by simp) ?_ fun r hr => ?_
    · rw [List.mem_replicate]
      exact ⟨by simpa using ne, rfl⟩
    · rw [(List.mem_replicate.mp hr).2]
      exact List.Sublist.refl _
  · obtain ⟨l1, r, l2, e1, e2, e3, e4⟩ := split_heads (rows := rows) p
    have off : ∀ r ∈ rows, e ∉ r := fun r hr h => n (List.mem_flatten.mpr ⟨r, hr, h⟩)
    have rm : r ∈ rows := by
      rw [e1]
      simp
    obtain ⟨w, rfl⟩ : ∃ w, r = x :: w := by
      cases r with
      | nil => cases e2
      | cons a w =>
        cases e2
        exact ⟨w, rfl⟩
    have xe : x ≠ e := fun z => off _ rm (z ▸ List.mem_cons_self ..)
    have p2 : pick (rows.map (· ++ [e])) = some x := by
      have := pick_at (l1 := l1.map (· ++ [e])) (l2 := l2.map (· ++ [e])) (r := x :: (w ++ [e])) (x := x) (all := rows.map (· ++ [e])) rfl
        (good_not.mpr fun q hq hx => by
          obtain ⟨q0, h0, rfl⟩ := List.mem_map.mp hq
          have g := pick_good p q0 h0
          cases q0 with
          | nil => cases hx
          | cons a t =>
            have hx : x ∈ t ++ [e] := hx
            rcases List.mem_append.mp hx with h | h
            · exact g h
            · exact xe (List.mem_singleton.mp h))
        (fun r' hr y hy => by
          obtain ⟨q0, h0, rfl⟩ := List.mem_map.mp hr
          refine eq_false_of_ne_true fun g => ?_
          have g := good_not.mp g
          cases q0 with
          | nil =>
            cases hy
            exact g ((x :: w) ++ [e]) (List.mem_map.mpr ⟨_, rm, rfl⟩) (List.mem_append_right w (List.mem_singleton.mpr rfl))
          | cons a t =>
            have ey : a = y := by simpa using hy
            subst ey
            have := e4 _ h0 a rfl
            have g2 : good rows a = true := good_not.mpr fun q hq ha => g (q ++ [e]) (List.mem_map.mpr ⟨q, hq, rfl⟩) (by
              cases q with
              | nil => cases ha
              | cons b u => exact List.mem_append_left _ ha)
            rw [g2] at this
            cases this)
      unfold pick
      conv => lhs; arg 2; rw [e1]
      rw [List.map_append, List.map_cons]
      exact this
    have w2 : without x (rows.map (· ++ [e])) = (without x rows).map (· ++ [e]) := by
      unfold without
      rw [List.map_map, List.map_map]
      refine List.map_congr_left fun r _ => ?_
      show (r ++ [e]).filter _ = r.filter _ ++ [e]
      rw [List.filter_append]
      congr 1
      rw [List.filter_cons_of_pos (by simpa using Ne.symm xe)]
      rfl
    rw [drawn_some p2, drawn_some p, w2, ih (fun h => n (mem_without.mp h).1) (by
      unfold without
      simpa using ne) ((cov_step p).mp c)]
    rfl
/-- other names -/
theorem drawn_map {β : Type} [DecidableEq β] {f : α → β} (inj : ∀ a b, f a = f b → a = b) : ∀ rows : List (List α), drawn (rows.map (List.map f)) = (drawn rows).map f := by
  have mem : ∀ (x : α) (r : List α), f x ∈ r.map f ↔ x ∈ r := fun x r => by
    rw [List.mem_map]
    exact ⟨fun ⟨a, h, e⟩ => inj _ _ e ▸ h, fun h => ⟨x, h, rfl⟩⟩
  have gg : ∀ (rows : List (List α)) (x : α), good (rows.map (List.map f)) (f x) = good rows x := fun rows x => by
    rw [Bool.eq_iff_iff, good_not, good_not]
    constructor
    · intro h r hr hx
      exact h _ (List.mem_map.mpr ⟨r, hr, rfl⟩) (by rw [← List.map_tail, mem]; exact hx)
    · intro h q hq hx
      obtain ⟨r, hr, rfl⟩ := List.mem_map.mp hq
      rw [← List.map_tail, mem] at hx
      exact h r hr hx
  refine draw_ind (fun rows p => ?_) fun rows x p ih => ?_
  · rw [drawn_none p, List.map_nil]
    refine drawn_none (pick_none fun q hq y hy => ?_)
    obtain ⟨r, hr, rfl⟩ := List.mem_map.mp hq
    cases r with
    | nil => cases hy
    | cons a t =>
      cases hy
      rw [gg]
      exact none_heads p hr rfl
  · obtain ⟨l1, r, l2, e1, e2, e3, e4⟩ := split_heads (rows := rows) p
    have p2 : pick (rows.map (List.map f)) = some (f x) := by
      have := pick_at (l1 := l1.map (List.map f)) (l2 := l2.map (List.map f)) (r := r.map f) (x := f x) (all := rows.map (List.map f)) (by rw [List.head?_map, e2]; rfl) (by rw [gg]; exact e3) (fun r' hr y hy => by
        obtain ⟨q, hq, rfl⟩ := List.mem_map.mp hr
        cases q with
        | nil => cases hy
        | cons a t =>
          have ey : f a = y := by simpa using hy
          subst ey
          rw [gg]
          exact e4 _ hq _ rfl)
      unfold pick
      conv => lhs; arg 2; rw [e1]
      rw [List.map_append, List.map_cons]
      exact this
    have w2 : without (f x) (rows.map (List.map f)) = (without x rows).map (List.map f) := by
      unfold without
      rw [List.map_map, List.map_map]
      refine List.map_congr_left fun r _ => ?_
      show (r.map f).filter _ = (r.filter _).map f
      rw [List.filter_map]
      congr 1
      refine List.filter_congr fun y _ => ?_
      show decide (f y ≠ f x) = decide (y ≠ x)
      rw [decide_eq_decide]
      exact ⟨fun h e => h (e ▸ rfl), fun h e => h (inj _ _ e)⟩
    rw [drawn_some p2, drawn_some p, w2, ih]
    rfl
end Nb.Mg

set_option Elab.async false
set_option linter.all false
set_option maxRecDepth 100000
set_option maxHeartbeats 4000000
/-! Comprehensions that change nothing that was told: what they give, item by item. -/
namespace Nb
open PySem
open L2 hiding del del_ne del_same
/-- item by item -/
inductive F2 {α β : Type} (R : α → β → Prop) : List α → List β → Prop
  | nil : F2 R [] []
  | cons {x y xs ys} : R x y → F2 R xs ys → F2 R (x :: xs) (y :: ys)
theorem f2_snoc {α β : Type} {R : α → β → Prop} : ∀ {xs : List α} {ys : List β} {x : α} {y : β}, F2 R xs ys → R x y → F2 R (xs ++ [x]) (ys ++ [y])
  | _, _, _, _, .nil, h => .cons h .nil
  | _, _, _, _, .cons a b, h => .cons a (f2_snoc b h)
theorem f2_imp {α β : Type} {R S : α → β → Prop} (k : ∀ a b, R a b → S a b) : ∀ {xs : List α} {ys : List β}, F2 R xs ys → F2 S xs ys
  | _, _, .nil => .nil
  | _, _, .cons a b => .cons (k _ _ a) (f2_imp k b)
theorem f2_len {α β : Type} {R : α → β → Prop} : ∀ {xs : List α} {ys : List β}, F2 R xs ys → xs.length = ys.length
  | _, _, .nil => rfl
  | _, _, .cons _ b => congrArg (· + 1) (f2_len b)
theorem f2_map {α β : Type} {f : α → β} : ∀ {xs : List α} {ys : List β}, F2 (fun x y => y = f x) xs ys → ys = xs.map f
  | _, _, .nil => rfl
  | _, _, .cons a b => by rw [a, f2_map b]; rfl
theorem f2_get {α β : Type} {R : α → β → Prop} : ∀ {xs : List α} {ys : List β} {i : Nat} {y : β}, F2 R xs ys → ys[i]? = some y → ∃ x, xs[i]? = some x ∧ R x y
  | _, _, 0, _, .cons (x := x) a _, h => ⟨x, rfl, by cases h; exact a⟩
  | _, _, i + 1, _, .cons _ b, h => f2_get (i := i) b h
theorem f2_getl {α β : Type} {R : α → β → Prop} : ∀ {xs : List α} {ys : List β} {i : Nat} {x : α}, F2 R xs ys → xs[i]? = some x → ∃ y, ys[i]? = some y ∧ R x y
  | _, _, 0, _, .cons (y := y) a _, h => ⟨y, rfl, by cases h; exact a⟩
  | _, _, i + 1, _, .cons _ b, h => f2_getl (i := i) b h
section
variable {J : It} {n : Nat} {G : Hp → Prop} {Y : Nat → Hp → V → Hp → Prop} {g : TG} {tt : TT} {te : TE} {vs : List Nat} {σ : L2.St} {H1 : Hp} {D : Addr} {Qd : Hp → Prop}
/-- what a comprehension's rule asks for behind the new list -/
def LcGoal (J : It) (g : TG) (tt : TT) (te : TE) (vs : List Nat) (σ : L2.St) (H1 : Hp) (D : Addr) (Qd : Hp → Prop) : Prop :=
    ∃ W : Nat → Nat → Hp → Prop, (∃ m, W 0 m (upd H1 D (.lst []))) ∧ ∀ i m H, W i m H →
      (J.stop i H ∧ Qd H) ∨ (J.go i H ∧ ∃ Nx : Hp → Prop, (∀ H', Nx H' → ∃ m', m' < m ∧ W (i + 1) m' H') ∧ ∀ x H', J.yld i H x H' → g x (wipe σ vs) H' fun σ2 H2 => wipe σ2 vs = wipe σ vs ∧ tt σ2 H2 fun b H3 =>
        if b = true then te σ2 H3 fun y H4 => ∃ acc, H4 D = some (.lst acc) ∧ acc.length < sizeLine ∧ Nx (upd H4 D (.lst (acc ++ [y]))) else Nx H3)
/-- the items are told by R, under which nothing that is told is lost -/
theorem lcR (w : Walk J n G Y) (p : Nat → Bool) (R : Nat → V → Hp → Prop) (hR : ∀ i y H H', Same H H' → R i y H → R i y H') (hn : n ≤ 100000) (hD : H1 D = none) (hG : ∀ H, Same H1 H → G H)
    (hs : ∀ i x H H' (Nx : VK) (Nf : Hp → Prop), i < n → Same H1 H → H D ≠ none → Y i H x H' → (p i = true → ∀ y H4, Same H H4 → R i y (del H4 D) → Nx y H4) → (p i = false → ∀ H3, Same H H3 → Nf H3) →
      g x (wipe σ vs) H' fun σ2 H2 => wipe σ2 vs = wipe σ vs ∧ tt σ2 H2 fun b H3 => if b = true then te σ2 H3 Nx else Nf H3)
    (hd : ∀ H ys, Same H1 H → H D = some (.lst ys) → F2 (fun i y => R i y H) ((List.range n).filter p) ys → Qd H) : LcGoal J g tt te vs σ H1 D Qd := by
  refine lc_it w (fun i H => ∃ ys, Same H1 H ∧ H D = some (.lst ys) ∧ F2 (fun j y => R j y (del H D)) ((List.range i).filter p) ys)
    ⟨[], same_new hD, upd_same, .nil⟩ (fun i H _ ⟨_, s, _⟩ => hG H s) (fun i x H H' hi ⟨ys, s, e, f⟩ y => ?_) (fun H ⟨ys, s, e, f⟩ => hd H ys s e (f2_imp (fun a b k => hR _ _ _ _ del_same k) f))
  have hl : ys.length ≤ i := by
    rw [← f2_len f]
    exact Nat.le_trans (List.length_filter_le _ _) (by rw [List.length_range]; exact Nat.le_refl _)
  have up : ∀ {H4 : Hp}, Same H H4 → Same (del H D) (del H4 D) := fun s4 => same_del (del_same.trans s4) del_at
  have un : ∀ {H4 : Hp} {o : HO}, del (upd H4 D o) D = del H4 D := fun {H4 o} => by
    funext b
    by_cases h : b = D
    · rw [h, del_at, del_at]
    · rw [del_ne h, del_ne h, upd_ne h]
  refine hs i x H H' _ _ hi s (by rw [e]; exact fun z => nomatch z) y (fun hp v H4 s4 r => ⟨ys, s4 _ _ e, ?_, ys ++ [v], same_at (s.trans s4) hD, upd_same, ?_⟩) (fun hp H3 s3 => ⟨ys, s.trans s3, s3 _ _ e, ?_⟩)
  · exact Nat.lt_of_le_of_lt hl (Nat.lt_of_lt_of_le hi (line100 hn))
  · rw [List.range_succ, List.filter_append, un]
    have e1 : [i].filter p = [i] := by simp [hp]
    rw [e1]
    exact f2_snoc (f2_imp (fun a b k => hR _ _ _ _ (up s4) k) f) r
  · rw [List.range_succ, List.filter_append]
    have e1 : [i].filter p = [] := by simp [hp]
    rw [e1, List.append_nil]
    exact f2_imp (fun a b k => hR _ _ _ _ (up s3) k) f
/-- the items are values that stand in no heap, or stood before -/
theorem lcS (w : Walk J n G Y) (p : Nat → Bool) (f : Nat → V) (hn : n ≤ 100000) (hD : H1 D = none) (hG : ∀ H, Same H1 H → G H)
    (hs : ∀ i x H H' (Nx : VK) (Nf : Hp → Prop), i < n → Same H1 H → Y i H x H' → (p i = true → ∀ H4, Same H H4 → Nx (f i) H4) → (p i = false → ∀ H3, Same H H3 → Nf H3) →
      g x (wipe σ vs) H' fun σ2 H2 => wipe σ2 vs = wipe σ vs ∧ tt σ2 H2 fun b H3 => if b = true then te σ2 H3 Nx else Nf H3)
    (hd : ∀ H, Same H1 H → H D = some (.lst (((List.range n).filter p).map f)) → Qd H) : LcGoal J g tt te vs σ H1 D Qd :=
  lcR w p (fun i y _ => y = f i) (fun _ _ _ _ _ z => z) hn hD hG (fun i x H H' Nx Nf hi s _ y k1 k2 => hs i x H H' Nx Nf hi s y (fun hp H4 s4 => k1 hp _ H4 s4 rfl) k2) fun H ys s e f2 => hd H s (by rw [e, f2_map f2])
/-- without an if -/
theorem lcM (w : Walk J n G Y) (f : Nat → V) (hn : n ≤ 100000) (hD : H1 D = none) (hG : ∀ H, Same H1 H → G H)
    (hs : ∀ i x H H' (Nx : VK), i < n → Same H1 H → Y i H x H' → (∀ H4, Same H H4 → Nx (f i) H4) →
      g x (wipe σ vs) H' fun σ2 H2 => wipe σ2 vs = wipe σ vs ∧ te σ2 H2 Nx)
    (hd : ∀ H, Same H1 H → H D = some (.lst ((List.range n).map f)) → Qd H) : LcGoal J g tYes te vs σ H1 D Qd :=
  lcS w (fun _ => true) f hn hD hG (fun i x H H' Nx Nf hi s y k1 k2 => hs i x H H' Nx hi s y (k1 rfl)) fun H s e => hd H s (by rw [e, List.filter_eq_self.mpr fun _ _ => rfl])
end
end Nb
namespace Nb
open PySem
open L2 hiding del del_ne del_same
section
variable {J : It} {n : Nat} {G : Hp → Prop} {Y : Nat → Hp → V → Hp → Prop} {g : TG} {tt : TT} {tk tv : TE} {vs : List Nat} {σ : L2.St} {H1 : Hp} {D : Addr} {Qd : Hp → Prop}
/-- a dict comprehension without an if, whose keys are all different -/
theorem dcM (w : Walk J n G Y) (key : Nat → Key) (val : Nat → V) (diff : ∀ i j, i < j → j < n → key i ≠ key j) (hn : n ≤ 100000) (hD : H1 D = none) (hG : ∀ H, Same H1 H → G H)
    (hs : ∀ i x H H' (N : V → V → Hp → Prop), i < n → Same H1 H → Y i H x H' → (∀ H5, Same H H5 → N (kV (key i)) (val i) H5) → g x (wipe σ vs) H' fun σ2 H2 => wipe σ2 vs = wipe σ vs ∧ tk σ2 H2 fun y H4 => tv σ2 H4 fun z H5 => N y z H5)
    (hd : ∀ H, Same H1 H → H D = some (.dK ((List.range n).map fun i => (key i, val i))) → Qd H) :
    ∃ W : Nat → Nat → Hp → Prop, (∃ m, W 0 m (upd H1 D (.dK []))) ∧ ∀ i m H, W i m H →
      (J.stop i H ∧ Qd H) ∨ (J.go i H ∧ ∃ Nx : Hp → Prop, (∀ H', Nx H' → ∃ m', m' < m ∧ W (i + 1) m' H') ∧ ∀ x H', J.yld i H x H' → g x (wipe σ vs) H' fun σ2 H2 => wipe σ2 vs = wipe σ vs ∧ tYes σ2 H2 fun b H3 =>
        if b = true then tk σ2 H3 fun y H4 => tv σ2 H4 fun z H5 => ∃ kvs k, y = kV k ∧ H5 D = some (.dK kvs) ∧ kvs.length < sizeLine ∧ Nx (upd H5 D (.dK (putK kvs k z))) else Nx H3) := by
  have inv : ∀ i H, (Same H1 H ∧ H D = some (.dK ((List.range i).map fun i => (key i, val i)))) → Same H1 H := fun _ _ h => h.1
  refine ⟨fun i m H => m + i = n ∧ Same H1 H ∧ H D = some (.dK ((List.range i).map fun i => (key i, val i))), ⟨n, rfl, same_new hD, upd_same⟩, fun i m H ⟨em, s, e⟩ => ?_⟩
  by_cases hlt : i < n
  · refine .inr ⟨w.goes i H hlt (hG H s), fun H' => Same H1 H' ∧ H' D = some (.dK ((List.range (i + 1)).map fun i => (key i, val i))), fun H' p' => ⟨m - 1, by omega, by omega, p'⟩, fun x H' y => ?_⟩
    have z := hs i x H H' (fun y z H5 => ∃ kvs k, y = kV k ∧ H5 D = some (.dK kvs) ∧ kvs.length < sizeLine ∧ Same H1 (upd H5 D (.dK (putK kvs k z))) ∧ (upd H5 D (.dK (putK kvs k z))) D = some (.dK ((List.range (i + 1)).map fun i => (key i, val i)))) hlt s (w.yields i H x H' hlt (hG H s) y)
      (fun H5 s5 => ⟨_, key i, rfl, s5 _ _ e, ?_, same_at (s.trans s5) hD, ?_⟩)
    · exact z
    · rw [List.length_map, List.length_range]
      exact Nat.lt_of_lt_of_le hlt (line100 hn)
    · rw [upd_same]
      have v : valV ((List.range i).map fun i => (key i, val i)) (key i) = none := by
        unfold valV
        rw [Option.map_eq_none_iff, List.find?_eq_none]
        intro p hp
        obtain ⟨j, hj, rfl⟩ := List.mem_map.mp hp
        have := diff j i (List.mem_range.mp hj) hlt
        simpa using this
      rw [putK_new _ v, List.range_succ, List.map_append]
      rfl
  · have e2 : i = n := by omega
    subst e2
    exact .inl ⟨w.stops H (hG H s), hd H s e⟩
end
theorem range_getD {α : Type} (d : α) : ∀ ps : List α, (List.range ps.length).map (fun i => ps.getD i d) = ps := fun ps => by
  apply List.ext_getElem?
  intro i
  rw [List.getElem?_map]
  by_cases h : i < ps.length
  · rw [List.getElem?_range h]
    simp [h]
  · rw [List.getElem?_eq_none_iff.mpr (by rw [List.length_range]; omega), List.getElem?_eq_none_iff.mpr (by omega)]
    rfl
theorem filter_range {α : Type} (d : α) (q : α → Bool) (ps : List α) : ((List.range ps.length).filter fun i => q (ps.getD i d)).length = (ps.filter q).length := by
  conv => rhs; rw [← range_getD d ps]
  rw [List.filter_map, List.length_map]
  rfl
def tUp (t : TT) : TT := fun σ H Q => ∃ R : Bool → Hp → Prop, t σ H R ∧ ∀ b H, R b H → Q b H
theorem pt_up {X : Cx} {e : Expr} {t : TT} (h : PT X e t) : PT X e (tUp t) := ⟨fun pins s σ H _ I ⟨R, r, k⟩ => thn (h.run pins s σ H R I r) fun b s1 ⟨H1, I1, q⟩ => ⟨H1, I1, k b H1 q⟩⟩
theorem tUp_mono {t : TT} : ∀ σ H Q Q', (∀ b H1, Q b H1 → Q' b H1) → tUp t σ H Q → tUp t σ H Q' := fun _ _ _ _ k ⟨R, r, z⟩ => ⟨R, r, fun b H q => k b H (z b H q)⟩
end Nb

set_option Elab.async false
set_option linter.all false
set_option maxRecDepth 100000
/-! The places of names in rows. -/
namespace Nb
open PySem
theorem grow_mem (l : List Str) (x y : Str) : y ∈ grow l x ↔ y ∈ l ∨ y = x := by
  unfold grow
  split
  · rename_i h
    obtain ⟨z, hz, e⟩ := List.any_eq_true.mp h
    have : z = x := eq_of_beq e
    subst this
    constructor
    · exact .inl
    · rintro (k | rfl)
      · exact k
      · exact hz
  · simp
theorem foldl_grow_mem (y : Str) : ∀ (xs acc : List Str), y ∈ xs.foldl grow acc ↔ y ∈ acc ∨ y ∈ xs
  | [], acc => by simp
  | x :: xs, acc => by
    rw [List.foldl_cons, foldl_grow_mem y xs, grow_mem, List.mem_cons]
    constructor
    · rintro ((h | h) | h)
      · exact .inl h
      · exact .inr (.inl h)
      · exact .inr (.inr h)
    · rintro (h | h | h)
      · exact .inl (.inl h)
      · exact .inl (.inr h)
      · exact .inr h
theorem mem_seen {y : Str} {xs : List Str} : y ∈ seen xs ↔ y ∈ xs := by
  unfold seen
  rw [foldl_grow_mem]
  simp
theorem grow_nodup {l : List Str} (x : Str) (h : l.Nodup) : (grow l x).Nodup := by
  unfold grow
  split
  · exact h
  · rename_i k
    refine List.nodup_append.mpr ⟨h, by simp, fun a ha b hb e => ?_⟩
    have : b = x := by simpa using hb
    subst this
    subst e
    exact k (List.any_eq_true.mpr ⟨a, ha, by simp⟩)
theorem nodup_foldl : ∀ (xs acc : List Str), acc.Nodup → (xs.foldl grow acc).Nodup
  | [], _, h => h
  | x :: xs, acc, h => nodup_foldl xs _ (grow_nodup x h)
theorem nodup_seen (xs : List Str) : (seen xs).Nodup := nodup_foldl xs [] List.nodup_nil
namespace Mg
/-- each name with its row and its place there, row by row -/
def row3 (i : Nat) (r : List Str) : List (Str × Nat × Nat) := r.zipIdx.map fun p => (p.1, i, p.2)
def trips : Nat → List (List Str) → List (Str × Nat × Nat)
  | _, [] => []
  | i, r :: rs => row3 i r ++ trips (i + 1) rs
def pl (ts : List (Str × Nat × Nat)) (x : Str) : List (Nat × Nat) := (ts.filter fun t => t.1 == x).map (·.2)
def plc : Nat → List (List Str) → Str → List (Nat × Nat)
  | _, [], _ => []
  | k, r :: rs, x => (if x ∈ r then [(k, r.idxOf x)] else []) ++ plc (k + 1) rs x
theorem trips_take : ∀ (rows : List (List Str)) (k i : Nat) (r : List Str), rows[i]? = some r → trips k (rows.take (i + 1)) = trips k (rows.take i) ++ row3 (k + i) r
  | r0 :: rs, k, 0, r, e => by
    cases e
    simp [trips]
  | r0 :: rs, k, i + 1, r, e => by
    have ih := trips_take rs (k + 1) i r e
    rw [List.take_succ_cons, List.take_succ_cons]
    simp only [trips]
    rw [ih, List.append_assoc, show k + 1 + i = k + (i + 1) by omega]
  | [], _, _, _, e => by simp at e
theorem pl_app (a b : List (Str × Nat × Nat)) (x : Str) : pl (a ++ b) x = pl a x ++ pl b x := by
  unfold pl
  rw [List.filter_append, List.map_append]
theorem pl_row (k : Nat) (x : Str) : ∀ (r : List Str) (j : Nat), r.Nodup → pl ((r.zipIdx j).map fun p => (p.1, k, p.2)) x = if x ∈ r then [(k, j + r.idxOf x)] else []
  | [], j, _ => rfl
  | y :: r, j, nd => by
    have nd2 := List.nodup_cons.mp nd
    have ih := pl_row k x r (j + 1) nd2.2
    have e : pl ((((y :: r).zipIdx j)).map fun p => (p.1, k, p.2)) x = pl [(y, k, j)] x ++ pl ((r.zipIdx (j + 1)).map fun p => (p.1, k, p.2)) x := by
      rw [← pl_app]
      rfl
    rw [e, ih]
    by_cases h : y = x
    · subst h
      rw [if_neg nd2.1, if_pos (List.mem_cons_self ..)]
      simp [pl, List.idxOf_cons_self]
    · have h2 : (y == x) = false := by simpa using h
      have h3 : pl [(y, k, j)] x = [] := by simp [pl, h]
      rw [h3, List.nil_append]
      by_cases m : x ∈ r
      · rw [if_pos m, if_pos (List.mem_cons_of_mem _ m), List.idxOf_cons, h2]
        simp only [cond_false]
        rw [show j + 1 + r.idxOf x = j + (r.idxOf x + 1) by omega]
      · rw [if_neg m, if_neg (by simp [m, Ne.symm h])]
theorem pl_trips (x : Str) : ∀ (rows : List (List Str)) (k : Nat), (∀ r ∈ rows, r.Nodup) → pl (trips k rows) x = plc k rows x
  | [], _, _ => rfl
  | r :: rs, k, h => by
    simp only [trips, plc]
    rw [pl_app, pl_trips x rs (k + 1) fun r hr => h r (List.mem_cons_of_mem _ hr)]
    have := pl_row k x r 0 (h r (List.mem_cons_self ..))
    rw [Nat.zero_add] at this
    unfold row3
    rw [this]
theorem zip_fst : ∀ (r : List Str) (j : Nat), (r.zipIdx j).map (fun p => p.1) = r
  | [], _ => rfl
  | y :: r, j => congrArg (y :: ·) (zip_fst r (j + 1))
theorem names_trips : ∀ (rows : List (List Str)) (k : Nat), (trips k rows).map (·.1) = rows.flatten
  | [], _ => rfl
  | r :: rs, k => by
    simp only [trips, List.map_append, List.flatten_cons]
    rw [names_trips rs (k + 1)]
    have : (row3 k r).map (·.1) = r := by
      unfold row3
      rw [List.map_map]
      show (r.zipIdx).map (fun p => p.1) = r
      exact zip_fst r 0
    rw [this]
theorem mem_plc {x : Str} : ∀ (rows : List (List Str)) (k i a : Nat), (i, a) ∈ plc k rows x ↔ ∃ r, k ≤ i ∧ rows[i - k]? = some r ∧ x ∈ r ∧ a = r.idxOf x
  | [], k, i, a => by simp [plc]
  | r :: rs, k, i, a => by
    simp only [plc, List.mem_append]
    rw [mem_plc rs (k + 1) i a]
    constructor
    · rintro (h | ⟨r', l, e, m, z⟩)
      · split at h
        · rename_i m
          obtain ⟨rfl, rfl⟩ := Prod.mk.inj (by simpa using h)
          exact ⟨r, Nat.le_refl _, by simp, m, rfl⟩
        · cases h
      · refine ⟨r', by omega, ?_, m, z⟩
        rw [show i - k = (i - (k + 1)) + 1 by omega]
        exact e
    · rintro ⟨r', l, e, m, z⟩
      by_cases q : i = k
      · subst q
        rw [Nat.sub_self] at e
        cases e
        subst z
        left
        rw [if_pos m]
        simp
      · right
        refine ⟨r', by omega, ?_, m, z⟩
        rw [show i - k = (i - (k + 1)) + 1 by omega] at e
        exact e
theorem plc_head {x : Str} : ∀ (rows : List (List Str)) (k : Nat), x ∈ rows.flatten → ∃ a tl, plc k rows x = (k + first rows x, a) :: tl
  | [], _, h => by simp at h
  | r :: rs, k, h => by
    by_cases m : x ∈ r
    · refine ⟨r.idxOf x, plc (k + 1) rs x, ?_⟩
      simp only [plc]
      rw [if_pos m]
      have : first (r :: rs) x = 0 := by simp [first, List.findIdx_cons, m]
      rw [this]
      rfl
    · have hm : x ∈ rs.flatten := by
        rw [List.flatten_cons, List.mem_append] at h
        exact h.resolve_left m
      obtain ⟨a, tl, e⟩ := plc_head rs (k + 1) hm
      refine ⟨a, tl, ?_⟩
      simp only [plc]
      rw [if_neg m, List.nil_append, e]
      have : first (r :: rs) x = first rs x + 1 := by simp [first, List.findIdx_cons, m]
      rw [this, show k + 1 + first rs x = k + (first rs x + 1) by omega]
theorem plc_rise {x : Str} : ∀ (rows : List (List Str)) (k : Nat), (plc k rows x).Pairwise fun p q => p.1 < q.1
  | [], _ => .nil
  | r :: rs, k => by
    simp only [plc]
    refine List.pairwise_append.mpr ⟨?_, plc_rise rs (k + 1), fun p hp q hq => ?_⟩
    · split <;> simp
    · obtain ⟨i, a⟩ := q
      obtain ⟨_, l, _⟩ := (mem_plc rs (k + 1) i a).mp hq
      split at hp
      · have : p = (k, r.idxOf x) := by simpa using hp
        rw [this]
        show k < i
        omega
      · cases hp
theorem plc_behind {x : Str} : ∀ (rows : List (List Str)) (k : Nat), ((plc k rows x).filter fun p => decide (0 < p.2)).length = behN rows (List.replicate rows.length 0) x
  | [], _ => rfl
  | r :: rs, k => by
    simp only [plc, List.filter_append, List.length_append, List.length_cons, List.replicate_succ, behN]
    rw [plc_behind rs (k + 1)]
    congr 1
    by_cases m : x ∈ r
    · rw [if_pos m]
      by_cases z : 0 < r.idxOf x
      · simp [m, z]
      · simp [m, z]
    · rw [if_neg m]
      simp [m]
theorem plc_few : ∀ (rows : List (List Str)) (k : Nat) (x : Str), (plc k rows x).length ≤ rows.length
  | [], _, _ => Nat.le_refl _
  | r :: rs, k, x => by
    simp only [plc, List.length_append, List.length_cons]
    have := plc_few rs (k + 1) x
    split
    · simp
      omega
    · simp
      omega
/-- at the beginning every row's first name is its head -/
theorem inv_begin {rows : List (List Str)} {rdy : Nat} (nd : ∀ r ∈ rows, r.Nodup)
    (rd : ∀ j, rdy.testBit j = true ↔ ∃ x, x ∈ rows.flatten ∧ behN rows (List.replicate rows.length 0) x = 0 ∧ first rows x = j) : Inv rows [] (List.replicate rows.length 0) rdy none fun _ => False := by
  have z : ∀ (i : Nat) (h : Nat), (List.replicate rows.length 0)[i]? = some h → h = 0 := fun i h e => by
    rw [List.getElem?_replicate] at e
    split at e
    · cases e; rfl
    · cases e
  refine ⟨List.length_replicate, nd, fun i r h e1 e2 => ?_, fun i r h e1 e2 j y l => ?_, fun i r h e1 e2 y ey g => (nomatch g), fun j => ?_⟩
  · rw [z i h e2]
    exact Nat.zero_le _
  · rw [z i h e2] at l
    omega
  · rw [rd j]
    constructor
    · rintro ⟨x, a, b, c⟩
      exact ⟨x, by simp, a, b, c⟩
    · rintro ⟨x, _, a, b, c⟩
      exact ⟨x, a, b, c⟩
end Mg
end Nb

set_option Elab.async false
set_option linter.all false
set_option maxRecDepth 100000
set_option maxHeartbeats 4000000
/-! The lowest bit of a number, and its rules. -/
namespace Nb
open PySem PySem.Spec PyProof.Rows
open L2 hiding del del_ne del_same
theorem low_form : ∀ r : Nat, r ≠ 0 → ∃ k a, r = 2 ^ k * (2 * a + 1) := by
  intro r
  induction r using Nat.strongRecOn with
  | ind r ih =>
    intro h
    by_cases p : r % 2 = 1
    · exact ⟨0, r / 2, by simp; omega⟩
    · obtain ⟨k, a, e⟩ := ih (r / 2) (by omega) (by omega)
      refine ⟨k + 1, a, ?_⟩
      rw [Nat.pow_succ, Nat.mul_comm (2 ^ k) 2, Nat.mul_assoc, ← e]
      omega
theorem low_bits (k a j : Nat) : (2 ^ k * (2 * a + 1)).testBit j = (decide (k ≤ j) && (2 * a + 1).testBit (j - k)) := by
  rw [Nat.mul_comm, Nat.testBit_mul_two_pow]
theorem low_clear (k a j : Nat) : ((2 ^ k * (2 * a + 1)) &&& (2 ^ k * (2 * a + 1) - 1)).testBit j = (decide (j ≠ k) && (2 ^ k * (2 * a + 1)).testBit j) := by
  have p := Nat.two_pow_pos k
  have e : 2 ^ k * (2 * a + 1) - 1 = 2 ^ k * (2 * a) + (2 ^ k - 1) := by
    rw [Nat.mul_add, Nat.mul_one]
    omega
  rw [Nat.testBit_and, e, Nat.testBit_two_pow_mul_add _ (by omega), low_bits]
  by_cases h : j < k
  · rw [if_pos h]
    have : ¬ k ≤ j := by omega
    simp [this]
  · rw [if_neg h]
    have h2 : k ≤ j := by omega
    by_cases h3 : j = k
    · subst h3
      simp
    · obtain ⟨m, e2⟩ : ∃ m, j - k = m + 1 := ⟨j - k - 1, by omega⟩
      rw [e2, Nat.testBit_succ, Nat.testBit_succ, show (2 * a + 1) / 2 = a by omega, show 2 * a / 2 = a by omega]
      simp [h2, h3]
/-- the lowest bit of r: where it is, and r without it -/
theorem low_of (r : Nat) (h : r ≠ 0) : ∃ k r' : Nat, r.testBit k = true ∧ (∀ j, j < k → r.testBit j = false) ∧ Builtin.bitAnd (r : Int) (-(r : Int)) = 2 ^ k ∧ Builtin.bitAnd (r : Int) ((r : Int) - 1) = (r' : Int) ∧ ∀ j, r'.testBit j = (decide (j ≠ k) && r.testBit j) := by
  obtain ⟨k, a, e⟩ := low_form r h
  have pos : 0 < 2 ^ k * (2 * a + 1) := Nat.mul_pos (Nat.two_pow_pos k) (by omega)
  refine ⟨k, r &&& (r - 1), ?_, fun j hj => ?_, ?_, ?_, fun j => ?_⟩
  · rw [e, low_bits]
    simp
  · rw [e, low_bits]
    have : ¬ k ≤ j := by omega
    simp [this]
  · have c : (r : Int) = 2 ^ k * (2 * (a : Int) + 1) := by
      rw [e, ← PySem.W.kbt_cast]
      push_cast
      rfl
    rw [c]
    exact PySem.W.kbt_low k a
  · have c : (r : Int) - 1 = ((r - 1 : Nat) : Int) := by omega
    rw [c]
    exact PySem.W.os_band r (r - 1)
  · rw [e]
    exact low_clear k a j
theorem bits_pow (k : Nat) : Builtin.Int.intBits ((2 : Int) ^ k) = k + 1 := by
  rw [← PySem.W.kbt_cast]
  unfold Builtin.Int.intBits
  have p := Nat.two_pow_pos k
  have nz : ¬ (((2 ^ k : Nat) : Int) == 0) = true := by
    rw [beq_iff_eq]
    exact_mod_cast Nat.ne_of_gt p
  rw [if_neg nz, Int.natAbs_natCast, Nat.log2_two_pow]
theorem or_nat (a b : Nat) : Builtin.bitOr (a : Int) (b : Int) = ((a ||| b : Nat) : Int) := by
  rw [bitOr_nn (Int.natCast_nonneg a) (Int.natCast_nonneg b), Int.toNat_natCast, Int.toNat_natCast]
section
variable {X : Cx}
theorem in_andI : InOp X .BitAnd (fun x y H Q => ∃ i j, x = .int i ∧ y = .int j ∧ Q (.int (Builtin.bitAnd i j)) H) := by
  rintro pins s σ H x y u v Q I rx ry ⟨i, j, rfl, rfl, q⟩
  obtain ⟨t, rfl⟩ := (show ∃ t, u = Value.int i t from rx)
  obtain ⟨t', rfl⟩ := (show ∃ t', v = Value.int j t' from ry)
  exact PyProof.Rows.iand_int ⟨.int _, H, I.tok _, ⟨_, rfl⟩, q⟩
theorem in_orI : InOp X .BitOr (fun x y H Q => ∃ i j, x = .int i ∧ y = .int j ∧ Q (.int (Builtin.bitOr i j)) H) := by
  rintro pins s σ H x y u v Q I rx ry ⟨i, j, rfl, rfl, q⟩
  obtain ⟨t, rfl⟩ := (show ∃ t, u = Value.int i t from rx)
  obtain ⟨t', rfl⟩ := (show ∃ t', v = Value.int j t' from ry)
  exact PyProof.Rows.ior_int ⟨.int _, H, I.tok _, ⟨_, rfl⟩, q⟩
end
end Nb

set_option Elab.async false
set_option linter.all false
set_option maxRecDepth 100000
set_option maxHeartbeats 4000000
/-! A merge that is under way, in the heap. -/
namespace Nb
open PySem
open L2 hiding del del_ne del_same
abbrev Rows := List (List Str)
def names (rows : Rows) : List Str := seen rows.flatten
theorem mem_names {rows : Rows} {x : Str} : x ∈ names rows ↔ x ∈ rows.flatten := mem_seen
/-- rows that are not too long -/
structure Fit (rows : Rows) : Prop where
  nd : ∀ r ∈ rows, r.Nodup
  few : rows.length ≤ 1000
  all : rows.flatten.length ≤ 100000
theorem Fit.row {rows : Rows} (h : Fit rows) {r : List Str} (hr : r ∈ rows) : r.length ≤ 100000 := by
  refine Nat.le_trans ?_ h.all
  obtain ⟨a, b, e⟩ := List.append_of_mem hr
  rw [e, List.flatten_append, List.flatten_cons, List.length_append, List.length_append]
  omega
theorem seen_len (xs : List Str) : (seen xs).length ≤ xs.length := seen_le xs
/-- the places of the names of a list of triples: D the dict, L x the list of x -/
structure Pl (H : Hp) (D : Addr) (L : Str → Addr) (ts : List (Str × Nat × Nat)) : Prop where
  d : Rd H D (.dK ((seen (ts.map (·.1))).map fun x => ((Sum.inr x : Key), V.ref (L x))))
  l : ∀ x ∈ ts.map (·.1), ∃ as : List Addr, H (L x) = some (.lst (as.map V.ref)) ∧ F2 (fun a (p : Nat × Nat) => H a = some (.tup [.int p.1, .int p.2])) as (Mg.pl ts x)
theorem f2_same {H H' : Hp} (s : Same H H') {as : List Addr} {ps : List (Nat × Nat)} (h : F2 (fun a (p : Nat × Nat) => H a = some (.tup [.int p.1, .int p.2])) as ps) : F2 (fun a (p : Nat × Nat) => H' a = some (.tup [.int p.1, .int p.2])) as ps := f2_imp (fun _ _ k => s _ _ k) h
theorem pl_same {H H' : Hp} {D : Addr} {L : Str → Addr} {ts : List (Str × Nat × Nat)} (s : Same H H') (h : Pl H D L ts) : Pl H' D L ts := ⟨rd_same s h.d, fun x hx => let ⟨as, e, f⟩ := h.l x hx; ⟨as, s _ _ e, f2_same s f⟩⟩
theorem val_map {L : Str → Addr} {x : Str} : ∀ {xs : List Str}, valV (xs.map fun x => ((Sum.inr x : Key), V.ref (L x))) (Sum.inr x) = if x ∈ xs then some (.ref (L x)) else none
  | [] => rfl
  | y :: ys => by
    have ih := val_map (L := L) (x := x) (xs := ys)
    by_cases h : y = x
    · subst h
      rw [if_pos (List.mem_cons_self ..)]
      simp [valV]
    · have e : valV (((Sum.inr y : Key), V.ref (L y)) :: ys.map fun x => ((Sum.inr x : Key), V.ref (L x))) (Sum.inr x) = valV (ys.map fun x => ((Sum.inr x : Key), V.ref (L x))) (Sum.inr x) := by
        simp [valV, h]
      rw [List.map_cons, e, ih]
      by_cases m : x ∈ ys
      · rw [if_pos m, if_pos (List.mem_cons_of_mem _ m)]
      · rw [if_neg m, if_neg (by simp [m, Ne.symm h])]
/-- what stands still of a merge: the rows, the places -/
structure MgF (F : Hp) (T P : Addr) (rows : Rows) (L : Str → Addr) : Prop where
  fit : Fit rows
  at_ : RowsAt F T rows
  pl : Pl F P L (Mg.trips 0 rows)
theorem mgF_same {F F' : Hp} {T P : Addr} {rows : Rows} {L : Str → Addr} (s : Same F F') (h : MgF F T P rows L) : MgF F' T P rows L := ⟨h.fit, rows_same s h.at_, pl_same s h.pl⟩
abbrev flds (T P g hd b : Addr) (rdy : Nat) : List (Str × V) := [("rows", .ref T), ("places", .ref P), ("gone", .ref g), ("heads", .ref hd), ("behind", .ref b), ("ready", .int rdy)]
/-- what is changed of a merge -/
structure MgS (C m T P g hd b : Addr) (rows : Rows) (F H : Hp) (gone : List Str) (hs : List Nat) (rdy : Nat) : Prop where
  same : Same F H
  off : F m = none ∧ F g = none ∧ F hd = none ∧ F b = none
  gb : g ≠ b
  obj : ∃ dx, H m = some (.ins C dx (flds T P g hd b rdy))
  hg : H g = some (.dK (gone.map fun x => ((Sum.inr x : Key), V.bl true)))
  hh : H hd = some (.lst (hs.map fun n => V.int (n : Nat)))
  hb : ∃ bs : List (Key × V), H b = some (.dK bs) ∧ bs.length ≤ 100000 ∧ ∀ x ∈ names rows, ∃ n : Int, valV bs (Sum.inr x) = some (.int n) ∧ (x ∉ gone → n = (Mg.behN rows hs x : Nat))
def spPrepare (C : Addr) : Sp := fun vs H Q _ => ∃ (m T P g hd b : Addr) (rows : Rows) (F : Hp) (L : Str → Addr) (gone : List Str) (hs : List Nat) (rdy : Nat) (x : Str), vs = [.ref m, .str x] ∧ MgF F T P rows L ∧ MgS C m T P g hd b rows F H gone hs rdy ∧ x ∈ names rows ∧ x ∉ gone ∧
  ∀ H', MgS C m T P g hd b rows F H' gone hs (Mg.bits rows hs rdy (some x)) → Q .non H'
def spAdvance (C : Addr) : Sp := fun vs H Q _ => ∃ (m T P g hd b : Addr) (rows : Rows) (F : Hp) (L : Str → Addr) (gone : List Str) (hs : List Nat) (rdy : Nat) (x : Str) (i : Nat) (r : List Str) (h : Nat) (pd : Nat → Prop), vs = [.ref m, .int i] ∧ MgF F T P rows L ∧ MgS C m T P g hd b rows F H gone hs rdy ∧
  Mg.Inv rows gone hs rdy (some x) pd ∧ rows[i]? = some r ∧ hs[i]? = some h ∧ r[h]? = some x ∧ x ∈ gone ∧
  ∀ H' hs' rdy', MgS C m T P g hd b rows F H' gone hs' rdy' → Mg.Inv rows gone hs' rdy' (some x) (fun k => pd k ∧ k ≠ i) → (∀ k, k ≠ i → hs'[k]? = hs[k]?) → Q .non H'
def spDrop (C : Addr) : Sp := fun vs H Q _ => ∃ (m T P g hd b : Addr) (rows : Rows) (F : Hp) (L : Str → Addr) (gone : List Str) (hs : List Nat) (rdy : Nat) (x : Str), vs = [.ref m, .str x] ∧ MgF F T P rows L ∧ MgS C m T P g hd b rows F H gone hs rdy ∧ x ∈ names rows ∧ x ∉ gone ∧ gone.length ≤ 100000 ∧
  Mg.Inv rows (gone ++ [x]) hs rdy (some x) (fun i => ∃ r h, rows[i]? = some r ∧ hs[i]? = some h ∧ r[h]? = some x) ∧
  ∀ H' hs' rdy', MgS C m T P g hd b rows F H' (gone ++ [x]) hs' rdy' → Mg.Inv rows (gone ++ [x]) hs' rdy' none (fun _ => False) → Q .non H'
end Nb
namespace Nb
open PySem
open L2 hiding del del_ne del_same
section
variable {C m T P g hd b : Addr} {rows : Rows} {F H : Hp} {gone : List Str} {hs : List Nat} {rdy : Nat}
theorem flds_put (n : Nat) : putF "ready" (.int n) (flds T P g hd b rdy) = flds T P g hd b n := by rfl
theorem MgS.nes (S : MgS C m T P g hd b rows F H gone hs rdy) : m ≠ g ∧ m ≠ hd ∧ m ≠ b ∧ g ≠ hd ∧ hd ≠ b := by
  obtain ⟨dx, e1⟩ := S.obj
  obtain ⟨bs, e4, _⟩ := S.hb
  exact ⟨ne_of e1 S.hg (by intro z; cases z), ne_of e1 S.hh (by intro z; cases z), ne_of e1 e4 (by intro z; cases z), ne_of S.hg S.hh (by intro z; cases z), ne_of S.hh e4 (by intro z; cases z)⟩
theorem MgS.ready (S : MgS C m T P g hd b rows F H gone hs rdy) {dx : Addr} (n : Nat) : MgS C m T P g hd b rows F (upd H m (.ins C dx (putF "ready" (.int n) (flds T P g hd b rdy)))) gone hs n := by
  obtain ⟨n1, n2, n3, _, _⟩ := S.nes
  obtain ⟨bs, e4, k⟩ := S.hb
  exact ⟨same_at S.same S.off.1, S.off, S.gb, ⟨dx, by rw [upd_same, flds_put]⟩, by rw [upd_ne (Ne.symm n1)]; exact S.hg, by rw [upd_ne (Ne.symm n2)]; exact S.hh, bs, by rw [upd_ne (Ne.symm n3)]; exact e4, k⟩
theorem ixN_at {n j : Nat} (h : j < n) : ixN n (j : Int) = some j := by
  unfold ixN
  rw [if_pos (Int.natCast_nonneg j), if_pos (by omega), Int.toNat_natCast]
theorem putK_old {kvs : List (Key × V)} {k : Key} {v w : V} (h : valV kvs k = some w) : (putK kvs k v).length = kvs.length := by
  unfold putK
  rw [if_pos (by rw [valV_any, h]; rfl), List.length_map]
theorem val_gone {x : Str} : ∀ {xs : List Str}, valV (xs.map fun x => ((Sum.inr x : Key), V.bl true)) (Sum.inr x) = if x ∈ xs then some (.bl true) else none
  | [] => rfl
  | y :: ys => by
    have ih := val_gone (x := x) (xs := ys)
    by_cases h : y = x
    · subst h
      rw [if_pos (List.mem_cons_self ..)]
      simp [valV]
    · have e : valV (((Sum.inr y : Key), V.bl true) :: ys.map fun x => ((Sum.inr x : Key), V.bl true)) (Sum.inr x) = valV (ys.map fun x => ((Sum.inr x : Key), V.bl true)) (Sum.inr x) := by
        simp [valV, h]
      rw [List.map_cons, e, ih]
      by_cases m : x ∈ ys
      · rw [if_pos m, if_pos (List.mem_cons_of_mem _ m)]
      · rw [if_neg m, if_neg (by simp [m, Ne.symm h])]
/-- the heads stored anew, where nobody's number changes -/
theorem MgS.heads (S : MgS C m T P g hd b rows F H gone hs rdy) (hs' : List Nat) (k : ∀ x, x ∉ gone → Mg.behN rows hs' x = Mg.behN rows hs x) : MgS C m T P g hd b rows F (upd H hd (.lst (hs'.map fun n => V.int (n : Nat)))) gone hs' rdy := by
  obtain ⟨_, n2, _, n4, n5⟩ := S.nes
  obtain ⟨dx, e1⟩ := S.obj
  obtain ⟨bs, e4, l4, k4⟩ := S.hb
  exact ⟨same_at S.same S.off.2.2.1, S.off, S.gb, ⟨dx, by rw [upd_ne n2]; exact e1⟩, by rw [upd_ne n4]; exact S.hg, upd_same, bs, by rw [upd_ne (Ne.symm n5)]; exact e4, l4, fun x hx =>
    let ⟨n, v, z⟩ := k4 x hx
    ⟨n, v, fun gx => by rw [k x gx]; exact z gx⟩⟩
/-- the heads stored anew, and the number of the one that became a head -/
theorem MgS.moved (S : MgS C m T P g hd b rows F H gone hs rdy) (hs' : List Nat) (y : Str) (bs : List (Key × V)) (n : Int) (e : H b = some (.dK bs)) (l : bs.length ≤ 100000) (v : valV bs (Sum.inr y) = some (.int n)) (my : y ∈ names rows) (gy : y ∉ gone)
    (kb : ∀ x ∈ names rows, ∃ n : Int, valV bs (Sum.inr x) = some (.int n) ∧ (x ∉ gone → n = (Mg.behN rows hs x : Nat)))
    (k : ∀ x, x ∉ gone → Mg.behN rows hs' x + (if x = y then 1 else 0) = Mg.behN rows hs x) : MgS C m T P g hd b rows F (upd (upd H hd (.lst (hs'.map fun n => V.int (n : Nat)))) b (.dK (putK bs (Sum.inr y) (.int (n - 1))))) gone hs' rdy := by
  obtain ⟨_, n2, n3, n4, n5⟩ := S.nes
  obtain ⟨dx, e1⟩ := S.obj
  refine ⟨same_at (same_at S.same S.off.2.2.1) S.off.2.2.2, S.off, S.gb, ⟨dx, by rw [upd_ne n3, upd_ne n2]; exact e1⟩, by rw [upd_ne S.gb, upd_ne n4]; exact S.hg, by rw [upd_ne n5]; exact upd_same, _, upd_same, by rw [putK_old v]; exact l, fun x hx => ?_⟩
  obtain ⟨n2', v2, z2⟩ := kb x hx
  rw [valV_put]
  by_cases h : x = y
  · subst h
    rw [if_pos rfl]
    refine ⟨_, rfl, fun gx => ?_⟩
    rw [v] at v2
    have en : n = n2' := by
      injection v2 with v2
      injection v2
    have k1 := k x gx
    rw [if_pos rfl] at k1
    have := z2 gx
    omega
  · rw [if_neg (by simpa using h)]
    refine ⟨n2', v2, fun gx => ?_⟩
    have k1 := k x gx
    rw [if_neg h] at k1
    have := z2 gx
    omega
theorem MgS.dropped (S : MgS C m T P g hd b rows F H gone hs rdy) {x : Str} (nx : x ∉ gone) : MgS C m T P g hd b rows F (upd H g (.dK (putK (gone.map fun x => ((Sum.inr x : Key), V.bl true)) (Sum.inr x) (.bl true)))) (gone ++ [x]) hs rdy := by
  obtain ⟨n1, _, _, n4, _⟩ := S.nes
  obtain ⟨dx, e1⟩ := S.obj
  obtain ⟨bs, e4, l4, k4⟩ := S.hb
  have v := val_gone (x := x) (xs := gone)
  rw [if_neg nx] at v
  refine ⟨same_at S.same S.off.2.1, S.off, S.gb, ⟨dx, by rw [upd_ne n1]; exact e1⟩, by rw [upd_same, putK_new _ v, List.map_append]; rfl, by rw [upd_ne (Ne.symm n4)]; exact S.hh, bs, by rw [upd_ne (Ne.symm S.gb)]; exact e4, l4, fun y hy => ?_⟩
  obtain ⟨n, v, z⟩ := k4 y hy
  exact ⟨n, v, fun gy => z fun h => gy (List.mem_append_left _ h)⟩
end
theorem Mg.Inv.weak {rows : Rows} {gone : List Str} {hs : List Nat} {rdy : Nat} {nm : Option Str} {pd pd' : Nat → Prop} (I : Mg.Inv rows gone hs rdy nm pd) (h : ∀ k, pd k → pd' k) : Mg.Inv rows gone hs rdy nm pd' := ⟨I.len, I.nd, I.le, I.past, fun i r h' e1 e2 y ey gy => let ⟨a, b⟩ := I.hd i r h' e1 e2 y ey gy; ⟨a, h _ b⟩, I.rd⟩
section
variable {C m T P g hd b : Addr} {rows : Rows} {F F' H : Hp} {gone : List Str} {hs : List Nat} {rdy : Nat}
theorem MgS.frame (S : MgS C m T P g hd b rows F H gone hs rdy) (s : Same F' H) (off : F' m = none ∧ F' g = none ∧ F' hd = none ∧ F' b = none) : MgS C m T P g hd b rows F' H gone hs rdy := ⟨s, off, S.gb, S.obj, S.hg, S.hh, S.hb⟩
theorem MgS.beside (S : MgS C m T P g hd b rows F H gone hs rdy) {l : Addr} {o : HO} (n1 : l ≠ m) (n2 : l ≠ g) (n3 : l ≠ hd) (n4 : l ≠ b) (fl : F l = none) : MgS C m T P g hd b rows F (upd H l o) gone hs rdy := by
  obtain ⟨dx, e1⟩ := S.obj
  obtain ⟨bs, e4, k⟩ := S.hb
  exact ⟨same_at S.same fl, S.off, S.gb, ⟨dx, by rw [upd_ne (Ne.symm n1)]; exact e1⟩, by rw [upd_ne (Ne.symm n2)]; exact S.hg, by rw [upd_ne (Ne.symm n3)]; exact S.hh, bs, by rw [upd_ne (Ne.symm n4)]; exact e4, k⟩
/-- with one object more in the frame -/
theorem MgS.hold (S : MgS C m T P g hd b rows F H gone hs rdy) {l : Addr} {o : HO} (e : H l = some o) (n1 : l ≠ m) (n2 : l ≠ g) (n3 : l ≠ hd) (n4 : l ≠ b) : MgS C m T P g hd b rows (upd F l o) H gone hs rdy := by
  refine S.frame (fun c u hc => ?_) ⟨by rw [upd_ne (Ne.symm n1)]; exact S.off.1, by rw [upd_ne (Ne.symm n2)]; exact S.off.2.1, by rw [upd_ne (Ne.symm n3)]; exact S.off.2.2.1, by rw [upd_ne (Ne.symm n4)]; exact S.off.2.2.2⟩
  by_cases h : c = l
  · subst h
    rw [upd_same] at hc
    cases hc
    exact e
  · rw [upd_ne h] at hc
    exact S.same _ _ hc
end
def spDraw (C : Addr) : Sp := fun vs H Q _ => ∃ (m T P g hd b : Addr) (rows : Rows) (F : Hp) (L : Str → Addr) (gone : List Str) (hs : List Nat) (rdy : Nat), vs = [.ref m] ∧ MgF F T P rows L ∧ MgS C m T P g hd b rows F H gone hs rdy ∧ gone.Nodup ∧ (∀ x ∈ gone, x ∈ names rows) ∧
  Mg.Inv rows gone hs rdy none (fun _ => False) ∧
  ∀ H' l hs', MgS C m T P g hd b rows F H' (gone ++ Mg.drawn (Mg.alive gone rows)) hs' 0 → Mg.Inv rows (gone ++ Mg.drawn (Mg.alive gone rows)) hs' 0 none (fun _ => False) → H' l = some (.lst ((Mg.drawn (Mg.alive gone rows)).map V.str)) → H l = none →
    (gone ++ Mg.drawn (Mg.alive gone rows)).Nodup → (∀ x ∈ gone ++ Mg.drawn (Mg.alive gone rows), x ∈ names rows) → Q (.ref l) H'
theorem nodup_sub : ∀ {xs ys : List Str}, xs.Nodup → (∀ x ∈ xs, x ∈ ys) → xs.length ≤ ys.length
  | [], _, _, _ => Nat.zero_le _
  | x :: xs, ys, nd, h => by
    have nd2 := List.nodup_cons.mp nd
    obtain ⟨a, b, e⟩ := List.append_of_mem (h x (List.mem_cons_self ..))
    have := nodup_sub (xs := xs) (ys := a ++ b) nd2.2 fun y hy => by
      have hm := h y (List.mem_cons_of_mem _ hy)
      rw [e] at hm
      rcases List.mem_append.mp hm with z | z
      · exact List.mem_append_left _ z
      · rcases List.mem_cons.mp z with z | z
        · subst z
          exact absurd hy nd2.1
        · exact List.mem_append_right _ z
    rw [e, List.length_append, List.length_cons]
    rw [List.length_append] at this
    rw [List.length_cons]
    omega
end Nb
namespace Nb
open PySem
open L2 hiding del del_ne del_same
/-- places that are being filled: what is told of them stood not before -/
structure Plm (H0 H : Hp) (D : Addr) (L : Str → Addr) (ts : List (Str × Nat × Nat)) : Prop where
  same : Same H0 H
  nd : H0 D = none
  d : H D = some (.dK ((seen (ts.map (·.1))).map fun x => ((Sum.inr x : Key), V.ref (L x))))
  l : ∀ x ∈ ts.map (·.1), H0 (L x) = none ∧ ∃ as : List Addr, H (L x) = some (.lst (as.map V.ref)) ∧ F2 (fun a (p : Nat × Nat) => H a = some (.tup [.int p.1, .int p.2])) as (Mg.pl ts x)
  inj : ∀ x ∈ ts.map (·.1), ∀ y ∈ ts.map (·.1), L x = L y → x = y
theorem Plm.to {H0 H : Hp} {D : Addr} {L : Str → Addr} {ts : List (Str × Nat × Nat)} (p : Plm H0 H D L ts) : Pl H D L ts := ⟨.inl p.d, fun x hx => (p.l x hx).2⟩
theorem pl_snoc (ts : List (Str × Nat × Nat)) (x y : Str) (i j : Nat) : Mg.pl (ts ++ [(x, i, j)]) y = if x = y then Mg.pl ts y ++ [(i, j)] else Mg.pl ts y := by
  rw [Mg.pl_app]
  by_cases h : x = y
  · subst h
    rw [if_pos rfl]
    simp [Mg.pl]
  · rw [if_neg h]
    simp [Mg.pl, h]
theorem seen_old {xs : List Str} {x : Str} (h : x ∈ xs) : seen (xs ++ [x]) = seen xs := by
  rw [seen_snoc]
  unfold grow
  rw [if_pos (List.any_eq_true.mpr ⟨x, mem_seen.mpr h, by simp⟩)]
theorem seen_new {xs : List Str} {x : Str} (h : x ∉ xs) : seen (xs ++ [x]) = seen xs ++ [x] := by
  rw [seen_snoc]
  unfold grow
  rw [if_neg]
  intro k
  obtain ⟨y, hy, e⟩ := List.any_eq_true.mp k
  have : y = x := eq_of_beq e
  subst this
  exact h (mem_seen.mp hy)
section
variable {H0 H H2 : Hp} {D t l0 : Addr} {L : Str → Addr} {ts : List (Str × Nat × Nat)} {x : Str} {i j : Nat}
/-- one place more of a name that has some -/
theorem Plm.more (p : Plm H0 H D L ts) (mx : x ∈ ts.map (·.1)) (s : Same H H2) (et : H2 t = some (.tup [.int i, .int j])) (nt : H t = none) : ∃ as : List Addr, H2 (L x) = some (.lst (as.map V.ref)) ∧ as.length ≤ ts.length ∧ Plm H0 (upd H2 (L x) (.lst (as.map V.ref ++ [.ref t]))) D L (ts ++ [(x, i, j)]) := by
  obtain ⟨n0, as, e, f⟩ := p.l x mx
  have len : as.length ≤ ts.length := by
    rw [f2_len f]
    unfold Mg.pl
    rw [List.length_map]
    exact List.length_filter_le ..
  have nD : D ≠ L x := fun z => by
    have := p.d
    rw [z, e] at this
    cases this
  refine ⟨as, s _ _ e, len, same_at (p.same.trans s) n0, p.nd, ?_, fun y hy => ?_, fun y hy z hz => ?_⟩
  · rw [upd_ne nD, List.map_append]
    show H2 D = some (.dK ((seen (ts.map (·.1) ++ [x])).map _))
    rw [seen_old mx]
    exact s _ _ p.d
  · have hy : y ∈ ts.map (·.1) := by
      rw [List.map_append] at hy
      rcases List.mem_append.mp hy with h | h
      · exact h
      · have : y = x := by simpa using h
        rw [this]
        exact mx
    obtain ⟨n1, bs, e1, f1⟩ := p.l y hy
    have off : ∀ {a : Addr} {q : Nat × Nat}, H a = some (.tup [.int q.1, .int q.2]) → (upd H2 (L x) (.lst (as.map V.ref ++ [.ref t]))) a = some (.tup [.int q.1, .int q.2]) := fun {a q} k => by
      have : a ≠ L x := fun z => by
        rw [z, e] at k
        cases k
      rw [upd_ne this]
      exact s _ _ k
    refine ⟨n1, ?_⟩
    rw [pl_snoc]
    by_cases h : x = y
    · subst h
      rw [if_pos rfl]
      refine ⟨as ++ [t], by rw [upd_same, List.map_append]; rfl, f2_snoc (f2_imp (fun a q k => off k) f) ?_⟩
      have : t ≠ L x := fun z => by
        rw [z, e] at nt
        cases nt
      rw [upd_ne this]
      exact et
    · rw [if_neg h]
      have : L y ≠ L x := fun z => h (p.inj x mx y hy z.symm)
      exact ⟨bs, by rw [upd_ne this]; exact s _ _ e1, f2_imp (fun a q k => off k) f1⟩
  · have key : ∀ w, w ∈ (ts ++ [(x, i, j)]).map (·.1) → w ∈ ts.map (·.1) := fun w hw => by
      rw [List.map_append] at hw
      rcases List.mem_append.mp hw with h | h
      · exact h
      · have : w = x := by simpa using h
        rw [this]
        exact mx
    exact p.inj y (key y hy) z (key z hz)
/-- the first place of a name -/
theorem Plm.fresh (p : Plm H0 H D L ts) (mx : x ∉ ts.map (·.1)) {H1 : Hp} (s1 : Same H H1) (n0 : H l0 = none) (e0 : H1 l0 = some (.lst []))
    (s2 : Same (upd H1 D (.dK (putK ((seen (ts.map (·.1))).map fun x => ((Sum.inr x : Key), V.ref (L x))) (Sum.inr x) (.ref l0)))) H2) (et : H2 t = some (.tup [.int i, .int j])) (nt : (upd H1 D (.dK (putK ((seen (ts.map (·.1))).map fun x => ((Sum.inr x : Key), V.ref (L x))) (Sum.inr x) (.ref l0)))) t = none) :
    H2 l0 = some (.lst []) ∧ Plm H0 (upd H2 l0 (.lst ([] ++ [.ref t]))) D (fun y => if y = x then l0 else L y) (ts ++ [(x, i, j)]) := by
  have nD : D ≠ l0 := fun z => by
    have := p.d
    rw [z, n0] at this
    cases this
  have v := val_map (L := L) (x := x) (xs := seen (ts.map (·.1)))
  rw [if_neg (fun k => mx (mem_seen.mp k))] at v
  rw [putK_new _ v] at s2 nt
  have eD := s2 _ _ upd_same
  have e2 : H2 l0 = some (.lst []) := s2 _ _ (by rw [upd_ne (Ne.symm nD)]; exact e0)
  have keep : ∀ {a : Addr} {o : HO}, H a = some o → a ≠ D → a ≠ l0 → (upd H2 l0 (.lst ([] ++ [.ref t]))) a = some o := fun {a o} k n1 n2 => by
    rw [upd_ne n2]
    exact s2 _ _ (by rw [upd_ne n1]; exact s1 _ _ k)
  have ne0 : ∀ {a : Addr} {o : HO}, H a = some o → a ≠ l0 := fun {a o} k z => by
    rw [z, n0] at k
    cases k
  refine ⟨e2, fun a o k => ?_, p.nd, ?_, fun y hy => ?_, fun y hy z hz e => ?_⟩
  · have k1 := p.same _ _ k
    exact keep k1 (fun z => by rw [z, p.nd] at k; cases k) (ne0 k1)
  · rw [upd_ne nD, eD, List.map_append]
    show some (HO.dK _) = some (HO.dK ((seen (ts.map (·.1) ++ [x])).map _))
    rw [seen_new mx, List.map_append]
    congr 2
    congr 1
    · refine List.map_congr_left fun y hy => ?_
      have : y ≠ x := fun z => by
        rw [z] at hy
        exact mx (mem_seen.mp hy)
      rw [if_neg this]
    · simp
  · rw [List.map_append] at hy
    rw [pl_snoc]
    by_cases h : x = y
    · subst h
      have none' : Mg.pl ts x = [] := by
        unfold Mg.pl
        rw [List.map_eq_nil_iff, List.filter_eq_nil_iff]
        intro q hq k
        have : q.1 = x := eq_of_beq k
        exact mx (List.mem_map.mpr ⟨q, hq, this⟩)
      rw [if_pos rfl, if_pos rfl, none']
      refine ⟨p.same.free n0, [t], upd_same, .cons ?_ .nil⟩
      have : t ≠ l0 := fun z => by
        rw [z, upd_ne (Ne.symm nD), e0] at nt
        cases nt
      rw [upd_ne this]
      exact et
    · have hy : y ∈ ts.map (·.1) := by
        rcases List.mem_append.mp hy with k | k
        · exact k
        · have : y = x := by simpa using k
          exact absurd this.symm h
      rw [if_neg h, if_neg (Ne.symm h)]
      obtain ⟨n1, bs, e1, f1⟩ := p.l y hy
      refine ⟨n1, bs, keep e1 (fun z => ?_) (ne0 e1), f2_imp (fun a q k => keep k (fun z => ?_) (ne0 k)) f1⟩
      · rw [z, p.d] at e1
        cases e1
      · rw [z, p.d] at k
        cases k
  · have key : ∀ w, w ∈ (ts ++ [(x, i, j)]).map (·.1) → w = x ∨ w ∈ ts.map (·.1) := fun w hw => by
      rw [List.map_append] at hw
      rcases List.mem_append.mp hw with h | h
      · exact .inr h
      · exact .inl (by simpa using h)
    have e : (if y = x then l0 else L y) = (if z = x then l0 else L z) := e
    rcases key y hy with hy | hy <;> rcases key z hz with hz | hz
    · rw [hy, hz]
    · have : z ≠ x := fun k => mx (k ▸ hz)
      rw [if_pos hy, if_neg this] at e
      obtain ⟨_, _, e1, _⟩ := p.l z hz
      exact absurd e.symm (ne0 e1)
    · have : y ≠ x := fun k => mx (k ▸ hy)
      rw [if_neg this, if_pos hz] at e
      obtain ⟨_, _, e1, _⟩ := p.l y hy
      exact absurd e (ne0 e1)
    · have a1 : y ≠ x := fun k => mx (k ▸ hy)
      have a2 : z ≠ x := fun k => mx (k ▸ hz)
      rw [if_neg a1, if_neg a2] at e
      exact p.inj y hy z hz e
end
def spPlaces : Sp := fun vs H Q _ => ∃ (T : Addr) (rows : Rows), vs = [.ref T] ∧ RowsAt H T rows ∧ Fit rows ∧ ∀ H' D L, Plm H H' D L (Mg.trips 0 rows) → Q (.ref D) H'
theorem row3_snoc {r : List Str} {j i : Nat} {x : Str} (e : r[j]? = some x) : Mg.row3 i (r.take (j + 1)) = Mg.row3 i (r.take j) ++ [(x, i, j)] := by
  have lt := (List.getElem?_eq_some_iff.mp e).1
  unfold Mg.row3
  rw [List.take_add_one, e, Option.toList_some, List.zipIdx_append, List.map_append, List.length_take, Nat.min_eq_left (Nat.le_of_lt lt)]
  simp
end Nb
namespace Nb
open PySem
open L2 hiding del del_ne del_same
theorem val_int {f : Str → Nat} {x : Str} : ∀ {xs : List Str}, x ∈ xs → valV (xs.map fun x => ((Sum.inr x : Key), V.int (f x : Nat))) (Sum.inr x) = some (.int (f x : Nat))
  | y :: ys, h => by
    by_cases e : y = x
    · subst e
      simp [valV]
    · have h2 : x ∈ ys := (List.mem_cons.mp h).resolve_left (Ne.symm e)
      have := val_int (f := f) h2
      rw [List.map_cons, valV_neg (by simpa using e)]
      exact this
section
variable {C m T P g hd b : Addr} {rows : Rows} {F H : Hp} {gone : List Str} {hs : List Nat} {rdy : Nat} {L : Str → Addr} {od : Obj} {u : HO}
theorem MgS.locked (S : MgS C m T P g hd b rows F H gone hs rdy) (n1 : P ≠ m) (n2 : P ≠ g) (n3 : P ≠ hd) (n4 : P ≠ b) : MgS C m T P g hd b rows (upd F P u) (upd H P u) gone hs rdy := by
  obtain ⟨dx, e1⟩ := S.obj
  obtain ⟨bs, e4, k⟩ := S.hb
  exact ⟨grow_up S.same, ⟨by rw [upd_ne (Ne.symm n1)]; exact S.off.1, by rw [upd_ne (Ne.symm n2)]; exact S.off.2.1, by rw [upd_ne (Ne.symm n3)]; exact S.off.2.2.1, by rw [upd_ne (Ne.symm n4)]; exact S.off.2.2.2⟩, S.gb, ⟨dx, by rw [upd_ne (Ne.symm n1)]; exact e1⟩, by rw [upd_ne (Ne.symm n2)]; exact S.hg, by rw [upd_ne (Ne.symm n3)]; exact S.hh, bs, by rw [upd_ne (Ne.symm n4)]; exact e4, k⟩
theorem MgS.unlocked (S : MgS C m T P g hd b rows (upd F P u) H gone hs rdy) {o : HO} (e : F P = some o) (n1 : P ≠ m) (n2 : P ≠ g) (n3 : P ≠ hd) (n4 : P ≠ b) : MgS C m T P g hd b rows F (upd H P o) gone hs rdy := by
  obtain ⟨dx, e1⟩ := S.obj
  obtain ⟨bs, e4, k⟩ := S.hb
  obtain ⟨f1, f2, f3, f4⟩ := S.off
  rw [upd_ne (Ne.symm n1)] at f1
  rw [upd_ne (Ne.symm n2)] at f2
  rw [upd_ne (Ne.symm n3)] at f3
  rw [upd_ne (Ne.symm n4)] at f4
  refine ⟨fun a o' h => ?_, ⟨f1, f2, f3, f4⟩, S.gb, ⟨dx, by rw [upd_ne (Ne.symm n1)]; exact e1⟩, by rw [upd_ne (Ne.symm n2)]; exact S.hg, by rw [upd_ne (Ne.symm n3)]; exact S.hh, bs, by rw [upd_ne (Ne.symm n4)]; exact e4, k⟩
  by_cases z : a = P
  · rw [z, e] at h
    cases h
    rw [z, upd_same]
  · rw [upd_ne z]
    exact S.same _ _ (by rw [upd_ne z]; exact h)
theorem MgF.locked {kvs : List (Key × V)} (M : MgF F T P rows L) (dF : F P = some (.dK kvs)) (ekv : kvs = (names rows).map fun x => ((Sum.inr x : Key), V.ref (L x))) : MgF (upd F P (.frz od (.dK kvs))) T P rows L := by
  have keep : ∀ {a : Addr} {o : HO}, F a = some o → (∀ kvs, o ≠ .dK kvs) → (upd F P (.frz od (.dK kvs))) a = some o := fun {a o} h n => by
    have : a ≠ P := fun z => by
      rw [z, dF] at h
      cases h
      exact n _ rfl
    rw [upd_ne this]
    exact h
  obtain ⟨as, t1, t2, t3⟩ := M.at_
  refine ⟨M.fit, ⟨as, keep t1 (fun _ z => by cases z), t2, fun k a row e1 e2 => ?_⟩, ⟨.inr ⟨od, ?_⟩, fun x hx => ?_⟩⟩
  · rcases t3 k a row e1 e2 with h | ⟨ob, h⟩
    · exact .inl (keep h fun _ z => by cases z)
    · exact .inr ⟨ob, keep h fun _ z => by cases z⟩
  · rw [upd_same, ekv, Mg.names_trips]
    rfl
  · obtain ⟨bs, k1, k2⟩ := M.pl.l x hx
    exact ⟨bs, keep k1 (fun _ z => by cases z), f2_imp (fun a q k => keep k fun _ z => by cases z) k2⟩
end
/-- Merge.__init__ -/
def spMInit (C : Addr) : Sp := fun vs H Q _ => ∃ (m dx T : Addr) (rows : Rows), vs = [.ref m, .ref T] ∧ H m = some (.ins C dx []) ∧ RowsAt (del H m) T rows ∧ Fit rows ∧
  ∀ H' P g hd b L F rdy, Same (del H m) F → MgF F T P rows L → MgS C m T P g hd b rows F H' [] (List.replicate rows.length 0) rdy → Mg.Inv rows [] (List.replicate rows.length 0) rdy none (fun _ => False) →
    F P = some (.dK ((names rows).map fun x => ((Sum.inr x : Key), V.ref (L x)))) → Q .non H'
theorem same_off {H0 H H' : Hp} {m : Addr} (s : Same H H') : Same (del H m) (del H' m) := del_mono s
/-- a heap with the instance at m stored anew -/
theorem del_upd {H : Hp} {m : Addr} {o : HO} : del (upd H m o) m = del H m := by
  funext c
  by_cases h : c = m
  · rw [h, del_at, del_at]
  · rw [del_ne h, del_ne h, upd_ne h]
end Nb

set_option Elab.async false
set_option linter.all false
set_option maxRecDepth 100000
set_option maxHeartbeats 4000000
/-! Worlds as data: classes with bases and lines, in the order of definition. -/
namespace Nb.Wd
open PySem Nb
structure En where
  bases : List Str
  kept : List PyData
  line : List Str
abbrev Ens := List (Str × En)
def nms (es : Ens) : List Str := es.map (·.1)
/-- the line of a class -/
def ln (es : Ens) (x : Str) : List Str := match es.lookup x with
  | some e => e.line
  | none => []
/-- what is merged for a class with these bases -/
def rws (es : Ens) (bs : List Str) : List (List Str) := bs.map (ln es) ++ [bs]
/-- a world as it can be -/
inductive Bt : Ens → Prop
  | nil : Bt []
  | snoc {es : Ens} {n : Str} {bs : List Str} {kd : List PyData} (h : Bt es) (new : n ∉ nms es) (nm : isNm n = true ∧ Word n) (nd : bs.Nodup) (few : bs.length ≤ 8) (sub : ∀ b ∈ bs, b ∈ nms es) (cov : Mg.Cov (rws es bs)) :
      Bt (es ++ [(n, ⟨bs, kd, n :: Mg.drawn (rws es bs)⟩)])
theorem nms_snoc (es : Ens) (n : Str) (e : En) : nms (es ++ [(n, e)]) = nms es ++ [n] := by
  unfold nms
  rw [List.map_append]
  rfl
theorem look_old {es : Ens} {n x : Str} {e : En} (h : x ∈ nms es) : (es ++ [(n, e)]).lookup x = es.lookup x := by
  induction es with
  | nil => cases h
  | cons p es ih =>
    obtain ⟨k, v⟩ := p
    rw [List.cons_append, List.lookup_cons, List.lookup_cons]
    by_cases c : x = k
    · subst c
      rw [show (x == x) = true from beq_self_eq_true x]
    · rw [show (x == k) = false from beq_eq_false_iff_ne.mpr c]
      exact ih ((List.mem_cons.mp h).resolve_left c)
theorem look_new {es : Ens} {n : Str} {e : En} (h : n ∉ nms es) : (es ++ [(n, e)]).lookup n = some e := by
  induction es with
  | nil =>
    rw [List.nil_append, List.lookup_cons, show (n == n) = true from beq_self_eq_true n]
  | cons p es ih =>
    obtain ⟨k, v⟩ := p
    have h1 : n ≠ k ∧ n ∉ nms es := ⟨fun e => h (e ▸ List.mem_cons_self ..), fun m => h (List.mem_cons_of_mem _ m)⟩
    rw [List.cons_append, List.lookup_cons, show (n == k) = false from beq_eq_false_iff_ne.mpr h1.1]
    exact ih h1.2
theorem ln_old {es : Ens} {n x : Str} {e : En} (h : x ∈ nms es) : ln (es ++ [(n, e)]) x = ln es x := by
  unfold ln
  rw [look_old h]
theorem ln_new {es : Ens} {n : Str} {e : En} (h : n ∉ nms es) : ln (es ++ [(n, e)]) n = e.line := by
  unfold ln
  rw [look_new h]
theorem look_none {es : Ens} {x : Str} (h : x ∉ nms es) : es.lookup x = none := by
  induction es with
  | nil => rfl
  | cons p es ih =>
    obtain ⟨k, v⟩ := p
    have h1 : x ≠ k ∧ x ∉ nms es := ⟨fun e => h (e ▸ List.mem_cons_self ..), fun m => h (List.mem_cons_of_mem _ m)⟩
    rw [List.lookup_cons, show (x == k) = false from beq_eq_false_iff_ne.mpr h1.1]
    exact ih h1.2
theorem ln_none {es : Ens} {x : Str} (h : x ∉ nms es) : ln es x = [] := by
  unfold ln
  rw [look_none h]
theorem Bt.nodup {es : Ens} (h : Bt es) : (nms es).Nodup := by
  induction h with
  | nil => exact List.nodup_nil
  | snoc h new nm nd few sub cov ih =>
    rw [nms_snoc]
    refine List.nodup_append.mpr ⟨ih, by simp, fun a ha b hb => ?_⟩
    rw [List.mem_singleton.mp hb]
    exact fun e => new (e ▸ ha)
theorem Bt.names {es : Ens} (h : Bt es) : ∀ x ∈ nms es, isNm x = true ∧ Word x := by
  induction h with
  | nil => exact fun x h => nomatch h
  | snoc h new nm nd few sub cov ih =>
    intro x hx
    rw [nms_snoc] at hx
    rcases List.mem_append.mp hx with h1 | h1
    · exact ih x h1
    · rw [List.mem_singleton.mp h1]
      exact nm
/-- what stands in the lines of some classes, and these classes themselves -/
theorem rws_mem {es : Ens} {bs : List Str} {x : Str} : x ∈ (rws es bs).flatten ↔ (∃ b ∈ bs, x ∈ ln es b) ∨ x ∈ bs := by
  unfold rws
  rw [List.flatten_append, List.mem_append, List.mem_flatten]
  constructor
  · rintro (⟨l, hl, hx⟩ | h)
    · obtain ⟨b, hb, rfl⟩ := List.mem_map.mp hl
      exact .inl ⟨b, hb, hx⟩
    · exact .inr (by simpa using h)
  · rintro (⟨b, hb, hx⟩ | h)
    · exact .inl ⟨_, List.mem_map.mpr ⟨b, hb, rfl⟩, hx⟩
    · exact .inr (by simpa using h)
theorem Bt.sub {es : Ens} (h : Bt es) : ∀ x y, y ∈ ln es x → y ∈ nms es := by
  induction h with
  | nil => exact fun x y h => nomatch h
  | @snoc es n bs kd h new nm nd few sub cov ih =>
    intro x y hy
    rw [nms_snoc, List.mem_append]
    by_cases e : x = n
    · subst e
      rw [ln_new new] at hy
      rcases List.mem_cons.mp hy with e | m
      · exact .inr (by simp [e])
      · rcases rws_mem.mp (Mg.drawn_in _ y m) with ⟨b, hb, k⟩ | k
        · exact .inl (ih b y k)
        · exact .inl (sub y k)
    · by_cases m : x ∈ nms es
      · rw [ln_old m] at hy
        exact .inl (ih x y hy)
      · rw [ln_none (by rw [nms_snoc]; simp [m, e])] at hy
        cases hy
theorem Bt.line_nodup {es : Ens} (h : Bt es) : ∀ x, (ln es x).Nodup := by
  induction h with
  | nil => exact fun x => List.nodup_nil
  | @snoc es n bs kd h new nm nd few sub cov ih =>
    intro x
    by_cases e : x = n
    · subst e
      rw [ln_new new]
      refine List.nodup_cons.mpr ⟨fun m => ?_, Mg.drawn_nodup _⟩
      rcases rws_mem.mp (Mg.drawn_in _ x m) with ⟨b, hb, k⟩ | k
      · exact new (h.sub b x k)
      · exact new (sub x k)
    · by_cases m : x ∈ nms es
      · rw [ln_old m]
        exact ih x
      · rw [ln_none (by rw [nms_snoc]; simp [m, e])]
        exact List.nodup_nil
theorem Bt.line_self {es : Ens} (h : Bt es) : ∀ x ∈ nms es, x ∈ ln es x := by
  induction h with
  | nil => exact fun x h => nomatch h
  | @snoc es n bs kd h new nm nd few sub cov ih =>
    intro x hx
    by_cases e : x = n
    · subst e
      rw [ln_new new]
      exact List.mem_cons_self ..
    · rw [nms_snoc] at hx
      have m : x ∈ nms es := (List.mem_append.mp hx).resolve_right (by simpa using e)
      rw [ln_old m]
      exact ih x m
theorem len_sub {xs ys : List Str} (nd : xs.Nodup) (h : ∀ x ∈ xs, x ∈ ys) : xs.length ≤ ys.length := nodup_sub nd h
theorem nms_len (es : Ens) : (nms es).length = es.length := List.length_map ..
theorem Bt.line_len {es : Ens} (h : Bt es) (x : Str) : (ln es x).length ≤ es.length := nms_len es ▸ len_sub (h.line_nodup x) (h.sub x)
theorem Bt.at_ {es : Ens} (h : Bt es) : ∀ p ∈ es, p.2.line = ln es p.1 ∧ p.2.bases.Nodup ∧ p.2.bases.length ≤ 8 ∧ (∀ b ∈ p.2.bases, b ∈ nms es) ∧ p.1 ∈ nms es := by
  induction h with
  | nil => exact fun p h => nomatch h
  | @snoc es n bs kd h new nm nd few sub cov ih =>
    intro p hp
    rw [nms_snoc]
    rcases List.mem_append.mp hp with h1 | h1
    · obtain ⟨a, b, c, d, e⟩ := ih p h1
      exact ⟨by rw [ln_old e]; exact a, b, c, fun x hx => List.mem_append_left _ (d x hx), List.mem_append_left _ e⟩
    · rw [List.mem_singleton.mp h1]
      exact ⟨(ln_new new).symm, nd, few, fun x hx => List.mem_append_left _ (sub x hx), by simp⟩
/-- a class's line has the lines of its classes -/
theorem Bt.trans {es : Ens} (h : Bt es) : ∀ x y z, y ∈ ln es x → z ∈ ln es y → z ∈ ln es x := by
  induction h with
  | nil => exact fun x y z h => nomatch h
  | @snoc es n bs kd h new nm nd few sub cov ih =>
    intro x y z hy hz
    by_cases e : x = n
    · subst e
      rw [ln_new new] at hy ⊢
      rcases List.mem_cons.mp hy with e | m
      · rw [e, ln_new new] at hz
        exact hz
      · have k := rws_mem.mp (Mg.drawn_in _ y m)
        have yn : y ∈ nms es := by
          rcases k with ⟨b, hb, k⟩ | k
          · exact h.sub b y k
          · exact sub y k
        rw [ln_old yn] at hz
        refine List.mem_cons_of_mem _ (cov z (rws_mem.mpr (.inl ?_)))
        rcases k with ⟨b, hb, k⟩ | k
        · exact ⟨b, hb, ih b y z k hz⟩
        · exact ⟨y, k, hz⟩
    · by_cases m : x ∈ nms es
      · rw [ln_old m] at hy ⊢
        rw [ln_old (h.sub x y hy)] at hz
        exact ih x y z hy hz
      · rw [ln_none (by rw [nms_snoc]; simp [m, e])] at hy
        cases hy
/-- a class's line has its bases -/
theorem Bt.bases_in {es : Ens} (h : Bt es) : ∀ p ∈ es, ∀ b ∈ p.2.bases, b ∈ ln es p.1 := by
  induction h with
  | nil => exact fun p h => nomatch h
  | @snoc es n bs kd h new nm nd few sub cov ih =>
    intro p hp b hb
    rcases List.mem_append.mp hp with h1 | h1
    · have m := (h.at_ p h1).2.2.2.2
      rw [ln_old m]
      exact ih p h1 b hb
    · rw [List.mem_singleton.mp h1] at hb ⊢
      show b ∈ ln _ n
      rw [ln_new new]
      exact List.mem_cons_of_mem _ (cov b (rws_mem.mpr (.inr hb)))
/-- what is closed under bases has the lines of its classes -/
theorem Bt.closed {es : Ens} (h : Bt es) : ∀ F : Str → Prop, (∀ p ∈ es, F p.1 → ∀ b ∈ p.2.bases, F b) → ∀ x y, F x → y ∈ ln es x → F y := by
  induction h with
  | nil => exact fun F c x y fx h => nomatch h
  | @snoc es n bs kd h new nm nd few sub cov ih =>
    intro F c x y fx hy
    have ih := ih F fun p hp => c p (List.mem_append_left _ hp)
    by_cases e : x = n
    · subst e
      rw [ln_new new] at hy
      have cb := c _ (List.mem_append_right _ (List.mem_singleton.mpr rfl)) fx
      rcases List.mem_cons.mp hy with e | m
      · rw [e]
        exact fx
      · rcases rws_mem.mp (Mg.drawn_in _ y m) with ⟨b, hb, k⟩ | k
        · exact ih b y (cb b hb) k
        · exact cb y k
    · by_cases m : x ∈ nms es
      · rw [ln_old m] at hy
        exact ih x y fx hy
      · rw [ln_none (by rw [nms_snoc]; simp [m, e])] at hy
        cases hy
/-- the classes of some names and all their ancestors -/
def cl (es : Ens) (zs : List Str) : List Str := (nms es).filter fun x => zs.any fun z => decide (x ∈ ln es z)
theorem mem_cl {es : Ens} (h : Bt es) {zs : List Str} {x : Str} : x ∈ cl es zs ↔ ∃ z ∈ zs, x ∈ ln es z := by
  unfold cl
  rw [List.mem_filter, List.any_eq_true]
  constructor
  · rintro ⟨_, z, hz, e⟩
    exact ⟨z, hz, of_decide_eq_true e⟩
  · rintro ⟨z, hz, e⟩
    exact ⟨h.sub z x e, z, hz, decide_eq_true e⟩
end Nb.Wd

set_option Elab.async false
set_option linter.all false
set_option maxRecDepth 100000
set_option maxHeartbeats 4000000
/-! Rows of at most a hundred names. -/
namespace Nb
open PySem
open L2 hiding del del_ne del_same
def LongRow (row : List Str) : Prop := row.Nodup ∧ (∀ z ∈ row, isNm z = true ∧ Word z) ∧ row.length ≤ 100
theorem long_diff {row : List Str} (h : LongRow row) : diffV (row.map V.str) = true := by
  unfold diffV
  have h1 : (row.map V.str).all nameV = true := List.all_map ▸ List.all_eq_true.mpr fun z hz => (h.2.1 z hz).1
  have h2 : seen row = row := by simpa [seen] using seen_nodup row [] (by simpa using h.1)
  rw [h1, strsOf_map, h2]
  simp
theorem long_thing {K : PySem.W.Frag} {H : Hp} {a : Addr} {row : List Str} (h : LongRow row) (e : Rd H a (.tup (row.map V.str))) : Thing K H (.ref a) :=
  .inl ⟨a, _, rfl, e, by rw [List.length_map]; exact Nat.le_trans h.2.2 (by decide), fun y hy => let ⟨z, hz, e⟩ := List.mem_map.mp hy; e ▸ (h.2.1 z hz).2.item⟩
theorem long_words {row : List Str} (h : LongRow row) : ∀ z ∈ row, Word z := fun z hz => (h.2.1 z hz).2
theorem long_sub {r s : List Str} (h : LongRow s) (k : r.Sublist s) : LongRow r := ⟨h.1.sublist k, fun z hz => h.2.1 z (k.subset hz), Nat.le_trans k.length_le h.2.2⟩
def RowsR (H : Hp) (as : List Addr) (rows : List (List Str)) : Prop := as.length = rows.length ∧ ∀ (k : Nat) (a : Addr) (row : List Str), as[k]? = some a → rows[k]? = some row → Rd H a (.tup (row.map V.str))
theorem rowsR_same {H H' : Hp} {as : List Addr} {rows : List (List Str)} (s : Same H H') (h : RowsR H as rows) : RowsR H' as rows := ⟨h.1, fun k a row e1 e2 => rd_same s (h.2 k a row e1 e2)⟩
end Nb

set_option Elab.async false
set_option linter.all false
set_option maxRecDepth 100000
set_option maxHeartbeats 4000000
/-! Tuples known to their objects: displays, sums, cuts, turned round. -/
namespace Nb
open PySem PySem.Spec PyProof.Rows
open L2 hiding del del_ne del_same
/-- a tuple without a dict -/
def FtA (H : Hp) (l : Addr) (xs : List V) : Prop := ∃ o, H l = some (.frz o (.tup xs)) ∧ TupObj o
theorem fta_same {H H' : Hp} {l : Addr} {xs : List V} (s : Same H H') (h : FtA H l xs) : FtA H' l xs := let ⟨o, e, t⟩ := h; ⟨o, s _ _ e, t⟩
theorem FtA.rd {H : Hp} {l : Addr} {xs : List V} (h : FtA H l xs) : Rd H l (.tup xs) := let ⟨o, e, _⟩ := h; .inr ⟨o, e⟩
section
variable {X : Cx} {pins : List (Addr × Obj)} {σ : L2.St} {H : Hp} {s : Shared}
/-- a tuple that is pushed -/
theorem push_ft {its : List Value} {xs : List V} {Q : VK} (I : Inv X pins σ H s) (r : Vals xs its) (z : xs.length ≤ sizeLine) (q : ∀ H2 l, Same H H2 → H l = none → FtA H2 l xs → Q (.ref l) H2) :
    EP X pins σ Q (.ref s.heap.objs.size) { s with heap := s.heap.push { cls := .type "tuple", data := .seq its.toArray } } := by
  have new := I.hok.fresh (Nat.le_refl s.heap.objs.size)
  have at_ : (s.heap.push { cls := .type "tuple", data := .seq its.toArray }).get? s.heap.objs.size = some { cls := .type "tuple", data := .seq its.toArray } := Heap.get?_push_size _ rfl
  have J : Inv X pins σ (upd H s.heap.objs.size (.frz { cls := .type "tuple", data := .seq its.toArray } (.tup xs))) { s with heap := s.heap.push { cls := .type "tuple", data := .seq its.toArray } } :=
    I.laid (t' := s.toks) (fun _ _ e => Heap.get?_push_of_some _ e) (Nat.le_refl _) ⟨at_, z, its, r, IsTup.new _ _⟩
  exact ⟨.ref s.heap.objs.size, _, J, rfl, q _ _ (same_new new) new ⟨_, upd_same, rfl, rfl⟩⟩
variable {e : Expr} {es : List Expr} {ta : TA} {te : TE} {pos : Pos}
/-- (e, ..) -/
def tTupF (ta : TA) : TE := fun σ H Q => ta σ H fun vs H1 => vs.length ≤ 100000 ∧ ∀ H2 l, Same H1 H2 → H1 l = none → FtA H2 l vs → Q (.ref l) H2
theorem pe_tupF {c} (h : PA X es ta) : PE X (.Tuple es c pos) (tTupF ta) := by
  refine ⟨fun pins s σ H Q I k => wpAny_Tuple_spliced (thn (h.run pos pins s σ H _ I k) fun us s1 ⟨xs, H1, I1, r, z, q⟩ => ⟨?_, ?_⟩)⟩
  · rw [← r.length]
    exact line100 z
  · exact push_ft I1 r (line100 z) q
/-- t + u -/
def rCatF : R2 := fun x y H Q => ∃ a b xs ys, x = .ref a ∧ y = .ref b ∧ FtA H a xs ∧ FtA H b ys ∧ xs.length + ys.length ≤ 100000 ∧ ∀ H2 p, Same H H2 → FtA H2 p (xs ++ ys) → Q (.ref p) H2
theorem op_catF : OpR X (binaryOp .Add) rCatF := by
  rintro pins s σ H x y v u Q I rx ry ⟨a, b, xs, ys, rfl, rfl, ha, hb, hz, q⟩
  cases rx
  cases ry
  obtain ⟨its, r1, p1, _⟩ := I.tuple (show SqT X.K H a xs from .inl ha.rd)
  obtain ⟨its2, r2, p2, _⟩ := I.tuple (show SqT X.K H b ys from .inl hb.rd)
  cases r1 with
  | nil => exact cat_tup0 p1 p2 ⟨.ref b, _, I, rfl, q H b (Same.refl _) hb⟩
  | @cons x0 u0 xs0 us0 r0 rr =>
    refine HT.cat_tup p1 p2 (fun z => nomatch z) (fun z => ?_) (fun z => ?_) ?_
    · have ey : ys = [] := by
        have := r2.length
        rw [z] at this
        exact List.length_eq_zero_iff.mp this
      refine ⟨.ref a, _, I, rfl, q H a (Same.refl _) ?_⟩
      rw [ey, List.append_nil]
      exact ha
    · exact push_ft I (L2.Vals.append (Paired.cons r0 rr) r2) (by rw [List.length_append]; exact line100 hz) fun H2 l s _ f => q H2 l s f
    · have l1 := (Paired.cons r0 rr).length
      have l2 := r2.length
      rw [← l1, ← l2]
      exact line100 hz
/-- t[lo:hi] -/
def rSlF : V → Option Int → Option Int → Hp → VK → Prop := fun x lo hi H Q => ∃ a xs, x = .ref a ∧ FtA H a xs ∧ xs.length ≤ 100000 ∧ ∀ H2 p, Same H H2 → FtA H2 p (cutV xs lo hi) → Q (.ref p) H2
theorem sl_tupF : SlR X rSlF := by
  rintro pins s σ H x v vl vu lo hi sl Q I rx hs pl pu ⟨a, xs, rfl, hx, hz, q⟩
  cases rx
  obtain ⟨its, r, ht, _⟩ := I.tuple (show SqT X.K H a xs from .inl hx.rd)
  have lz : its.toArray.size = xs.length := by
    rw [List.size_toArray]
    exact r.length.symm
  refine ⟨"tuple", _, PyProof.Rows.slot_tuple_getitem.lookup, ht.typeIs, ?_⟩
  by_cases hw : HT.sIx xs.length 0 lo = 0 ∧ HT.sIx xs.length xs.length hi = xs.length
  · refine getItem_tuple_whole ht hs pl pu (by rw [lz]; exact hw) ⟨.ref a, _, I, rfl, q H a (Same.refl _) ?_⟩
    have : cutV xs lo hi = xs := by
      unfold cutV
      rw [hw.1, hw.2, List.drop_zero, Nat.sub_zero, List.take_length]
    rw [this]
    exact hx
  · refine HT.getItem_tuple_cut ht hs pl pu (by rw [lz]; exact hw) ?_ (by rw [lz]; exact line100 hz)
    rw [lz]
    exact push_ft I ((r.drop _).take _) (Nat.le_trans (cutV_length xs lo hi) (line100 hz)) fun H2 l s _ f => q H2 l s f
/-- t[::-1] -/
def tRevF (te : TE) : TE := fun σ H Q => te σ H fun x H1 => ∃ a xs, x = .ref a ∧ FtA H1 a xs ∧ xs.length ≤ 100000 ∧ ∀ H2 p, Same H1 H2 → FtA H2 p xs.reverse → Q (.ref p) H2
theorem pe_revF {k : Nat} {p1 p2 p3 : Pos} (he : PE X e te) : PE X (.Subscript e (.Slice none none (some (.UnaryOp .USub (.Constant (.int 1) k p1) p2)) p3) pos) (tRevF te) := by
  refine ⟨fun pins s σ H Q I h => Subscript_ (thn (he.run pins s σ H _ I h) fun v s1 ⟨x, H1, I1, r1, a, xs, ex, hx, hz, q⟩ => ?_)⟩
  subst ex
  cases r1
  have back : PO X (some (.UnaryOp .USub (.Constant (.int 1) k p1) p2)) (tPart (tUn (rU fun i => .int (-i)) (tC (.int 1)))) := po_some (pe_un un_neg pe_int)
  refine wpAny_Slice (thn (po_none.run pins s1 σ H1 (fun o H2 => o = none ∧ H2 = H1) I1 ⟨rfl, rfl⟩) fun vl s2 ⟨l, H2, I2, pl, el, e2⟩ => ?_)
  subst el e2
  refine thn (po_none.run pins s2 σ H2 (fun o H3 => o = none ∧ H3 = H2) I2 ⟨rfl, rfl⟩) fun vu s3 ⟨u, H3, I3, pu, eu, e3⟩ => ?_
  subst eu e3
  refine thn (back.run pins s3 σ H3 (fun o H4 => o = some (-1) ∧ H4 = H3) I3 ⟨1, rfl, -1, rfl, rfl, rfl⟩) fun vs s4 ⟨o, H4, I4, ps, eo, e4⟩ => ?_
  subst eo e4
  have I5 : Inv X pins σ H4 { s4 with heap := s4.heap.push { cls := .type "slice", data := .fields #[vl, vu, vs] } } := I4.kept (t' := s4.toks) fun b ob q => Heap.get?_push_of_some _ q
  obtain ⟨its, r, ht, _⟩ := I5.tuple (show SqT X.K H4 a xs from .inl hx.rd)
  have lz := r.length
  show wpAny (model X.prog X.w) X.A (subscriptTail e (.Slice none none (some (.UnaryOp .USub (.Constant (.int 1) k p1) p2)) p3) (.ref a) (.ref s4.heap.objs.size)) (EP X pins σ Q) X.xe { s4 with heap := s4.heap.push { cls := .type "slice", data := .fields #[vl, vu, vs] } }
  refine tail_any (ops := [.ref a, .ref s4.heap.objs.size]) ht.typeIs (PyProof.Rows.slot_tuple_getitem.lookup) ?_ (by with_unfolding_all rfl)
  have h100 := line100 hz
  exact getItem_back ht (Heap.IsSliceOf.new _ vl vu vs) pl pu ps (push_ft I5 r.reverse (by rw [List.length_reverse]; exact h100) fun H2 l s _ f => q H2 l s f) (by rw [List.size_toArray]; omega)
end
end Nb

set_option Elab.async false
set_option linter.all false
set_option maxRecDepth 100000
set_option maxHeartbeats 4000000
/-! Worlds in the heap. -/
namespace Nb
open PySem Nb.Wd
open L2 hiding del del_ne del_same
mutual
/-- data without lists: nothing in it can be changed -/
def noL : PyData → Bool
  | .list _ => false
  | .tuple ds => noLs ds
  | _ => true
def noLs : List PyData → Bool
  | [] => true
  | d :: ds => noL d && noLs ds
end
/-- the methods that are kept -/
def KpAt (H : Hp) (k : Addr) (ds : List PyData) : Prop := ∃ xs, FtA H k xs ∧ xs.length ≤ 1000 ∧ Tds H 5 xs ds
theorem kp_same {H H' : Hp} {k : Addr} {ds : List PyData} (s : Same H H') (h : KpAt H k ds) : KpAt H' k ds := let ⟨xs, f, l, t⟩ := h; ⟨xs, fta_same s f, l, tds_same s t⟩
/-- what is kept of a class: a tuple of its bases, its methods, its line -/
def EnAt (H : Hp) (v : V) (e : En) : Prop := ∃ t b k l, v = .ref t ∧ H t = some (.tup [.ref b, .ref k, .ref l]) ∧ Rd H b (.tup (e.bases.map V.str)) ∧ KpAt H k e.kept ∧ Rd H l (.tup (e.line.map V.str)) ∧ noLs e.kept = true
theorem en_same {H H' : Hp} {v : V} {e : En} (s : Same H H') (h : EnAt H v e) : EnAt H' v e :=
  let ⟨t, b, k, l, e1, e2, e3, e4, e5, e6⟩ := h; ⟨t, b, k, l, e1, s _ _ e2, rd_same s e3, kp_same s e4, rd_same s e5, e6⟩
/-- the dict of a world -/
def KvAt (H : Hp) (kvs : List (Key × V)) (es : Ens) : Prop := F2 (fun (kv : Key × V) (p : Str × En) => kv.1 = Sum.inr p.1 ∧ EnAt H kv.2 p.2) kvs es
theorem kv_same {H H' : Hp} {kvs : List (Key × V)} {es : Ens} (s : Same H H') (h : KvAt H kvs es) : KvAt H' kvs es := f2_imp (fun _ _ ⟨a, b⟩ => ⟨a, en_same s b⟩) h
def DAt (H : Hp) (d : Addr) (es : Ens) : Prop := ∃ kvs, H d = some (.dK kvs) ∧ KvAt H kvs es
theorem d_same {H H' : Hp} {d : Addr} {es : Ens} (s : Same H H') (h : DAt H d es) : DAt H' d es := let ⟨kvs, e, k⟩ := h; ⟨kvs, s _ _ e, kv_same s k⟩
/-- a world: its dict is never changed, only replaced -/
def WAt (C : Addr) (H : Hp) (a : Addr) (es : Ens) : Prop := ∃ dx d, H a = some (.ins C dx [("_classes", .ref d)]) ∧ d ≠ a ∧ DAt (del H a) d es
theorem wat_same {C : Addr} {H H' : Hp} {a : Addr} {es : Ens} (s : Same H H') (h : WAt C H a es) : WAt C H' a es :=
  let ⟨dx, d, e, n, k⟩ := h; ⟨dx, d, s _ _ e, n, d_same (fun b o z => by
    by_cases c : b = a
    · rw [c, del_at] at z
      cases z
    · rw [del_ne c] at z ⊢
      exact s _ _ z) k⟩
theorem del_back {H : Hp} {a : Addr} : Same (del H a) H := fun b o z => by
  by_cases c : b = a
  · rw [c, del_at] at z
    cases z
  · rw [del_ne c] at z
    exact z
theorem kv_keys {H : Hp} : ∀ {kvs : List (Key × V)} {es : Ens}, KvAt H kvs es → kvs.map (·.1) = (nms es).map Sum.inr
  | _, _, .nil => rfl
  | _, _, .cons ⟨a, _⟩ t => congr (congrArg List.cons a) (kv_keys t)
theorem kv_len {H : Hp} {kvs : List (Key × V)} {es : Ens} (h : KvAt H kvs es) : kvs.length = es.length := f2_len h
theorem kv_val {H : Hp} {x : Str} : ∀ {kvs : List (Key × V)} {es : Ens}, KvAt H kvs es → match es.lookup x with
    | some e => ∃ v, valV kvs (Sum.inr x) = some v ∧ EnAt H v e
    | none => valV kvs (Sum.inr x) = none
  | _, _, .nil => rfl
  | (k, v) :: kvs, (n, e) :: es, .cons ⟨a, b⟩ t => by
    have ih := kv_val (x := x) t
    have a : k = Sum.inr n := a
    subst a
    by_cases c : x = n
    · subst c
      rw [List.lookup_cons, show (x == x) = true from beq_self_eq_true x]
      exact ⟨v, by simp [valV], b⟩
    · rw [List.lookup_cons, show (x == n) = false from beq_eq_false_iff_ne.mpr c]
      have e1 : valV ((Sum.inr n, v) :: kvs) (Sum.inr x) = valV kvs (Sum.inr x) := by simp [valV, Ne.symm c]
      rw [e1]
      exact ih
theorem look_some {es : Ens} {x : Str} (h : x ∈ nms es) : ∃ e, es.lookup x = some e ∧ (x, e) ∈ es := by
  induction es with
  | nil => cases h
  | cons p es ih =>
    obtain ⟨k, v⟩ := p
    by_cases c : x = k
    · subst c
      exact ⟨v, by rw [List.lookup_cons, show (x == x) = true from beq_self_eq_true x], List.mem_cons_self ..⟩
    · obtain ⟨e, a, b⟩ := ih ((List.mem_cons.mp h).resolve_left c)
      exact ⟨e, by rw [List.lookup_cons, show (x == k) = false from beq_eq_false_iff_ne.mpr c]; exact a, List.mem_cons_of_mem _ b⟩
theorem kv_in {H : Hp} {x : Str} {kvs : List (Key × V)} {es : Ens} (h : KvAt H kvs es) (m : x ∈ nms es) : ∃ v e, es.lookup x = some e ∧ valV kvs (Sum.inr x) = some v ∧ EnAt H v e := by
  obtain ⟨e, a, _⟩ := look_some m
  have := kv_val (x := x) h
  rw [a] at this
  obtain ⟨v, b, c⟩ := this
  exact ⟨v, e, a, b, c⟩
theorem kv_out {H : Hp} {x : Str} {kvs : List (Key × V)} {es : Ens} (h : KvAt H kvs es) (m : x ∉ nms es) : valV kvs (Sum.inr x) = none := by
  have := kv_val (x := x) h
  rw [look_none m] at this
  exact this
theorem kv_some {H : Hp} {x : Str} {kvs : List (Key × V)} {es : Ens} (h : KvAt H kvs es) : (valV kvs (Sum.inr x)).isSome = decide (x ∈ nms es) := by
  by_cases m : x ∈ nms es
  · obtain ⟨v, e, _, b, _⟩ := kv_in h m
    rw [b, decide_eq_true m]
    rfl
  · rw [kv_out h m, decide_eq_false m]
    rfl
/-! ### a dict that is set aside: nothing of the entries stands in it -/
section
variable {H : Hp} {d : Addr} {ks : List (Key × V)}
theorem rd_del (hd : H d = some (.dK ks)) {a : Addr} {xs : List V} (h : Rd H a (.tup xs)) : Rd (del H d) a (.tup xs) := by
  have ne : a ≠ d := fun z => by
    rw [z] at h
    rcases h with h | ⟨o, h⟩ <;> rw [hd] at h <;> cases h
  rcases h with h | ⟨o, h⟩
  · exact .inl ((del_ne ne).trans h)
  · exact .inr ⟨o, (del_ne ne).trans h⟩
mutual
theorem td_del (hd : H d = some (.dK ks)) : ∀ {n : Nat} {x : V} {p : PyData}, Td H n x p → Td (del H d) n x p
  | _, _, _, .non => .non
  | _, _, _, .bl b => .bl b
  | _, _, _, .int i => .int i
  | _, _, _, .str h => .str h
  | _, _, _, .lst e l h => .lst ((del_ne fun z => by rw [z, hd] at e; cases e).trans e) l (tds_del hd h)
  | _, _, _, .tup e l h => .tup ((del_ne fun z => by rw [z, hd] at e; cases e).trans e) l (tds_del hd h)
theorem tds_del (hd : H d = some (.dK ks)) : ∀ {n : Nat} {xs : List V} {ps : List PyData}, Tds H n xs ps → Tds (del H d) n xs ps
  | _, _, _, .nil => .nil
  | _, _, _, .cons h t => .cons (td_del hd h) (tds_del hd t)
end
theorem kp_del (hd : H d = some (.dK ks)) {a : Addr} {ds : List PyData} (h : KpAt H a ds) : KpAt (Nb.del H d) a ds := by
  obtain ⟨xs, ⟨o, f1, f2⟩, l, t⟩ := h
  exact ⟨xs, ⟨o, (Nb.del_ne fun z => by rw [z, hd] at f1; cases f1).trans f1, f2⟩, l, tds_del hd t⟩
theorem en_del (hd : H d = some (.dK ks)) {v : V} {e : En} (h : EnAt H v e) : EnAt (del H d) v e :=
  let ⟨t, b, k, l, e1, e2, e3, e4, e5, e6⟩ := h
  ⟨t, b, k, l, e1, (del_ne fun z => by rw [z, hd] at e2; cases e2).trans e2, rd_del hd e3, kp_del hd e4, rd_del hd e5, e6⟩
theorem kv_del (hd : H d = some (.dK ks)) {kvs : List (Key × V)} {es : Ens} (h : KvAt H kvs es) : KvAt (del H d) kvs es := f2_imp (fun _ _ ⟨a, b⟩ => ⟨a, en_del hd b⟩) h
theorem same_lock {u : HO} : Same (del H d) (upd H d u) := fun b o z => by
  by_cases c : b = d
  · rw [c, del_at] at z
    cases z
  · rw [del_ne c] at z
    rw [upd_ne c]
    exact z
theorem unlock_same {H' : Hp} {u w : HO} (e : H d = some u) (s : Same (upd H d w) H') : Same H (upd H' d u) := fun b o z => by
  by_cases c : b = d
  · rw [c] at z ⊢
    rw [upd_same, ← e, z]
  · rw [upd_ne c]
    exact s _ _ (by rw [upd_ne c]; exact z)
end
theorem make_same {H H1 : Hp} {b dx : Addr} {u w : HO} (hb : H b = none) (hdx : H dx = none) (s : Same (del (upd (upd H dx u) b w) b) H1) : Same H H1 := fun c o z => by
  have c1 : c ≠ b := fun y => by rw [y, hb] at z; cases z
  have c2 : c ≠ dx := fun y => by rw [y, hdx] at z; cases z
  exact s _ _ (by rw [del_ne c1, upd_ne c1, upd_ne c2]; exact z)
theorem f2_ix {α β : Type} {R : α → β → Prop} : ∀ {es : List β} {f : Nat → α}, (∀ (i : Nat) (p : β), es[i]? = some p → R (f i) p) → F2 R ((List.range es.length).map f) es
  | [], _, _ => .nil
  | e :: es, f, h => by
    rw [List.length_cons, List.range_succ_eq_map, List.map_cons, List.map_map]
    exact .cons (h 0 e rfl) (f2_ix (f := f ∘ Nat.succ) fun i p k => h (i + 1) p k)
/-- the entries one by one, with the addresses of the lines -/
theorem kv_lines {H : Hp} : ∀ {kvs : List (Key × V)} {es : Ens}, KvAt H kvs es → ∃ ls : List Addr, ls.length = es.length ∧ ∀ (i : Nat) (p : Str × En), es[i]? = some p → ∃ t b k l, kvs[i]? = some (Sum.inr p.1, .ref t) ∧ ls[i]? = some l ∧ H t = some (.tup [.ref b, .ref k, .ref l]) ∧ Rd H l (.tup (p.2.line.map V.str))
  | _, _, .nil => ⟨[], rfl, fun i p e => by cases e⟩
  | (k0, v0) :: kvs, (n0, e0) :: es, .cons ⟨a, t, b, k, l, e1, e2, _, _, e5, _⟩ r => by
    obtain ⟨ls, ll, h⟩ := kv_lines r
    have a : k0 = Sum.inr n0 := a
    have e1 : v0 = .ref t := e1
    subst a e1
    refine ⟨l :: ls, by rw [List.length_cons, List.length_cons, ll], fun i p e => ?_⟩
    cases i with
    | zero =>
      cases e
      exact ⟨t, b, k, l, rfl, rfl, e2, e5⟩
    | succ i => exact h i p e
theorem nms_get {es : Ens} {i : Nat} {p : Str × En} (h : es[i]? = some p) : (nms es).getD i "" = p.1 := by
  unfold nms
  rw [List.getD_eq_getElem?_getD, List.getElem?_map, h]
  rfl
theorem nodup_get {xs : List Str} (nd : xs.Nodup) {i j : Nat} (h : i < j) (l : j < xs.length) : xs.getD i "" ≠ xs.getD j "" := fun e => by
  rw [List.getD_eq_getElem?_getD, List.getD_eq_getElem?_getD, List.getElem?_eq_getElem (by omega : i < xs.length), List.getElem?_eq_getElem l] at e
  have := (List.getElem_inj nd).mp (show xs[i] = xs[j] from e)
  omega
theorem kv_at_ix {H : Hp} {kvs : List (Key × V)} {es : Ens} (h : KvAt H kvs es) (nd : (nms es).Nodup) {i : Nat} {p : Str × En} {v : V} (e : es[i]? = some p) (k : kvs[i]? = some (Sum.inr p.1, v)) : valV kvs (Sum.inr p.1) = some v := by
  have hk := kv_keys h
  have nk : (kvs.map (·.1)).Nodup := by
    rw [hk]
    exact List.pairwise_map.mpr (nd.imp fun h z => h (Sum.inr.inj z))
  clear h e hk nd
  induction kvs generalizing i with
  | nil => cases k
  | cons q kvs ih =>
    obtain ⟨k0, v0⟩ := q
    have nk' := List.nodup_cons.mp nk
    cases i with
    | zero =>
      cases k
      simp [valV]
    | succ i =>
      have k' : kvs[i]? = some (Sum.inr p.1, v) := k
      have ne : k0 ≠ Sum.inr p.1 := fun z => nk'.1 (by
        rw [z]
        exact List.mem_map.mpr ⟨_, List.mem_of_getElem? k', rfl⟩)
      have e1 : valV ((k0, v0) :: kvs) (Sum.inr p.1) = valV kvs (Sum.inr p.1) := by simp [valV, ne]
      rw [e1]
      exact ih k' nk'.2
theorem dget_same {H H' : Hp} {a : Addr} {z : Str} {r : Option V} (s : Same H H') (h : DGet H a (.str z) r) : DGet H' a (.str z) r := by
  rcases h with ⟨kvs, k, e, ey, er⟩ | ⟨kvs, k, b, e, ey, _⟩
  · exact .inl ⟨kvs, k, rd_same s e, ey, er⟩
  · cases ey
theorem valV_none {kvs : List (Key × V)} {k : Key} (h : k ∉ kvs.map (·.1)) : valV kvs k = none := by
  unfold valV
  rw [Option.map_eq_none_iff, List.find?_eq_none]
  intro p hp
  have : p.1 ≠ k := fun e => h (e ▸ List.mem_map.mpr ⟨p, hp, rfl⟩)
  simpa using this
theorem merge_app : ∀ (kvs acc : List (Key × V)), ((acc ++ kvs).map (·.1)).Nodup → mergeK acc kvs = acc ++ kvs
  | [], acc, _ => by rw [List.append_nil]; rfl
  | p :: kvs, acc, h => by
    have e : mergeK acc (p :: kvs) = mergeK (putK acc p.1 p.2) kvs := rfl
    have n : p.1 ∉ acc.map (·.1) := fun m => by
      rw [List.map_append, List.nodup_append] at h
      exact h.2.2 _ m _ (List.mem_cons_self ..) rfl
    rw [e, putK_new _ (valV_none n), merge_app kvs (acc ++ [(p.1, p.2)]) (by rw [List.append_assoc]; exact h), List.append_assoc]
    rfl
theorem merge_nil {kvs : List (Key × V)} (h : (kvs.map (·.1)).Nodup) : mergeK [] kvs = kvs := merge_app kvs [] h
theorem kv_nodup {H : Hp} {kvs : List (Key × V)} {es : Ens} (h : KvAt H kvs es) (nd : (nms es).Nodup) : (kvs.map (·.1)).Nodup := by
  rw [kv_keys h]
  exact List.pairwise_map.mpr (nd.imp fun h z => h (Sum.inr.inj z))
theorem splat_same {H G : Hp} {p q : Addr} {u1 u2 u3 u4 u5 : HO} (n0 : H p = none) (nq : (upd H p u1) q = none) (s : Same (upd (upd (upd H p u1) p u2) q u3) G) : Same H (upd (upd G q u4) p u5) := fun c o z => by
  have c1 : c ≠ p := fun y => by rw [y, n0] at z; cases z
  have c2 : c ≠ q := fun y => by
    rw [← y, upd_ne c1, z] at nq
    cases nq
  rw [upd_ne c1, upd_ne c2]
  exact s _ _ (by rw [upd_ne c2, upd_ne c1, upd_ne c1]; exact z)
theorem kv_snoc {H : Hp} : ∀ {kvs : List (Key × V)} {es : Ens} {n : Str} {v : V} {e : En}, KvAt H kvs es → EnAt H v e → KvAt H (kvs ++ [(Sum.inr n, v)]) (es ++ [(n, e)]) := fun h k => f2_snoc h ⟨rfl, k⟩
/-! ### an object that is set aside -/
section
variable {H : Hp} {d C dx : Addr} {fs : List (Str × V)}
theorem rd_ins (hd : H d = some (.ins C dx fs)) {a : Addr} {xs : List V} (h : Rd H a (.tup xs)) : Rd (del H d) a (.tup xs) := by
  have ne : a ≠ d := fun z => by
    rw [z] at h
    rcases h with h | ⟨o, h⟩ <;> rw [hd] at h <;> cases h
  rcases h with h | ⟨o, h⟩
  · exact .inl ((del_ne ne).trans h)
  · exact .inr ⟨o, (del_ne ne).trans h⟩
mutual
theorem td_ins (hd : H d = some (.ins C dx fs)) : ∀ {n : Nat} {x : V} {p : PyData}, Td H n x p → Td (del H d) n x p
  | _, _, _, .non => .non
  | _, _, _, .bl b => .bl b
  | _, _, _, .int i => .int i
  | _, _, _, .str h => .str h
  | _, _, _, .lst e l h => .lst ((del_ne fun z => by rw [z, hd] at e; cases e).trans e) l (tds_ins hd h)
  | _, _, _, .tup e l h => .tup ((del_ne fun z => by rw [z, hd] at e; cases e).trans e) l (tds_ins hd h)
theorem tds_ins (hd : H d = some (.ins C dx fs)) : ∀ {n : Nat} {xs : List V} {ps : List PyData}, Tds H n xs ps → Tds (del H d) n xs ps
  | _, _, _, .nil => .nil
  | _, _, _, .cons h t => .cons (td_ins hd h) (tds_ins hd t)
end
theorem kp_ins (hd : H d = some (.ins C dx fs)) {a : Addr} {ds : List PyData} (h : KpAt H a ds) : KpAt (Nb.del H d) a ds := by
  obtain ⟨xs, ⟨o, f1, f2⟩, l, t⟩ := h
  exact ⟨xs, ⟨o, (Nb.del_ne fun z => by rw [z, hd] at f1; cases f1).trans f1, f2⟩, l, tds_ins hd t⟩
theorem en_ins (hd : H d = some (.ins C dx fs)) {v : V} {e : En} (h : EnAt H v e) : EnAt (del H d) v e :=
  let ⟨t, b, k, l, e1, e2, e3, e4, e5, e6⟩ := h
  ⟨t, b, k, l, e1, (del_ne fun z => by rw [z, hd] at e2; cases e2).trans e2, rd_ins hd e3, kp_ins hd e4, rd_ins hd e5, e6⟩
theorem kv_ins (hd : H d = some (.ins C dx fs)) {kvs : List (Key × V)} {es : Ens} (h : KvAt H kvs es) : KvAt (del H d) kvs es := f2_imp (fun _ _ ⟨a, b⟩ => ⟨a, en_ins hd b⟩) h
end
/-! ### a list that is changed: no world hangs on it, where all kept parts are tuples -/
section
variable {H : Hp} {l : Addr} {xs : List V}
theorem rd_off {u : HO} (e : H l = some (.lst xs)) {a : Addr} {ys : List V} (h : Rd H a (.tup ys)) : Rd (upd H l u) a (.tup ys) := by
  have ne : a ≠ l := fun z => by
    rw [z] at h
    rcases h with h | ⟨o, h⟩ <;> rw [e] at h <;> cases h
  rcases h with h | ⟨o, h⟩
  · exact .inl ((upd_ne ne).trans h)
  · exact .inr ⟨o, (upd_ne ne).trans h⟩
mutual
theorem td_off {u : HO} (e : H l = some (.lst xs)) : ∀ {n : Nat} {x : V} {p : PyData}, Td H n x p → noL p = true → Td (upd H l u) n x p
  | _, _, _, .non, _ => .non
  | _, _, _, .bl b, _ => .bl b
  | _, _, _, .int i, _ => .int i
  | _, _, _, .str h, _ => .str h
  | _, _, _, .lst _ _ _, k => nomatch k
  | _, _, _, .tup e1 l1 h, k => .tup ((upd_ne fun z => by rw [z, e] at e1; cases e1).trans e1) l1 (tds_off e h k)
theorem tds_off {u : HO} (e : H l = some (.lst xs)) : ∀ {n : Nat} {ys : List V} {ps : List PyData}, Tds H n ys ps → noLs ps = true → Tds (upd H l u) n ys ps
  | _, _, _, .nil, _ => .nil
  | _, _, _, .cons h t, k => .cons (td_off e h (Bool.and_eq_true_iff.mp k).1) (tds_off e t (Bool.and_eq_true_iff.mp k).2)
end
theorem kp_off {u : HO} (e : H l = some (.lst xs)) {a : Addr} {ds : List PyData} (h : KpAt H a ds) (n : noLs ds = true) : KpAt (upd H l u) a ds := by
  obtain ⟨ys, ⟨o, f1, f2⟩, l, t⟩ := h
  exact ⟨ys, ⟨o, (upd_ne fun z => by rw [z, e] at f1; cases f1).trans f1, f2⟩, l, tds_off e t n⟩
theorem en_off {u : HO} (e : H l = some (.lst xs)) {v : V} {en : En} (h : EnAt H v en) : EnAt (upd H l u) v en :=
  let ⟨t, b, k, l, e1, e2, e3, e4, e5, e6⟩ := h
  ⟨t, b, k, l, e1, (upd_ne fun z => by rw [z, e] at e2; cases e2).trans e2, rd_off e e3, kp_off e e4 e6, rd_off e e5, e6⟩
theorem wat_off {u : HO} (e : H l = some (.lst xs)) {C a : Addr} {es : Ens} (h : WAt C H a es) : WAt C (upd H l u) a es := by
  obtain ⟨dx, d, ea, nd, kvs, ed, hK⟩ := h
  have la : a ≠ l := fun z => by rw [z, e] at ea; cases ea
  have ld : d ≠ l := fun z => by
    rw [Nb.del_ne nd, z, e] at ed
    cases ed
  have e0 : (Nb.del H a) l = some (.lst xs) := (Nb.del_ne (Ne.symm la)).trans e
  have ee : Nb.del (upd H l u) a = upd (Nb.del H a) l u := by
    funext c
    by_cases c1 : c = a
    · rw [c1, del_at, upd_ne la, del_at]
    · rw [Nb.del_ne c1]
      by_cases c2 : c = l
      · rw [c2, upd_same, upd_same]
      · rw [upd_ne c2, upd_ne c2, Nb.del_ne c1]
  refine ⟨dx, d, (upd_ne la).trans ea, nd, kvs, ?_, ?_⟩
  · rw [ee, upd_ne ld]
    exact ed
  · rw [ee]
    exact f2_imp (fun _ _ ⟨p, q⟩ => ⟨p, en_off e0 q⟩) hK
end
/-- what a dict of lines has of a class -/
theorem line_get {H : Hp} {d : Addr} {kvs : List (Key × V)} {es : Ens} (ed : H d = some (.dK kvs)) (f : F2 (fun (kv : Key × V) (p : Str × En) => kv.1 = Sum.inr p.1 ∧ ∃ l, kv.2 = .ref l ∧ Rd H l (.tup (p.2.line.map V.str))) kvs es) {z : Str} (m : z ∈ nms es) :
    ∃ l, DGet H d (.str z) (some (.ref l)) ∧ Rd H l (.tup ((ln es z).map V.str)) := by
  have main : ∀ {kvs : List (Key × V)} {es : Ens}, F2 (fun (kv : Key × V) (p : Str × En) => kv.1 = Sum.inr p.1 ∧ ∃ l, kv.2 = .ref l ∧ Rd H l (.tup (p.2.line.map V.str))) kvs es → z ∈ nms es → ∃ l, valV kvs (Sum.inr z) = some (.ref l) ∧ Rd H l (.tup ((ln es z).map V.str)) := by
    intro kvs es f
    induction f with
    | nil => exact fun m => nomatch m
    | @cons x y xs ys r t ih =>
      intro m
      obtain ⟨k, v⟩ := x
      obtain ⟨n, e⟩ := y
      obtain ⟨a, l, ev, rl⟩ := r
      have a : k = Sum.inr n := a
      have ev : v = .ref l := ev
      subst a ev
      by_cases c : z = n
      · subst c
        refine ⟨l, by simp [valV], ?_⟩
        have : ln ((z, e) :: ys) z = e.line := by
          unfold ln
          rw [List.lookup_cons, show (z == z) = true from beq_self_eq_true z]
        rw [this]
        exact rl
      · obtain ⟨l2, b, rl2⟩ := ih ((List.mem_cons.mp m).resolve_left c)
        refine ⟨l2, ?_, ?_⟩
        · have e1 : valV ((Sum.inr n, V.ref l) :: xs) (Sum.inr z) = valV xs (Sum.inr z) := by simp [valV, Ne.symm c]
          rw [e1]
          exact b
        · have : ln ((n, e) :: ys) z = ln ys z := by
            unfold ln
            rw [List.lookup_cons, show (z == n) = false from beq_eq_false_iff_ne.mpr c]
          rw [this]
          exact rl2
  obtain ⟨l, v, r⟩ := main f m
  exact ⟨l, .inl ⟨kvs, .inr z, .inl ed, rfl, v.symm⟩, r⟩
theorem put_some {mk : List (Key × V)} {u x : Str} {v : V} : (valV (putK mk (Sum.inr u) v) (Sum.inr x)).isSome = true ↔ x = u ∨ (valV mk (Sum.inr x)).isSome = true := by
  rw [valV_put]
  by_cases c : x = u
  · subst c
    simp
  · rw [if_neg (fun z => c (Sum.inr.inj z))]
    simp [c]
theorem put_len (mk : List (Key × V)) (k : Key) (v : V) : (putK mk k v).length ≤ mk.length + 1 := by
  unfold putK
  by_cases e : (mk.any fun kv => decide (kv.1 = k)) = true
  · rw [if_pos e, List.length_map]
    omega
  · rw [if_neg e, List.length_append]
    exact Nat.le_refl _
theorem yes_ {σ : L2.St} {H : Hp} {Q : Bool → Hp → Prop} (h : Q true H) : tYes σ H Q := h
theorem yesIf {σ : L2.St} {H : Hp} {A B : Hp → Prop} (h : A H) : tYes σ H (fun b H' => if b = true then A H' else B H') := yes_ (Q := fun b H' => if b = true then A H' else B H') (iteT h)
/-! ### tuples stay, whatever becomes of lists, dicts and objects -/
def TupO : HO → Prop
  | .tup _ => True
  | .frz _ (.tup _) => True
  | _ => False
def KeepT (H H' : Hp) : Prop := ∀ a u, TupO u → H a = some u → H' a = some u
section
variable {H H' G : Hp}
theorem kt_same (s : Same H H') : KeepT H H' := fun a u _ e => s _ _ e
theorem KeepT.trans (s : KeepT H H') (t : KeepT H' G) : KeepT H G := fun a u k e => t a u k (s a u k e)
theorem kt_upd {l : Addr} {w u : HO} (e : H l = some w) (n : ¬ TupO w) : KeepT H (upd H l u) := fun a x k e2 => (upd_ne fun z => by
  rw [z, e] at e2
  cases e2
  exact n k).trans e2
theorem kt_new {l : Addr} {u : HO} (e : H l = none) : KeepT H (upd H l u) := kt_same (same_new e)
theorem kt_del {l : Addr} {w : HO} (e : H l = some w) (n : ¬ TupO w) (s : Same (del H l) H') : KeepT H H' := fun a x k e2 => s _ _ ((del_ne fun z => by
  rw [z, e] at e2
  cases e2
  exact n k).trans e2)
theorem kt_src {p : Addr} {b : Nat} (S : Src H p b) (s : Same (del H p) H') : KeepT H H' := let ⟨_, _, _, e, _⟩ := S; kt_del e id s
theorem KeepT.rd (s : KeepT H H') {a : Addr} {xs : List V} (h : Rd H a (.tup xs)) : Rd H' a (.tup xs) := by
  rcases h with h | ⟨o, h⟩
  · exact .inl (s _ _ trivial h)
  · exact .inr ⟨o, s _ _ trivial h⟩
end
section
variable {H H' : Hp}
mutual
theorem td_keep (k : KeepT H H') : ∀ {n : Nat} {x : V} {p : PyData}, Td H n x p → noL p = true → Td H' n x p
  | _, _, _, .non, _ => .non
  | _, _, _, .bl b, _ => .bl b
  | _, _, _, .int i, _ => .int i
  | _, _, _, .str h, _ => .str h
  | _, _, _, .lst _ _ _, z => nomatch z
  | _, _, _, .tup e1 l1 h, z => .tup (k _ _ trivial e1) l1 (tds_keep k h z)
theorem tds_keep (k : KeepT H H') : ∀ {n : Nat} {ys : List V} {ps : List PyData}, Tds H n ys ps → noLs ps = true → Tds H' n ys ps
  | _, _, _, .nil, _ => .nil
  | _, _, _, .cons h t, z => .cons (td_keep k h (Bool.and_eq_true_iff.mp z).1) (tds_keep k t (Bool.and_eq_true_iff.mp z).2)
end
theorem kp_keep (k : KeepT H H') {a : Addr} {ds : List PyData} (h : KpAt H a ds) (n : noLs ds = true) : KpAt H' a ds := by
  obtain ⟨xs, ⟨o, f1, f2⟩, l, t⟩ := h
  exact ⟨xs, ⟨o, k _ (.frz o (.tup xs)) trivial f1, f2⟩, l, tds_keep k t n⟩
theorem en_keep (k : KeepT H H') {v : V} {en : En} (h : EnAt H v en) : EnAt H' v en :=
  let ⟨t, b, kk, l, e1, e2, e3, e4, e5, e6⟩ := h
  ⟨t, b, kk, l, e1, k _ (.tup [.ref b, .ref kk, .ref l]) trivial e2, k.rd e3, kp_keep k e4 e6, k.rd e5, e6⟩
theorem wat_keep (k : KeepT H H') {C a : Addr} {es : Ens} (h : WAt C H a es) (n : ∀ o : HO, (∃ C dx fs, o = .ins C dx fs) ∨ (∃ kvs, o = .dK kvs) → ∀ c, H c = some o → H' c = some o) : WAt C H' a es := by
  obtain ⟨dx, d, ea, nd, kvs, ed, hK⟩ := h
  have ea' := n _ (.inl ⟨_, _, _, rfl⟩) _ ea
  have ed' := n _ (.inr ⟨_, rfl⟩) _ ((Nb.del_ne nd).symm.trans ed)
  exact ⟨dx, d, ea', nd, kvs, (Nb.del_ne nd).trans ed', kv_ins ea' (f2_imp (fun _ _ ⟨p, q⟩ => ⟨p, en_keep k (en_same del_back q)⟩) hK)⟩
theorem wat_src {p : Addr} {b : Nat} (S : Src H p b) (s : Same (del H p) H') {C a : Addr} {es : Ens} (h : WAt C H a es) : WAt C H' a es := by
  refine wat_keep (kt_src S s) h fun o ho c e => ?_
  refine s _ _ ((Nb.del_ne fun z => ?_).trans e)
  obtain ⟨_, _, _, ep, _⟩ := S
  rw [z, ep] at e
  cases e
  rcases ho with ⟨_, _, _, h⟩ | ⟨_, h⟩ <;> cases h
end
end Nb

set_option Elab.async false
set_option linter.all false
set_option maxRecDepth 100000
set_option maxHeartbeats 4000000
/-! repr of data with dicts in it, but without lists; of a list of such data. -/
namespace Nb
open PySem PySem.Spec PyProof.Rows
open L2 hiding del del_ne del_same
mutual
/-- what stands for these data: dicts with texts as keys, tuples, no lists -/
inductive Dq (K : PySem.W.Frag) (H : Hp) : V → PyData → Prop
  | non : Dq K H .non .none
  | bl (b : Bool) : Dq K H (.bl b) (.bool b)
  | int (i : Int) : Dq K H (.int i) (.int i)
  | str (z : Str) : Dq K H (.str z) (.str z)
  | tup {t : Addr} {ys : List V} {es : List PyData} (at_ : SqT K H t ys) (each : Dqs K H ys es) : Dq K H (.ref t) (.tuple es)
  | dct {t : Addr} {ps : List (Key × V)} {es : List (PyData × PyData)} (at_ : H t = some (.dK ps)) (each : Dqk K H ps es) : Dq K H (.ref t) (.dict es)
inductive Dqs (K : PySem.W.Frag) (H : Hp) : List V → List PyData → Prop
  | nil : Dqs K H [] []
  | cons {y : V} {e : PyData} {ys : List V} {es : List PyData} (one : Dq K H y e) (more : Dqs K H ys es) : Dqs K H (y :: ys) (e :: es)
inductive Dqk (K : PySem.W.Frag) (H : Hp) : List (Key × V) → List (PyData × PyData) → Prop
  | nil : Dqk K H [] []
  | cons {z : Str} {y : V} {e : PyData} {ps : List (Key × V)} {es : List (PyData × PyData)} (one : Dq K H y e) (more : Dqk K H ps es) : Dqk K H ((Sum.inr z, y) :: ps) ((.str z, e) :: es)
end
section
variable {K : PySem.W.Frag} {H H' : Hp}
mutual
theorem dq_same (s : Same H H') : ∀ {y : V} {e : PyData}, Dq K H y e → Dq K H' y e
  | _, _, .non => .non
  | _, _, .bl b => .bl b
  | _, _, .int i => .int i
  | _, _, .str z => .str z
  | _, _, .tup k r => .tup (Same.tup s k) (dqs_same s r)
  | _, _, .dct k r => .dct (s _ _ k) (dqk_same s r)
theorem dqs_same (s : Same H H') : ∀ {ys : List V} {es : List PyData}, Dqs K H ys es → Dqs K H' ys es
  | _, _, .nil => .nil
  | _, _, .cons a r => .cons (dq_same s a) (dqs_same s r)
theorem dqk_same (s : Same H H') : ∀ {ps : List (Key × V)} {es : List (PyData × PyData)}, Dqk K H ps es → Dqk K H' ps es
  | _, _, .nil => .nil
  | _, _, .cons a r => .cons (dq_same s a) (dqk_same s r)
end
theorem dqs_strs : ∀ zs : List Str, Dqs K H (zs.map V.str) (zs.map PyData.str)
  | [] => .nil
  | z :: zs => .cons (.str z) (dqs_strs zs)
theorem dq_row {t : Addr} {zs : List Str} (h : SqT K H t (zs.map V.str)) : Dq K H (.ref t) (.tuple (zs.map PyData.str)) := .tup h (dqs_strs zs)
mutual
theorem td_dq : ∀ {n : Nat} {y : V} {e : PyData}, Td H n y e → noL e = true → Dq K H y e
  | _, _, _, .non, _ => .non
  | _, _, _, .bl b, _ => .bl b
  | _, _, _, .int i, _ => .int i
  | _, _, _, .str h, _ => .str _
  | _, _, _, .lst _ _ _, k => nomatch k
  | _, _, _, .tup e _ h, k => .tup (SqT.of e) (tds_dq h k)
theorem tds_dq : ∀ {n : Nat} {ys : List V} {es : List PyData}, Tds H n ys es → noLs es = true → Dqs K H ys es
  | _, _, _, .nil, _ => .nil
  | _, _, _, .cons a r, k => .cons (td_dq a (Bool.and_eq_true_iff.mp k).1) (tds_dq r (Bool.and_eq_true_iff.mp k).2)
end
end
section
variable {X : Cx} {pins : List (Addr × Obj)} {σ : L2.St} {H : Hp} {s : Shared}
mutual
theorem dq_reads (I : Inv X pins σ H s) : ∀ {y : V} {e : PyData}, Dq X.K H y e → ∀ u, RelV y u → ∃ ks, Reads s.heap u e ks ∧ sysModules ∉ ks
  | _, _, .non, _, r => by
    cases r
    exact ⟨[], .none, by simp⟩
  | _, _, .bl b, _, r => by
    cases r
    exact ⟨[], .bool b, by simp⟩
  | _, _, .int i, _, r => by
    obtain ⟨n, rfl⟩ := r
    exact ⟨[], .int i n, by simp⟩
  | _, _, .str z, _, r => by
    obtain ⟨n, rfl⟩ := r
    exact ⟨[], .str z n, by simp⟩
  | _, _, .tup k c, _, r => by
    cases r
    obtain ⟨us, vals, ⟨ob, o1, o2, m, o3⟩, _⟩ := I.tuple k
    obtain ⟨ks, rd, off⟩ := dqs_reads I c us vals
    exact ⟨ks, .tuple o1 o2 o3 rd, off⟩
  | _, _, .dct k c, _, r => by
    cases r
    obtain ⟨_, far, vs, kv, ob, es, ep, o1, o2, o3, _, prs, _⟩ := I.hok _ _ k
    obtain ⟨ka, kb, ra, rb, fa, fb⟩ := dqk_reads I c es.toList vs kv prs
    refine ⟨_, .dict o1 o2.1 o3 ra rb, fun m => ?_⟩
    rcases List.mem_append.mp m with m | m
    · rcases List.mem_cons.mp m with m | m
      · rw [← m] at far
        exact absurd far (by simp)
      · exact fa m
    · exact fb m
theorem dqs_reads (I : Inv X pins σ H s) : ∀ {ys : List V} {es : List PyData}, Dqs X.K H ys es → ∀ us, Vals ys us → ∃ ks, ReadsAll s.heap us es ks ∧ sysModules ∉ ks
  | _, _, .nil, _, r => by
    cases r
    exact ⟨[], .nil, by simp⟩
  | _, _, .cons a c, _, r => by
    cases r with
    | cons r1 r2 =>
      obtain ⟨k1, d1, f1⟩ := dq_reads I a _ r1
      obtain ⟨k2, d2, f2⟩ := dqs_reads I c _ r2
      exact ⟨k1 ++ k2, .cons d1 d2, fun m => (List.mem_append.mp m).elim f1 f2⟩
theorem dqk_reads (I : Inv X pins σ H s) : ∀ {ps : List (Key × V)} {es : List (PyData × PyData)}, Dqk X.K H ps es → ∀ (ent : List DictEntry) (vs : List (Key × Value)), KV ps vs → Pairs (mixKind X.prog X.w) ent vs →
    ∃ ka kb, ReadsAll s.heap (ent.map (·.key)) (es.map (·.1)) ka ∧ ReadsAll s.heap (ent.map (·.val)) (es.map (·.2)) kb ∧ sysModules ∉ ka ∧ sysModules ∉ kb
  | _, _, .nil, _, _, kv, pr => by
    cases kv
    cases pr
    exact ⟨[], [], .nil, .nil, by simp, by simp⟩
  | _, _, .cons a c, _, _, kv, pr => by
    cases kv with
    | cons e1 kv =>
      cases pr with
      | cons is ev pr =>
        obtain ⟨ea, rv⟩ := e1
        obtain ⟨k1, d1, f1⟩ := dq_reads I a _ rv
        obtain ⟨k2, k3, d2, d3, f2, f3⟩ := dqk_reads I c _ _ kv pr
        rcases keyIs_shape is with ⟨i, n, z1, _⟩ | ⟨x, n, z1, z2⟩
        · rw [← ea] at z1
          cases z1
        · rw [← ea] at z1
          cases z1
          refine ⟨[] ++ k2, k1 ++ k3, ?_, ?_, by simpa using f2, fun m => (List.mem_append.mp m).elim f1 f3⟩
          · rw [List.map_cons, z2]
            exact .cons (.str _ n) d2
          · rw [List.map_cons, ev]
            exact .cons d1 d3
end
end
/-- repr of a list of such data -/
theorem cr_reprDL {X : Cx} (g : X.A.guards = some []) (u : X.A.units + 100 < cLine) : CallR X (.builtin "repr") (fun xs H Q => ∃ (l : Addr) (ys : List V) (es : List PyData), xs = [.ref l] ∧ H l = some (.lst ys) ∧ Dqs X.K H ys es ∧
    PyData.showableAll es = true ∧ (PyData.list es).depth ≤ 60 ∧ (PyData.list es).shown.length ≤ sizeLine ∧ Q (.str (PyData.list es).shown) H) := by
  intro pins σ0 s0 H xs us Q I r h
  obtain ⟨l, ys, es, rfl, hl, hd, ok, dp, few, q⟩ := h
  obtain ⟨v, rfl, rv⟩ := vals1 r
  cases rv
  obtain ⟨its, ri, ⟨ob, n2, e1, e2, _, e3⟩, _⟩ := I.list (SqL.of hl)
  obtain ⟨ks, rd, off⟩ := dqs_reads I hd its ri
  have S := shows_list (prog := X.prog) (w := X.w) (l := l) e1 e2 e3 (by simpa using rd) ok (fun _ => off) (by simpa only [PyData.shown] using few)
  exact call_repr_slot (by omega) (S.typeIs _ fun _ _ z => z) S.slotRepr (S.call X.A.in1 _ _ _ g (by show X.A.units + 1 + _ < cLine; omega) (fun _ _ z => z) fun h' t tk hk => ⟨_, _, rfl, ⟨.str _, H, I.kept (t' := tk) hk, ⟨_, rfl⟩, q⟩⟩)
/-- repr of a tuple or a dict -/
theorem cr_reprDQ {X : Cx} (g : X.A.guards = some []) (u : X.A.units + 100 < cLine) : CallR X (.builtin "repr") (fun xs H Q => ∃ (t : Addr) (e : PyData), xs = [.ref t] ∧ Dq X.K H (.ref t) e ∧
    e.showable = true ∧ e.depth ≤ 60 ∧ e.shown.length ≤ sizeLine ∧ Q (.str e.shown) H) := by
  intro pins σ0 s0 H xs us Q I r h
  obtain ⟨t, e, rfl, hd, ok, dp, few, q⟩ := h
  obtain ⟨v, rfl, rv⟩ := vals1 r
  obtain ⟨ks, rd, off⟩ := dq_reads I hd v rv
  cases rv
  exact repr_of_reads' rd ok (fun _ => off) g (by omega) (fun _ _ z => z) (fun h' t tk hk => ⟨.str e.shown, H, I.kept (t' := tk) hk, ⟨_, rfl⟩, q⟩) few
end Nb

set_option Elab.async false
set_option linter.all false
set_option maxRecDepth 100000
set_option maxHeartbeats 4000000
/-! x + y of two own classes, one maybe below the other; != by an own __eq__. -/
namespace PySem.W
open PySem PySem.Calls PyProof.Rows Builtin Builtin.ObjectAttr
section
variable {α : Type} {prog : Program} {w : World} {A : Around} {E : Value → Shared → Prop} {s : Shared} {K : Frag}
theorem raise_attr {msg : Str} {Q : α → Shared → Prop} (hh : A.handled = none) (h : ∀ h' tk e, Heap.NewExcOf s.heap h' e "AttributeError" → E (.ref e) { s with heap := h', toks := tk }) (hm : msg.length ≤ sizeLine) :
    wpAny (model prog w) A (raiseErrorStr "AttributeError" msg : Sem α) Q E s := by
  unfold raiseErrorStr
  refine wpAny_bind (wpAny_mkStr (wpAny_bind ?_) hm)
  unfold newExc newTuple
  refine wpAny_bind (wpAny_newObj_type ?_ (by size_fits))
  refine wpAny_bind (m := firstArgMember _ _) (wpAny_of_eq (a := Value.none) (by simp only [firstArgMember, attrError_no_first]; rfl) ?_)
  rw [ownMembersOf_AttributeError]
  refine wpAny_newObj_type ?_ (by size_fits)
  obtain ⟨hp, g, d, tk, os⟩ := s
  unfold raiseNew
  refine wpAny_bind (wpAny_handled ?_)
  rw [hh]
  first
    | refine wpAny_throw ?_
    | refine wpAny_bind (wpAny_pure (wpAny_throw ?_))
  dsimp only
  refine h _ _ _ ⟨fun b ob hb => ?_, Heap.get?_none_of_le (by simp), ?_⟩
  · exact Heap.get?_push_of_some _ (Heap.get?_push_of_some _ hb)
  · exact ⟨_, _, Heap.get?_push_size _ rfl, rfl, rfl, rfl⟩
/-- an attribute that neither the class at D nor its type mc has -/
def missIn (K : Frag) (D : Addr) (mc : Value) (name : Str) : Bool :=
  findIn K mc name == some none && findIn K (.ref D) name == some none && (clsIn K D).any fun cd => decide (cd.name.cps.foldl (fun k c => k + (Str.utf8Of c).length) 0 ≤ 100) && decide (((s!"type object '{cd.name.toString}' has no attribute '" : Str) ++ name ++ "'").length ≤ sizeLine)
theorem looks_nameCut {M : Model} {h : Heap} {C : Addr} {cd : ClassData} (X : K.In h) (hc : clsIn K C = some cd) (hn : cd.name.cps.foldl (fun k c => k + (Str.utf8Of c).length) 0 ≤ 100) : Looks M h (typeNameCut 100 (.ref C)) cd.name.toString := by
  unfold typeNameCut
  refine (looks_clsIn X hc).andThen ?_
  dsimp only
  rw [if_pos hn]
  exact .now
theorem tga_miss {D : Addr} {mc : Value} {name : Str} {tk : Tok} {Q : Fin → Shared → Prop} (X : K.In s.heap) (ho : Looks (model prog w) s.heap (opaqueClassAbove (.ref D)) none) (ht : Looks (model prog w) s.heap (typeOf (.ref D)) mc) (hm : missIn K D mc name = true) (hh : A.handled = none)
    (h : ∀ h' tk e, Heap.NewExcOf s.heap h' e "AttributeError" → E (.ref e) { s with heap := h', toks := tk }) : wpAny (model prog w) A (Builtin.«type.__getattribute__» ⟨[.ref D, .str name tk], []⟩) Q E s := by
  unfold missIn at hm
  obtain ⟨⟨h1, h2⟩, h3⟩ : (findIn K mc name = some none ∧ findIn K (.ref D) name = some none) ∧ _ := by
    rw [Bool.and_eq_true, Bool.and_eq_true, beq_iff_eq, beq_iff_eq] at hm
    exact hm
  obtain ⟨cd, hc, h4⟩ := any_some h3
  rw [Bool.and_eq_true, decide_eq_true_eq, decide_eq_true_eq] at h4
  obtain ⟨hh0, g, d, t, os⟩ := s
  dsimp only at X ho ht
  have L1 := looks_findIn (M := model prog w) X h1
  have L2 := looks_findIn (M := model prog w) X h2
  have L3 := looks_nameCut (M := model prog w) X hc h4.1
  unfold Builtin.«type.__getattribute__»
  refine wpAny_bind (wpAny_pure (wpAny_bind (ho.at (wpAny_bind (ht.at (wpAny_bind (L1.at ?_)))))))
  refine wpAny_bind (wpAny_pure (wpAny_bind (L2.at ?_)))
  refine wpAny_bind (wpAny_rule (wpAny_bind (L3.at ?_)))
  exact raise_attr hh h h4.2
theorem isInst_attr {M : Model} {h : Heap} {e : Addr} {ob : Obj} (he : h.get? e = some ob) (hc : ob.cls = .type "AttributeError") : Looks M h (isInstance (.ref e) (.type "AttributeError")) true := by
  intro A Q E s k q
  unfold isInstance
  refine wpAny_bind (wpAny_typeOf_ref (k _ _ he) ?_)
  rw [hc, sub_AttributeError]
  exact wpAny_pure q
theorem type_hook : typeLookup (.type "type") "__getattr__" = pure none := am_miss_of_fast (by first | decide +kernel | rfl)
theorem getBy_miss {D : Addr} {name : Str} {tk : Tok} {Q : Option Value → Shared → Prop} (X : K.In s.heap) (hr : readsIn K D (.type "type") = true) (hm : missIn K D (.type "type") name = true) (hh : A.handled = none)
    (h : ∀ h' tk', (∀ b o, s.heap.get? b = some o → h'.get? b = some o) → Q none { s with heap := h', toks := tk' }) : wpAny (model prog w) A (getAttrBy? (.ref D) (.str name tk)) Q E s := by
  simp only [readsIn, Bool.and_eq_true, beq_iff_eq] at hr
  obtain ⟨⟨⟨⟨a, b⟩, c'⟩, d⟩, f⟩ := hr
  obtain ⟨hp, g, dr, t, os⟩ := s
  dsimp only at X
  have ho := looks_opaque (M := model prog w) (C := D) X a
  have ht := looks_typeIn (M := model prog w) X b
  have Lg := looks_findIn (M := model prog w) X c'
  unfold getAttrBy? getAttrBy
  refine wpAny_bind (wpAny_attempt (wpAny_holding (wpAny_bind (ht.at (wpAny_bind (Lg.at ?_))))))
  dsimp only
  rw [show (onTheHeap (Value.type "type") && Value.builtin "type.__getattribute__" == Value.builtin "object.__getattribute__") = false from rfl, if_neg (by decide)]
  unfold getAttrByItsOwn hookBefore
  refine wpAny_bind ?_
  rw [if_neg (show ¬ onTheHeap (Value.type "type") = true by decide)]
  refine wpAny_pure (wpAny_bind (wpAny_attempt (wpAny_holding ?_)))
  unfold callGetattribute
  rw [show (false && onTheHeap (Value.builtin "type.__getattribute__")) = false from rfl, if_neg (by decide)]
  unfold boundAndCalled
  rw [KF.slot_tga.bind]
  refine wpAny_bind (wpAny_pure ?_)
  show wpAny _ _ (call (.builtin "type.__getattribute__") [.ref D, .str name tk]) _ _ _
  refine wpAny_call (codeAny_call_builtin KF.slot_tga.plain KF.entry_tga ?_)
  refine @check_slot (model prog w) _ _ ⟨hp, g, dr, t, os⟩ "type.__getattribute__" "type" "__getattribute__" (.ref D) [.str name tk] [] _ (by decide +kernel) (by decide +kernel) (ht.andThen (looks_subIn X f)) (KF.args_tga (.ref D) (.str name tk)) ?_
  refine tga_miss (s := ⟨hp, g, dr, t, os⟩) X ho ht hm (show A.in1.handled = none from hh) fun h' tk' e ne => ?_
  obtain ⟨ob, vs, he, hc, _, _⟩ := ne.there
  have Li := isInst_attr (M := model prog w) he hc
  show wpAny _ _ (getattributeRaised _ _ _ _ _ _ _) _ _ _
  unfold getattributeRaised hookBehind
  refine wpAny_bind (Li.at ?_)
  rw [if_pos rfl, if_neg (show ¬ onTheHeap (Value.type "type") = true by decide), type_hook]
  refine wpAny_bind (wpAny_pure ?_)
  unfold hookOrError attributeErrorLeaves
  dsimp only
  rw [if_pos (show (!false) = true from rfl)]
  refine wpAny_throw ?_
  refine wpAny_bind (Li.at ?_)
  rw [if_pos rfl]
  exact wpAny_pure (h _ _ ne.keeps)
end
end PySem.W

set_option Elab.async false
set_option linter.all false
set_option maxRecDepth 100000
set_option maxHeartbeats 4000000
namespace PySem.W
open PySem PySem.Calls PyProof.Rows Builtin Builtin.ObjectAttr
section
variable {prog : Program} {w : World} {A : Around} {E : Value → Shared → Prop} {s : Shared} {K : Frag} {x y C D L f g : Addr} {h₀ : Heap} {m : Str → Option Value} {ox oy : Obj} {od od' : Option Obj}
theorem inst_keeps {h h' : Heap} (I : InstAt h x ox C od) (k : ∀ b o, h.get? b = some o → h'.get? b = some o) : InstAt h' x ox C od := by
  refine ⟨k _ _ I.at_, I.cls, I.no, ?_⟩
  have := I.dict
  revert this
  cases ox.dict <;> cases od <;> first | exact id | exact fun z => k _ _ z
theorem num_K {M : Model} {h : Heap} {nm : String} (X : K.In h) (hs : findIn K (.ref C) (PySem.dunder nm) = some (some (.ref f))) (hr : findIn K (.ref C) (dunderR nm) = some none) : Looks M h (numberSlotInPython (.ref C) nm) true := by
  intro A Q E s k q
  unfold numberSlotInPython
  refine wpAny_bind (looks_findIn X hs A _ E s k ?_)
  refine wpAny_bind (wpAny_pure ?_)
  refine wpAny_bind (looks_findIn X hr A _ E s k ?_)
  refine wpAny_bind (wpAny_pure ?_)
  rw [if_pos (by rfl)]
  exact wpAny_pure q
theorem reflected_K {nm : String} {Q : Bool → Shared → Prop} (X : K.In s.heap) (hs : findIn K (.ref C) (PySem.dunder nm) = some (some (.ref f))) (hr : findIn K (.ref C) (dunderR nm) = some none) (hs' : findIn K (.ref D) (PySem.dunder nm) = some (some (.ref g))) (hr' : findIn K (.ref D) (dunderR nm) = some none)
    (rd : readsIn K D (.type "type") = true) (ms : missIn K D (.type "type") (dunderR nm) = true) (hl : (dunderR nm).length ≤ sizeLine) (hh : A.handled = none) (h : ∀ h' tk', (∀ b o, s.heap.get? b = some o → h'.get? b = some o) → Q false { s with heap := h', toks := tk' }) :
    wpAny (model prog w) A (reflectedDiffers (.ref C) (.ref D) nm) Q E s := by
  obtain ⟨hp, g0, d, tk, os⟩ := s
  dsimp only at X
  unfold reflectedDiffers
  refine wpAny_bind ((num_K (M := model prog w) X hs hr).at ?_)
  rw [if_neg (by decide)]
  refine wpAny_bind ((num_K (M := model prog w) X hs' hr').at ?_)
  rw [if_neg (by decide)]
  refine wpAny_bind (wpAny_mkStr (wpAny_bind ?_) hl)
  refine getBy_miss (s := ⟨hp, g0, d, tk + 1, os⟩) X rd ms hh fun h' tk' k => ?_
  exact wpAny_pure (h h' tk' k)
theorem binop_two {op : Operator} {Q : Value → Shared → Prop} (F : Fr h₀ L s.heap m) (X₀ : K.In h₀) (I : InstAt s.heap x ox C od) (J : InstAt s.heap y oy D od') (ne : C ≠ D) (hC : selfFirst K C = true) (hD : selfFirst K D = true)
    (hs : findIn K (.ref C) (PySem.dunder op.info.2) = some (some (.ref f))) (hr : findIn K (.ref C) (dunderR op.info.2) = some none) (hs' : findIn K (.ref D) (PySem.dunder op.info.2) = some (some (.ref g))) (hr' : findIn K (.ref D) (dunderR op.info.2) = some none)
    (rd : readsIn K D (.type "type") = true) (ms : missIn K D (.type "type") (dunderR op.info.2) = true) (hl : (dunderR op.info.2).length ≤ sizeLine) (hsub : ∃ sb, subIn K (.ref D) (.ref C) = some sb) (hf : isFn K (.ref f) = true) (hh : A.handled = none)
    (h : ∀ h' tk', (∀ b o, s.heap.get? b = some o → h'.get? b = some o) → wpAny (model prog w) A (call (.ref f) [.ref x, .ref y]) (CmpBack Q) E { s with heap := h', toks := tk' }) : wpAny (model prog w) A (binaryOp op (.ref x) (.ref y)) Q E s := by
  have X := X₀.keeps F.keep
  obtain ⟨sb, hsub⟩ := hsub
  obtain ⟨cd, hcd, hm⟩ := any_some hC
  obtain ⟨rest, hm⟩ : ∃ rest, cd.mro = .ref C :: rest := by
    cases q : cd.mro with
    | nil => rw [q] at hm; cases hm
    | cons a r => rw [q] at hm; exact ⟨r, by rw [List.head?_cons] at hm; cases (beq_iff_eq.mp hm); rfl⟩
  obtain ⟨cd', hcd', hm'⟩ := any_some hD
  obtain ⟨rest', hm'⟩ : ∃ rest, cd'.mro = .ref D :: rest := by
    cases q : cd'.mro with
    | nil => rw [q] at hm'; cases hm'
    | cons a r => rw [q] at hm'; exact ⟨r, by rw [List.head?_cons] at hm'; cases (beq_iff_eq.mp hm'); rfl⟩
  unfold binaryOp
  obtain ⟨⟨sym, nm⟩, hi⟩ : ∃ p, p = op.info := ⟨_, rfl⟩
  rw [← hi] at hs hr hs' hr' ms hl ⊢
  dsimp only at hs hr hs' hr' ms hl ⊢
  refine wpAny_holding (wpAny_bind ?_)
  unfold binaryOp1
  refine wpAny_bind (I.type.here (wpAny_bind (J.type.here (wpAny_bind ((fills_K X hcd hm hs).here ?_)))))
  rw [show (Value.ref C == Value.ref D) = false from by simp [ne]]
  simp only [Bool.false_eq_true, if_false]
  refine wpAny_bind ((fills_K X hcd' hm' hs').here ?_)
  simp only [Bool.and_self, if_true]
  refine wpAny_bind ((looks_subIn X hsub).here ?_)
  have fin : ∀ h' tk', (∀ b o, s.heap.get? b = some o → h'.get? b = some o) → wpAny (model prog w) A (tryMethod (.ref x) (PySem.dunder nm) (.ref y)) (fun r s' => ∃ v, r = some v ∧ Q v s') E { s with heap := h', toks := tk' } := fun h' tk' k => by
    unfold tryMethod
    refine wpAny_bind (special_fn (s := { s with heap := h', toks := tk' }) (X.keeps k) (inst_keeps I k) hs (beq_iff_eq.mp hf) (wpAny_mono (h h' tk' k) (fun v s' hv => ?_) fun _ _ e => e))
    cases v <;> first | exact hv.elim | exact wpAny_pure ⟨_, rfl, hv⟩
  cases sb
  · simp only [Bool.false_eq_true, if_false, Bool.not_false, Bool.and_self, if_true]
    refine wpAny_bind ((num_K (M := model prog w) X hs hr).here ?_)
    rw [if_pos rfl]
    refine wpAny_bind ((num_K (M := model prog w) X hs' hr').here ?_)
    rw [if_neg (by decide)]
    refine wpAny_bind (wpAny_mono (fin _ _ fun _ _ z => z) (fun r s' z => ?_) fun _ _ e => e)
    obtain ⟨v, rfl, hq⟩ := z
    exact wpAny_pure (wpAny_pure hq)
  · simp only [if_true]
    refine wpAny_bind (reflected_K X hs hr hs' hr' rd ms hl hh fun h' tk' k => ?_)
    simp only [Bool.false_eq_true, if_false, Bool.not_false, Bool.and_self, if_true]
    refine wpAny_bind ((num_K (M := model prog w) (X.keeps k) hs hr).here ?_)
    rw [if_pos rfl]
    refine wpAny_bind ((num_K (M := model prog w) (X.keeps k) hs' hr').here ?_)
    rw [if_neg (by decide)]
    refine wpAny_bind (wpAny_mono (fin h' tk' k) (fun r s' z => ?_) fun _ _ e => e)
    obtain ⟨v, rfl, hq⟩ := z
    exact wpAny_pure (wpAny_pure hq)

/-- x != b by the own __eq__ of x's class, through object.__ne__ -/
theorem ne_K {b tb : Value} {Q : Value → Shared → Prop} (hu : A.units + 1 < cLine) (Fz : Fr h₀ L s.heap m) (X₀ : K.In h₀) (I : InstAt s.heap x ox C od) (hb : Looks (model prog w) s.heap (typeOf b) tb) (hn : notFirst K C tb = true)
    (hne : findIn K (.ref C) "__ne__" = some (some (.builtin "object.__ne__"))) (ho : subIn K (.ref C) (.type "object") = some true) (hs : findIn K (.ref C) "__eq__" = some (some (.ref f))) (hf : isFn K (.ref f) = true)
    (h : wpAny (model prog w) A.in1 (call (.ref f) [.ref x, b]) (fun v s' => ∃ r, v = .bool r ∧ Q (.bool (!r)) s') E s) : wpAny (model prog w) A (richCompare .NotEq (.ref x) b) Q E s := by
  have X := X₀.keeps Fz.keep
  have body : wpAny (model prog w) A.in1 (Builtin.«object.__ne__» ⟨[.ref x, b], []⟩) (fun fin s' => ∃ r, fin = .done (.ret (.bool (!r))) ∧ Q (.bool (!r)) s') E s := by
    unfold Builtin.«object.__ne__»
    refine wpAny_bind (wpAny_of_eq (a := ((Value.ref x : Value), [b])) (by first | rfl | (simp only [slotArgs]; rfl)) ?_)
    refine wpAny_bind (wpAny_cRoomFor (show A.in1.units < cLine from hu) ?_)
    refine wpAny_bind (ifBound_K X I hs hf (wpAny_mono h (fun v s' hv => ?_) fun _ _ e => e))
    obtain ⟨r, rfl, hq⟩ := hv
    exact wpAny_bind (wpAny_truthy_bool (wpAny_pure ⟨r, rfl, hq⟩))
  have called : wpAny (model prog w) A (call (.builtin "object.__ne__") [.ref x, b]) (fun v s' => ∃ r, v = .bool (!r) ∧ Q (.bool (!r)) s') E s := by
    refine wpAny_call (codeAny_call_builtin F.cmp_object.ne.plain F.cmpEntry_ne ?_)
    refine @check_slot (model prog w) _ _ s "object.__ne__" "object" "__ne__" (.ref x) [b] [] _ F.cmpKind_ne F.cmpSplit_ne (I.type.andThen (looks_subIn X ho)) (F.cmpArgs_ne _ _) ?_
    refine wpAny_mono body (fun fin s' z => ?_) fun _ _ e => e
    obtain ⟨r, rfl, hq⟩ := z
    exact ⟨r, rfl, hq⟩
  have one : wpAny (model prog w) A (tryCompare (.ref x) "__ne__" b) (fun r s' => ∃ v, r = some v ∧ Q v s') E s := by
    unfold tryCompare
    refine wpAny_bind ?_
    simp only [callSpecialIfBound?, bindSpecialIfBound?]
    refine wpAny_holding (wpAny_bind (wpAny_bind (wpAny_bind (I.type.here ((looks_findIn X hne).here ?_)))))
    simp only [F.cmp_object.ne.bind]
    have fin : wpAny (model prog w) A (call (.builtin "object.__ne__") ([.ref x] ++ [b]) >>= fun v => pure (some v)) (fun r s' => wpAny (model prog w) A (match r with | some .notImplemented | none => pure none | some v => pure (some v)) (fun r s' => ∃ v, r = some v ∧ Q v s') E s') E s :=
      wpAny_bind (wpAny_mono called (fun v s' z => by
        obtain ⟨r, rfl, hq⟩ := z
        exact wpAny_pure (wpAny_pure ⟨_, rfl, hq⟩)) fun _ _ e => e)
    refine wpAny_bind (wpAny_askSetting (wpAny_ite ?_))
    split
    · exact wpAny_bind (wpAny_pure (wpAny_pure fin))
    · exact wpAny_tryCatch (wpAny_bind (wpAny_pure (wpAny_pure fin)))
  unfold richCompare
  simp only [oneThing_ref]
  refine wpAny_holding (wpAny_bind (wpAny_cRoomFor (Nat.lt_of_succ_lt hu) ?_))
  refine wpAny_bind (I.type.here (wpAny_bind (hb.here ?_)))
  split
  · rename_i q
    have e : subIn K tb (.ref C) = some false := by
      rcases Bool.or_eq_true_iff.mp hn with e | e
      · rw [beq_iff_eq.mp e] at q; simp at q
      · exact beq_iff_eq.mp e
    refine wpAny_bind ((looks_subIn X e).here ?_)
    simp only [Bool.false_eq_true, if_false]
    refine wpAny_bind (wpAny_mono one (fun r s' z => ?_) fun _ _ e => e)
    obtain ⟨v, rfl, hq⟩ := z
    exact wpAny_pure hq
  · refine wpAny_bind (wpAny_pure ?_)
    simp only [Bool.false_eq_true, if_false]
    refine wpAny_bind (wpAny_mono one (fun r s' z => ?_) fun _ _ e => e)
    obtain ⟨v, rfl, hq⟩ := z
    exact wpAny_pure hq
end
end PySem.W

set_option Elab.async false
set_option linter.all false
set_option maxRecDepth 100000
set_option maxHeartbeats 4000000
namespace Nb
open PySem PySem.Spec PyProof.Rows
open L2 hiding del del_ne del_same
section
variable {X : Cx} {CX : CXT} {n : Nat} {ps : List Str} {sp : Sp} {E : XK}
/-- x != y by the own __eq__ of x's class -/
def rNeO (C : Addr) (sp : Sp) (E : XK) (K : PySem.W.Frag) : R2 := fun x y H Q => ∃ a b dx fs D dy gs, x = .ref a ∧ y = .ref b ∧ H a = some (.ins C dx fs) ∧ H b = some (.ins D dy gs) ∧ PySem.W.notFirst K C (.ref D) = true ∧
  sp [.ref a, .ref b] H (fun v H' => ∃ c, v = .bl c ∧ Q (.bl (!c)) H') E
/-- what != asks of a class with an own __eq__ -/
structure NeC (K : PySem.W.Frag) (C : Addr) : Prop where
  ne : PySem.W.findIn K (.ref C) "__ne__" = some (some (.builtin "object.__ne__"))
  ob : PySem.W.subIn K (.ref C) (.type "object") = some true
theorem op_neO {C : Addr} (O : Om X CX n C "__eq__" ps sp) (N : NeC X.K C) (hr : Room (n + 1) X.A) (hu : X.A.units + 1 < cLine) (hx : Passes CX X E) : OpR X (compareOp .NotEq) (rNeO C sp E X.K) := by
  intro pins s σ H x y v u Q I rx ry hq
  obtain ⟨a, b, dx, fs, D, dy, gs, rfl, rfl, ha, hb', nf, h⟩ := hq
  obtain ⟨f, fd, hs, hf, hbn, F⟩ := O.ex
  cases rx
  cases ry
  obtain ⟨mA, J, _⟩ := ins_get I.hok ha
  obtain ⟨mB, J', _⟩ := ins_get I.hok hb'
  obtain ⟨od, J, _⟩ := J.look
  obtain ⟨od', J', _⟩ := J'.look
  obtain ⟨m, hF⟩ := I.fr
  show wpAny (model X.prog X.w) X.A (richCompare .NotEq (.ref a) (.ref b)) (EP X pins σ Q) X.xe s
  refine PySem.W.ne_K (tb := .ref D) hu hF I.ok.mod.kin J J'.type nf N.ne N.ob hs hf ?_
  refine wpAny_mono (own_run (vs := [.ref a, .ref b]) F hbn hx (L2.Sub.in1 ⟨hr, rfl⟩) I (.cons rfl (.cons rfl .nil)) h) (fun r s' z => ?_) fun _ _ e => e
  obtain ⟨v, H', I', rz, c, ez, q⟩ := z
  subst ez
  cases rz
  exact ⟨c, rfl, .bl (!c), H', I', rfl, q⟩
/-- what x + y asks of some classes, each with an own __add__ -/
structure Bo (K : PySem.W.Frag) (cs : List Addr) : Prop where
  sf : ∀ C ∈ cs, PySem.W.selfFirst K C = true
  no : ∀ C ∈ cs, PySem.W.findIn K (.ref C) "__radd__" = some none
  rd : ∀ C ∈ cs, PySem.W.readsIn K C (.type "type") = true
  ms : ∀ C ∈ cs, PySem.W.missIn K C (.type "type") "__radd__" = true
  sub : ∀ C ∈ cs, ∀ D ∈ cs, ∃ b, PySem.W.subIn K (.ref D) (.ref C) = some b
def boB (K : PySem.W.Frag) (cs : List Addr) : Bool := cs.all fun C => PySem.W.selfFirst K C && (PySem.W.findIn K (.ref C) "__radd__" == some none && (PySem.W.readsIn K C (.type "type") && (PySem.W.missIn K C (.type "type") "__radd__" && cs.all fun D => (PySem.W.subIn K (.ref D) (.ref C)).isSome)))
theorem bo_of {K : PySem.W.Frag} {cs : List Addr} (h : boB K cs = true) : Bo K cs := by
  unfold boB at h
  simp only [List.all_eq_true, Bool.and_eq_true, beq_iff_eq] at h
  exact ⟨fun C m => (h C m).1, fun C m => (h C m).2.1, fun C m => (h C m).2.2.1, fun C m => (h C m).2.2.2.1, fun C m D m' => Option.isSome_iff_exists.mp ((h C m).2.2.2.2 D m')⟩
def rAddO (cs : List Addr) (sp : Sp) (E : XK) : R2 := fun x y H Q => ∃ a b C dx fs D dy gs, x = .ref a ∧ y = .ref b ∧ C ∈ cs ∧ D ∈ cs ∧ H a = some (.ins C dx fs) ∧ H b = some (.ins D dy gs) ∧ sp [.ref a, .ref b] H Q E
theorem op_addO {cs : List Addr} (B : Bo X.K cs) (O : ∀ C ∈ cs, Om X CX n C "__add__" ps sp) (hr : Room n X.A) (hx : Passes CX X E) (cl : X.calm = true := by rfl) : OpR X (binaryOp .Add) (rAddO cs sp E) := by
  intro pins s σ H x y v u Q I rx ry hq
  obtain ⟨a, b, C, dx, fs, D, dy, gs, rfl, rfl, mC, mD, ha, hb', h⟩ := hq
  obtain ⟨f, fd, hs, hf, hbn, F⟩ := (O C mC).ex
  obtain ⟨f', fd', hs', hf', _, _⟩ := (O D mD).ex
  cases rx
  cases ry
  obtain ⟨mA, J, _⟩ := ins_get I.hok ha
  obtain ⟨mB, J', _⟩ := ins_get I.hok hb'
  obtain ⟨od, J, _⟩ := J.look
  obtain ⟨od', J', _⟩ := J'.look
  obtain ⟨m, hF⟩ := I.fr
  have go : ∀ s', Inv X pins σ H s' → wpAny (model X.prog X.w) X.A (call (.ref f) [.ref a, .ref b]) (PySem.W.CmpBack (EP X pins σ Q)) X.xe s' := fun s' I' =>
    wpAny_mono (own_run (vs := [.ref a, .ref b]) F hbn hx ⟨hr, rfl⟩ I' (.cons rfl (.cons rfl .nil)) h) (fun r s' z => by
      obtain ⟨v, H', I2, rz, q⟩ := z
      exact SlX.cmpback rz ⟨v, H', I2, rz, q⟩) fun _ _ e => e
  show wpAny (model X.prog X.w) X.A (binaryOp .Add (.ref a) (.ref b)) (EP X pins σ Q) X.xe s
  by_cases ne : C = D
  · subst ne
    exact PySem.W.binop_K hF I.ok.mod.kin J J'.type (B.sf C mC) hs hf (go s I)
  · exact PySem.W.binop_two hF I.ok.mod.kin J J' ne (B.sf C mC) (B.sf D mD) hs (B.no C mC) hs' (B.no D mD) (B.rd D mD) (B.ms D mD) (by decide +kernel) (B.sub C mC D mD) hf (I.ok.hd cl) fun h' tk' k => go _ (I.kept (t' := tk') k)

/-- an own def, called from within a builtin; what it may let out hangs on the slots -/
theorem own_runS {W : L2.St → XK} {pins : List (Addr × Obj)} {σ : L2.St} {H : Hp} {s : Shared} {Q : VK} {vs : List V} {us : List Value} {A : Around} {f : Addr} {fd : FuncData} (F : FnOk X.prog X.w X.K X.mg X.base CX n f fd ps sp) (hb : Binds X.K fd ps []) (hx : PassesAt CX X σ (W σ)) (sb : L2.Sub X n A) (I : Inv X pins σ H s) (r : Vals vs us) (hsp : sp vs H Q (W σ)) :
    wpAny (model X.prog X.w) A (call (.ref f) us) (EP X pins σ Q) X.xe s := by
  have e0 : Env0 X.prog X.w X.K X.mg X.base A X.stack s H := by
    have e := I.env0
    exact ⟨by rw [sb.fr]; exact e.frames, e.mod, e.bs, e.bsz, e.funs, e.frf, e.hok, e.bare⟩
  have hl := F.len _ _ _ _ hsp
  have hl2 : us.length = ps.length := by rw [← r.length]; exact hl
  refine wpAny_call (codeAny_mono (F.run A X.stack s H ⟨us, []⟩ us vs _ (W σ) sb.room e0 (by
    have := hb s us I.kIn (by simpa using hl2)
    simpa using this) r hsp) fun r s' hq => ?_)
  cases r with
  | error e => exact hx pins H s e s' I hq
  | ok fl =>
    cases fl with
    | ret w => exact I.after hq
    | next => exact False.elim hq
    | brk => exact False.elim hq
    | cont => exact False.elim hq
theorem pe_addS {W : L2.St → XK} {cs : List Addr} {ta tb : TE} {e1 e2 : Expr} {pos : Pos} (B : Bo X.K cs) (O : ∀ C ∈ cs, Om X CX n C "__add__" ps sp) (hr : Room n X.A) (hx : ∀ σ, PassesAt CX X σ (W σ)) (ha : PE X e1 ta) (hb : PE X e2 tb) (cl : X.calm = true := by rfl) :
    PE X (.BinOp e1 .Add e2 pos) (fun σ H Q => ta σ H fun x H1 => tb σ H1 fun y H2 => rAddO cs sp (W σ) x y H2 Q) := by
  refine ⟨fun pins s σ H Q I h => ?_⟩
  refine wpAny_BinOp (binT ha hb I h fun v u s2 x y H2 I rx ry hq => ?_)
  obtain ⟨a, b, C, dx, fs, D, dy, gs, rfl, rfl, mC, mD, ha, hb', h⟩ := hq
  obtain ⟨f, fd, hs, hf, hbn, F⟩ := (O C mC).ex
  obtain ⟨f', fd', hs', hf', _, _⟩ := (O D mD).ex
  cases rx
  cases ry
  obtain ⟨mA, J, _⟩ := ins_get I.hok ha
  obtain ⟨mB, J', _⟩ := ins_get I.hok hb'
  obtain ⟨od, J, _⟩ := J.look
  obtain ⟨od', J', _⟩ := J'.look
  obtain ⟨m, hF⟩ := I.fr
  have go : ∀ s', Inv X pins σ H2 s' → wpAny (model X.prog X.w) X.A (call (.ref f) [.ref a, .ref b]) (PySem.W.CmpBack (EP X pins σ Q)) X.xe s' := fun s' I' =>
    wpAny_mono (own_runS (vs := [.ref a, .ref b]) F hbn (hx σ) ⟨hr, rfl⟩ I' (.cons rfl (.cons rfl .nil)) h) (fun r s' z => by
      obtain ⟨v, H', I2, rz, q⟩ := z
      exact SlX.cmpback rz ⟨v, H', I2, rz, q⟩) fun _ _ e => e
  by_cases ne : C = D
  · subst ne
    exact PySem.W.binop_K hF I.ok.mod.kin J J'.type (B.sf C mC) hs hf (go _ I)
  · exact PySem.W.binop_two hF I.ok.mod.kin J J' ne (B.sf C mC) (B.sf D mD) hs (B.no C mC) hs' (B.no D mD) (B.rd D mD) (B.ms D mD) (by decide +kernel) (B.sub C mC D mD) hf (I.ok.hd cl) fun h' tk' k => go _ (I.kept (t' := tk') k)
/-- a call that lets nothing out -/
theorem pass_none : Passes (L2.CX X.prog X.w) X (fun _ _ _ => False) := fun pins σ H s e s' I c => by
  obtain ⟨a, B, sI, ps', σ1, H1, cls, d, _, _, _, _, _, _, _, _, w⟩ := XE.of_call (W := fun _ _ _ _ => False) I (fun _ _ _ h => h) c
  exact w.elim
theorem passAt_none (σ : L2.St) : PassesAt (L2.CX X.prog X.w) X σ (fun _ _ _ => False) := fun pins H s e s' I c => pass_none pins σ H s e s' I c
end
end Nb

set_option Elab.async false
set_option linter.all false
set_option maxRecDepth 100000
set_option maxHeartbeats 4000000
/-! ==, !=, bool and methods of objects whose class is one of several. -/
namespace PySem.W
open PySem PySem.Calls PyProof.Rows Builtin Builtin.ObjectAttr
section
variable {prog : Program} {w : World} {A : Around} {E : Value → Shared → Prop} {s : Shared} {K : Frag} {x y C D L f g : Addr} {h₀ : Heap} {m : Str → Option Value} {ox oy : Obj} {od od' : Option Obj}
theorem try_own {name : Str} {b : Value} {Q : Value → Shared → Prop} (X : K.In s.heap) (I : InstAt s.heap x ox C od) (hs : findIn K (.ref C) name = some (some (.ref f))) (hf : isFn K (.ref f) = true)
    (h : wpAny (model prog w) A (call (.ref f) [.ref x, b]) (CmpBack Q) E s) : wpAny (model prog w) A (tryCompare (.ref x) name b) (fun r s' => ∃ v, r = some v ∧ Q v s') E s := by
  unfold tryCompare
  refine wpAny_bind (ifBound_K X I hs hf (wpAny_mono h (fun v s' hv => ?_) fun _ _ e => e))
  cases v <;> first | exact hv.elim | exact wpAny_pure ⟨_, rfl, hv⟩
theorem try_ne {b : Value} {Q : Value → Shared → Prop} (hu : A.units + 1 < cLine) (X : K.In s.heap) (I : InstAt s.heap x ox C od) (hne : findIn K (.ref C) "__ne__" = some (some (.builtin "object.__ne__"))) (ho : subIn K (.ref C) (.type "object") = some true)
    (hs : findIn K (.ref C) "__eq__" = some (some (.ref f))) (hf : isFn K (.ref f) = true)
    (h : wpAny (model prog w) A.in1 (call (.ref f) [.ref x, b]) (fun v s' => ∃ r, v = .bool r ∧ Q (.bool (!r)) s') E s) : wpAny (model prog w) A (tryCompare (.ref x) "__ne__" b) (fun r s' => ∃ v, r = some v ∧ Q v s') E s := by
  have body : wpAny (model prog w) A.in1 (Builtin.«object.__ne__» ⟨[.ref x, b], []⟩) (fun fin s' => ∃ r, fin = .done (.ret (.bool (!r))) ∧ Q (.bool (!r)) s') E s := by
    unfold Builtin.«object.__ne__»
    refine wpAny_bind (wpAny_of_eq (a := ((Value.ref x : Value), [b])) (by first | rfl | (simp only [slotArgs]; rfl)) ?_)
    refine wpAny_bind (wpAny_cRoomFor (show A.in1.units < cLine from hu) ?_)
    refine wpAny_bind (ifBound_K X I hs hf (wpAny_mono h (fun v s' hv => ?_) fun _ _ e => e))
    obtain ⟨r, rfl, hq⟩ := hv
    exact wpAny_bind (wpAny_truthy_bool (wpAny_pure ⟨r, rfl, hq⟩))
  have called : wpAny (model prog w) A (call (.builtin "object.__ne__") [.ref x, b]) (fun v s' => ∃ r, v = .bool (!r) ∧ Q (.bool (!r)) s') E s := by
    refine wpAny_call (codeAny_call_builtin F.cmp_object.ne.plain F.cmpEntry_ne ?_)
    refine @check_slot (model prog w) _ _ s "object.__ne__" "object" "__ne__" (.ref x) [b] [] _ F.cmpKind_ne F.cmpSplit_ne (I.type.andThen (looks_subIn X ho)) (F.cmpArgs_ne _ _) ?_
    refine wpAny_mono body (fun fin s' z => ?_) fun _ _ e => e
    obtain ⟨r, rfl, hq⟩ := z
    exact ⟨r, rfl, hq⟩
  unfold tryCompare
  refine wpAny_bind ?_
  simp only [callSpecialIfBound?, bindSpecialIfBound?]
  refine wpAny_holding (wpAny_bind (wpAny_bind (wpAny_bind (I.type.here ((looks_findIn X hne).here ?_)))))
  simp only [F.cmp_object.ne.bind]
  have fin : wpAny (model prog w) A (call (.builtin "object.__ne__") ([.ref x] ++ [b]) >>= fun v => pure (some v)) (fun r s' => wpAny (model prog w) A (match r with | some .notImplemented | none => pure none | some v => pure (some v)) (fun r s' => ∃ v, r = some v ∧ Q v s') E s') E s :=
    wpAny_bind (wpAny_mono called (fun v s' z => by
      obtain ⟨r, rfl, hq⟩ := z
      exact wpAny_pure (wpAny_pure ⟨_, rfl, hq⟩)) fun _ _ e => e)
  refine wpAny_bind (wpAny_askSetting (wpAny_ite ?_))
  split
  · exact wpAny_bind (wpAny_pure (wpAny_pure fin))
  · exact wpAny_tryCatch (wpAny_bind (wpAny_pure (wpAny_pure fin)))
theorem rich_two {op : CmpOp} {Q : Value → Shared → Prop} (hu : A.units < cLine) (X : K.In s.heap) (I : InstAt s.heap x ox C od) (J : InstAt s.heap y oy D od') (hsub : ∃ b, subIn K (.ref D) (.ref C) = some b)
    (t1 : wpAny (model prog w) A (tryCompare (.ref x) (cmpInfo op).2.1 (.ref y)) (fun r s' => ∃ v, r = some v ∧ Q v s') E s)
    (t2 : wpAny (model prog w) A (tryCompare (.ref y) (cmpInfo op).2.2 (.ref x)) (fun r s' => ∃ v, r = some v ∧ Q v s') E s) : wpAny (model prog w) A (richCompare op (.ref x) (.ref y)) Q E s := by
  obtain ⟨b, hsub⟩ := hsub
  unfold richCompare
  simp only [oneThing_ref]
  refine wpAny_holding (wpAny_bind (wpAny_cRoomFor hu ?_))
  refine wpAny_bind (I.type.here (wpAny_bind (J.type.here ?_)))
  split
  · refine wpAny_bind ((looks_subIn X hsub).here ?_)
    cases b
    · simp only [Bool.false_eq_true, if_false]
      refine wpAny_bind (wpAny_mono t1 (fun r s' z => ?_) fun _ _ e => e)
      obtain ⟨v, rfl, hq⟩ := z
      exact wpAny_pure hq
    · simp only [if_true]
      refine wpAny_bind (wpAny_mono t2 (fun r s' z => ?_) fun _ _ e => e)
      obtain ⟨v, rfl, hq⟩ := z
      exact wpAny_bind (wpAny_rule (wpAny_pure hq))
  · refine wpAny_bind (wpAny_pure ?_)
    simp only [Bool.false_eq_true, if_false]
    refine wpAny_bind (wpAny_mono t1 (fun r s' z => ?_) fun _ _ e => e)
    obtain ⟨v, rfl, hq⟩ := z
    exact wpAny_pure hq
end
end PySem.W
namespace Nb
open PySem PySem.Spec PyProof.Rows
open L2 hiding del del_ne del_same
section
variable {X : Cx} {CX : CXT} {n : Nat} {ps : List Str} {E : XK} {cs : List Addr} {sp : Addr → Sp}
/-- what == and != ask of some classes, each with an own __eq__ -/
structure Eqs (K : PySem.W.Frag) (cs : List Addr) : Prop where
  ne : ∀ C ∈ cs, PySem.W.findIn K (.ref C) "__ne__" = some (some (.builtin "object.__ne__"))
  ob : ∀ C ∈ cs, PySem.W.subIn K (.ref C) (.type "object") = some true
  sub : ∀ C ∈ cs, ∀ D ∈ cs, ∃ b, PySem.W.subIn K (.ref D) (.ref C) = some b
def eqsB (K : PySem.W.Frag) (cs : List Addr) : Bool := cs.all fun C => PySem.W.findIn K (.ref C) "__ne__" == some (some (.builtin "object.__ne__")) && (PySem.W.subIn K (.ref C) (.type "object") == some true && cs.all fun D => (PySem.W.subIn K (.ref D) (.ref C)).isSome)
theorem eqs_of {K : PySem.W.Frag} {cs : List Addr} (h : eqsB K cs = true) : Eqs K cs := by
  unfold eqsB at h
  simp only [List.all_eq_true, Bool.and_eq_true, beq_iff_eq] at h
  exact ⟨fun C m => (h C m).1, fun C m => (h C m).2.1, fun C m D m' => Option.isSome_iff_exists.mp ((h C m).2.2 D m')⟩
/-- x == y of objects of the classes cs: what either __eq__ answers -/
def rEqP (cs : List Addr) (sp : Addr → Sp) (E : XK) : R2 := fun x y H Q => ∃ a b C dx fs D dy gs, x = .ref a ∧ y = .ref b ∧ C ∈ cs ∧ D ∈ cs ∧ H a = some (.ins C dx fs) ∧ H b = some (.ins D dy gs) ∧
  sp C [.ref a, .ref b] H (fun v H' => ∃ c, v = .bl c ∧ Q (.bl c) H') E ∧ sp D [.ref b, .ref a] H (fun v H' => ∃ c, v = .bl c ∧ Q (.bl c) H') E
def rNeP (cs : List Addr) (sp : Addr → Sp) (E : XK) : R2 := fun x y H Q => rEqP cs sp E x y H fun v H' => ∃ c, v = .bl c ∧ Q (.bl (!c)) H'
theorem op_eqP (N : Eqs X.K cs) (O : ∀ C ∈ cs, Om X CX n C "__eq__" ps (sp C)) (hr : Room n X.A) (hx : Passes CX X E) : OpR X (compareOp .Eq) (rEqP cs sp E) := by
  intro pins s σ H x y v u Q I rx ry hq
  obtain ⟨a, b, C, dx, fs, D, dy, gs, rfl, rfl, mC, mD, ha, hb', h1, h2⟩ := hq
  obtain ⟨f, fd, hs, hf, hbn, F⟩ := (O C mC).ex
  obtain ⟨f', fd', hs', hf', hbn', F'⟩ := (O D mD).ex
  cases rx
  cases ry
  obtain ⟨mA, J, _⟩ := ins_get I.hok ha
  obtain ⟨mB, J', _⟩ := ins_get I.hok hb'
  obtain ⟨od, J, _⟩ := J.look
  obtain ⟨od', J', _⟩ := J'.look
  show wpAny (model X.prog X.w) X.A (richCompare .Eq (.ref a) (.ref b)) (EP X pins σ Q) X.xe s
  have back : ∀ {r s'}, EP X pins σ (fun v H' => ∃ c, v = .bl c ∧ Q (.bl c) H') r s' → PySem.W.CmpBack (EP X pins σ Q) r s' := fun {r s'} z => by
    obtain ⟨v, H', I', rz, c, ez, q⟩ := z
    subst ez
    cases rz
    exact ⟨.bl c, H', I', rfl, q⟩
  refine PySem.W.rich_two hr.units0 I.kIn J J' (N.sub C mC D mD) (PySem.W.try_own I.kIn J hs hf ?_) (PySem.W.try_own I.kIn J' hs' hf' ?_)
  · exact wpAny_mono (own_run (vs := [.ref a, .ref b]) F hbn hx ⟨hr, rfl⟩ I (.cons rfl (.cons rfl .nil)) h1) (fun r s' z => back z) fun _ _ e => e
  · exact wpAny_mono (own_run (vs := [.ref b, .ref a]) F' hbn' hx ⟨hr, rfl⟩ I (.cons rfl (.cons rfl .nil)) h2) (fun r s' z => back z) fun _ _ e => e
theorem op_neP (N : Eqs X.K cs) (O : ∀ C ∈ cs, Om X CX n C "__eq__" ps (sp C)) (hr : Room (n + 1) X.A) (hu : X.A.units + 1 < cLine) (hx : Passes CX X E) : OpR X (compareOp .NotEq) (rNeP cs sp E) := by
  intro pins s σ H x y v u Q I rx ry hq
  obtain ⟨a, b, C, dx, fs, D, dy, gs, rfl, rfl, mC, mD, ha, hb', h1, h2⟩ := hq
  obtain ⟨f, fd, hs, hf, hbn, F⟩ := (O C mC).ex
  obtain ⟨f', fd', hs', hf', hbn', F'⟩ := (O D mD).ex
  cases rx
  cases ry
  obtain ⟨mA, J, _⟩ := ins_get I.hok ha
  obtain ⟨mB, J', _⟩ := ins_get I.hok hb'
  obtain ⟨od, J, _⟩ := J.look
  obtain ⟨od', J', _⟩ := J'.look
  show wpAny (model X.prog X.w) X.A (richCompare .NotEq (.ref a) (.ref b)) (EP X pins σ Q) X.xe s
  have back : ∀ {r s'}, EP X pins σ (fun v H' => ∃ c, v = .bl c ∧ ∃ c2, V.bl c = .bl c2 ∧ Q (.bl (!c2)) H') r s' → ∃ r', r = .bool r' ∧ EP X pins σ Q (.bool (!r')) s' := fun {r s'} z => by
    obtain ⟨v, H', I', rz, c, ez, c2, e2, q⟩ := z
    subst ez
    cases e2
    cases rz
    exact ⟨c, rfl, .bl (!c), H', I', rfl, q⟩
  have sb : L2.Sub X n X.A.in1 := L2.Sub.in1 ⟨hr, rfl⟩
  refine PySem.W.rich_two (Nat.lt_of_succ_lt hu) I.kIn J J' (N.sub C mC D mD) (PySem.W.try_ne hu I.kIn J (N.ne C mC) (N.ob C mC) hs hf ?_) (PySem.W.try_ne hu I.kIn J' (N.ne D mD) (N.ob D mD) hs' hf' ?_)
  · exact wpAny_mono (own_run (vs := [.ref a, .ref b]) F hbn hx sb I (.cons rfl (.cons rfl .nil)) h1) (fun r s' z => back z) fun _ _ e => e
  · exact wpAny_mono (own_run (vs := [.ref b, .ref a]) F' hbn' hx sb I (.cons rfl (.cons rfl .nil)) h2) (fun r s' z => back z) fun _ _ e => e
theorem bool_in {prog : Program} {w : World} (x : Value) : MeetsIn prog w (Builtin.«bool.__new__» ⟨[.type "bool", x], []⟩) (fun A R s => wpAny (model prog w) A.in1 (truthy x) (fun b s' => R (.ok (.ret (.bool b))) s') (fun e s' => R (.error e) s') s) :=
  .of_wp fun A R s h => by
    obtain ⟨hp, g, d, tk, os⟩ := s
    have f1 := PySem.F.conv_sub_bool
    wp_walk
    show wpAny (model prog w) A.in1 (truthy x) _ _ _
    refine wpAny_mono h (fun b s' z => ?_) fun _ _ z => z
    first | exact z | exact wpAny_pure z | exact ⟨_, rfl, z⟩ | (show wpAny _ _ _ _ _ _; wp_walk; first | exact z | exact ⟨_, rfl, z⟩)
theorem call_bool_own {prog : Program} {w : World} {A : Around} {E : Value → Shared → Prop} {s : Shared} {x : Value} {Q : Value → Shared → Prop} (h : wpAny (model prog w) A.in1.in1 (truthy x) (fun b s' => Q (.bool b) s') E s) : wpAny (model prog w) A (call (.type "bool") [x]) Q E s :=
  callType_newIn PySem.F.called_bool PySem.F.newNe_bool (PySem.F.typeCall_bool_1 x) (PySem.F.newCall_bool_1 x) (fun obj => PySem.F.args_object_init_2 obj x) PySem.F.entry_bool_new (bool_in x)
    (wpAny_mono h (fun b s' z => ⟨rfl, z⟩) fun _ _ z => z)
/-- bool(x) by the own __bool__ -/
theorem call_boolO (O : ∀ C ∈ cs, Om X CX n C "__bool__" ps (sp C)) (hr : Room (n + 2) X.A) (hx : Passes CX X E) : CallR X (.type "bool") (fun xs H Q => ∃ a C dx fs, xs = [.ref a] ∧ C ∈ cs ∧ H a = some (.ins C dx fs) ∧ sp C [.ref a] H (fun v H' => ∃ c, v = .bl c ∧ Q (.bl c) H') E) := by
  intro pins s σ H xs us Q I r h
  obtain ⟨a, C, dx, fs, rfl, mC, ha, h⟩ := h
  obtain ⟨f, fd, hs, hf, hbn, F⟩ := (O C mC).ex
  obtain ⟨u, rfl, rx⟩ := vals1 r
  cases rx
  obtain ⟨mA, J, _⟩ := ins_get I.hok ha
  obtain ⟨od, J, _⟩ := J.look
  obtain ⟨m, hF⟩ := I.fr
  refine call_bool_own (PySem.W.truthy_K hF I.ok.mod.kin J hs hf ?_)
  refine wpAny_mono (own_run (vs := [.ref a]) F hbn hx (L2.Sub.in1 (L2.Sub.in1 ⟨hr, rfl⟩)) I (.cons rfl .nil) h) (fun r s' z => ?_) fun _ _ e => e
  obtain ⟨v, H', I', rz, c, ez, q⟩ := z
  subst ez
  cases rz
  exact ⟨.bl c, H', I', rfl, q⟩
/-- x.m() where the class of x is one of cs -/
def tMethP (cs : List Addr) (m : Str) (sp : Addr → Sp) (E : XK) (ta : TE) : TE := fun σ H Q => ta σ H fun x H1 => ∃ a C dx fs, x = .ref a ∧ C ∈ cs ∧ H1 a = some (.ins C dx fs) ∧ fs.lookup m = none ∧ sp C [x] H1 Q E
theorem pe_MP {m : Str} {o : Expr} {ta : TE} {apos pos : Pos} {pl : Sem Bool} (D : ∀ C ∈ cs, Mn X.prog X.w X.K X.mg X.base CX n C m ps (sp C)) (c : ∀ C ∈ cs, Cls X.K C) (he : PE X o ta) (hr : Room n X.A) (hx : Passes CX X E)
    (ht : eval (.Call (.Attribute o m apos) [] [] pos) X.env = (do
      let ov ← eval o X.env
      standAt apos.atName
      let (f, first) ← holding [ov] (getMethod ov m pl)
      callWith pos f first (backTo pos (starEach [] X.env)) (backToKw pos (keywordEach [] X.env))) := by rfl) : PE X (.Call (.Attribute o m apos) [] [] pos) (tMethP cs m sp E ta) := by
  refine ⟨fun pins s σ H Q I h => ?_⟩
  refine PySem.W.methodCall_KW (pl := pl) (thn (he.run pins s σ H _ I h) fun u s1 ⟨x, H1, I1, rx, a, C, dx, fs, ex, mC, ea, l, q⟩ => ?_) ht
  subst ex
  obtain rfl : u = Value.ref a := rx
  obtain ⟨f, fd, M, b, F⟩ := (D C mC).ex
  refine getmeth_ok I1 ea (c C mC) M l ?_
  refine PySem.W.callWith_K0 I1.kIn M.kp ?_
  exact run_fn (us := [.ref a]) (vs := [.ref a]) (dvs := []) (ds := []) F hr b .nil hx I1 (.cons rfl .nil) q
theorem Om.up {C : Addr} {m : Str} {k : Nat} {sp : Sp} (O : Om X CX n C m ps sp) (h : n ≤ k) : Om X CX k C m ps sp := let ⟨f, fd, a, b, c, F⟩ := O.ex; ⟨f, fd, a, b, c, F.mono h⟩
theorem Mn.up {P : Program} {w : World} {K : PySem.W.Frag} {mg : Str → Option Value} {base : Heap} {C : Addr} {m : Str} {k : Nat} {sp : Sp} (O : Mn P w K mg base CX n C m ps sp) (h : n ≤ k) : Mn P w K mg base CX k C m ps sp := let ⟨f, fd, M, b, F⟩ := O.ex; ⟨f, fd, M, b, F.mono h⟩
end
end Nb
namespace Nb
open PySem
open L2 hiding del del_ne del_same
def tJoin (ts : List TE) : TE := fun σ H Q => tJs ts Str.empty σ H fun out H1 => Q (.str out) H1
theorem pe_joinedN {X : Cx} {v1 v2 : Expr} {rest : List Expr} {ts : List TE} {pos : Pos} (h : PJ X (v1 :: v2 :: rest) ts) : PE X (.JoinedStr (v1 :: v2 :: rest) pos) (tJoin ts) := pe_joined h
end Nb

set_option Elab.async false
set_option linter.all false
set_option maxRecDepth 100000
set_option maxHeartbeats 4000000
/-! {n:>2} of a small number, {z:<8} of a short text. -/
namespace Nb
open PySem PySem.Spec PyProof.Rows
open L2 hiding del del_ne del_same
section
variable {prog : Program} {w : World} {A : Around} {E : Value → Shared → Prop} {s : Shared}
/-- a number of one or two digits at the right of two columns -/
def pad2 (n : Nat) : Str := if n < 10 then " " ++ Str.ofString (toString n) else Str.ofString (toString n)
abbrev spI : Builtin.Float.FormatSpec := { fill := 32, align := 62, width := some 2 }
abbrev spS : Builtin.Float.FormatSpec := { fill := 32, align := 60, width := some 8 }
theorem pad2_text : ∀ n : Nat, n < 100 → intSpecText spI ((n : Nat) : Int) = pad2 n := by decide +kernel
theorem parse2 : Builtin.Float.parseFormatSpec (Str.ofString ">2").cps.toList "int" 62 = .ok spI := by kernel_rfl
theorem parse8 : Builtin.Float.parseFormatSpec (Str.ofString "<8").cps.toList "str" 60 = .ok spS := by kernel_rfl
theorem log_small {n : Nat} (l : n < 100) : ((n : Nat) : Int).natAbs.log2 < 1920 := by
  rw [Int.natAbs_natCast]
  have := Nat.log2_le_self n
  omega
theorem pad2_len : ∀ n : Nat, n < 100 → (pad2 n).length ≤ 2 := by decide +kernel
open Builtin Builtin.Str Builtin.Int Builtin.Float in
/-- format(n, '>2') -/
theorem fmt_i {n : Nat} (l : n < 100) {t : Tok} {Q : Value → Shared → Prop} (h : ∀ t' k, Q (.str (pad2 n) t') { s with toks := k }) : wpAny (model prog w) A (formatField (.int (n : Int) t) (Str.ofString ">2")) Q E s := by
  have small := log_small l
  have text := pad2_text n l
  have long : (pad2 n).length ≤ sizeLine := by
    have := pad2_len n l
    rw [sizeLine_eq]
    omega
  have parse := parse2
  have ne : ((Str.ofString ">2").length == 0) = false := by decide +kernel
  have asc : (((Str.ofString ">2").cps.toList.drop 1).any (· ≥ 128) || ((Str.ofString ">2").cps.getD 0 0 ≥ 128 && !([60, 62, 61, 94] : List Nat).contains ((Str.ofString ">2").cps.getD 1 0))) = false := by decide +kernel
  have ty : spI.type.getD (if (Str.ofString ">2").cps.back? == some 0 then 0 else 100) = 100 := by decide +kernel
  have lenS : (Str.ofString ">2").length ≤ sizeLine := by rw [sizeLine_eq]; decide +kernel
  obtain ⟨f, ef⟩ : ∃ f, f = spI := ⟨_, rfl⟩
  have fz : f.noNeg0 = false := by rw [ef]
  have fp : f.precision = none := by rw [ef]
  have fa : f.alt = false := by rw [ef]
  have fw : ¬ (f.width.getD 0 > 100000) := by rw [ef]; decide
  rw [← ef] at parse ty text
  generalize Str.ofString ">2" = sp at parse ne asc ty lenS ⊢
  show wpAny _ _ (holding [.int n t] (pyFormat (.int n t) sp)) Q E s
  refine wpAny_holding ?_
  unfold pyFormat
  refine wpAny_bind (wpAny_mkStr ?_ lenS)
  refine wpAny_bind (m := callSpecial? (.int n t) (Str.ofString "__format__") [.str sp s.toks]) (wpAny_callSpecial?_slot (name := Str.ofString "__format__") (typeIs_int _ n t) slot_int_format ?_)
  refine wpAny_call (codeAny_call_builtin slot_int_format.plain entry_int_format (slot_int_format.check _ _ _ _ _ _ _ _ (typeIs_int _ n t) (args_int_format _ _) ?_))
  unfold Builtin.«int.__format__»
  simp only [selfAndOne, noKeywords, Int.intOfSelf, asInt?, asStr?, List.isEmpty_nil, if_true, pure_bind, bind_pure, bind_assoc, ne, asc, Bool.false_eq_true, if_false, show (Value.str sp s.toks == Value.none) = false from rfl]
  refine wpAny_bind (wpAny_typeNameOf (T := "str") (typeIs_str _ _ _) (by decide) fun _ => ?_)
  first | refine wpAny_bind (wpAny_typeNameOfCut_int ?_) | refine wpAny_bind (wpAny_typeNameOf_int ?_)
  simp only [parse, ty]
  rw [if_pos (by decide)]
  show wpAny _ _ (if _ then _ else _) _ _ _
  rw [if_neg (by simp [fp])]
  show wpAny _ _ (if _ then _ else _) _ _ _
  rw [if_neg (by simp [fz])]
  show wpAny _ _ (if _ then _ else _) _ _ _
  rw [if_neg (by decide)]
  show wpAny _ _ (do let r ← Builtin.overDigitLimit? (n : Int); _) _ _ _
  rw [PyProof.Rows.overDigitLimit_small small]
  refine wpAny_bind (wpAny_pure ?_)
  show wpAny _ _ (if _ then _ else _) _ _ _
  rw [if_neg (by simpa using fw)]
  show wpAny _ _ (retStr _) _ _ _
  rw [fa]
  refine W.KXf.ret_text (T := pad2 n) ?e ?lg fun t' k => ?_
  case e =>
    rw [← text, ef]
    with_unfolding_all rfl
  case lg =>
    refine Nat.le_trans (Nat.le_of_eq (congrArg Str.length ?_)) long
    rw [← text, ef]
    with_unfolding_all rfl
  exact wpAny_bind (wpAny_isInstance (typeIs_str _ _ _) isSubtype_str_str (wpAny_pure (h _ _)))
/-- a text at the left of eight columns -/
def pad8 (z : Str) : Str := ⟨z.cps ++ (List.replicate (8 - z.length) 32).toArray⟩
theorem field8 (z : Str) (l : z.length ≤ 8) : Builtin.Str.strField z spS "str" = .ok (if 8 ≤ z.length then none else some (pad8 z)) := by
  have e : Builtin.Str.strSub z 0 z.length = z := by
    show (⟨z.cps.extract 0 z.cps.size⟩ : Str) = z
    rw [Array.extract_size]
  have p : Builtin.Str.padded z 0 (8 - z.length) 32 = pad8 z := by
    show (⟨Array.replicate 0 32 ++ z.cps ++ Array.replicate (8 - z.length) 32⟩ : Str) = ⟨z.cps ++ (List.replicate (8 - z.length) 32).toArray⟩
    rw [List.toArray_replicate]
    simp
  show (if (decide (8 ≤ z.length) && true) = true then (Except.ok none : Except String (Option Str)) else .ok (some (Builtin.Str.padded (Builtin.Str.strSub z 0 z.length) 0 (8 - (Builtin.Str.strSub z 0 z.length).length - 0) 32))) = _
  rw [e, Nat.sub_zero, p, Bool.and_true]
  by_cases c : 8 ≤ z.length
  · rw [if_pos c, if_pos (decide_eq_true c)]
  · rw [if_neg c, if_neg (by simpa using c)]
open Builtin Builtin.Str Builtin.Int Builtin.Float in
theorem fmt_s {z : Str} (l : z.length ≤ 8) {t : Tok} {Q : Value → Shared → Prop} (h : ∀ t' k, Q (.str (pad8 z) t') { s with toks := k }) : wpAny (model prog w) A (formatField (.str z t) (Str.ofString "<8")) Q E s := by
  have parse := parse8
  have ne : ((Str.ofString "<8").length == 0) = false := by decide +kernel
  have asc : (((Str.ofString "<8").cps.toList.drop 1).any (· ≥ 128) || ((Str.ofString "<8").cps.getD 0 0 ≥ 128 && !([60, 62, 61, 94] : List Nat).contains ((Str.ofString "<8").cps.getD 1 0))) = false := by decide +kernel
  have ty : ((Str.ofString "<8").cps.back? == some 0) = false := by decide +kernel
  have lenS : (Str.ofString "<8").length ≤ sizeLine := by rw [sizeLine_eq]; decide +kernel
  refine W.KXf.field_meets (y := pad8 z) ne (fun s' => typeIs_str s' z t) F.slot_str_format F.entry_str_format F.args_str_format_2 lenS (fun u => ?_) h
  generalize Str.ofString "<8" = sp at parse ne asc ty lenS ⊢
  intro P' w' A' R s' hm
  unfold Builtin.«str.__format__»
  simp only [strOneArg, selfAndOne, noKeywords, textOf, asStr?, List.isEmpty_nil, if_true, pure_bind, bind_pure, bind_assoc, ne, asc, Bool.false_eq_true, if_false]
  refine wpAny_bind (W.KXf.cut_str ?_)
  rw [parse]
  have fld := field8 z l
  have tl : tooLong (spS.width.getD 0) = false := by
    show decide (8 > sizeLine) = false
    rw [sizeLine_eq]
    decide
  show wpAny _ _ (match (if tooLong ((if (spS.type.isNone && sp.cps.back? == some 0) = true then { spS with type := some 0 } else spS).width.getD 0) = true then (Except.ok none : Except String (Option (Option Str))) else (strField z (if (spS.type.isNone && sp.cps.back? == some 0) = true then { spS with type := some 0 } else spS) "str").bind fun r => .ok (some r)) with | .error msg => _ | .ok none => _ | .ok (some none) => _ | .ok (some (some text)) => _) _ _ _
  rw [ty, Bool.and_false, if_neg (by decide)]
  show wpAny _ _ (match (strField z spS "str").bind fun r => .ok (some r) with | .error msg => _ | .ok none => _ | .ok (some none) => _ | .ok (some (some text)) => _) _ _ _
  rw [fld]
  by_cases c : 8 ≤ z.length
  · rw [if_pos c]
    have same : pad8 z = z := by
      unfold pad8
      rw [show 8 - z.length = 0 by omega]
      show (⟨z.cps ++ #[]⟩ : Str) = z
      rw [Array.append_empty]
    rw [same] at hm
    show wpAny _ _ (do rule "str.__format__.unchanged"; ret (.str z t)) _ _ _
    exact wpAny_bind (wpAny_rule (wpAny_pure (hm t s'.toks)))
  · rw [if_neg c]
    show wpAny _ _ (retStr (pad8 z)) _ _ _
    refine W.KXf.ret_text rfl ?_ fun t' k => hm t' k
    have : (pad8 z).length = 8 := by
      show (z.cps ++ (List.replicate (8 - z.length) 32).toArray).size = 8
      rw [List.toArray_replicate, Array.size_append, Array.size_replicate]
      show z.length + (8 - z.length) = 8
      omega
    rw [this, sizeLine_eq]
    omega
end
end Nb

set_option Elab.async false
set_option linter.all false
set_option maxRecDepth 100000
set_option maxHeartbeats 4000000
/-! ' ' * n -/
namespace Nb
open PySem PySem.Spec PyProof.Rows
open L2 hiding del del_ne del_same
def spaces (k : Nat) : Str := ⟨(List.replicate k 32).toArray⟩
theorem spaces_eq : ∀ k : Nat, k < 101 → (⟨(List.replicate k (" " : Str).cps).foldl (· ++ ·) #[]⟩ : Str) = spaces k := by decide +kernel
theorem spaces_one : spaces 1 = " " := by decide +kernel
theorem spaces_len (k : Nat) : (spaces k).length = k := by
  show (List.replicate k 32).toArray.size = k
  rw [List.toArray_replicate, Array.size_replicate]
theorem op_spaces {X : Cx} : OpR X (binaryOp .Mult) (fun x y H Q => ∃ k : Int, x = .str " " ∧ y = .int k ∧ -100 ≤ k ∧ k ≤ 100 ∧ Q (.str (spaces k.toNat)) H) := by
  intro pins s σ H x y v u Q I rx ry ⟨k, ex, ey, lo, hi, q⟩
  subst ex ey
  obtain ⟨t, rfl⟩ := rx
  obtain ⟨t2, rfl⟩ := ry
  have one : (" " : Str).length = 1 := by decide +kernel
  refine P.mul_str (by rw [decide_eq_false (by omega), decide_eq_false (by omega)]; rfl) (fun a b => ?_) (fun a b => ?_) ?_
  · rw [one]
    have : (1 : Int) ≤ (2 ^ 63 - 1) / k := Int.le_ediv_of_mul_le (by omega) (by omega)
    omega
  · rw [one, Nat.one_mul]
    show decide (k.toNat > sizeLine) = false
    rw [sizeLine_eq]
    exact decide_eq_false (by omega)
  · by_cases c : k < 1
    · rw [if_pos c]
      have e : spaces k.toNat = Str.empty := by
        rw [show k.toNat = 0 by omega]
        rfl
      rw [e] at q
      exact ⟨by show 0 ≤ sizeLine; exact Nat.zero_le _, .str Str.empty, H, I.tok _, ⟨_, rfl⟩, q⟩
    · rw [if_neg c, one]
      by_cases c1 : k = 1
      · subst c1
        have e : spaces (1 : Int).toNat = " " := spaces_one
        rw [e] at q
        exact ⟨.str " ", H, I, ⟨_, rfl⟩, q⟩
      · rw [if_neg (by simp [c1]), spaces_eq _ (by omega)]
        exact ⟨by rw [spaces_len, sizeLine_eq]; omega, .str (spaces k.toNat), H, I.tok _, ⟨_, rfl⟩, q⟩
end Nb

set_option Elab.async false
set_option linter.all false
set_option maxRecDepth 100000
set_option maxHeartbeats 4000000
/-! repr of a text -/
namespace Nb
open PySem PySem.Spec PyProof.Rows
open L2 hiding del del_ne del_same
theorem cr_reprS {X : Cx} : CallR X (.builtin "repr") (fun xs H Q => ∃ z : Str, xs = [.str z] ∧ (reprText z).length ≤ sizeLine ∧ Q (.str (reprText z)) H) := by
  intro pins s σ H xs us Q I r h
  obtain ⟨z, rfl, hz, q⟩ := h
  cases r with
  | cons ru rn =>
  cases rn
  obtain ⟨t, rfl⟩ := ru
  exact PySem.P.repr_of_str ⟨.str _, H, I.tok _, ⟨_, rfl⟩, q⟩ hz
/-- a text of small code points -/
def Low (z : Str) : Prop := ∀ c ∈ z.cps.toList, c < 16 ^ 8
theorem low_app {a b : Str} (h : Low a) (k : Low b) : Low (a ++ b) := fun c m => by
  have m : c ∈ (a.cps ++ b.cps).toList := m
  rw [Array.toList_append, List.mem_append] at m
  exact m.elim (h c) (k c)
theorem low_repr {z : Str} (h : Low z) (l : z.length ≤ 100000) : (reprText z).length ≤ sizeLine := by
  have := PySem.StrLaws.reprText_len z h
  rw [sizeLine_eq]
  omega
theorem low_spaces (k : Nat) : Low (spaces k) := fun c m => by
  have m : c ∈ (List.replicate k 32).toArray.toList := m
  rw [List.toList_toArray, List.mem_replicate] at m
  rw [m.2]
  decide
theorem low_pad2 : ∀ n : Nat, n < 100 → Low (pad2 n) := fun n l c m => by
  have h : ∀ n : Nat, n < 100 → (pad2 n).cps.toList.all (fun c => decide (c < 16 ^ 8)) = true := by decide +kernel
  exact of_decide_eq_true (List.all_eq_true.mp (h n l) c m)
theorem low_pad8 {z : Str} (h : Low z) (l : z.length ≤ 8) : Low (pad8 z) := by
  have e : pad8 z = z ++ spaces (8 - z.length) := rfl
  rw [e]
  exact low_app h (low_spaces _)
theorem low_join {s : Str} (hs : Low s) : ∀ {zs : List Str}, (∀ z ∈ zs, Low z) → Low (Txt.join s zs) := by
  have key : ∀ (zs : List Str) (acc : Array Nat), (∀ c ∈ acc.toList, c < 16 ^ 8) → (∀ z ∈ zs, Low z) → ∀ c ∈ (zs.foldl (fun acc p => acc ++ s.cps ++ p.cps) acc).toList, c < 16 ^ 8 := by
    intro zs
    induction zs with
    | nil => exact fun acc h _ => h
    | cons z zs ih =>
      intro acc h hz
      refine ih _ (fun c m => ?_) fun y m => hz y (List.mem_cons_of_mem _ m)
      rw [Array.toList_append, Array.toList_append, List.mem_append, List.mem_append] at m
      rcases m with (m | m) | m
      · exact h c m
      · exact hs c m
      · exact hz z (List.mem_cons_self ..) c m
  intro zs h
  cases zs with
  | nil => exact fun c m => by cases m
  | cons z zs => exact key zs z.cps (h z (List.mem_cons_self ..)) fun y m => h y (List.mem_cons_of_mem _ m)
end Nb

set_option Elab.async false
set_option linter.all false
set_option maxRecDepth 100000
set_option maxHeartbeats 4000000
/-! How long a repr can be: of data with dicts. -/
namespace Nb
open PySem PySem.Spec PyProof.Rows
mutual
/-- data of depth k at most that show in n signs at most -/
inductive Sw : Nat → PyData → Nat → Prop
  | non {k : Nat} : Sw k .none 4
  | str {k : Nat} {z : Str} (h : Low z) : Sw k (.str z) (10 * z.length + 2)
  | int {k : Nat} {i : Int} (h : (PyData.int i).showable = true) {n : Nat} (l : (toString i : Str).length ≤ n) : Sw k (.int i) n
  | tup {k : Nat} {ds : List PyData} {n : Nat} (h : Sws k ds n) : Sw (k + 1) (.tuple ds) (n + 3)
  | dct {k : Nat} {ps : List (PyData × PyData)} {n : Nat} (h : Swk k ps n) : Sw (k + 1) (.dict ps) (n + 2)
inductive Sws : Nat → List PyData → Nat → Prop
  | nil {k : Nat} : Sws k [] 0
  | cons {k : Nat} {d : PyData} {ds : List PyData} {n m : Nat} (h : Sw k d n) (t : Sws k ds m) : Sws k (d :: ds) (n + 2 + m)
inductive Swk : Nat → List (PyData × PyData) → Nat → Prop
  | nil {k : Nat} : Swk k [] 0
  | cons {k : Nat} {a b : PyData} {ps : List (PyData × PyData)} {n m r : Nat} (h : Sw k a n) (h2 : Sw k b m) (t : Swk k ps r) : Swk k ((a, b) :: ps) (n + 2 + m + 2 + r)
end
theorem two_len : (", " : Str).length = 2 := by decide +kernel
theorem colon_len : (": " : Str).length = 2 := by decide +kernel
theorem joined_le (ts : List Str) : (Str.join ", " ts).length ≤ (ts.map fun t => t.length + 2).sum := by
  have h := PySem.StrLaws.join_length_le ", " ts
  rw [two_len] at h
  refine Nat.le_trans h (Nat.le_of_eq ?_)
  clear h
  induction ts with
  | nil => rfl
  | cons t ts ih =>
    rw [List.map_cons, List.sum_cons, List.length_cons, List.map_cons, List.sum_cons, ← ih]
    omega
theorem tuple_le (ts : List Str) : (tupleText ts).length ≤ (ts.map fun t => t.length + 2).sum + 3 := by
  have h := joined_le ts
  unfold tupleText
  rw [strLen_append, strLen_append]
  have a : ("(" : Str).length = 1 := by decide +kernel
  have b : (",)" : Str).length = 2 := by decide +kernel
  have c : (")" : Str).length = 1 := by decide +kernel
  split
  · show ("(" : Str).length + _ + (",)" : Str).length ≤ _
    omega
  · show ("(" : Str).length + _ + (")" : Str).length ≤ _
    omega
theorem dict_le (ts : List Str) : (dictText ts).length ≤ (ts.map fun t => t.length + 2).sum + 2 := by
  have h := joined_le ts
  unfold dictText
  rw [strLen_append, strLen_append]
  have a : ("{" : Str).length = 1 := by decide +kernel
  have b : ("}" : Str).length = 1 := by decide +kernel
  omega
theorem list_le (ts : List Str) : (listText ts).length ≤ (ts.map fun t => t.length + 2).sum + 2 := by
  have h : ∀ (ts : List Str) (k : Nat) (acc : Str), (textFrom k acc ts).length ≤ acc.length + (ts.map fun t => t.length + 2).sum := by
    intro ts
    induction ts with
    | nil => exact fun k acc => Nat.le_refl _
    | cons t ts ih =>
      intro k acc
      refine Nat.le_trans (ih _ _) ?_
      rw [List.map_cons, List.sum_cons, strLen_append, strLen_append]
      have : ((if k > 0 then ", " else "" : String) : Str).length ≤ 2 := by
        split
        · exact Nat.le_of_eq two_len
        · decide +kernel
      omega
  unfold listText
  rw [strLen_append]
  have a := h ts 0 "["
  have b : ("[" : Str).length = 1 := by decide +kernel
  have c : ("]" : Str).length = 1 := by decide +kernel
  omega
mutual
theorem sw_ok : ∀ {k : Nat} {d : PyData} {n : Nat}, Sw k d n → d.showable = true ∧ d.depth ≤ k ∧ d.shown.length ≤ n
  | _, _, _, .non => ⟨rfl, Nat.zero_le _, by decide +kernel⟩
  | _, _, _, .str h => ⟨rfl, Nat.zero_le _, by
      simp only [PyData.shown]
      exact PySem.StrLaws.reprText_len _ h⟩
  | _, _, _, .int h l => ⟨h, Nat.zero_le _, by simp only [PyData.shown]; exact l⟩
  | _, _, _, .tup (ds := ds) h => by
    obtain ⟨a, b, c⟩ := sws_ok h
    refine ⟨by simpa only [PyData.showable] using a, by simp only [PyData.depth]; omega, ?_⟩
    simp only [PyData.shown]
    have := tuple_le (PyData.shownAll ds)
    omega
  | _, _, _, .dct (ps := ps) h => by
    obtain ⟨a, b, c⟩ := swk_ok h
    refine ⟨by simpa only [PyData.showable] using a, by simp only [PyData.depth]; omega, ?_⟩
    simp only [PyData.shown]
    have := dict_le (PyData.shownKv ps)
    omega
theorem sws_ok : ∀ {k : Nat} {ds : List PyData} {n : Nat}, Sws k ds n → PyData.showableAll ds = true ∧ PyData.depthAll ds ≤ k ∧ ((PyData.shownAll ds).map fun t => t.length + 2).sum ≤ n
  | _, _, _, .nil => ⟨rfl, Nat.zero_le _, Nat.le_refl _⟩
  | _, _, _, .cons h t => by
    obtain ⟨a, b, c⟩ := sw_ok h
    obtain ⟨a2, b2, c2⟩ := sws_ok t
    refine ⟨by simp only [PyData.showableAll, a, a2]; rfl, by simp only [PyData.depthAll]; omega, ?_⟩
    simp only [PyData.shownAll, List.map_cons, List.sum_cons]
    omega
theorem swk_ok : ∀ {k : Nat} {ps : List (PyData × PyData)} {n : Nat}, Swk k ps n → PyData.showableKv ps = true ∧ PyData.depthKv ps ≤ k ∧ ((PyData.shownKv ps).map fun t => t.length + 2).sum ≤ n
  | _, _, _, .nil => ⟨rfl, Nat.zero_le _, Nat.le_refl _⟩
  | _, _, _, .cons h h2 t => by
    obtain ⟨a, b, c⟩ := sw_ok h
    obtain ⟨a1, b1, c1⟩ := sw_ok h2
    obtain ⟨a2, b2, c2⟩ := swk_ok t
    refine ⟨by simp only [PyData.showableKv, a, a1, a2]; rfl, by simp only [PyData.depthKv]; omega, ?_⟩
    simp only [PyData.shownKv, List.map_cons, List.sum_cons]
    rw [strLen_append, strLen_append, colon_len]
    omega
end
/-- a list of such data can be shown -/
theorem sws_list {k : Nat} {ds : List PyData} {n : Nat} (h : Sws k ds n) (hk : k ≤ 50) (hn : n ≤ 10000000) : PyData.showableAll ds = true ∧ (PyData.list ds).depth ≤ 60 ∧ (PyData.list ds).shown.length ≤ sizeLine := by
  obtain ⟨a, b, c⟩ := sws_ok h
  refine ⟨a, by simp only [PyData.depth]; omega, ?_⟩
  simp only [PyData.shown]
  have := list_le (PyData.shownAll ds)
  rw [sizeLine_eq]
  omega
theorem sw_one {k : Nat} {d : PyData} {n : Nat} (h : Sw k d n) (hk : k ≤ 50) (hn : n ≤ 10000000) : d.showable = true ∧ d.depth ≤ 60 ∧ d.shown.length ≤ sizeLine := by
  obtain ⟨a, b, c⟩ := sw_ok h
  exact ⟨a, by omega, by rw [sizeLine_eq]; omega⟩
theorem sws_app {k : Nat} : ∀ {ds es : List PyData} {n m : Nat}, Sws k ds n → Sws k es m → Sws k (ds ++ es) (n + m)
  | _, _, _, _, .nil, h => by rw [List.nil_append, Nat.zero_add]; exact h
  | _, _, _, _, .cons h t, h2 => by
    rw [List.cons_append, Nat.add_assoc]
    exact .cons h (sws_app t h2)
mutual
theorem sw_up {k : Nat} : ∀ {d : PyData} {n m : Nat}, Sw k d n → n ≤ m → ∃ l, l ≤ m ∧ Sw k d l := fun h l => ⟨_, l, h⟩
end
/-- many items of n signs each -/
theorem sws_many {k b : Nat} : ∀ {ds : List PyData}, (∀ d ∈ ds, ∃ n, n ≤ b ∧ Sw k d n) → ∃ n, n ≤ (b + 2) * ds.length ∧ Sws k ds n
  | [], _ => ⟨0, Nat.zero_le _, .nil⟩
  | d :: ds, h => by
    obtain ⟨n, l, s⟩ := h d (List.mem_cons_self ..)
    obtain ⟨m, l2, s2⟩ := sws_many (ds := ds) fun e he => h e (List.mem_cons_of_mem _ he)
    refine ⟨n + 2 + m, ?_, .cons s s2⟩
    rw [List.length_cons, Nat.mul_succ]
    omega
theorem swk_many {k b c : Nat} : ∀ {ps : List (PyData × PyData)}, (∀ p ∈ ps, (∃ n, n ≤ b ∧ Sw k p.1 n) ∧ ∃ n, n ≤ c ∧ Sw k p.2 n) → ∃ n, n ≤ (b + c + 4) * ps.length ∧ Swk k ps n
  | [], _ => ⟨0, Nat.zero_le _, .nil⟩
  | (x, y) :: ps, h => by
    obtain ⟨⟨n, l, s⟩, n2, l2, s2⟩ := h _ (List.mem_cons_self ..)
    obtain ⟨m, l3, s3⟩ := swk_many (ps := ps) fun e he => h e (List.mem_cons_of_mem _ he)
    refine ⟨n + 2 + n2 + 2 + m, ?_, .cons s s2 s3⟩
    rw [List.length_cons, Nat.mul_succ]
    omega
end Nb

set_option Elab.async false
set_option linter.all false
set_option maxRecDepth 100000
set_option maxHeartbeats 4000000
/-! Up to three sources of numbers in a list. -/
namespace Nb
open PySem
open L2 hiding del del_ne del_same
theorem turns3 (L : Int) : 1 ≤ (if (if L < 3 then L else 3) > 1 then (if L < 3 then L else 3) else 1) ∧ (if (if L < 3 then L else 3) > 1 then (if L < 3 then L else 3) else 1) ≤ 3 := by
  split <;> split at * <;> omega
theorem fr_step {H0 H H' : Hp} {p : Addr} (f : Same (Nb.del H0 p) H) (s : Same (Nb.del H p) H') : Same (Nb.del H0 p) H' := (same_del f del_at).trans s
theorem src_del {H : Hp} {p D : Addr} {n : Nat} (S : Src H p n) (h : p ≠ D) : Src (Nb.del H D) p n := let ⟨c, m, r, e, k⟩ := S; ⟨c, m, r, by rw [Nb.del_ne h]; exact e, k⟩
section
variable {J : It} {n : Nat} {G : Hp → Prop} {Y : Nat → Hp → V → Hp → Prop} {g : TG} {te : TE} {vs : List Nat} {σ : L2.St} {H1 : Hp} {D : Addr} {Qd : Hp → Prop}
theorem lcRM (w : Walk J n G Y) (R : Nat → V → Hp → Prop) (hR : ∀ i y H H', Same H H' → R i y H → R i y H') (hn : n ≤ 100000) (hD : H1 D = none) (hG : ∀ H, Same H1 H → G H)
    (hs : ∀ i x H H' (Nx : VK), i < n → Same H1 H → H D ≠ none → Y i H x H' → (∀ y H4, Same H H4 → R i y (Nb.del H4 D) → Nx y H4) → g x (wipe σ vs) H' fun σ2 H2 => wipe σ2 vs = wipe σ vs ∧ te σ2 H2 Nx)
    (hd : ∀ H ys, Same H1 H → H D = some (.lst ys) → F2 (fun i y => R i y H) (List.range n) ys → Qd H) : LcGoal J g tYes te vs σ H1 D Qd :=
  lcR w (fun _ => true) R hR hn hD hG (fun i x H H' Nx Nf hi s ne y k1 k2 => hs i x H H' Nx hi s ne y (k1 rfl)) fun H ys s e f => hd H ys s e (by rwa [List.filter_eq_self.mpr fun _ _ => rfl] at f)
end
def Srcs (H : Hp) (ys : List V) (n : Nat) : Prop := ∀ (j : Nat) (y : V), ys[j]? = some y → ∃ p, y = V.ref p ∧ Src H p n
theorem srcs_ne {H : Hp} {D p : Addr} {ys : List V} {n j : Nat} (e : H D = some (.lst ys)) (h : ys[j]? = some (.ref p)) (S : Src H p n) : p ≠ D := fun z => by
  obtain ⟨c, m, r, e2, _⟩ := S
  rw [z, e] at e2
  injection (Option.some.inj e2) with e3
  rw [e3] at h
  match j, h with
  | 0, h => cases h
  | 1, h => cases h
  | 2, h => cases h
  | j + 3, h => cases h
theorem srcs_step {H H' : Hp} {ys : List V} {p : Addr} {n m : Nat} (h : Srcs H ys n) (s : Same (Nb.del H p) H') (S : Src H' p m) (l : n ≤ m) : Srcs H' ys m := fun j y e => by
  obtain ⟨q, rfl, S2⟩ := h j y e
  by_cases z : q = p
  · subst z
    exact ⟨q, rfl, S⟩
  · exact ⟨q, rfl, ((src_del S2 z).same s).mono l⟩
end Nb

set_option Elab.async false
set_option linter.all false
set_option maxRecDepth 100000
set_option maxHeartbeats 4000000
/-! Comprehensions whose items are drawn from the source. -/
namespace Nb
open PySem
open L2 hiding del del_ne del_same
section
variable {J : It} {n : Nat} {G : Hp → Prop} {Y : Nat → Hp → V → Hp → Prop} {g : TG} {te : TE} {vs : List Nat} {σ : L2.St} {H1 : Hp} {D : Addr} {Qd : Hp → Prop}
theorem lcSrc (w : Walk J n G Y) (p : Addr) (b k : Nat) (R : Nat → V → Hp → Prop) (hR : ∀ i y H H', Same H H' → R i y H → R i y H') (hn : n ≤ 100000) (hD : H1 D = none) (S : Src H1 p b) (hG : ∀ H, Same (del H1 p) H → G H)
    (hs : ∀ i x H H' (Nx : VK), i < n → Same (del H1 p) H → (∃ xs, H D = some (.lst xs)) → D ≠ p → Src H p (b + k * i) → Y i H x H' → (∀ y H4, Same (del H p) H4 → Src H4 p (b + k * (i + 1)) → R i y (del (del H4 D) p) → Nx y H4) →
      g x (wipe σ vs) H' fun σ2 H2 => wipe σ2 vs = wipe σ vs ∧ te σ2 H2 Nx)
    (hd : ∀ H ys, Same (del H1 p) H → H D = some (.lst ys) → Src H p (b + k * n) → F2 (fun i y => R i y H) (List.range n) ys → Qd H) : LcGoal J g tYes te vs σ H1 D Qd := by
  have nDp : D ≠ p := src_away S hD
  have D0 : (del H1 p) D = none := by rw [del_ne nDp]; exact hD
  have up : ∀ {H H4 : Hp} {o : HO}, Same (del H p) H4 → Same (del (del H D) p) (del (del (upd H4 D o) D) p) := fun {H H4 o} s a u e => by
    by_cases h1 : a = p
    · rw [h1, del_at] at e
      cases e
    by_cases h2 : a = D
    · rw [h2, del_ne nDp, del_at] at e
      cases e
    rw [del_ne h1, del_ne h2] at e ⊢
    rw [upd_ne h2]
    exact s _ _ (by rw [del_ne h1]; exact e)
  refine lc_it w (fun i H => ∃ ys, Same (del H1 p) H ∧ H D = some (.lst ys) ∧ Src H p (b + k * i) ∧ F2 (fun j y => R j y (del (del H D) p)) (List.range i) ys)
    ⟨[], del_same.trans (same_new hD), upd_same, by rw [Nat.mul_zero]; exact S.same (same_new hD), .nil⟩ (fun i H _ ⟨_, s, _⟩ => hG H s) (fun i x H H' hi ⟨ys, s, e, S', f⟩ y => ?_)
    (fun H ⟨ys, s, e, S', f⟩ => hd H ys s e S' (f2_imp (fun a c z => hR _ _ _ _ (fun a u e => by
      by_cases h1 : a = p
      · rw [h1, del_at] at e
        cases e
      by_cases h2 : a = D
      · rw [h2, del_ne nDp, del_at] at e
        cases e
      rw [del_ne h1, del_ne h2] at e
      exact e) z) f))
  have hl : ys.length ≤ i := by
    rw [← f2_len f, List.length_range]
    exact Nat.le_refl _
  have z := hs i x H H' (fun y H4 => ∃ acc, H4 D = some (.lst acc) ∧ acc.length < sizeLine ∧ ∃ ys, Same (del H1 p) (upd H4 D (.lst (acc ++ [y]))) ∧ (upd H4 D (.lst (acc ++ [y]))) D = some (.lst ys) ∧ Src (upd H4 D (.lst (acc ++ [y]))) p (b + k * (i + 1)) ∧ F2 (fun j y' => R j y' (del (del (upd H4 D (.lst (acc ++ [y]))) D) p)) (List.range (i + 1)) ys)
    hi s ⟨_, e⟩ nDp S' y fun v H4 s4 S4 r => ?_
  · exact z
  · have nD2 : (del H p) D = some (.lst ys) := by rw [del_ne nDp]; exact e
    refine ⟨ys, s4 _ _ nD2, Nat.lt_of_le_of_lt hl (Nat.lt_of_lt_of_le hi (line100 hn)), ys ++ [v], same_at (fr_step s s4) D0, upd_same, src_at S4 (Ne.symm nDp), ?_⟩
    rw [List.range_succ]
    refine f2_snoc (f2_imp (fun a c q => hR _ _ _ _ (up s4) q) f) (hR _ _ _ _ (fun a u e => ?_) r)
    by_cases h1 : a = p
    · rw [h1, del_at] at e
      cases e
    by_cases h2 : a = D
    · rw [h2, del_ne nDp, del_at] at e
      cases e
    rw [del_ne h1, del_ne h2] at e ⊢
    rw [upd_ne h2]
    exact e
end
end Nb

set_option Elab.async false
set_option linter.all false
set_option maxRecDepth 100000
set_option maxHeartbeats 4000000
/-! Comprehensions with draws in their tests, too. -/
namespace Nb
open PySem
open L2 hiding del del_ne del_same
section
variable {J : It} {n : Nat} {G : Hp → Prop} {Y : Nat → Hp → V → Hp → Prop} {g : TG} {tt : TT} {te : TE} {vs : List Nat} {σ : L2.St} {H1 : Hp} {D : Addr} {Qd : Hp → Prop}
theorem lcSrcG (w : Walk J n G Y) (p : Addr) (b k : Nat) (R : Nat → List V → Hp → Prop) (hR : ∀ i ys H H', Same H H' → R i ys H → R i ys H') (hn : n ≤ 100000) (hD : H1 D = none) (S : Src H1 p b) (hG : ∀ H, Same (del H1 p) H → G H) (h0 : ∀ H, R 0 [] H)
    (hs : ∀ i x H H' ys (Nx : VK) (Nf : Hp → Prop), i < n → Same (del H1 p) H → H D = some (.lst ys) → D ≠ p → Src H p (b + k * i) → R i ys (del (del H D) p) → Y i H x H' →
      (∀ y H4, Same (del H p) H4 → Src H4 p (b + k * (i + 1)) → R (i + 1) (ys ++ [y]) (del (del H4 D) p) → Nx y H4) → (∀ H4, Same (del H p) H4 → Src H4 p (b + k * (i + 1)) → R (i + 1) ys (del (del H4 D) p) → Nf H4) →
      g x (wipe σ vs) H' fun σ2 H2 => wipe σ2 vs = wipe σ vs ∧ tt σ2 H2 fun c H3 => if c = true then te σ2 H3 Nx else Nf H3)
    (hd : ∀ H ys, Same (del H1 p) H → H D = some (.lst ys) → Src H p (b + k * n) → R n ys H → Qd H) : LcGoal J g tt te vs σ H1 D Qd := by
  have nDp : D ≠ p := src_away S hD
  have D0 : (del H1 p) D = none := by rw [del_ne nDp]; exact hD
  have un : ∀ {H : Hp} {o : HO}, del (del (upd H D o) D) p = del (del H D) p := fun {H o} => by
    funext a
    by_cases h1 : a = p
    · rw [h1, del_at, del_at]
    by_cases h2 : a = D
    · rw [h2, del_ne nDp, del_ne nDp, del_at, del_at]
    rw [del_ne h1, del_ne h2, del_ne h1, del_ne h2, upd_ne h2]
  refine lc_it w (fun i H => ∃ ys, Same (del H1 p) H ∧ H D = some (.lst ys) ∧ ys.length ≤ i ∧ Src H p (b + k * i) ∧ R i ys (del (del H D) p))
    ⟨[], del_same.trans (same_new hD), upd_same, Nat.le_refl _, by rw [Nat.mul_zero]; exact S.same (same_new hD), h0 _⟩ (fun i H _ ⟨_, s, _⟩ => hG H s) (fun i x H H' hi ⟨ys, s, e, l, S', f⟩ y => ?_)
    (fun H ⟨ys, s, e, l, S', f⟩ => hd H ys s e S' (hR _ _ _ _ (fun a u e => by
      by_cases h1 : a = p
      · rw [h1, del_at] at e
        cases e
      by_cases h2 : a = D
      · rw [h2, del_ne nDp, del_at] at e
        cases e
      rw [del_ne h1, del_ne h2] at e
      exact e) f))
  refine hs i x H H' ys _ _ hi s e nDp S' f y (fun v H4 s4 S4 r => ?_) fun H4 s4 S4 r => ?_
  · have eD : H4 D = some (.lst ys) := s4 _ _ (by rw [del_ne nDp]; exact e)
    refine ⟨ys, eD, Nat.lt_of_le_of_lt l (Nat.lt_of_lt_of_le hi (line100 hn)), ys ++ [v], same_at (fr_step s s4) D0, upd_same, ?_, src_at S4 (Ne.symm nDp), ?_⟩
    · rw [List.length_append, List.length_singleton]
      omega
    · rw [un]
      exact r
  · exact ⟨ys, fr_step s s4, s4 _ _ (by rw [del_ne nDp]; exact e), by omega, S4, r⟩
end
end Nb

set_option Elab.async false
set_option linter.all false
set_option maxRecDepth 100000
set_option maxHeartbeats 4000000
/-! tuple(d) of a dict with texts as keys. -/
namespace Nb
open PySem PySem.Spec PyProof.Rows
open L2 hiding del del_ne del_same
theorem call_tuple_dict {prog : Program} {w : World} {A : Around} {E : Value → Shared → Prop} {s : Shared} {d : Addr} {kvs : List (Key × Value)} {ep : Nat} {Q : Value → Shared → Prop} (lo : (d == sysModules) = false) (calm : A.handled = none) (at_ : s.heap.DictAt (mixKind prog w) d kvs ep) (few : kvs.length ≤ sizeLine)
    (fin : ∀ (h' : Heap) (tk : Nat) (acc : Array Value), (∀ b o, s.heap.get? b = some o → h'.get? b = some o) → ItemsOf (fun i v => ∃ k x, kvs[i]? = some (k, x) ∧ (mixKind prog w).is k v = true) acc kvs.length →
      Q (.ref h'.objs.size) { s with heap := h'.push { cls := .type "tuple", data := .seq acc }, toks := tk }) : wpAny (model prog w) A (call (.type "tuple") [.ref d]) Q E s := by
  have ty : Shared.TypeIs s (.ref d) "dict" := at_.dictOf.typeIs
  refine callType_codes (T := "tuple") (Bi := Builtin.«object.__init__») (Q₁ := fun r s1 => s1.TypeIs r "tuple" ∧ Q r s1) F.called_tuple (F.typeCall_tuple_1 _) F.entry_object_init ?_ ?_
  · refine codeAny_of_tree ?_
    show wpAny _ A.in1.in1 (do checkBuiltinCall "tuple.__new__" ⟨[.type "tuple", .ref d], []⟩; again (.builtin "tuple.__new__" ⟨[.type "tuple", .ref d], []⟩)) _ _ s
    refine wpAny_bind (wpAny_of_eq (F.newCall_tuple_1 _) (wpAny_pure ⟨plainId_quiet (by decide +kernel) _, codeAny_builtin F.entry_tuple_new ?_⟩))
    rw [Around.under_plainId (by decide +kernel) _]
    have hsub := sub_tuple_self
    have hinit := init_tuple_lookup
    have hmh := madeHere_tuple
    unfold Builtin.«tuple.__new__»
    obtain ⟨hp, g, dr, tk, os⟩ := s
    generalize hC : collect = C
    wp_walk using wpAny_typeOf ty
    subst hC
    refine PySem.W.kdu_collect (PySem.W.kdl_dict (knd := mixKind prog w) (kvs := kvs) (ep := ep) lo) (by simpa using calm) at_ few fun h' tk' acc keep items => ?_
    refine wpAny_bind (wpAny_pure ?_)
    show wpAny _ _ (Builtin.Tuple.tupleExact acc.toList.toArray >>= fun v => ret v) _ _ _
    unfold Builtin.Tuple.tupleExact
    have e : acc.toList.toArray = acc := by simp
    rw [e]
    refine wpAny_bind (wpAny_newObj_type ?_ (show acc.size ≤ sizeLine by rw [items.1]; exact few))
    exact wpAny_pure ⟨⟨_, Heap.get?_push_size _ rfl, rfl⟩, fin h' tk' acc keep items⟩
  · rintro obj s₁ ⟨t1, hq⟩
    exact ⟨t1, F.args_object_init_2 _ _, object_init_meets F.called_tuple.init.lookup F.called_tuple.made (by decide) prog w A.in1 _ s₁ ⟨t1, rfl, hq⟩⟩
theorem keys_vals {prog : Program} {w : World} {ks : List Str} {vs : List (Key × Value)} (hk : vs.map (·.1) = ks.map Sum.inr) {us : List Value} (l : us.length = vs.length) (h : ∀ (j : Nat) (v : Value), us[j]? = some v → ∃ k x, vs[j]? = some (k, x) ∧ (mixKind prog w).is k v = true) : Vals (ks.map V.str) us := by
  induction ks generalizing vs us with
  | nil =>
    have e : vs = [] := List.map_eq_nil_iff.mp hk
    subst e
    rw [List.length_eq_zero_iff.mp l]
    exact .nil
  | cons z ks ih =>
    cases vs with
    | nil => cases hk
    | cons p vs =>
      cases us with
      | nil => cases l
      | cons u us =>
        have hk1 : p.1 = Sum.inr z := (List.cons.inj hk).1
        obtain ⟨k, x, e1, e2⟩ := h 0 u rfl
        cases e1
        have hk1 : k = Sum.inr z := hk1
        subst hk1
        rcases keyIs_shape (k := Sum.inr z) (v := u) e2 with ⟨i, n, z1, _⟩ | ⟨y, n, z1, z2⟩
        · cases z1
        · cases z1
          exact .cons ⟨n, z2⟩ (ih (List.cons.inj hk).2 (by simpa using l) fun j v e => h (j + 1) v e)
/-- tuple(d): its keys -/
theorem call_tupleD {X : Cx} (hc : X.calm = true) : CallR X (.type "tuple") (fun xs H Q => ∃ (a : Addr) (kvs : List (Key × V)) (ks : List Str), xs = [.ref a] ∧ Rd H a (.dK kvs) ∧ kvs.map (·.1) = ks.map Sum.inr ∧ ∀ H2 p, Same H H2 → H p = none → H2 p = some (.tup (ks.map V.str)) → Q (.ref p) H2) := by
  intro pins s σ H xs us Q I r h
  obtain ⟨a, kvs, ks, ex, hd, hk, q⟩ := h
  subst ex
  obtain ⟨u, eu, rx⟩ := vals1 r
  subst eu
  cases rx
  obtain ⟨z, lo, vs, rel, dd⟩ := dk_rd I.hok hd
  obtain ⟨ep, hat⟩ := dd.dictAt
  have hk2 : vs.map (·.1) = ks.map Sum.inr := rel.keys.symm.trans hk
  have few : vs.length ≤ sizeLine := by rw [← rel.length]; exact z
  refine call_tuple_dict lo (I.ok.hd hc) hat few fun h' tk acc keep items => ?_
  have vals := keys_vals (prog := X.prog) (w := X.w) hk2 (by rw [Array.length_toList]; exact items.1) fun j v e => items.2 j v (by rw [← Array.getElem?_toList]; exact e)
  have I1 : L2.Inv X pins σ H { s with heap := h', toks := tk } := I.kept (t' := tk) keep
  have new := I1.hok.fresh (Nat.le_refl h'.objs.size)
  have len : (ks.map V.str).length ≤ sizeLine := by
    have := congrArg List.length hk2
    rw [List.length_map, List.length_map] at this
    rw [List.length_map, ← this]
    exact few
  have at_ : (h'.push { cls := .type "tuple", data := .seq acc }).get? h'.objs.size = some { cls := .type "tuple", data := .seq acc } := Heap.get?_push_size _ rfl
  have tup : IsTup (h'.push { cls := .type "tuple", data := .seq acc }) h'.objs.size acc.toList.toArray := by
    rw [Array.toArray_toList]
    exact IsTup.new _ _
  have J : L2.Inv X pins σ (upd H h'.objs.size (.tup (ks.map V.str))) { s with heap := h'.push { cls := .type "tuple", data := .seq acc }, toks := tk } :=
    I1.laid (t' := tk) (fun _ _ e => Heap.get?_push_of_some _ e) (Nat.le_refl _) ⟨len, acc.toList, vals, tup⟩
  exact ⟨.ref h'.objs.size, _, J, rfl, q _ _ (same_new new) new upd_same⟩
end Nb

set_option Elab.async false
set_option linter.all false
set_option maxRecDepth 100000
set_option maxHeartbeats 4000000
/-! dict(t) of a tuple of pairs. -/
namespace Nb
open PySem PySem.Spec PyProof.Rows
open L2 hiding del del_ne del_same
theorem choose_list {α β : Type} : ∀ {l : List α} {R : Nat → α → β → Prop}, (∀ j x, l[j]? = some x → ∃ y, R j x y) → ∃ m : List β, m.length = l.length ∧ ∀ j x, l[j]? = some x → ∃ y, m[j]? = some y ∧ R j x y
  | [], _, _ => ⟨[], rfl, fun j x e => by cases e⟩
  | x :: l, R, h => by
    obtain ⟨y, hy⟩ := h 0 x rfl
    obtain ⟨m, lm, hm⟩ := choose_list (l := l) (R := fun j => R (j + 1)) fun j x e => h (j + 1) x e
    refine ⟨y :: m, by rw [List.length_cons, List.length_cons, lm], fun j z e => ?_⟩
    cases j with
    | zero => cases e; exact ⟨y, rfl, hy⟩
    | succ j => exact hm j z e
theorem call_dictT {X : Cx} (hc : X.calm = true) : CallR X (.type "dict") (fun xs H Q => ∃ (a : Addr) (ps : List Addr) (kvs : List (Key × V)), xs = [.ref a] ∧ FtA H a (ps.map V.ref) ∧ Paired (fun p kv => SqT X.K H p [kV kv.1, kv.2]) ps kvs ∧ ps.length ≤ 1000 ∧
    ∀ H2 p, Same H H2 → H p = none → H2 p = some (.dK (mergeK [] kvs)) → Q (.ref p) H2) := by
  intro pins s σ H xs us Q I r h
  obtain ⟨a, ps, kvs, rfl, ⟨o, f1, f2⟩, hp, few, q⟩ := h
  obtain ⟨u, eu, rx⟩ := vals1 r
  subst eu
  cases rx
  obtain ⟨prs, rel, hl, hpr⟩ := pairs_of I hp
  obtain ⟨vps, lv, hv⟩ := choose_list (l := prs) (R := fun j p (y : Value × Value) => ∃ b, ps[j]? = some b ∧ y.2 = p.2 ∧ IsTup s.heap b #[y.1, p.2] ∧ keyIs p.1 y.1 = true) fun j p e => by
    obtain ⟨b, u, e1, e2, e3⟩ := hpr j p e
    exact ⟨(u, p.2), b, e1, rfl, e2, e3⟩
  obtain ⟨ho, len, its, vals, ob, h1, h2, n, h3⟩ := I.hok a _ f1
  rw [ho] at h1
  cases h1
  have ei := refs_at vals
  have lp : vps.length = ps.length := lv.trans hl
  have pl : PlainSeq "tuple" s.heap a its.toArray := ⟨o, n, ho, h2, f2.2, h3⟩
  have pit : PairItems s.heap its.toArray (fun j => ps.getD j 0) vps := by
    refine ⟨by rw [ei, List.size_toArray, List.length_map, lp], fun j k v e => ?_⟩
    have lt : j < prs.length := by
      have := (List.getElem?_eq_some_iff.mp e).1
      omega
    obtain ⟨y, e1, b, e2, e3, e4, _⟩ := hv j _ (List.getElem?_eq_getElem lt)
    rw [e] at e1
    cases e1
    have eb : ps.getD j 0 = b := by rw [List.getD_eq_getElem?_getD, e2]; rfl
    have e3 : v = prs[j].2 := e3
    rw [← e3] at e4
    refine ⟨?_, .inl (by show s.heap.IsTuple (ps.getD j 0) _; rw [eb]; exact e4)⟩
    show _ = some (Value.ref (ps.getD j 0))
    rw [ei, List.getElem?_toArray, List.getElem?_map, e2, eb]
    rfl
  have have_ : PairsHave (mixKind X.prog X.w) vps.length (PairRel vps) prs := by
    refine ⟨lv.symm, fun j k v e => ?_⟩
    have lt : j < prs.length := by
      have := (List.getElem?_eq_some_iff.mp e).1
      omega
    obtain ⟨y, e1, b, _, e3, _, e5⟩ := hv j _ (List.getElem?_eq_getElem lt)
    rw [e] at e1
    cases e1
    have e3 : v = prs[j].2 := e3
    exact ⟨prs[j].1, by rw [List.getElem?_eq_getElem lt, e3], e5⟩
  have size : vps.length ≤ sizeLine := by
    rw [lp, sizeLine_eq]
    omega
  refine PySem.call_dict_pairs (PairArg.tuple a its.toArray (fun j => ps.getD j 0) vps) (I.ok.hd hc) ⟨pl, pit⟩ have_ size fun h' tk made keep => ?_
  have far : (s.heap.objs.size == sysModules) = false := beq_eq_false_iff_ne.mpr (Nat.ne_of_gt I.big)
  have l1 := length_mergeK kvs []
  have l2 : kvs.length = prs.length := rel.length
  have small : (mergeK [] kvs).length ≤ sizeLine := by
    rw [List.length_nil] at l1
    omega
  have ok : ObjOk X.prog X.w (upd H s.heap.objs.size (.dK (mergeK [] kvs))) h' s.heap.objs.size (.dK (mergeK [] kvs)) := ⟨small, far, merged [] prs, KV.merge rel .nil, made⟩
  have new := I.hok.fresh (Nat.le_refl s.heap.objs.size)
  exact ⟨.ref s.heap.objs.size, _, I.laid (t' := tk) (fun b o' e => keep b o' (by simp) e) (Nat.le_refl _) ok, rfl, q _ _ (same_new new) new upd_same⟩
end Nb

set_option Elab.async false
set_option linter.all false
set_option maxRecDepth 100000
set_option maxHeartbeats 2000000
/-! str(x) by the own __str__. -/
namespace Nb
open PySem PySem.Spec PyProof.Rows
open L2 hiding del del_ne del_same
section
variable {X : Cx} {CX : CXT} {n : Nat} {ps : List Str} {sp : Sp} {E : XK}
theorem call_strO {C : Addr} (O : Om X CX n C "__str__" ps sp) (hr : Room (n + 2) X.A) (hx : Passes CX X E) : CallR X (.type "str") (fun xs H Q => ∃ a dx fs, xs = [.ref a] ∧ H a = some (.ins C dx fs) ∧ sp [.ref a] H (fun v H' => ∃ z : Str, v = .str z ∧ Q (.str z) H') E) := by
  intro pins s σ H xs us Q I r h
  obtain ⟨a, dx, fs, rfl, ha, h⟩ := h
  obtain ⟨f, fd, hs, hf, hbn, F⟩ := O.ex
  obtain ⟨u, rfl, rx⟩ := vals1 r
  cases rx
  obtain ⟨mA, J, _⟩ := ins_get I.hok ha
  obtain ⟨od, J, _⟩ := J.look
  refine PySem.W.kso_call (by have := hr.units; show X.A.units + 1 + 1 < cLine; omega) I.kIn J hs hf ?_
  refine wpAny_mono (own_run (vs := [.ref a]) F hbn hx (L2.Sub.in1 (L2.Sub.in1 ⟨hr, rfl⟩)) I (.cons rfl .nil) h) (fun r s' z => ?_) fun _ _ e => e
  obtain ⟨v, H', I', rz, k, ez, q⟩ := z
  subst ez
  obtain ⟨t, rfl⟩ := rz
  exact ⟨.str k, H', I', ⟨_, rfl⟩, q⟩
end
end Nb

set_option Elab.async false
set_option linter.all false
set_option maxRecDepth 100000
set_option maxHeartbeats 4000000
/-! Methods as data and in the heap. -/
namespace Nb
open PySem PySem.Spec PyProof.Rows Nb.Wd
open L2 hiding del del_ne del_same
/-! ### texts in order -/
def leS (a b : Str) : Bool := !ltCps b.cps.toList a.cps.toList
theorem leS_iff {a b : Str} : leS a b = true ↔ a.cps.toList ≤ b.cps.toList := by
  unfold leS
  rw [ltCps_eq, Bool.not_eq_true', decide_eq_false_iff_not]
  rfl
theorem leS_trans {a b c : Str} (h : leS a b = true) (k : leS b c = true) : leS a c = true := leS_iff.mpr (List.le_trans (leS_iff.mp h) (leS_iff.mp k))
theorem leS_total (a b : Str) : (leS a b || leS b a) = true := by
  rw [Bool.or_eq_true, leS_iff, leS_iff]
  exact List.le_total _ _
theorem leS_anti {a b : Str} (h : leS a b = true) (k : leS b a = true) : a = b := by
  have e := List.le_antisymm (leS_iff.mp h) (leS_iff.mp k)
  obtain ⟨⟨a⟩⟩ := a
  obtain ⟨⟨b⟩⟩ := b
  exact congrArg (fun l => Str.mk (Array.mk l)) e
theorem rising_pw : ∀ {l : List Str} {p : Str}, risingS p l = true → (p :: l).Pairwise (fun a b => leS a b = true)
  | [], p, _ => List.pairwise_singleton _ _
  | x :: l, p, h => by
    have h : (!ltCps x.cps.toList p.cps.toList && risingS x l) = true := h
    obtain ⟨h1, h2⟩ := Bool.and_eq_true_iff.mp h
    have ih := rising_pw h2
    refine List.pairwise_cons.mpr ⟨fun y hy => ?_, ih⟩
    rcases List.mem_cons.mp hy with rfl | hy
    · exact h1
    · exact leS_trans h1 ((List.pairwise_cons.mp ih).1 y hy)
theorem sorted_pw {l : List Str} (h : sortedS l = true) : l.Pairwise (fun a b => leS a b = true) := by
  cases l with
  | nil => exact .nil
  | cons x l => exact rising_pw h
def sortK (ks : List Str) : List Str := ks.mergeSort leS
theorem sortK_perm (ks : List Str) : (sortK ks).Perm ks := List.mergeSort_perm _ _
theorem sort_uniq {ys ks : List Str} (p : ys.Perm ks) (h : sortedS ys = true) : ys = sortK ks := by
  have h2 : (sortK ks).Pairwise (fun a b => leS a b = true) := List.pairwise_mergeSort (le := leS) (fun a b c => leS_trans) leS_total ks
  exact (p.trans (sortK_perm ks).symm).eq_of_pairwise (fun a b _ _ l1 l2 => leS_anti l1 l2) (sorted_pw h) h2
/-! ### methods -/
structure Me where
  takes : List Str
  before : List Str
  passes : Option (List Str)
  after : List Str
def rwD (zs : List Str) : PyData := .tuple (zs.map PyData.str)
def passD : Option (List Str) → PyData
  | none => .none
  | some p => rwD p
def meD (m : Me) : PyData := .tuple [rwD m.takes, rwD m.before, passD m.passes, rwD m.after]
def NmsOk (zs : List Str) : Prop := ∀ z ∈ zs, isNm z = true ∧ Word z
structure RwOk (zs : List Str) : Prop where
  nm : NmsOk zs
  nd : zs.Nodup
  l4 : zs.length ≤ 4
structure WdOk (zs : List Str) : Prop where
  nm : NmsOk zs
  l4 : zs.length ≤ 4
structure MeOk (m : Me) : Prop where
  t : RwOk m.takes
  b : WdOk m.before
  p : ∀ p, m.passes = some p → RwOk p
  a : WdOk m.after
  s : m.passes = none → m.after = []
abbrev Mss := List (Str × Me)
structure MsOk (ms : Mss) : Prop where
  nd : (ms.map (·.1)).Nodup
  l3 : ms.length ≤ 3
  nm : ∀ q ∈ ms, (isNm q.1 = true ∧ Word q.1) ∧ q.1 ≠ "name" ∧ q.1 ≠ "self"
  ok : ∀ q ∈ ms, MeOk q.2
theorem RwOk.long {zs : List Str} (h : RwOk zs) : LongRow zs := ⟨h.nd, h.nm, Nat.le_trans h.l4 (by decide)⟩
def me0 : Me := ⟨[], [], none, []⟩
/-- in alphabetical order -/
def sms (ms : Mss) : Mss := (sortK (ms.map (·.1))).map fun k => (k, (ms.lookup k).getD me0)
def kdOf (ms : Mss) : List PyData := (sms ms).map fun q => .tuple [.str q.1, meD q.2]
theorem ms_look {α : Type} : ∀ {ms : List (Str × α)} {k : Str}, k ∈ ms.map (·.1) → ∃ m, ms.lookup k = some m ∧ (k, m) ∈ ms
  | [], k, h => nomatch h
  | (x, m) :: ms, k, h => by
    by_cases c : k = x
    · subst c
      exact ⟨m, by rw [List.lookup_cons, show (k == k) = true from beq_self_eq_true k], List.mem_cons_self ..⟩
    · obtain ⟨m2, a, b⟩ := ms_look (ms := ms) (k := k) ((List.mem_cons.mp h).resolve_left c)
      exact ⟨m2, by rw [List.lookup_cons, show (k == x) = false from beq_eq_false_iff_ne.mpr c]; exact a, List.mem_cons_of_mem _ b⟩
theorem look_at {α : Type} : ∀ {ms : List (Str × α)} {k : Str} {m : α}, (ms.map (·.1)).Nodup → (k, m) ∈ ms → ms.lookup k = some m
  | [], _, _, _, h => nomatch h
  | (x, m0) :: ms, k, m, nd, h => by
    have nd := List.nodup_cons.mp nd
    rcases List.mem_cons.mp h with e | h
    · cases e
      simp
    · have c : k ≠ x := fun e => nd.1 (e ▸ List.mem_map.mpr ⟨_, h, rfl⟩)
      rw [List.lookup_cons, show (k == x) = false from beq_eq_false_iff_ne.mpr c]
      exact look_at nd.2 h
theorem sms_keys (ms : Mss) : (sms ms).map (·.1) = sortK (ms.map (·.1)) := by
  unfold sms
  rw [List.map_map]
  exact List.map_id _
theorem sms_in {ms : Mss} {q : Str × Me} (h : q ∈ sms ms) : q ∈ ms := by
  obtain ⟨k, hk, rfl⟩ := List.mem_map.mp h
  obtain ⟨m, a, b⟩ := ms_look ((sortK_perm _).subset hk)
  rw [a]
  exact b
theorem sms_len (ms : Mss) : (sms ms).length = ms.length := by
  unfold sms
  rw [List.length_map, (sortK_perm _).length_eq, List.length_map]
theorem MsOk.sorted {ms : Mss} (h : MsOk ms) : MsOk (sms ms) :=
  ⟨by rw [sms_keys]; exact (sortK_perm _).nodup_iff.mpr h.nd, by rw [sms_len]; exact h.l3, fun q hq => h.nm q (sms_in hq), fun q hq => h.ok q (sms_in hq)⟩
theorem noL_strs : ∀ zs : List Str, noLs (zs.map PyData.str) = true
  | [] => rfl
  | _ :: zs => noL_strs zs
theorem noL_row (zs : List Str) : noL (rwD zs) = true := noL_strs zs
theorem noL_pass : ∀ p, noL (passD p) = true
  | none => rfl
  | some p => noL_row p
theorem noL_me (m : Me) : noL (meD m) = true := by
  show (noL (rwD m.takes) && (noL (rwD m.before) && (noL (passD m.passes) && (noL (rwD m.after) && true)))) = true
  rw [noL_row, noL_row, noL_pass, noL_row]
  rfl
theorem noL_kd (ms : Mss) : noLs (kdOf ms) = true := by
  unfold kdOf
  generalize sms ms = l
  induction l with
  | nil => rfl
  | cons q l ih =>
    show ((noL (.str q.1) && (noL (meD q.2) && true)) && noLs _) = true
    rw [noL_me, ih]
    rfl
/-! ### in the heap -/
def PsAt (H : Hp) (p : V) : Option (List Str) → Prop
  | none => p = .non
  | some ps => ∃ c, p = .ref c ∧ H c = some (.tup (ps.map V.str))
def MeAt (H : Hp) (v : V) (m : Me) : Prop := ∃ (t a b d : Addr) (p : V), v = .ref t ∧ H t = some (.tup [.ref a, .ref b, p, .ref d]) ∧ H a = some (.tup (m.takes.map V.str)) ∧ H b = some (.tup (m.before.map V.str)) ∧ PsAt H p m.passes ∧ H d = some (.tup (m.after.map V.str))
section
variable {H H' : Hp}
theorem ps_keep (s : KeepT H H') {p : V} : ∀ {o : Option (List Str)}, PsAt H p o → PsAt H' p o
  | none, h => h
  | some ps, ⟨c, e, h⟩ => ⟨c, e, s c (.tup (ps.map V.str)) trivial h⟩
theorem me_keep (s : KeepT H H') {v : V} {m : Me} (h : MeAt H v m) : MeAt H' v m :=
  let ⟨t, a, b, d, p, e, h1, h2, h3, h4, h5⟩ := h; ⟨t, a, b, d, p, e, s t (.tup _) trivial h1, s a (.tup _) trivial h2, s b (.tup _) trivial h3, ps_keep s h4, s d (.tup _) trivial h5⟩
theorem strs_td {n : Nat} : ∀ {zs : List Str}, NmsOk zs → Tds H n (zs.map V.str) (zs.map PyData.str)
  | [], _ => .nil
  | z :: zs, h => .cons (.str (h z (List.mem_cons_self ..)).2) (strs_td fun y m => h y (List.mem_cons_of_mem _ m))
theorem row_td {n : Nat} {a : Addr} {zs : List Str} (h : NmsOk zs) (l : zs.length ≤ 4) (e : H a = some (.tup (zs.map V.str))) : Td H (n + 1) (.ref a) (rwD zs) := .tup e (by rw [List.length_map]; omega) (strs_td h)
theorem pass_td {n : Nat} {p : V} : ∀ {o : Option (List Str)}, (∀ q, o = some q → RwOk q) → PsAt H p o → Td H (n + 1) p (passD o)
  | none, _, h => by
    have h : p = .non := h
    rw [h]
    exact .non
  | some ps, k, ⟨c, e, h⟩ => by
    rw [e]
    exact row_td (k ps rfl).nm (k ps rfl).l4 h
theorem me_td {n : Nat} {v : V} {m : Me} (ok : MeOk m) (h : MeAt H v m) : Td H (n + 2) v (meD m) := by
  obtain ⟨t, a, b, d, p, rfl, h1, h2, h3, h4, h5⟩ := h
  exact .tup h1 (show 4 ≤ 1000 by decide) (.cons (row_td ok.t.nm ok.t.l4 h2) (.cons (row_td ok.b.nm ok.b.l4 h3) (.cons (pass_td ok.p h4) (.cons (row_td ok.a.nm ok.a.l4 h5) .nil))))
end
/-- a dict of methods -/
def MkAt (H : Hp) (kvs : List (Key × V)) (ms : Mss) : Prop := F2 (fun (kv : Key × V) (q : Str × Me) => kv.1 = Sum.inr q.1 ∧ MeAt H kv.2 q.2) kvs ms
def MdAt (H : Hp) (m : Addr) (ms : Mss) : Prop := ∃ kvs, H m = some (.dK kvs) ∧ MkAt H kvs ms
theorem mk_keep {H H' : Hp} (s : KeepT H H') {kvs : List (Key × V)} {ms : Mss} (h : MkAt H kvs ms) : MkAt H' kvs ms := f2_imp (fun _ _ ⟨a, b⟩ => ⟨a, me_keep s b⟩) h
theorem md_same {H H' : Hp} (s : Same H H') {m : Addr} {ms : Mss} (h : MdAt H m ms) : MdAt H' m ms := let ⟨kvs, e, k⟩ := h; ⟨kvs, s _ _ e, mk_keep (kt_same s) k⟩
theorem mk_keys {H : Hp} : ∀ {kvs : List (Key × V)} {ms : Mss}, MkAt H kvs ms → kvs.map (·.1) = (ms.map (·.1)).map Sum.inr
  | _, _, .nil => rfl
  | _, _, .cons ⟨a, _⟩ t => congr (congrArg List.cons a) (mk_keys t)
theorem mk_len {H : Hp} {kvs : List (Key × V)} {ms : Mss} (h : MkAt H kvs ms) : kvs.length = ms.length := f2_len h
theorem mk_val {H : Hp} {x : Str} : ∀ {kvs : List (Key × V)} {ms : Mss}, MkAt H kvs ms → ∀ {m : Me}, ms.lookup x = some m → ∃ v, valV kvs (Sum.inr x) = some v ∧ MeAt H v m
  | _, _, .nil, _, h => nomatch h
  | (k, v) :: kvs, (n, e) :: ms, .cons ⟨a, b⟩ t, m, h => by
    have a : k = Sum.inr n := a
    subst a
    rw [List.lookup_cons] at h
    by_cases c : x = n
    · subst c
      rw [show (x == x) = true from beq_self_eq_true x] at h
      cases h
      exact ⟨v, by simp [valV], b⟩
    · rw [show (x == n) = false from beq_eq_false_iff_ne.mpr c] at h
      obtain ⟨v2, h2, h3⟩ := mk_val t h
      have e1 : valV ((Sum.inr n, v) :: kvs) (Sum.inr x) = valV kvs (Sum.inr x) := by simp [valV, Ne.symm c]
      exact ⟨v2, e1.trans h2, h3⟩
end Nb

set_option Elab.async false
set_option linter.all false
set_option maxRecDepth 100000
set_option maxHeartbeats 4000000
/-! A tuple of texts of the module. -/
namespace Nb
open PySem PySem.Spec PyProof.Rows
open L2 hiding del del_ne del_same
def textsIn (K : PySem.W.Frag) (p : Addr) (zs : List Str) : Bool := match K.lookup p with
  | some o => (o.cls == .type "tuple") && (match o.data with
    | .seq its _ => decide (its.toList.map absV = zs.map fun z => some (V.str z))
    | _ => false)
  | none => false
theorem texts_vals : ∀ {us : List Value} {zs : List Str}, us.map absV = zs.map (fun z => some (V.str z)) → Vals (zs.map V.str) us
  | [], [], _ => .nil
  | [], z :: zs, h => nomatch h
  | u :: us, [], h => nomatch h
  | u :: us, z :: zs, h => by
    have h1 : absV u = some (V.str z) := (List.cons.inj h).1
    have h2 := texts_vals (us := us) (zs := zs) (List.cons.inj h).2
    refine .cons ?_ h2
    cases u <;> first | (cases h1; done) | skip
    case str x t => cases h1; exact ⟨t, rfl⟩
theorem texts_in {K : PySem.W.Frag} {p : Addr} {zs : List Str} (h : textsIn K p zs = true) (l : zs.length ≤ 1000) {H : Hp} : SqT K H p (zs.map V.str) := by
  unfold textsIn at h
  cases e : K.lookup p with
  | none => rw [e] at h; cases h
  | some o =>
    rw [e] at h
    obtain ⟨h1, h2⟩ := Bool.and_eq_true_iff.mp h
    cases ed : o.data with
    | seq its n =>
      rw [ed] at h2
      have h2 := of_decide_eq_true h2
      have len : its.size = zs.length := by
        have := congrArg List.length h2
        rwa [List.length_map, List.length_map, Array.length_toList] at this
      exact .inr ⟨o, its, n, e, eq_of_beq h1, ed, by rw [len, sizeLine_eq]; omega, texts_vals h2⟩
    | _ => rw [ed] at h2; cases h2
end Nb

set_option Elab.async false
set_option linter.all false
set_option maxRecDepth 100000
set_option maxHeartbeats 4000000
/-! {k: v for a in x if .. for b in y if ..}: two clauses. -/
namespace Nb
open PySem PySem.Spec PyProof.Rows
open L2 hiding del del_ne del_same
/-- a clause's tests, one after another -/
abbrev Tst (ifs : List Expr) (env : Env) : Sem Bool := forIn ifs true fun c r => if r = true then do let ok ← isTrue c env (eval c env); pure (ForInStep.yield ok) else pure (ForInStep.yield r)
abbrev C2 (kx vx t0 i0 t1 i1 : Expr) (f0 f1 : List Expr) (scope : Scope) (pos : Pos) : Expr := .DictComp kx vx [⟨t0, i0, f0, 0⟩, ⟨t1, i1, f1, 0⟩] scope pos
theorem c2_out (kx vx t0 i0 t1 i1 : Expr) (f0 f1 : List Expr) (scope : Scope) (pos : Pos) (it acc : Value) (env : Env) : compTurn (C2 kx vx t0 i0 t1 i1 f0 f1 scope pos) 0 it acc env = (do
    standAt i0.pos
    match ← pyNext it with
    | none => pure (.done .next)
    | some v =>
      letOwnedTupleGo t0 it v; assign t0 env v
      let mut ok := true
      for c in f0 do
        if ok then ok ← isTrue c env (eval c env)
      if ok then
        let x ← eval i1 env
        standAt i1.pos
        let x ← foldedSetIterable i1 env x
        let y ← holding [x] (pyIter x)
        let _ ← runOwn (.compStart (C2 kx vx t0 i0 t1 i1 f0 f1 scope pos) 1 y acc env) env
      again (.compLoop (C2 kx vx t0 i0 t1 i1 f0 f1 scope pos) 0 it acc env)) := by rfl
theorem c2_in (kx vx t0 i0 t1 i1 : Expr) (f0 f1 : List Expr) (scope : Scope) (pos : Pos) (it : Value) (D : Addr) (env : Env) : compTurn (C2 kx vx t0 i0 t1 i1 f0 f1 scope pos) 1 it (.ref D) env = (do
    standAt i1.pos
    match ← pyNext it with
    | none => pure (.done .next)
    | some v =>
      letOwnedTupleGo t1 it v; assign t1 env v
      let mut ok := true
      for c in f1 do
        if ok then ok ← isTrue c env (eval c env)
      if ok then
        (do
          let a ← eval kx env
          let b ← holding [a] (eval vx env)
          standAt { kx.pos with endLine := vx.pos.endLine, endCol := vx.pos.endCol }; holding [a, b] (dictSet D a b))
      again (.compLoop (C2 kx vx t0 i0 t1 i1 f0 f1 scope pos) 1 it (.ref D) env)) := by rfl
section
variable {prog : Program} {w : World} {A : Around} {R : Result → Shared → Prop} {s : Shared} {kx vx t0 i0 t1 i1 : Expr} {f0 f1 : List Expr} {scope : Scope} {pos : Pos} {it : Value} {D : Addr} {env : Env}
/-- an error leaves the loop -/
abbrev Lv (prog : Program) (w : World) (A : Around) (env : Env) (R : Result → Shared → Prop) : Value → Shared → Prop := notedBy (model prog w) A env fun e s' => R (.error e) s'
/-- a turn of the first clause's loop -/
theorem dl_out (hs : ∀ x, foldedSetIterable i1 env x = pure x) (I : Nat → Shared → Prop)
    (turn : ∀ n s, I n s → wpAny (model prog w) A (pyNext it) (fun r s1 => match r with
      | none => R (.ok .next) s1
      | some v => wpAny (model prog w) A (letOwnedTupleGo t0 it v) (fun _ s2 => wpAny (model prog w) A (assign t0 env v) (fun _ s3 => wpAny (model prog w) A (Tst f0 env) (fun ok s4 =>
          if ok = true then wpAny (model prog w) A (eval i1 env) (fun x s5 => wpAny (model prog w) A (pyIter x) (fun y s6 => codeAny (model prog w) A (.compStart (C2 kx vx t0 i0 t1 i1 f0 f1 scope pos) 1 y (.ref D) env)
            (fun r s7 => match r with
              | .ok _ => ∃ m, m < n ∧ I m s7
              | .error _ => False) s6) (Lv prog w A env R) s5) (Lv prog w A env R) s4
          else ∃ m, m < n ∧ I m s4) (Lv prog w A env R) s3) (Lv prog w A env R) s2) (Lv prog w A env R) s1) (Lv prog w A env R) s)
    (n : Nat) (h : I n s) : codeAny (model prog w) A (.compLoop (C2 kx vx t0 i0 t1 i1 f0 f1 scope pos) 0 it (.ref D) env) R s := by
  refine codeAny_loop rfl I (fun n s hI => ?_) n h
  show wpAny _ A ((compTurn (C2 kx vx t0 i0 t1 i1 f0 f1 scope pos) 0 it (.ref D) env).onRaise (fun x => do noteFrame x env; theTreesLotGoes x)) _ _ s
  refine wpAny_noted ?_
  rw [c2_out]
  have up : ∀ {α : Type} {m : Sem α} {P P' : α → Shared → Prop} {s}, wpAny (model prog w) A m P (Lv prog w A env R) s → (∀ a s', P a s' → P' a s') → wpAny (model prog w) A m P' (Lv prog w A env R) s := fun h k => wpAny_mono h k fun _ _ z => z
  refine wpAny_bind (wpAny_standAt (wpAny_bind (up (turn n s hI) fun r s1 h1 => ?_)))
  match r with
  | none => exact wpAny_pure h1
  | some v =>
    refine wpAny_bind (up h1 fun _ s2 h2 => wpAny_bind (up h2 fun _ s3 h3 => wpAny_bind (up h3 fun ok s4 h4 => ?_)))
    match ok with
    | false => exact wpAny_pure ⟨rfl, h4⟩
    | true =>
      refine wpAny_bind (up h4 fun x s5 h5 => wpAny_bind (wpAny_standAt (wpAny_bind (wpAny_of_eq (hs x) (wpAny_bind (wpAny_holding (up h5 fun y s6 h6 => ?_)))))))
      refine wpAny_bind (wpAny_runOwn ?_)
      rw [Around.mark_none]
      refine codeAny_mono h6 fun r s7 hr => ?_
      match r with
      | .ok _ => first | exact wpAny_pure ⟨rfl, hr⟩ | exact wpAny_bind (wpAny_pure (wpAny_pure ⟨rfl, hr⟩))
      | .error _ => exact hr.elim
/-- a turn of the second clause's loop -/
theorem dl_in (I : Nat → Shared → Prop)
    (turn : ∀ n s, I n s → wpAny (model prog w) A (pyNext it) (fun r s1 => match r with
      | none => R (.ok .next) s1
      | some v => wpAny (model prog w) A (letOwnedTupleGo t1 it v) (fun _ s2 => wpAny (model prog w) A (assign t1 env v) (fun _ s3 => wpAny (model prog w) A (Tst f1 env) (fun ok s4 =>
          if ok = true then wpAny (model prog w) A (eval kx env) (fun a s5 => wpAny (model prog w) A (eval vx env) (fun b s6 => wpAny (model prog w) A (dictSet D a b) (fun _ s7 => ∃ m, m < n ∧ I m s7)
            (Lv prog w A env R) s6) (Lv prog w A env R) s5) (Lv prog w A env R) s4
          else ∃ m, m < n ∧ I m s4) (Lv prog w A env R) s3) (Lv prog w A env R) s2) (Lv prog w A env R) s1) (Lv prog w A env R) s)
    (n : Nat) (h : I n s) : codeAny (model prog w) A (.compLoop (C2 kx vx t0 i0 t1 i1 f0 f1 scope pos) 1 it (.ref D) env) R s := by
  refine codeAny_loop rfl I (fun n s hI => ?_) n h
  show wpAny _ A ((compTurn (C2 kx vx t0 i0 t1 i1 f0 f1 scope pos) 1 it (.ref D) env).onRaise (fun x => do noteFrame x env; theTreesLotGoes x)) _ _ s
  refine wpAny_noted ?_
  rw [c2_in]
  have up : ∀ {α : Type} {m : Sem α} {P P' : α → Shared → Prop} {s}, wpAny (model prog w) A m P (Lv prog w A env R) s → (∀ a s', P a s' → P' a s') → wpAny (model prog w) A m P' (Lv prog w A env R) s := fun h k => wpAny_mono h k fun _ _ z => z
  refine wpAny_bind (wpAny_standAt (wpAny_bind (up (turn n s hI) fun r s1 h1 => ?_)))
  match r with
  | none => exact wpAny_pure h1
  | some v =>
    refine wpAny_bind (up h1 fun _ s2 h2 => wpAny_bind (up h2 fun _ s3 h3 => wpAny_bind (up h3 fun ok s4 h4 => ?_)))
    match ok with
    | false => exact wpAny_pure ⟨rfl, h4⟩
    | true => exact wpAny_bind (wpAny_bind (up h4 fun a s5 h5 => wpAny_bind (wpAny_holding (up h5 fun b s6 h6 => wpAny_bind (wpAny_standAt (wpAny_holding (up h6 fun _ s7 h7 => wpAny_pure ⟨rfl, h7⟩)))))))
/-- the second clause's loop begins -/
theorem ds_in (h0 : codeAny (model prog w) A (.compLoop (C2 kx vx t0 i0 t1 i1 f0 f1 scope pos) 1 it (.ref D) env) R s)
    (h : wpAny (model prog w) A (pyIter it) (fun it' s' => codeAny (model prog w) A (.compLoop (C2 kx vx t0 i0 t1 i1 f0 f1 scope pos) 1 it' (.ref D) env) R s') (Lv prog w A env R) s) :
    codeAny (model prog w) A (.compStart (C2 kx vx t0 i0 t1 i1 f0 f1 scope pos) 1 it (.ref D) env) R s := by
  refine codeAny_of_tree ?_
  show wpAny _ _ ((compStart (C2 kx vx t0 i0 t1 i1 f0 f1 scope pos) 1 it (.ref D) env).onRaise (fun x => do noteFrame x env; standAt theWindowsPlace)) _ _ s
  refine wpAny_notedAt ?_
  unfold compStart
  show wpAny _ _ (ask >>= _) _ _ s
  refine wpAny_bind (wpAny_askSetting (wpAny_ite ?_))
  split
  · first | exact wpAny_pure ⟨rfl, h0⟩ | exact wpAny_bind (wpAny_pure (wpAny_pure ⟨rfl, h0⟩))
  · refine wpAny_bind (wpAny_rule ?_)
    show wpAny _ _ (standAt i1.pos >>= _) _ _ s
    exact wpAny_bind (wpAny_standAt (wpAny_bind (wpAny_mono h (fun it' s' h' => wpAny_pure ⟨rfl, h'⟩) fun _ _ x => x)))
end
/-- {k: v for g in wi if tt for g1 in wi1 if tt1}: D is the new dict; vs the slots of the block's names, v1 those of the second target -/
def tDc2 (wi : TI) (g : TG) (tt : TT) (wi1 : TI) (g1 : TG) (tt1 : TT) (tk tv : TE) (vs v1 : List Nat) : TE := fun σ H Q => wi σ H fun J Ha => ∀ D, Ha D = none → ∃ W : Nat → Nat → Hp → Prop, (∃ m, W 0 m (upd Ha D (.dK []))) ∧ ∀ i m H, W i m H →
  (J.stop i H ∧ Q (.ref D) H) ∨ (J.go i H ∧ ∃ Nx : Hp → Prop, (∀ H', Nx H' → ∃ m', m' < m ∧ W (i + 1) m' H') ∧ ∀ x H', J.yld i H x H' → g x (wipe σ vs) H' fun σ2 H2 => wipe σ2 vs = wipe σ vs ∧ tt σ2 H2 fun b H3 =>
    if b = true then wi1 σ2 H3 fun J1 H4 => ∃ W1 : Nat → Nat → Hp → Prop, (∃ m, W1 0 m H4) ∧ ∀ j k H, W1 j k H →
      (J1.stop j H ∧ Nx H) ∨ (J1.go j H ∧ ∃ Nx1 : Hp → Prop, (∀ H', Nx1 H' → ∃ k', k' < k ∧ W1 (j + 1) k' H') ∧ ∀ x H', J1.yld j H x H' → g1 x (wipe σ2 v1) H' fun σ3 H5 => wipe σ3 v1 = wipe σ2 v1 ∧ tt1 σ3 H5 fun b H6 =>
        if b = true then tk σ3 H6 fun y H7 => tv σ3 H7 fun z H8 => ∃ kvs k, y = kV k ∧ H8 D = some (.dK kvs) ∧ kvs.length < sizeLine ∧ Nx1 (upd H8 D (.dK (putK kvs k z))) else Nx1 H6)
    else Nx H3)
section
variable {X : Cx}
/-- a rule that serves in each block of the comprehension -/
abbrev InBlk (X : Cx) (scope : Scope) (p : Cx → Prop) : Prop := ∀ (s : Shared) (H : Hp) (C : Addr) (cl : List (Str × Addr)) (fp : List Addr), p (X.blk s H scope (compEnvC scope cl C X.env) fp)
theorem pe_dc2 {kx vx t0 i0 t1 i1 : Expr} {f0 f1 : List Expr} {scope : Scope} {own : List (Str × Nat)} {v1 : List Nat} {pos : Pos} {wi wi1 : TI} {g g1 : TG} {tt tt1 : TT} {tk tv : TE} (hc : X.calm = true) (hN : X.N.Nodup) (hi : PI X t0 i0 wi) (ok : BlkOk X.N X.env.scope scope own) (hv : ∀ i ∈ v1, i ∈ own.map (·.2))
    (hg : InBlk X scope fun B => PG B t0 g) (ht : InBlk X scope fun B => PTs B f0 tt) (hi1 : InBlk X scope fun B => PI B t1 i1 wi1) (hg1 : InBlk X scope fun B => PG B t1 g1) (ht1 : InBlk X scope fun B => PTs B f1 tt1)
    (hk : InBlk X scope fun B => PE B kx tk) (he : InBlk X scope fun B => PE B vx tv) (hs : ∀ x, foldedSetIterable i0 X.env x = pure x := by intro _; rfl) (hs1 : ∀ env x, foldedSetIterable i1 env x = pure x := by intro _ _; rfl) :
    PE X (C2 kx vx t0 i0 t1 i1 f0 f1 scope pos) (tDc2 wi g tt wi1 g1 tt1 tk tv (own.map (·.2)) v1) := by
  refine ⟨fun pins s σ H Q I h => ?_⟩
  show wpAny _ _ (eval (.DictComp kx vx _ scope pos) X.env) _ _ _
  rw [arm_eval_DictComp]
  refine wpAny_comprehension_free (use := none) rfl hs (closure_ok fun y hy e => (ok.free y hy e).elim (fun k => I.ok.has _ (.inl k)) fun k => I.ok.has _ (.inr k)) ok.kind (fun y hy e => (ok.uniq y hy).trans (by rw [e]))
    (thn (hi.run pins s σ H _ I h) fun xv sa hx => thn hx fun itv sb hb => ?_)
  obtain ⟨it, fp, tn, J, Hb, ei, Ib, T, stb, fb, q⟩ := hb
  subst ei
  refine wpAny_newObj_type (newEnv_comp ?_)
  generalize hD : sb.heap.objs.size = D
  have nD : Hb D = none := Ib.hok.fresh (Nat.le_of_eq hD)
  obtain ⟨W, ⟨m0, w0⟩, turn⟩ := q D nD
  obtain ⟨sc, hsc⟩ : ∃ sc : Shared, sc = { sb with heap := sb.heap.push { cls := .type "dict", data := .dict #[] } } := ⟨_, rfl⟩
  have hsh : sc.heap = sb.heap.push { cls := .type "dict", data := .dict #[] } := congrArg Shared.heap hsc
  have Ic : Inv X pins σ (upd Hb D (.dK [])) sc := hsc ▸ Ib.laid (t' := sb.toks) (fun b o e => Heap.get?_push_of_some _ e) (Nat.le_of_eq hD) (hD ▸ dk_empty sb.heap Ib.big)
  have fc : ∀ b ∈ fp, FpOk X pins (upd Hb D (.dK [])) b ∧ b < sc.heap.objs.size := fun b hb => by
    obtain ⟨o, e, _⟩ := T.obj _ _ stb b hb
    have lt := Heap.lt_size e
    refine ⟨⟨(upd_ne (hD ▸ Nat.ne_of_lt lt)).trans (fb b hb).1, (fb b hb).2⟩, ?_⟩
    rw [hsh, Heap.size_push]
    exact Nat.lt_succ_of_lt lt
  have stc : tn 0 sc.heap := T.keep _ _ _ stb fun b _ o e => hsh ▸ Heap.get?_push_of_some _ e
  have Id := block_start Ic ok hN fc
  rw [← hsc]
  have P0 := hg sc (upd Hb D (.dK [])) sc.heap.objs.size (cellsFrom (sc.heap.objs.size + 1) scope.names (cloFrom X.env.cells scope.names [])) fp
  have P1 := ht sc (upd Hb D (.dK [])) sc.heap.objs.size (cellsFrom (sc.heap.objs.size + 1) scope.names (cloFrom X.env.cells scope.names [])) fp
  have P2 := hi1 sc (upd Hb D (.dK [])) sc.heap.objs.size (cellsFrom (sc.heap.objs.size + 1) scope.names (cloFrom X.env.cells scope.names [])) fp
  have P3 := hg1 sc (upd Hb D (.dK [])) sc.heap.objs.size (cellsFrom (sc.heap.objs.size + 1) scope.names (cloFrom X.env.cells scope.names [])) fp
  have P4 := ht1 sc (upd Hb D (.dK [])) sc.heap.objs.size (cellsFrom (sc.heap.objs.size + 1) scope.names (cloFrom X.env.cells scope.names [])) fp
  have P5 := hk sc (upd Hb D (.dK [])) sc.heap.objs.size (cellsFrom (sc.heap.objs.size + 1) scope.names (cloFrom X.env.cells scope.names [])) fp
  have P6 := he sc (upd Hb D (.dK [])) sc.heap.objs.size (cellsFrom (sc.heap.objs.size + 1) scope.names (cloFrom X.env.cells scope.names [])) fp
  show codeAny _ _ (.compStart (C2 kx vx t0 i0 t1 i1 f0 f1 scope pos) 0 (.ref it) (.ref D) (compEnvC scope (cellsFrom (sc.heap.objs.size + 1) scope.names (cloFrom X.env.cells scope.names [])) sc.heap.objs.size X.env)) _ { sc with heap := pushCells (sc.heap.push { cls := .type "dict", data := .dict #[] }) scope.names }
  generalize hce : compEnvC scope (cellsFrom (sc.heap.objs.size + 1) scope.names (cloFrom X.env.cells scope.names [])) sc.heap.objs.size X.env = ce at Id P0 P1 P2 P3 P4 P5 P6 ⊢
  have cL : ce.locals = sc.heap.objs.size := congrArg Env.locals hce.symm
  generalize upd Hb D (.dK []) = Hc at Ic Id P0 P1 P2 P3 P4 P5 P6 w0 fc
  generalize hsd : ({ sc with heap := pushCells (sc.heap.push { cls := .type "dict", data := .dict #[] }) scope.names } : Shared) = sd at Id ⊢
  have std : tn 0 sd.heap := T.keep _ _ _ stc fun b _ o e => hsd ▸ pushCells_keeps _ _ _ _ (Heap.get?_push_of_some _ e)
  have stat : ∀ {σ' : L2.St} {H' : Hp} {s' : Shared}, Inv (X.blk sc Hc scope ce fp) [] σ' H' s' → (∀ b ∈ fp, H' b = none) → ∀ b ∈ fp, FpOk (X.blk sc Hc scope ce fp) [] H' b :=
    fun {σ' H' s'} I' n b hb => ⟨n b hb, (I'.ok.exf b hb).1, I'.ok.exfs b hb, .inl hb, fun x c e => (I'.ok.exf b hb).2 x c e, fun p hp => nomatch (show p ∈ ([] : List (Addr × Obj)) from hp)⟩
  have loop : codeAny (model X.prog X.w) X.A (.compLoop (C2 kx vx t0 i0 t1 i1 f0 f1 scope pos) 0 (.ref it) (.ref D) ce) (compPost (model X.prog X.w) X.A X.xe none (EP X pins σ Q) (.ref D) sc.heap.objs.size) sd := by
    refine dl_out (hs1 ce) (fun n s' => ∃ i H', Inv (X.blk sc Hc scope ce fp) [] (wipe σ (own.map (·.2))) H' s' ∧ tn i s'.heap ∧ (∀ b ∈ fp, H' b = none) ∧ W i n H') ?_ m0 ⟨0, Hc, Id, std, fun b hb => (fc b hb).1.1, w0⟩
    intro n se ⟨i, He, Ie, ste, ne, we⟩
    rcases turn i n He we with ⟨stop, qq⟩ | ⟨go, Nx, hNx, step⟩
    · refine thnF (T.done (X.blk sc Hc scope ce fp) rfl rfl rfl hc i [] se _ He (fun _ _ => False) Ie (stat Ie ne) ste stop) fun r sf ⟨hr, If⟩ => ?_
      subst hr
      have Ig : Inv X pins σ He sf := Ic.call' (ch := fp) If.os If.base If.hok If.bare fun b hb => let ⟨_, z1, z2, z3, z4, z5⟩ := (fc b hb).1; ⟨z3, z1, z4, z5⟩
      have nC : He sc.heap.objs.size = none := cL ▸ (If.free : He ce.locals = none)
      obtain ⟨m, hn, _⟩ := If.loc
      have hn : sf.heap.Ns sc.heap.objs.size m := cL ▸ (hn : sf.heap.Ns ce.locals m)
      refine ⟨m, hn, fun h'' sb' => ?_⟩
      obtain ⟨z0, z1, z2, z3, z4, z5⟩ := Ic.fpOk (Nat.le_refl _) nC
      exact ⟨.ref D, He, Ig.turned (t' := sf.toks) (fun b o hb e => (sb'.2 b hb).trans e) z0 z1 z3 z4 z5, rfl, qq⟩
    · refine thnF (T.item (X.blk sc Hc scope ce fp) rfl rfl rfl hc i [] se _ He (fun _ _ => False) Ie (stat Ie ne) ste go) fun r sf ⟨u, hr, hf⟩ => ?_
      subst hr
      refine thnF hf fun _ sg ⟨x, Hg, Ig, rg, yg, stg, ng⟩ => ?_
      refine thnF (P0.run _ sg _ Hg x u _ (Ig.pinned (stat Ig ng) (T.obj _ _ stg)) rg (step x Hg yg)) fun _ sh ⟨σh, Hh, Ih, hwh, qh⟩ => ?_
      refine thnF (P1.run _ sh σh Hh _ Ih qh) fun b sj ⟨Hj, Ij, qj⟩ => ?_
      have end0 : ∀ {σ' : L2.St} {s' : Shared} {H' : Hp}, Inv (X.blk sc Hc scope ce fp) ([] ++ pinsAt fp sg.heap) σ' H' s' → (wipe σ (own.map (·.2))).length = σ'.length → (∀ (j : Nat) v, (wipe σ (own.map (·.2)))[j]? = some (some v) → σ'[j]? = some (some v)) → Nx H' →
          ∃ m, m < n ∧ ∃ i H', Inv (X.blk sc Hc scope ce fp) [] (wipe σ (own.map (·.2))) H' s' ∧ tn i s'.heap ∧ (∀ b ∈ fp, H' b = none) ∧ W i m H' := fun {σ' s' H'} I' hl hk nx => by
        obtain ⟨m', hm, w'⟩ := hNx H' nx
        have held : ∀ b ∈ fp, ∀ o, sg.heap.get? b = some o → s'.heap.get? b = some o ∧ H' b = none := fun b hb o e =>
          have z := I'.pin (b, o) (List.mem_append_right _ (List.mem_append_right _ (mem_pinsAt hb e)))
          ⟨z.1, z.2.1⟩
        exact ⟨m', hm, i + 1, H', (I'.unpinned (pins := [])).weak hl hk, T.keep _ _ _ stg fun b hb o e => (held b hb o e).1, fun b hb => let ⟨o, e, _⟩ := T.obj _ _ stg b hb; (held b hb o e).2, w'⟩
      have lh : (wipe σ (own.map (·.2))).length = σh.length := hwh ▸ wipe_length _ _
      have kh : ∀ (j : Nat) v, (wipe σ (own.map (·.2)))[j]? = some (some v) → σh[j]? = some (some v) := fun j v e => (wipe_some (hwh.symm ▸ e)).1
      have kj : ∀ (j : Nat) v, (wipe σ (own.map (·.2)))[j]? = some (some v) → (wipe σh v1)[j]? = some (some v) := fun j v e =>
        let ⟨e1, e2⟩ := wipe_some (hwh.symm ▸ e)
        (wipe_out fun z => e2 (hv j z)).trans e1
      match b with
      | false => exact end0 Ij lh kh (by simpa using qj)
      | true =>
        have qj := (if_pos rfl : (if true = true then _ else _) = _) ▸ qj
        refine thnF (P2.run _ sj σh Hj _ Ij qj) fun xv sk hx => thnF hx fun itv sl hl => ?_
        obtain ⟨it1, fp1, tn1, J1, Hl, e1, Il, T1, stl, fl, W1, ⟨m1, w1⟩, turn1⟩ := hl
        subst e1
        have stat1 : ∀ {H' : Hp}, (∀ b ∈ fp1, H' b = none) → ∀ b ∈ fp1, FpOk (X.blk sc Hc scope ce fp) ([] ++ pinsAt fp sg.heap) H' b := fun n b hb => ⟨n b hb, (fl b hb).2⟩
        have loop1 : codeAny (model X.prog X.w) X.A (.compLoop (C2 kx vx t0 i0 t1 i1 f0 f1 scope pos) 1 (.ref it1) (.ref D) ce)
            (fun r s' => match r with
              | .ok _ => ∃ m, m < n ∧ ∃ i H', Inv (X.blk sc Hc scope ce fp) [] (wipe σ (own.map (·.2))) H' s' ∧ tn i s'.heap ∧ (∀ b ∈ fp, H' b = none) ∧ W i m H'
              | .error _ => False) sl := by
          refine dl_in (fun k s' => ∃ j H', Inv (X.blk sc Hc scope ce fp) ([] ++ pinsAt fp sg.heap) (wipe σh v1) H' s' ∧ tn1 j s'.heap ∧ (∀ b ∈ fp1, H' b = none) ∧ W1 j k H') ?_ m1 ⟨0, Hl, Il.weak (wipe_length _ _) (fun j v e => (wipe_some e).1), stl, fun b hb => (fl b hb).1, w1⟩
          intro k sm ⟨j, Hm, Im, stm, nm, wm⟩
          rcases turn1 j k Hm wm with ⟨stop1, nx1⟩ | ⟨go1, Nx1, hNx1, step1⟩
          · refine thnF (T1.done (X.blk sc Hc scope ce fp) rfl rfl rfl hc j _ sm (wipe σh v1) Hm (fun _ _ => False) Im (stat1 nm) stm stop1) fun r sn ⟨hr, In⟩ => ?_
            subst hr
            exact end0 In (lh.trans (wipe_length σh v1).symm) kj nx1
          · refine thnF (T1.item (X.blk sc Hc scope ce fp) rfl rfl rfl hc j _ sm (wipe σh v1) Hm (fun _ _ => False) Im (stat1 nm) stm go1) fun r sn ⟨u1, hr, hn⟩ => ?_
            subst hr
            refine thnF hn fun _ so ⟨x1, Ho, Io, ro, yo, sto, no⟩ => ?_
            refine thnF (P3.run _ so (wipe σh v1) Ho x1 u1 _ (Io.pinned (stat1 no) (T1.obj _ _ sto)) ro (step1 x1 Ho yo)) fun _ sp ⟨σp, Hp', Ip, hwp, qp⟩ => ?_
            refine thnF (P4.run _ sp σp Hp' _ Ip qp) fun b1 sq ⟨Hq, Iq, qq⟩ => ?_
            have end1 : ∀ {s' : Shared} {H' : Hp}, Inv (X.blk sc Hc scope ce fp) (([] ++ pinsAt fp sg.heap) ++ pinsAt fp1 so.heap) σp H' s' → Nx1 H' → ∃ m, m < k ∧ ∃ j H', Inv (X.blk sc Hc scope ce fp) ([] ++ pinsAt fp sg.heap) (wipe σh v1) H' s' ∧ tn1 j s'.heap ∧ (∀ b ∈ fp1, H' b = none) ∧ W1 j m H' := fun {s' H'} I' nx => by
              obtain ⟨m', hm, w'⟩ := hNx1 H' nx
              have held : ∀ b ∈ fp1, ∀ o, so.heap.get? b = some o → s'.heap.get? b = some o ∧ H' b = none := fun b hb o e =>
                have z := I'.pin (b, o) (List.mem_append_right _ (List.mem_append_right _ (mem_pinsAt hb e)))
                ⟨z.1, z.2.1⟩
              exact ⟨m', hm, j + 1, H', I'.unpinned.weak (hwp ▸ wipe_length _ _) (fun j v e => (wipe_some (hwp.symm ▸ e)).1), T1.keep _ _ _ sto fun b hb o e => (held b hb o e).1, fun b hb => let ⟨o, e, _⟩ := T1.obj _ _ sto b hb; (held b hb o e).2, w'⟩
            match b1 with
            | false => exact end1 Iq (by simpa using qq)
            | true =>
              have qq := (if_pos rfl : (if true = true then _ else _) = _) ▸ qq
              refine thnF (P5.run _ sq σp Hq _ Iq qq) fun z sr ⟨yk, Hr, Ir, rr, qr⟩ => ?_
              refine thnF (P6.run _ sr σp Hr _ Ir qr) fun z2 st ⟨yv, Ht, It, rt, kvs, ky, ek, hDt, hzt, nx⟩ => ?_
              subst ek
              exact d_dictSet (X := X.blk sc Hc scope ce fp) It hDt hzt rr rt fun s' I' => end1 I' nx
        exact ds_in loop1 (T1.self X.A 0 _ _ _ stl loop1)
  exact codeAny_compStart_dict loop (T.self X.A 0 _ _ _ std loop)
end
/-- what the second clause's loop asks, of which Nx is the end -/
def Dc2In (J1 : It) (g1 : TG) (tt1 : TT) (tk tv : TE) (v1 : List Nat) (σ2 : L2.St) (D : Addr) (H4 : Hp) (Nx : Hp → Prop) : Prop := ∃ W1 : Nat → Nat → Hp → Prop, (∃ m, W1 0 m H4) ∧ ∀ j k H, W1 j k H →
      (J1.stop j H ∧ Nx H) ∨ (J1.go j H ∧ ∃ Nx1 : Hp → Prop, (∀ H', Nx1 H' → ∃ k', k' < k ∧ W1 (j + 1) k' H') ∧ ∀ x H', J1.yld j H x H' → g1 x (wipe σ2 v1) H' fun σ3 H5 => wipe σ3 v1 = wipe σ2 v1 ∧ tt1 σ3 H5 fun b H6 =>
        if b = true then tk σ3 H6 fun y H7 => tv σ3 H7 fun z H8 => ∃ kvs k, y = kV k ∧ H8 D = some (.dK kvs) ∧ kvs.length < sizeLine ∧ Nx1 (upd H8 D (.dK (putK kvs k z))) else Nx1 H6)
section
variable {J J1 : It} {n n1 : Nat} {G G1 : Hp → Prop} {Y Y1 : Nat → Hp → V → Hp → Prop} {wi1 : TI} {g g1 : TG} {tt tt1 : TT} {tk tv : TE} {vs v1 : List Nat} {σ σ2 : L2.St} {Ha H4 : Hp} {D : Addr} {Qd Nx : Hp → Prop}
theorem dc2_in (w : Walk J1 n1 G1 Y1) (P : Nat → Hp → Prop) (h0 : P 0 H4) (hG : ∀ j H, j ≤ n1 → P j H → G1 H)
    (hs : ∀ j x H H', j < n1 → P j H → Y1 j H x H' → g1 x (wipe σ2 v1) H' fun σ3 H5 => wipe σ3 v1 = wipe σ2 v1 ∧ tt1 σ3 H5 fun b H6 =>
      if b = true then tk σ3 H6 fun y H7 => tv σ3 H7 fun z H8 => ∃ kvs k, y = kV k ∧ H8 D = some (.dK kvs) ∧ kvs.length < sizeLine ∧ P (j + 1) (upd H8 D (.dK (putK kvs k z))) else P (j + 1) H6)
    (hd : ∀ H, P n1 H → Nx H) : Dc2In J1 g1 tt1 tk tv v1 σ2 D H4 Nx := by
  refine ⟨fun j k H => k + j = n1 ∧ P j H, ⟨n1, rfl, h0⟩, fun j k H ⟨e, p⟩ => ?_⟩
  by_cases lt : j < n1
  · have gg := hG j H (Nat.le_of_lt lt) p
    exact .inr ⟨w.goes j H lt gg, P (j + 1), fun H' p' => ⟨k - 1, by omega, by omega, p'⟩, fun x H' y => hs j x H H' lt p (w.yields j H x H' lt gg y)⟩
  · obtain rfl : j = n1 := by omega
    exact .inl ⟨w.stops H (hG _ H (Nat.le_refl _) p), hd H p⟩
theorem dc2_out (w : Walk J n G Y) (P : Nat → Hp → Prop) (h0 : P 0 (upd Ha D (.dK []))) (hG : ∀ j H, j ≤ n → P j H → G H)
    (hs : ∀ i x H H', i < n → P i H → Y i H x H' → g x (wipe σ vs) H' fun σ2 H2 => wipe σ2 vs = wipe σ vs ∧ tt σ2 H2 fun b H3 =>
      if b = true then wi1 σ2 H3 fun J1 H4 => Dc2In J1 g1 tt1 tk tv v1 σ2 D H4 (P (i + 1)) else P (i + 1) H3)
    (hd : ∀ H, P n H → Qd H) : ∃ W : Nat → Nat → Hp → Prop, (∃ m, W 0 m (upd Ha D (.dK []))) ∧ ∀ i m H, W i m H →
  (J.stop i H ∧ Qd H) ∨ (J.go i H ∧ ∃ Nx : Hp → Prop, (∀ H', Nx H' → ∃ m', m' < m ∧ W (i + 1) m' H') ∧ ∀ x H', J.yld i H x H' → g x (wipe σ vs) H' fun σ2 H2 => wipe σ2 vs = wipe σ vs ∧ tt σ2 H2 fun b H3 =>
    if b = true then wi1 σ2 H3 fun J1 H4 => Dc2In J1 g1 tt1 tk tv v1 σ2 D H4 Nx else Nx H3) := by
  refine ⟨fun i m H => m + i = n ∧ P i H, ⟨n, rfl, h0⟩, fun i m H ⟨e, p⟩ => ?_⟩
  by_cases lt : i < n
  · have gg := hG i H (Nat.le_of_lt lt) p
    exact .inr ⟨w.goes i H lt gg, P (i + 1), fun H' p' => ⟨m - 1, by omega, by omega, p'⟩, fun x H' y => hs i x H H' lt p (w.yields i H x H' lt gg y)⟩
  · obtain rfl : i = n := by omega
    exact .inl ⟨w.stops H (hG _ H (Nat.le_refl _) p), hd H p⟩
end
end Nb

set_option Elab.async false
set_option linter.all false
set_option maxRecDepth 100000
set_option maxHeartbeats 4000000
/-! a, b, *c = t for a tuple: the last target takes a new list of what is left. -/
namespace Nb
open PySem PySem.Spec PyProof.Rows PySem.Calls PySem.W
open L2 hiding del del_ne del_same
section
variable {prog : Program} {w : World} {A : Around} {E : Value → Shared → Prop} {s : Shared}
theorem star_items {l : Addr} {items : Array Value} {i : Nat} {Q : List Value → Shared → Prop} (hl : IsTup s.heap l items) (hh : A.handled = none) (hn : i ≤ items.size) (hz : items.size ≤ sizeLine)
    (h : ∀ (h' : Heap) (tk : Nat), (∀ b o, s.heap.get? b = some o → h'.get? b = some o) → Q (items.toList.take i ++ [.ref h'.objs.size] ++ []) { s with heap := h'.push { cls := .type "list", data := .seq (items.toList.drop i).toArray }, toks := tk }) :
    wpAny (model prog w) A (unpackItems (.ref l) (i + 1) (some i)) Q E s := by
  have hlt : l ≠ s.heap.objs.size := by obtain ⟨o, ho, _⟩ := hl; exact Nat.ne_of_lt (Heap.lt_size ho)
  unfold unpackItems
  refine wpAny_bind ?_
  unfold notIterableAtAll
  refine wpAny_bind (wpAny_specialOf hl.typeIs slot_tuple_iter.lookup ?_)
  refine wpAny_pure ?_
  simp only [Bool.false_eq_true, if_false]
  refine wpAny_bind (wpAny_holding (iter_tuple hl ?_))
  refine wpAny_bind (wpAny_holding (draw_tuple hlt i 0 _ _ ⟨_, Heap.get?_push_size _ rfl, rfl, rfl⟩ (hl.push _) (by omega) fun h₁ hit₁ hs₁ => ?_))
  have hl₁ : IsTup h₁ l items := (hl.push _).extBut hs₁.extBut hlt
  rw [Nat.zero_add] at hit₁
  have hit₁' := hit₁
  obtain ⟨oi, hoi, _⟩ := hit₁'
  have hl₁' := hl₁
  obtain ⟨ol, hol, _⟩ := hl₁'
  rw [List.drop_zero]
  have hfl : (items.toList.take i).length = i := by rw [List.length_take, Array.length_toList]; omega
  rw [if_neg (show ¬ ((items.toList.take i).length < i) by rw [hfl]; omega)]
  refine wpAny_bind (wpAny_holding (kun_collect (s := { s with heap := h₁ }) (T := "tuple_iterator") (.inr (.inr (.inr rfl))) (Walks.tuple (A := A.in1) hh s.heap.objs.size l hlt items) (fun j u st => st.1.typeIs) (k := i) (by omega) ⟨hit₁, hl₁⟩ (Heap.lt_size hoi) (Heap.lt_size hol) (fun h₂ tk hk => ?_) hz))
  have hrl : (items.toList.drop i).length = items.size - i := by rw [List.length_drop, Array.length_toList]
  have hz0 : i + 1 - 1 - i = 0 := by omega
  show wpAny _ _ (if (items.toList.drop i).length < i + 1 - 1 - i then _ else _) _ _ _
  rw [hz0, if_neg (by omega)]
  rw [Nat.sub_zero, List.take_length, List.drop_length]
  have he : ∀ b o, s.heap.get? b = some o → h₂.get? b = some o := fun b o e => hk b o (Nat.ne_of_lt (Heap.lt_size e)) (hs₁.extBut b o (Nat.ne_of_lt (Heap.lt_size e)) (Heap.get?_push_of_some _ e))
  exact wpAny_bind (wpAny_newList (wpAny_pure (h h₂ tk he)) (by rw [hrl]; omega))
end
section
variable {X : Cx} {pos : Pos}
def gStar (K : PySem.W.Frag) (i : Nat) (t : TGs) : TG := fun v σ H Q => ∃ a xs, v = .ref a ∧ SqT K H a xs ∧ i ≤ xs.length ∧ ∀ H' D, Same H H' → H D = none → H' D = some (.lst (xs.drop i)) → t (xs.take i ++ [.ref D]) σ H' Q
theorem vals_take : ∀ {xs : List V} {us : List Value} (i : Nat), Vals xs us → Vals (xs.take i) (us.take i)
  | _, _, 0, _ => .nil
  | _, _, _ + 1, .nil => .nil
  | _, _, i + 1, .cons r t => .cons r (vals_take i t)
theorem vals_drop : ∀ {xs : List V} {us : List Value} (i : Nat), Vals xs us → Vals (xs.drop i) (us.drop i)
  | _, _, 0, h => h
  | _, _, _ + 1, .nil => .nil
  | _, _, i + 1, .cons _ t => vals_drop i t
theorem pg_star {es es' : List Expr} {k : Nat} {t : TGs} {i : Nat} (hc : X.calm = true) (h : PGs X es t)
    (hm : (assignEach es' X.env).map (·.2) = (assignEach es X.env).map (·.2) := by rfl)
    (hn : (assignEach es' X.env).length = i + 1 := by rfl) (hst : (assignEach es' X.env).findIdx? (·.1) = some i := by rfl) : PG X (.Tuple es' k pos) (gStar X.K i t) := by
  refine ⟨fun pins s σ H v u Q I r hw => ?_⟩
  obtain ⟨a, xs, e1, hq, hl, hw⟩ := hw
  subst e1
  cases r
  obtain ⟨its, rv, ht, hz⟩ := I.tuple hq
  rw [PyProof.Rows.assign_Tuple]
  refine wpAny_bind (wpAny_standAt ?_)
  unfold unpack
  rw [hn, hst, hm]
  have hsz : its.toArray.size = xs.length := by rw [rv.length]; simp
  refine wpAny_bind (wpAny_holding (star_items ht (I.ok.hd hc) (by omega) (by omega) fun h' tk hx => ?_))
  have I1 : Inv X pins σ H { s with heap := h', toks := tk } := I.kept (t' := tk) hx
  have rd : Vals (xs.drop i) (its.drop i) := vals_drop i rv
  have I2 := I1.lnew (its := its.drop i) (t' := tk) rd (by rw [List.length_drop]; omega)
  have fr : H h'.objs.size = none := I1.fresh
  have hv : Vals (xs.take i ++ [V.ref h'.objs.size]) ((its.toArray.toList.take i ++ [Value.ref h'.objs.size]) ++ []) := by
    rw [List.append_nil]
    exact (vals_take i (by simpa using rv)).append (.cons rfl .nil)
  exact h.run pins _ σ _ _ _ Q I2 hv (hw _ h'.objs.size (same_new fr) fr upd_same)
end
end Nb

set_option Elab.async false
set_option linter.all false
set_option maxRecDepth 100000
set_option maxHeartbeats 4000000
/-! d.get(x) of a dict of the module from texts to numbers. -/
namespace Nb
open PySem PySem.Spec PyProof.Rows
open L2 hiding del del_ne del_same
def intOf (e : DictEntry) : Option Int := match e.val with
  | .int i _ => some i
  | _ => none
def valsI (K : PySem.W.Frag) (a : Addr) : Option (List (Option Int)) := match K.lookup a with
  | some ⟨_, _, .dict es _, _⟩ => some (es.toList.map intOf)
  | _ => none
structure KInts (K : PySem.W.Frag) (w : World) (p : Addr) (kvs : List (Str × Int)) : Prop where
  ks : He.dicW K p = some (He.keysIn w.params (kvs.map (·.1)))
  vs : valsI K p = some (kvs.map fun e => some e.2)
def intV : Option Int → V
  | some i => .int i
  | none => .non
theorem kints_find {P : Params} : ∀ {l : List DictEntry} {kvs : List (Str × Int)} (z : Str), l.map He.keyOf = He.keysIn P (kvs.map (·.1)) → l.map intOf = kvs.map (fun e => some e.2) →
    RelV (intV (kvs.lookup z)) (((l.find? fun e => Value.isStrOf z e.key).map (·.val)).getD .none)
  | [], [], _, _, _ => rfl
  | _ :: _, [], _, h, _ => nomatch h
  | [], _ :: _, _, h, _ => nomatch h
  | e :: l, (k, i) :: kvs, z, h1, h2 => by
    have g1 : He.keyOf e :: l.map He.keyOf = some (k, PyData.keyHash P k) :: He.keysIn P (kvs.map (·.1)) := h1
    have g2 : intOf e :: l.map intOf = some i :: kvs.map (fun e => some e.2) := h2
    injection g1 with a1 b1
    injection g2 with a2 b2
    have ek : ∃ t, e.key = .str k t := by
      unfold He.keyOf at a1
      split at a1
      · rename_i x t q
        obtain ⟨h5, _⟩ := Prod.mk.inj (Option.some.inj a1)
        exact ⟨t, by rw [q, h5]⟩
      · cases a1
    have ev : ∃ t, e.val = .int i t := by
      unfold intOf at a2
      split at a2
      · rename_i j t q
        exact ⟨t, by rw [q, Option.some.inj a2]⟩
      · cases a2
    obtain ⟨t, ek⟩ := ek
    obtain ⟨u, ev⟩ := ev
    have ih := kints_find z b1 b2
    have hb : Value.isStrOf z e.key = (k == z) := by rw [ek]; rfl
    rw [List.lookup_cons, List.find?_cons, hb]
    by_cases c : k = z
    · subst c
      rw [show (k == k) = true from beq_self_eq_true k]
      show RelV (.int i) e.val
      exact ⟨u, ev⟩
    · rw [show (k == z) = false from beq_eq_false_iff_ne.mpr c, show (z == k) = false from beq_eq_false_iff_ne.mpr (fun x => c x.symm)]
      exact ih
def tKGet (kvs : List (Str × Int)) (ty : TE) : TE := fun σ H Q => ty σ H fun y H2 => ∃ z, y = .str z ∧ Q (intV (kvs.lookup z)) H2
theorem pe_kget {X : Cx} {o e : Expr} {apos cpos : Pos} {ty : TE} {p : Addr} {kvs : List (Str × Int)} (g : KInts X.K X.w p kvs) (ho : PE X o (tC (.ref p))) (he : PE X e ty) (m : M1 X o "get" apos e cpos) : PE X (.Call (.Attribute o "get" apos) [e] [] cpos) (tKGet kvs ty) := by
  obtain ⟨es, n, kd⟩ := He.dicW_ok g.ks
  obtain ⟨hl, hk, hne⟩ := kd
  refine ⟨fun pins s σ H Q I h => ?_⟩
  refine wpAny_Call_method m.base m.few m.line PySem.F.plainAttrs_dict PySem.F.slot_dict_get PySem.F.type_dict_get (thn (ho.run pins s σ H (fun x H1 => x = .ref p ∧ H1 = H) I ⟨rfl, rfl⟩) fun u s1 ⟨x, H1, I1, rx, ex, eH⟩ => ?_)
  subst ex eH
  obtain rfl : u = Value.ref p := rx
  have hp := I1.kIn p _ hl
  refine ⟨⟨_, hp, rfl⟩, fun b q => ?_, ?_⟩
  · cases q
    exact ⟨_, hp, rfl⟩
  rw [m.trees]
  refine Calls.callWith_builtin rfl (Calls.evalArgs_plain (Calls.spliced_cons (thn (he.run pins s1 σ H1 _ I1 h) fun iv s2 ⟨y, H2, I2, ry, z, ey, q2⟩ => Calls.spliced_nil ?_)))
  subst ey
  obtain ⟨t, rfl⟩ := ry
  have hm := PySem.W.mapOf_K (prog := X.prog) (w := X.w) I2.kIn hl hk
  refine call_meetsIn PySem.F.slot_dict_get ⟨_, I2.kIn p _ hl, rfl⟩ PySem.F.entry_dict_get (PySem.F.args_dict_get_2 _ _) (meets_dict_get (PySem.strKind X.prog X.w) p (strKind_is X.prog X.w z t) hne) ⟨_, hm, ?_⟩
  refine ⟨_, H2, I2.tok _, ?_, q2⟩
  have k1 : es.toList.map He.keyOf = He.keysIn X.w.params (kvs.map (·.1)) := by
    have h1 := g.ks
    unfold He.dicW at h1
    rw [hl] at h1
    dsimp only at h1
    split at h1
    · exact Option.some.inj h1
    · cases h1
  have k2 : es.toList.map intOf = kvs.map (fun e => some e.2) := by
    have h1 := g.vs
    unfold valsI at h1
    rw [hl] at h1
    exact Option.some.inj h1
  have := kints_find z k1 k2
  unfold findBy
  obtain ⟨l⟩ := es
  rw [List.find?_toArray]
  exact this
end Nb

set_option Elab.async false
set_option linter.all false
set_option maxRecDepth 100000
set_option maxHeartbeats 2000000
/-! {**d, k: v}: a display that begins with a dict. -/
namespace Nb
open PySem
section
variable {prog : Program} {w : World} {K : Type} [DecidableEq K] {knd : KeyKind prog w K} {A : Around} {E : Value → Shared → Prop} {s : Shared}
theorem wpAny_dictPut_pairs {d : Addr} {kvs : List (K × Value)} {k : K} {key v : Value} {Q : Unit → Shared → Prop} (hkey : knd.is k key = true) (hm : s.heap.DictOf knd d kvs)
    (hQ : ∀ h', h'.DictOf knd d (stored kvs k v) → Heap.SameBut d s.heap h' → Q () { s with heap := h' })
    (hsz : kvs.length ≤ sizeLine) :
    wpAny (model prog w) A (dictPut d (knd.hash k) key v) Q E s := by
  obtain ⟨o, es, ep, ho, hc, hd, hk, hp, hn⟩ := hm
  have hes : es.size ≤ sizeLine := by have e1 := hp.length; have e2 : es.toList.length = es.size := by simp
                                      omega
  unfold dictPut
  refine wpAny_bind (wpAny_dictFind_of hkey ho hd hk ?_)
  have hidx : (es.findIdx? fun e => knd.is k e.key) = kvs.findIdx? fun kv => decide (kv.1 = k) := by
    rw [← hp.findIdx k]; obtain ⟨l⟩ := es; simp
  cases hi : es.findIdx? fun e => knd.is k e.key with
  | some i =>
    refine wpAny_updateDict ho hd (hQ _ ⟨_, _, ep, Heap.get?_update_self _ ho (Obj.isFreed_of_dict (Obj.data_mapDict hd _)),
      hc.mapDict _, Obj.data_mapDict hd _, hk.modify _ _, ?_, ?_⟩ (Heap.SameBut.update ..))
    · rw [stored, if_pos (any_of_findIdx_some (hidx ▸ hi))]
      have hl : (es.toList.findIdx? fun e => knd.is k e.key) = some i := by rw [← hi]; obtain ⟨l⟩ := es; simp
      have := hp.modify hn hl v
      obtain ⟨l⟩ := es
      simpa using this
    · rw [stored, if_pos (any_of_findIdx_some (hidx ▸ hi)), keys_map_store]; exact hn
  | none =>
    have hnot : k ∉ kvs.map (·.1) := not_mem_of_findIdx_none (hidx ▸ hi)
    have hany : ¬ (kvs.any fun kv => decide (kv.1 = k)) = true := by
      rw [List.any_eq_true]; rintro ⟨kv, hkv, he⟩
      exact hnot (List.mem_map.mpr ⟨kv, hkv, of_decide_eq_true he⟩)
    refine wpAny_updateDictKeys (hz := hes) ho hd (hQ _ ⟨_, _, ep + 1, Heap.get?_update_self _ ho (Obj.isFreed_of_dict (Obj.data_mapDictKeys hd _)),
      hc.mapDictKeys _, Obj.data_mapDictKeys hd _, hk.push hkey _, ?_, ?_⟩ (Heap.SameBut.update ..))
    · rw [stored, if_neg hany]
      have := hp.append hkey (knd.hash k) v
      obtain ⟨l⟩ := es
      simpa using this
    · rw [stored, if_neg hany, List.map_append, List.nodup_append]
      refine ⟨hn, by simp, ?_⟩
      intro a ha b hb
      simp only [List.map_cons, List.map_nil, List.mem_singleton] at hb
      subst hb
      exact fun e => hnot (e ▸ ha)
theorem wpAny_mergeMapping {d o : Addr} {kvs more : List (K × Value)} {Q : Unit → Shared → Prop} (flat : ∀ (k : K) (a : Addr), knd.is k (.ref a) = false) (hdo : d ≠ o) (hoS : (o == sysModules) = false)
    (hd : s.heap.DictOf knd d kvs) (ho : s.heap.DictOf knd o more)
    (hQ : ∀ h', h'.DictOf knd d (merged kvs more) → h'.DictOf knd o more → Heap.SameBut d s.heap h' → Q () { s with heap := h' })
    (hsz : kvs.length + more.length ≤ sizeLine) :
    wpAny (model prog w) A (mergeMapping d (.ref o) false) Q E s := by
  have hdT := hd.typeIs
  have hoT := ho.typeIs
  obtain ⟨od, esd, epd, hod, hcd, hdd, hkd, hpd, hnd⟩ := id hd
  obtain ⟨oo, eso, epo, hoo, hco, hdo', hko, hpo, hno⟩ := id ho
  have hlen : more.length = eso.size := by rw [← hpo.length]; simp
  unfold mergeMapping
  refine wpAny_bind (wpAny_isInstance hoT isSubtype_dict_dict ?_)
  simp only [if_true]
  refine wpAny_bind (wpAny_specialOf hoT F.slot_dict_iter.lookup (wpAny_bind (wpAny_pure ?_)))
  simp only [beq_self_eq_true, hoS, Bool.false_eq_true, if_false]
  refine wpAny_bind (wpAny_dictEntries hod hdd ?_)
  have loop : wpAny (model prog w) A (do
      let l ← dictEntries o
      let epoch ← dictEpoch o
      forIn (List.range l.size) PUnit.unit fun i (_ : PUnit) => (do
          let l' ← dictEntries o
          match l'[i]? with
            | some e => do
              holding [e.key, e.val] (dictPut d e.hash e.key e.val)
              let ep' ← dictEpoch o
              if (ep' != epoch) = true then do
                  (unsupported "dict.changed-during-merge" : Sem PUnit)
                  pure (ForInStep.yield PUnit.unit)
                else pure (ForInStep.yield PUnit.unit)
            | _ => do
              (unsupported "dict.changed-during-merge" : Sem PUnit)
              pure (ForInStep.yield PUnit.unit) : Sem (ForInStep PUnit))
      pure ()) Q E s := by
    refine wpAny_bind (wpAny_dictEntries hoo hdo' ?_)
    refine wpAny_bind (wpAny_dictEpoch hoo hdo' ?_)
    refine wpAny_bind ?_
    rw [List.range_eq_range']
    refine wpAny_forIn_list _
      (fun rest _ s' => ∃ h' i, s' = { s with heap := h' } ∧ rest = List.range' i (eso.size - i) ∧ i ≤ eso.size ∧ h'.DictOf knd d (merged kvs (more.take i)) ∧ h'.get? o = some oo ∧ Heap.SameBut d s.heap h')
      _ ?_ ?_ _ _ ⟨s.heap, 0, rfl, by simp, Nat.zero_le _, by simpa [merged] using hd, hoo, Heap.SameBut.refl _ _⟩
    · rintro x rest b s' ⟨h', i, rfl, hr, hi, hd', hoo', hs'⟩
      have hlt : i < eso.size := by
        rcases Nat.lt_or_ge i eso.size with h | h
        · exact h
        · rw [Nat.sub_eq_zero_of_le h] at hr; simp at hr
      obtain ⟨rfl, hrest⟩ : x = i ∧ rest = List.range' (i + 1) (eso.size - (i + 1)) := by
        have e : eso.size - i = (eso.size - (i + 1)) + 1 := by omega
        rw [e, List.range'_succ] at hr
        injection hr with h1 h2
        exact ⟨h1, h2⟩
      refine wpAny_bind (wpAny_dictEntries hoo' hdo' ?_)
      rw [Array.getElem?_eq_getElem hlt]
      obtain ⟨kv, hkv⟩ : ∃ kv, more[x]? = some kv := ⟨more[x]'(by rw [hlen]; exact hlt), List.getElem?_eq_getElem _⟩
      obtain ⟨k, v⟩ := kv
      obtain ⟨hkey, hval⟩ := hpo.get? (e := eso[x]) (by simp [hlt]) hkv
      obtain ⟨k', hkey', hhash⟩ := hko eso[x] (Array.getElem_mem hlt)
      obtain rfl : k' = k := knd.inj _ _ _ hkey' hkey
      show wpAny _ _ (holding [eso[x].key, eso[x].val] (dictPut d eso[x].hash eso[x].key eso[x].val) >>= _) _ _ _
      rw [hhash, hval]
      have hmx : (merged kvs (more.take x)).length ≤ sizeLine := by
        have e1 := merged_length_le kvs (more.take x)
        have e2 : (more.take x).length ≤ more.length := by rw [List.length_take]; omega
        omega
      refine wpAny_bind (wpAny_holding (wpAny_dictPut_pairs (hsz := hmx) hkey hd' fun h'' hd'' hs'' => ?_))
      have hoo'' : h''.get? o = some oo := (hs''.2 o (Ne.symm hdo)).trans hoo'
      refine wpAny_bind (wpAny_dictEpoch hoo'' hdo' ?_)
      rw [if_neg (by simp)]
      exact wpAny_pure ⟨h'', x + 1, rfl, hrest, hlt, by rw [merged_take_succ kvs more x (k', v) hkv]; exact hd'', hoo'', hs'.trans hs''⟩
    · rintro b s' ⟨h', i, rfl, hr, hi, hd', hoo', hs'⟩
      have hin : i = eso.size := by
        rcases Nat.lt_or_ge i eso.size with h | h
        · have e : eso.size - i = (eso.size - (i + 1)) + 1 := by omega
          rw [e, List.range'_succ] at hr; exact nomatch hr
        · exact Nat.le_antisymm hi h
      refine wpAny_pure (hQ h' ?_ ⟨oo, eso, epo, hoo', hco, hdo', hko, hpo, hno⟩ hs')
      rw [hin, ← hlen, List.take_length] at hd'; exact hd'
  split
  · refine wpAny_bind (wpAny_dictEntries hoo hdo' ?_)
    refine wpAny_bind ?_
    rw [← Array.forIn_toList]
    refine wpAny_forIn_list _ (fun rest _ s' => s' = s ∧ ∀ e ∈ rest, e ∈ eso.toList) _ ?_ ?_ _ _ ⟨rfl, fun e h => h⟩
    · rintro e rest b s' ⟨rfl, hall⟩
      obtain ⟨k, hk, _⟩ := hko e (Array.mem_toList_iff.mp (hall e (List.mem_cons_self ..)))
      split
      · rename_i a heq
        rw [heq, flat] at hk
        cases hk
      · exact wpAny_pure ⟨rfl, fun e h => hall e (List.mem_cons_of_mem _ h)⟩
    · rintro b s' ⟨rfl, _⟩
      exact loop
  · exact loop
end
section
open L2
variable {X : Cx} {pins : List (Addr × Obj)} {σ : L2.St} {H : Hp} {s : Shared} {A : Around} {E : Value → Shared → Prop} {d o : Addr} {kvs more : List (Key × V)}
/-- a dict stored into another one -/
theorem d_merge {Q : Unit → Shared → Prop} (I : Inv X pins σ H s) (ed : H d = some (.dK kvs)) (eo : H o = some (.dK more)) (ne : d ≠ o) (l : kvs.length + more.length ≤ 100000) (h : ∀ s', Inv X pins σ (L2.upd H d (.dK (mergeK kvs more))) s' → Q () s') :
    wpAny (model X.prog X.w) A (mergeMapping d (.ref o) false) Q E s := by
  obtain ⟨z, hd, vs, rel, dd⟩ := dk_of I.hok ed
  obtain ⟨z2, hd2, vs2, rel2, dd2⟩ := dk_of I.hok eo
  have hl : (mergeK kvs more).length ≤ sizeLine := by
    have := length_mergeK more kvs
    rw [sizeLine_eq]
    omega
  have hz : vs.length + vs2.length ≤ sizeLine := by
    have e1 := Paired.length rel
    have e2 := Paired.length rel2
    rw [sizeLine_eq]
    omega
  refine wpAny_mergeMapping (knd := mixKind X.prog X.w) (fun k a => by cases k <;> rfl) ne hd2 dd dd2 (fun h' dd' _ hs => h _ ?_) hz
  have he : ∃ q, h'.get? d = some q := let ⟨q, _, _, hq, _⟩ := dd'; ⟨q, hq⟩
  exact d_write I (by rw [ed]; exact True.intro) hs he (dk_new hl hd (rel2.merge rel) dd')
/-- {**e0, k: v} -/
def tSplat (t0 tk tv : TE) : TE := fun σ H Q => ∀ p, H p = none → t0 σ (L2.upd H p (.dK [])) fun x H1 => ∃ o more, x = .ref o ∧ o ≠ p ∧ H1 o = some (.dK more) ∧ H1 p = some (.dK []) ∧ more.length ≤ 99000 ∧
  ∀ q, H1 q = none → q ≠ p → tk σ (L2.upd (L2.upd H1 p (.dK (mergeK [] more))) q (.dK [])) fun y H2 => tv σ H2 fun z H3 => ∃ key w, [(y, z)] = [(kV key, w)] ∧ H3 q = some (.dK []) ∧ H3 p = some (.dK (mergeK [] more)) ∧
    Q (.ref p) (L2.upd (L2.upd H3 q (.dK (mergeK [] [(key, w)]))) p (.dK (putK (mergeK [] more) key w)))
theorem pe_splat {e0 k v : Expr} {pos : Pos} {t0 tk tv : TE} (h0 : PE X e0 t0) (hk : PE X k tk) (hv : PE X v tv) : PE X (.Dict [none, some k] [e0, v] pos) (tSplat t0 tk tv) := by
  refine ⟨fun pins s σ H Q I q => ?_⟩
  have hn := I.hok.fresh (Nat.le_refl s.heap.objs.size)
  have I1 := I.laid (a := s.heap.objs.size) (o := .dK []) (h' := s.heap.push { cls := .type "dict", data := .dict #[] }) (t' := s.toks) (fun _ _ q => Heap.get?_push_of_some _ q) (Nat.le_refl _) (dk_empty s.heap I.big)
  have q1 := q _ hn
  unfold eval
  refine wpAny_bind (wpAny_standAt ?_)
  have items : (evalEachOpt [none, some k] X.env).zip (List.map (fun v => (do let x ← v; standAt pos; pure x : Sem Value)) (evalEach [e0, v] X.env)) = [(none, (do let x ← eval e0 X.env; standAt pos; pure x : Sem Value)), (some (eval k X.env), (do let x ← eval v X.env; standAt pos; pure x : Sem Value))] := rfl
  rw [items]
  unfold dictDisplay
  simp only [List.forIn_cons, List.forIn_nil, List.isEmpty_nil, if_true, pure_bind, bind_assoc, List.nil_append, List.length_cons, List.length_nil]
  refine wpAny_bind (wpAny_alloc ?_)
  refine wpAny_bind (wpAny_holding (wpAny_bind (thn (h0.run pins _ σ _ _ I1 q1) fun v0 s1 ⟨x, H1, I2, rx, o, more, ex, ne, eo, ed, lm, q2⟩ => wpAny_bind (wpAny_standAt (wpAny_pure ?_)))))
  subst ex
  cases rx
  refine wpAny_bind (wpAny_onRaise (wpAny_tryCatch (wpAny_onRaise (wpAny_holding (d_merge I2 ed eo (Ne.symm ne) (by simp; omega) fun s2 I3 => ?_)))))
  rw [if_neg (by decide)]
  refine wpAny_bind (wpAny_pure (wpAny_bind (wpAny_pure ?_)))
  rw [if_neg (by simp)]
  dsimp only
  have hn2 : (L2.upd H1 s.heap.objs.size (.dK (mergeK [] more))) s2.heap.objs.size = none := I3.hok.fresh (Nat.le_refl _)
  have nq : s2.heap.objs.size ≠ s.heap.objs.size := fun z => by
    rw [z, L2.upd_same] at hn2
    cases hn2
  have hq : H1 s2.heap.objs.size = none := by
    rw [L2.upd_ne nq] at hn2
    exact hn2
  have I4 := I3.laid (a := s2.heap.objs.size) (o := .dK []) (h' := s2.heap.push { cls := .type "dict", data := .dict #[] }) (t' := s2.toks) (fun _ _ q => Heap.get?_push_of_some _ q) (Nat.le_refl _) (dk_empty s2.heap I3.big)
  have q3 := q2 _ hq nq
  have run : PPs X pos [some k] [v] [(tk, tv)] := pps_cons hk hv pps_nil
  have hp : pairTrees [some k] [v] X.env pos = [(eval k X.env, (do let x ← eval v X.env; standAt pos; pure x : Sem Value))] := rfl
  refine wpAny_bind (wpAny_bind (wpAny_holding (wpAny_subDict (knd := mixKind X.prog X.w) (by simp) ?_)))
  rw [← hp]
  refine thn (run.run pins _ σ _ (fun ps H3 => ∃ key z, ps = [(kV key, z)] ∧ H3 s2.heap.objs.size = some (.dK []) ∧ H3 s.heap.objs.size = some (.dK (mergeK [] more)) ∧
    Q (.ref s.heap.objs.size) (L2.upd (L2.upd H3 s2.heap.objs.size (.dK (mergeK [] [(key, z)]))) s.heap.objs.size (.dK (putK (mergeK [] more) key z)))) I4 ?_) fun ws s4 ⟨ps, H3, I5, rel, key, z, eps, e1, e2, q4⟩ => ?_
  · exact q3
  subst eps
  obtain ⟨rs, c, rk⟩ := carries_of (P := X.prog) (w := X.w) (kvs := [(key, z)]) rel
  obtain ⟨zz, hd, vs0, r0, dd⟩ := dk_of I5.hok e1
  cases r0
  refine ⟨rs, c, dd, fun h' dd' hs => ?_⟩
  have hz : (mergeK [] [(key, z)]).length ≤ sizeLine := by
    have h1 := length_mergeK [(key, z)] []
    rw [List.length_nil, List.length_cons, List.length_nil] at h1
    rw [sizeLine_eq]; omega
  have he : ∃ q, h'.get? s2.heap.objs.size = some q := let ⟨q, _, _, hq, _⟩ := dd'; ⟨q, hq⟩
  have I6 : Inv X pins σ (L2.upd H3 s2.heap.objs.size (.dK (mergeK [] [(key, z)]))) { s4 with heap := h', toks := s4.toks + ws.length } := d_write I5 (by rw [e1]; exact True.intro) hs he (dk_new hz hd (rk.merge .nil) dd')
  have lmk : (mergeK [] more).length ≤ 99000 := by
    have h1 := length_mergeK more []
    rw [List.length_nil] at h1
    omega
  have l1 : (mergeK [] [(key, z)]).length ≤ 1 := by
    have h1 := length_mergeK [(key, z)] []
    rw [List.length_nil, List.length_cons, List.length_nil] at h1
    omega
  refine wpAny_bind (wpAny_onRaise (wpAny_holding (d_merge (kvs := mergeK [] more) (more := mergeK [] [(key, z)]) I6 (by rw [L2.upd_ne (Ne.symm nq)]; exact e2) L2.upd_same (Ne.symm nq) (by omega) fun s7 I7 => ?_)))
  exact wpAny_pure (wpAny_pure ⟨.ref s.heap.objs.size, _, I7, rfl, q4⟩)
end
end Nb

set_option Elab.async false
set_option maxRecDepth 100000
set_option maxHeartbeats 4000000
/-! A caught error that is asked behind its handler: it is told in the heap from then on. -/
namespace Nb
open PySem PySem.Spec PyProof.Rows L2
/-- an error of the class cls, its dict at d, that flies no more -/
def Ke (cls : Value) (d : Option Addr) (a : Addr) : HO := .ext fun h => ∃ (oe : Obj) (vs : Array Value), h.get? a = some oe ∧ Zc cls d oe ∧ oe.data = .fields vs
theorem ke_ok {P : Program} {w : World} {H : Hp} {h : Heap} {a : Addr} {cls : Value} {d : Option Addr} {oe : Obj} {vs : Array Value} (e : h.get? a = some oe) (z : Zc cls d oe) (f : oe.data = .fields vs) : ObjOk P w H h a (Ke cls d a) :=
  ⟨⟨oe, vs, e, z, f⟩, ⟨oe, e⟩, fun _ _ ⟨o, ws, e1, z1, f1⟩ k => ⟨o, ws, k o e1, z1, f1⟩⟩
theorem ke_at {P : Program} {w : World} {H : Hp} {h : Heap} {a : Addr} {cls : Value} {d : Option Addr} (hok : HOk P w H h) (e : H a = some (Ke cls d a)) : ∃ (oe : Obj) (vs : Array Value), h.get? a = some oe ∧ Zc cls d oe ∧ oe.data = .fields vs := (show ObjOk P w H h a (Ke cls d a) from hok a _ e).1
section
variable {X : Cx} {pins : List (Addr × Obj)} {σ : L2.St} {H : Hp} {s : Shared} {a : Addr}
/-- what is new since the def began, and stands nowhere, may be told -/
theorem inv_tell {o : HO} (I : Inv X pins σ H s) (na : H a = none) (n0 : X.s_0.heap.get? a = none) (nL : a ≠ X.env.locals) (nC : ∀ v, ¬ s.heap.IsCell a v) (nP : ∀ p ∈ X.pn ++ pins, p.1 ≠ a) (ho : ObjOk X.prog X.w (upd H a o) s.heap a o) :
    Inv X pins σ (upd H a o) s := by
  have ne : ∀ {b : Addr} {u : HO}, H b = some u → b ≠ a := fun e => ne_of_none e na
  refine ⟨I.ok, I.os, I.bare, ?_, I.loc, I.cell, ?_, ?_, ?_, ?_, I.len⟩
  · refine ⟨I.base.keep, I.base.slot, fun b ob e n hx => ?_, I.base.there, fun b xs e => ?_, fun b ob u e => ?_, fun b ps e => ?_⟩
    · have nb : b ≠ a := fun z => by
        rw [z, n0] at e
        cases e
      rw [upd_ne nb]
      exact I.base.free b ob e n hx
    · have t := I.base.tups b xs e
      rw [upd_ne (ne t)]
      exact t
    · have t := I.base.frzs b ob u e
      rw [upd_ne (ne t)]
      exact t
    · obtain ⟨m, t⟩ := I.base.tbls b ps e
      exact ⟨m, by rw [upd_ne (ne t)]; exact t⟩
  · rw [upd_ne (Ne.symm nL)]
    exact I.free
  · intro y c hc
    have nc : c ≠ a := fun z => by
      obtain ⟨v, hv⟩ := I.cell y c hc
      exact nC v (z ▸ hv)
    rw [upd_ne nc]
    exact I.freeC y c hc
  · intro p hp
    obtain ⟨p1, p2, p3⟩ := I.pin p hp
    exact ⟨p1, by rw [upd_ne (nP p hp)]; exact p2, p3⟩
  · intro b u e
    by_cases hb : b = a
    · subst hb
      rw [upd_same] at e
      cases e
      exact ho
    · rw [upd_ne hb] at e
      exact (I.hok b u e).stay (fun c v _ q => q) (fun c q => by rw [upd_ne (ne q)]; exact q) fun c xs q => by rw [upd_ne (ne q)]; exact q
end
/-- what such a clause wishes of an error of the body: slot i is the name of the clause -/
def wKept (K : PySem.W.Frag) (c : Value) (i : Nat) (ts : Addr → Value → Option Addr → TS) (D : Ends) : WX := fun cls d σ H =>
  PySem.W.exmOne K cls c = some true ∧ ∀ a, H a = none → ts a cls d { nx := fun σ' H' => D.nx (σ'.set i none) (upd H' a (Ke cls d a)), rt := fun v H' => D.rt v (upd H' a (Ke cls d a)), bk := fun σ' H' => D.bk (σ'.set i none) (upd H' a (Ke cls d a)), ct := fun σ' H' => D.ct (σ'.set i none) (upd H' a (Ke cls d a)) } (σ.set i (some (.ref a))) H
section
variable {X : Cx} {nm : Str} {c : Value} {i : Nat} {x : Str} {body su : List Stmt} {b1 : Stmt} {px p1 p2 : Pos} {tb : WX → TS} {ts : Addr → Value → Option Addr → TS}
/-- try: .. except C as n: .., where the body lets out nothing but errors of C: what is caught is told in the heap behind the clause -/
theorem ps_try_kept (st : X.stack = X.env :: X.outer) (fl : X.env.frame = some X.env.locals) (x0 : X.ex = []) (nd : X.N.Nodup) (at_ : X.N[i]? = some nm) (lc : X.env.kindOf nm = some .local) (cn : Names X x c)
    (tbd : ∀ (W : WX) (pn : List (Addr × Obj)) (xe : Value → Shared → Prop), Takes (X.tr pn xe) W → PassesOwn (model X.prog X.w) X.A X.env xe → PSs (X.tr pn xe) body (tb W))
    (tsu : ∀ (a : Addr) (oe : Obj) (cls : Value) (d : Option Addr) (pn : List (Addr × Obj)), Zc cls d oe → (∃ vs, oe.data = .fields vs) → PSs (X.suite a ((a, oe) :: pn)) (b1 :: su) (ts a cls d)) :
    PS X (.Try body [.ExceptHandler (some (.Name x px)) (some nm) (b1 :: su) p1] [] [] p2) (fun D σ H => tb (wKept X.K c i ts D) D σ H) := by
  refine ⟨fun pins s σ H D I h => wpAny_Try_except ?_⟩
  have ok := I.ok
  have fr : X.A.frames = some (X.env :: X.outer) := by rw [ok.frames, st]
  refine wpAny_mono ((tbd (wKept X.K c i ts D) (X.pn ++ pins) _ ?take PassesOwn.looking).run [] s σ H D (I.toTry _) h) (fun f s1 r => ?done) (fun e s1 r => r)
  case done =>
    cases f with
    | next =>
      obtain ⟨σ1, H1, J, r⟩ := r
      exact wpAny_execs_nil ⟨σ1, H1, J.ofTry ok, r⟩
    | ret u =>
      obtain ⟨v, σ1, H1, J, e, r⟩ := r
      exact ⟨v, σ1, H1, J.ofTry ok, e, r⟩
    | brk =>
      obtain ⟨σ1, H1, J, r⟩ := r
      exact ⟨σ1, H1, J.ofTry ok, r⟩
    | cont =>
      obtain ⟨σ1, H1, J, r⟩ := r
      exact ⟨σ1, H1, J.ofTry ok, r⟩
  case take =>
    rintro u s1 ⟨a, B, s0, ps, σ1, H1, cls, d, rfl, J0, inB, up, sky, na, os, ag, mt, yes⟩
    have J := J0.ofTry (pn' := ps) ok
    have sky1 : Sky B (X.env :: X.outer) a (Zc cls d) X.env.locals s1.heap := st ▸ sky
    have notB : B.get? a = none := by
      rcases sky1 with k | k | k
      · exact k.2.1
      · exact k.2.1
      · exact k.2.1
    refine Sky.land Zc.steady fr fl sky1 fun h2 f2 up2 => ?_
    have J2 : Inv X pins σ1 H1 { s1 with heap := h2 } := J.landed inB f2.1 (up.trans up2) os ag
    obtain ⟨o2, w2, e2, z2, d2⟩ := f2.there
    have out : a ∉ frs (X.env :: X.outer) := fun hm => by
      obtain ⟨_, o, eo, no⟩ := f2.2.2.1.mem hm
      rw [e2] at eo
      cases eo
      exact no _ d2
    have nL : a ≠ X.env.locals := fun z => out (List.mem_filterMap.mpr ⟨X.env, List.mem_cons_self, by rw [fl, z]⟩)
    have nF : a ∉ X.fs := fun hm => by
      obtain ⟨e, he, q⟩ := List.mem_filterMap.mp hm
      exact out (List.mem_filterMap.mpr ⟨e, List.mem_cons_of_mem _ he, q⟩)
    have gone : ∀ {b : Addr} {o : Obj}, s0.heap.get? b = some o → b ∉ frs X.stack → b ≠ a := fun e n z => by
      have q := inB _ _ e n
      rw [z, notB] at q
      cases q
    have outS : a ∉ frs X.stack := st ▸ out
    have new0 : X.s_0.heap.get? a = none := by
      cases e : X.s_0.heap.get? a with
      | none => rfl
      | some o =>
        obtain ⟨o', e'⟩ := J.base.there a o e (by rw [x0]; exact fun z => nomatch z)
        exact absurd rfl (gone e' outS)
    have nP : ∀ p ∈ X.pn ++ pins, p.1 ≠ a := fun p hp => by
      obtain ⟨g1, _, g3, g4, _⟩ := J.pin p hp
      refine gone g1 fun hm => ?_
      rw [st] at hm
      obtain ⟨e, he, q⟩ := List.mem_filterMap.mp hm
      rcases List.mem_cons.mp he with rfl | he
      · rw [fl] at q
        exact g3 (Option.some.inj q).symm
      · exact g4 (List.mem_filterMap.mpr ⟨e, he, q⟩)
    have S2 := J2.suite e2 d2 na nL nF
    have isC : PySem.W.Looks (model X.prog X.w) h2 (typeOf (.ref a)) cls := fun A Q E s k q => wpAny_typeOf_ref (k _ _ e2) (by rw [z2.1]; exact q)
    have asks := PySem.W.exm_one (M := model X.prog X.w) J2.kIn isC mt
    have named : ∀ {Q : Value → Shared → Prop} {E : Value → Shared → Prop}, Q c { s1 with heap := h2 } → wpAny (model X.prog X.w) (X.A.mark (some (.ref a))) (eval (.Name x px) X.env) Q E { s1 with heap := h2 } := fun q => by
      rcases cn with ⟨g1, g2, g3 | ⟨g3, g4, g5⟩⟩
      · exact ld_glob (X := X.suite a ((a, o2) :: (X.pn ++ pins))) S2 g1 g3 q g2
      · exact ld_blt (X := X.suite a ((a, o2) :: (X.pn ++ pins))) S2 g1 g3 g4 q g5 g2
    refine wpAny_handleBy_cons (codeAny_handlers_test (named (asks.here ?_))) fun q => nomatch q
    refine codeAny_handlers_suite_as (HandSPX.lands_againZ f2 fun h3 f3 up3 => ?_)
    have J3 : Inv X pins σ1 H1 { s1 with heap := h3 } := J.landed inB f3.1 ((up.trans up2).trans up3) os ag
    obtain ⟨o3, w3, e3, z3, d3⟩ := f3.there
    refine store_ok (X := X.suite a ((a, o3) :: (X.pn ++ pins))) (v := .ref a) (J3.suite e3 d3 na nL nF) nd at_ (.inl lc) rfl (fun s4 S4 => ?_) (.inr lc)
    refine wpAny_mono ((tsu a o3 cls d (X.pn ++ pins) z3 ⟨_, d3⟩).run [] s4 _ H1 _ S4 (yes a na)) (fun f s5 r => ?_) (fun _ _ z => False.elim z)
    have close : ∀ {σ5 : L2.St} {H5 : Hp} {Q : Shared → Prop}, Inv (X.suite a ((a, o3) :: (X.pn ++ pins))) [] σ5 H5 s5 → (∀ s6, Inv X pins (σ5.set i none) (upd H5 a (Ke cls d a)) s6 → Q s6) →
        wpAny (model X.prog X.w) X.A (do bindName X.env nm .none; unbindBehindTheSuite X.env nm p1) (fun _ s6 => Q s6) X.xe s5 := fun {σ5 H5 Q} S5 q => by
      obtain ⟨g1, g2, _⟩ := S5.pin (a, o3) (List.mem_append_left _ List.mem_cons_self)
      have g1 : s5.heap.get? a = some o3 := g1
      refine gone_ok (inv_tell (S5.unsuite ok) g2 new0 nL (fun v hv => ?_) nP (ke_ok g1 z3 d3)) nd at_ lc q
      obtain ⟨o, ho, hd⟩ := hv
      rw [g1] at ho
      cases ho
      rw [d3] at hd
      cases hd
    cases f with
    | next =>
      obtain ⟨σ5, H5, S5, r⟩ := r
      exact close S5 fun s6 J6 => ⟨_, _, J6, r⟩
    | ret u =>
      obtain ⟨v, σ5, H5, S5, e, r⟩ := r
      exact close S5 fun s6 J6 => ⟨_, _, _, J6, e, r⟩
    | brk =>
      obtain ⟨σ5, H5, S5, r⟩ := r
      exact close S5 fun s6 J6 => ⟨_, _, J6, r⟩
    | cont =>
      obtain ⟨σ5, H5, S5, r⟩ := r
      exact close S5 fun s6 J6 => ⟨_, _, J6, r⟩
end
/-- an error that is told, with its fields -/
def KeptAt (H : Hp) (a D dd : Addr) (fs : List (Str × V)) : Prop := H a = some (Ke (.ref D) (some dd) a) ∧ H dd = some (.xd fs)
theorem kept_same {H H' : Hp} {a D dd : Addr} {fs : List (Str × V)} (s : Same H H') (h : KeptAt H a D dd fs) : KeptAt H' a D dd fs := ⟨s _ _ h.1, s _ _ h.2⟩
theorem kept_inst {P : Program} {w : World} {H : Hp} {h : Heap} {a D dd : Addr} {fs : List (Str × V)} (hok : HOk P w H h) (k : KeptAt H a D dd fs) :
    ∃ (oe od : Obj) (mA : Str → Option Value), PySem.W.InstAt h a oe D (some od) ∧ h.Ns1 dd mA ∧ (∀ f, RelO (fs.lookup f) (mA f)) ∧ ∀ f, PySem.W.lookIn f od = some (mA f) := by
  obtain ⟨oe, vs, e1, z1, f1⟩ := ke_at hok k.1
  have x : ObjOk P w H h dd (.xd fs) := hok dd _ k.2
  obtain ⟨mA, hns, hr⟩ := x
  obtain ⟨od, ho, hl⟩ := lookIn_ns hns
  refine ⟨oe, od, mA, ⟨e1, z1.1, ?_, ?_⟩, hns, hr, fun f => ?_⟩
  · unfold PySem.W.notCls
    rw [f1] <;> rfl
  · rw [z1.2]
    exact ho
  · exact hl f
/-- e.f of such an error -/
def tKf (K : PySem.W.Frag) (f : Str) (te : TE) : TE := fun σ H Q => te σ H fun x H1 => ∃ (a D dd : Addr) (fs : List (Str × V)) (v : V), x = .ref a ∧ XfC K D ∧ PySem.W.findIn K (.ref D) f = some none ∧ KeptAt H1 a D dd fs ∧ fs.lookup f = some v ∧ Q v H1
theorem pe_kf {X : Cx} {e : Expr} {te : TE} {pos : Pos} {f : Str} (he : PE X e te) (hb : attributeBase e f X.env (eval e X.env) = eval e X.env := by rfl) : PE X (.Attribute e f pos) (tKf X.K f te) := by
  refine ⟨fun pins s σ H Q I h => attr_of hb (thn (he.run pins s σ H _ I h) fun u s1 k => ?_)⟩
  obtain ⟨x, H1, I1, rx, a, D, dd, fs, v, rfl, T, no, ka, l, q⟩ := k
  cases rx
  obtain ⟨oe, od, mA, J, hns, hr, hl⟩ := kept_inst I1.hok ka
  obtain ⟨u, hu, ru⟩ := RelO.some_of (v := v) (o := mA f) (by rw [← l]; exact hr f)
  exact HandSPX.exc_get I1.kIn J T.ga T.gg T.exC (PySem.W.findObj_own T.hdC no rfl (by rw [hl, hu])) (handed_of ru) ⟨v, H1, I1.tok _, ru, q⟩
/-- isinstance(e, c) of such an error -/
def rIsK (K : PySem.W.Frag) : List V → Hp → VK → Prop := fun xs H Q => ∃ (a D dd : Addr) (fs : List (Str × V)) (c : V) (cv : Value) (b : Bool), xs = [.ref a, c] ∧ ExcC K D ∧ KeptAt H a D dd fs ∧ (∀ u, RelV c u → u = cv) ∧ PySem.W.kitOne K (.ref D) cv = some b ∧ Q (.bl b) H
theorem call_isK {X : Cx} : CallR X (.builtin "isinstance") (rIsK X.K) := by
  intro pins s σ H xs us Q I r h
  obtain ⟨a, D, dd, fs, c, cv, b, rfl, C, ka, hcv, e, q⟩ := h
  obtain ⟨oe, od, mA, J, _⟩ := kept_inst I.hok ka
  cases r with
  | cons rx rr => cases rr with
    | cons rt rr =>
      cases rr
      cases rx
      cases hcv _ rt
      obtain ⟨cd, hc, _⟩ := PySem.W.any_some C.hd
      exact PySem.W.kia_one (PySem.W.kitx_exc (by rw [hc]; rfl) C.hg C.hk C.hs C.ha C.hn C.ht C.hm) I.kIn J e (fun z => nomatch z) fun tk => ⟨.bl b, H, I.kept (t' := tk) fun _ _ z => z, rfl, q⟩
end Nb

set_option Elab.async false
set_option maxRecDepth 100000
set_option maxHeartbeats 4000000
/-! An own error that is made and held as a value, not raised: told in the heap at once. -/
namespace Nb
open PySem PySem.Spec PyProof.Rows L2
/-- what the making of an error wishes, where the error is a value -/
def tKept (t : L2.St → Hp → XK → Prop) : TE := fun σ H Q => t σ H fun cls d H' => ∀ a, H' a = none → Q (.ref a) (upd H' a (Ke cls d a))
theorem pe_kept {X : Cx} {e : Expr} {t : L2.St → Hp → XK → Prop} (x0 : X.ex = []) (st : X.stack = X.env :: X.outer) (fl : X.env.frame = some X.env.locals) (he : PMk X e t) : PE X e (tKept t) := by
  refine ⟨fun pins s σ H Q I h => wpAny_mono (he pins s σ H _ I h) (fun u s1 r => ?_) fun _ _ z => z⟩
  obtain ⟨a, oe, vs, s0, H1, cls, d, rfl, J, k, na0, ea, zc, dv, _, na, os, ag, _, q⟩ := r
  have ok := J.ok
  have J1 : Inv X pins σ H1 s1 := by
    have J2 := J.call (ch := []) (h' := s1.heap) (g' := s1.gens) (t' := s1.toks) (d' := s1.drawn) (H' := H1)
      ⟨fun b o e _ _ _ => k b o e, fun b o e _ _ _ => ⟨o.slots, k b o e⟩, fun _ _ _ n _ => n, fun b o e _ => ⟨o, k b o e⟩, fun _ _ e => e, fun _ _ _ e => e, fun b ps e => ⟨#[], by rw [e]; simp⟩⟩ (J.hok.kept k) ag (fun _ z => nomatch z)
    obtain ⟨a1, a2, a3, a4, a5⟩ := s1
    cases (show a5 = s0.os from os)
    exact J2
  have gone : ∀ {b : Addr} {o : Obj}, s0.heap.get? b = some o → b ≠ a := fun e z => by
    rw [z, na0] at e
    cases e
  have n0 : X.s_0.heap.get? a = none := by
    cases e : X.s_0.heap.get? a with
    | none => rfl
    | some o =>
      obtain ⟨o', e'⟩ := J.base.there a o e (by rw [x0]; exact fun z => nomatch z)
      exact absurd rfl (gone e')
  have nL : a ≠ X.env.locals := fun z => by
    obtain ⟨m, hn, _⟩ := J.loc
    obtain ⟨o, _, _, e, _⟩ := hn
    exact gone e z.symm
  refine ⟨.ref a, upd H1 a (Ke cls d a), inv_tell J1 na n0 nL (fun v hv => ?_) (fun p hp => gone (J.pin p hp).1) (ke_ok ea zc dv), rfl, q a na⟩
  obtain ⟨o, ho, hd⟩ := hv
  rw [ea] at ho
  cases ho
  rw [dv] at hd
  cases hd
end Nb

set_option Elab.async false
set_option maxRecDepth 100000
set_option maxHeartbeats 4000000
/-! Own errors over any of four built-in classes, whose __init__ stores its arguments under their names. -/
namespace Nb
open PySem PySem.Spec PyProof.Rows Builtin.ObjectAttr
open L2 hiding del del_ne del_same
/-- the built-in class below -/
structure Over (B nw ini : String) (bm : List Value) : Prop where
  fb : ExcBaseFacts B nw ini bm
  sf : StoreFacts B bm "object.__setattr__" "object"
theorem overV : Over "ValueError" "ValueError.__new__" "ValueError.__init__" [.type "ValueError", .type "Exception", .type "BaseException", .type "object"] := ⟨F.excBase_ValueError, F.store_ValueError⟩
theorem overA : Over "ArithmeticError" "ArithmeticError.__new__" "ArithmeticError.__init__" [.type "ArithmeticError", .type "Exception", .type "BaseException", .type "object"] := ⟨F.excBase_ArithmeticError, F.store_ArithmeticError⟩
theorem overL : Over "LookupError" "LookupError.__new__" "LookupError.__init__" [.type "LookupError", .type "Exception", .type "BaseException", .type "object"] := ⟨F.excBase_LookupError, F.store_LookupError⟩
theorem overR : Over "RuntimeError" "RuntimeError.__new__" "RuntimeError.__init__" [.type "RuntimeError", .type "Exception", .type "BaseException", .type "object"] := ⟨F.excBase_RuntimeError, F.store_RuntimeError⟩
/-- what the written part says of an own error class -/
structure ErrC (K : PySem.W.Frag) (C : Addr) : Prop where
  ov : ∃ B nw ini bm, Over B nw ini bm ∧ PySem.W.excInitIn K C bm nw = true ∧ PySem.W.excOver K C bm = true
  sa : PySem.W.findIn K (.ref C) "__setattr__" = some (some (.builtin "object.__setattr__"))
  tyC : PySem.W.typeIn K (.ref C) = some (.type "type")
  kC : PySem.W.keepIn K (.ref C) = true
  ex : ExcC K C
theorem taker_of {K : PySem.W.Frag} {C : Addr} {f : Str} (h : PySem.W.findIn K (.ref C) f = some none) : PySem.W.takerIn K C f = some none := by
  unfold PySem.W.takerIn
  rw [h]
  rfl
section
variable {X : Cx} {pins : List (Addr × Obj)} {σ : L2.St} {H : Hp} {s : Shared} {a C d : Addr} {f : Str} {y : V} {u : Value} {fs : List (Str × V)} {Q : Unit → Shared → Prop} {E : Value → Shared → Prop} {A : Around}
theorem put_first (T : ErrC X.K C) (I : Inv X pins σ H s) (e : H a = some (exo a C none)) (hno : PySem.W.findIn X.K (.ref C) f = some none) (ry : RelV y u)
    (h : ∀ d s', H d = none → d ≠ a → Inv X pins σ (upd (upd (upd H d (exd d [])) a (exo a C (some d))) d (exd d [(f, y)])) s' → Q () s') : wpAny (model X.prog X.w) A (setAttr (.ref a) f u) Q E s := by
  obtain ⟨t1, ho⟩ := exo_at I.hok e
  obtain ⟨B, nw, ini, bm, ov, q1, q2⟩ := T.ov
  obtain ⟨cd, hc, hd⟩ := PySem.W.any_some T.ex.hd
  obtain ⟨hp, g, dr, t, os⟩ := s
  have la : a < hp.objs.size := Heap.lt_size ho
  refine PySem.W.set_plain (od := none) I.kIn ⟨ho, rfl, rfl, trivial⟩ T.sa ?_
  refine PySem.W.osa_openX (od := none) ov.sf I.kIn ⟨ho, rfl, rfl, trivial⟩ q2 (taker_of hno) fun b => ?_
  refine wpAny_bind (wpAny_pure (wpAny_bind (PySem.W.instanceDict_exc (c2 := .none) ho (PySem.W.looks_clsIn I.kIn hc) hd ?_)))
  have sz : hp.objs.size ≠ a := Nat.ne_of_gt la
  have e1 : (hp.push (PySem.W.dictOf [] 0)).get? hp.objs.size = some (PySem.W.dictOf [] 0) := Heap.get?_push_at rfl rfl
  have n1 : (hp.push (PySem.W.dictOf [] 0)).Ns hp.objs.size (fun _ => none) := ⟨_, #[], _, e1, rfl, fun e he => absurd he (by simp), fun _ => rfl⟩
  have I1 := I.laid (t' := t) (a := hp.objs.size) (o := exd hp.objs.size []) (h' := hp.push (PySem.W.dictOf [] 0)) (fun b o q => Heap.get?_push_of_some _ q) (Nat.le_refl _) (exd_ok (Heap.Ns1.of_empty n1) fun _ => True.intro)
  have h1 : (hp.push (PySem.W.dictOf [] 0)).get? a = some ({ cls := .ref C, data := .fields #[.ref t1, .none, .none, .none, .bool false, .none] } : Obj) := Heap.get?_push_of_some _ ho
  have I2 := I1.write (t' := t) (x := a) (e := a) (o := exo a C (some hp.objs.size)) (h' := (hp.push (PySem.W.dictOf [] 0)).update a fun o => { o with dict := some hp.objs.size }) (by rw [upd_ne (Ne.symm sz), e]; exact True.intro) (.inl rfl)
    (fun b o hb q => (Heap.get?_update_ne _ _ _ _ hb).trans q) ⟨_, Heap.get?_update_self _ h1 rfl⟩ (exo_ok (Heap.get?_update_self _ h1 rfl))
  have n2 : ((hp.push (PySem.W.dictOf [] 0)).update a fun o => { o with dict := some hp.objs.size }).Ns hp.objs.size (fun _ => none) :=
    ⟨_, #[], _, (Heap.get?_update_ne _ _ _ _ sz).trans e1, rfl, fun e he => absurd he (by simp), fun _ => rfl⟩
  show wpAny _ _ (storeInDict hp.objs.size (.str f _) f u) _ _ _
  refine PySem.HandSPX.store_in_new n2 fun h' tk' hn' hs => ?_
  have at2 : upd (upd H hp.objs.size (exd hp.objs.size [])) a (exo a C (some hp.objs.size)) hp.objs.size = some (exd hp.objs.size []) := by rw [upd_ne sz, upd_same]
  have hd2 : ∃ o, h'.get? hp.objs.size = some o := by
    obtain ⟨o, _, _, e', _⟩ := hn'
    exact ⟨o, e'⟩
  exact h _ _ (I.hok.fresh (Nat.le_refl _)) sz (I2.write (t' := tk') (x := hp.objs.size) (e := hp.objs.size) (o := exd hp.objs.size [(f, y)]) (by rw [at2]; exact True.intro) (.inl rfl) (fun b o hb q => (hs.2 b hb).trans q) hd2
    (exd_ok hn' (relO_put (fs := []) ry fun _ => True.intro)))
theorem put_more (T : ErrC X.K C) (I : Inv X pins σ H s) (e : H a = some (exo a C (some d))) (ed : H d = some (exd d fs)) (hl : fs.length ≤ 900) (hno : PySem.W.findIn X.K (.ref C) f = some none) (ry : RelV y u)
    (h : ∀ s', Inv X pins σ (upd H d (exd d ((f, y) :: fs))) s' → Q () s') : wpAny (model X.prog X.w) A (setAttr (.ref a) f u) Q E s := by
  obtain ⟨t1, ho⟩ := exo_at I.hok e
  obtain ⟨mA, hns, rel⟩ := exd_at I.hok ed
  have hw := within_of rel
  obtain ⟨B, nw, ini, bm, ov, q1, q2⟩ := T.ov
  obtain ⟨cd, hc, hd⟩ := PySem.W.any_some T.ex.hd
  obtain ⟨hp, g, dr, t, os⟩ := s
  obtain ⟨oD, _, _, hoD, _, _⟩ := hns.count hw
  refine PySem.W.set_plain (od := some oD) I.kIn ⟨ho, rfl, rfl, hoD⟩ T.sa ?_
  refine PySem.W.osa_openX (od := some oD) ov.sf I.kIn ⟨ho, rfl, rfl, hoD⟩ q2 (taker_of hno) fun b => ?_
  refine wpAny_bind (wpAny_pure (wpAny_bind (wpAny_bind (wpAny_loadPart ho (wpAny_bind ((PySem.W.looks_clsIn I.kIn hc).at ?_))))))
  rw [hd]
  refine wpAny_pure (a := some d) ?_
  refine PySem.OEX.store_in_old hns hw (by rw [List.length_map]; omega) fun h' tk' hn' hs => ?_
  have hd2 : ∃ o, h'.get? d = some o := by
    obtain ⟨o, _, _, e', _⟩ := hn'
    exact ⟨o, e'⟩
  exact h _ (I.write (t' := tk') (x := d) (e := d) (o := exd d ((f, y) :: fs)) (by rw [ed]; exact True.intro) (.inl rfl) (fun b o hb q => (hs.2 b hb).trans q) hd2 (exd_ok hn' (relO_put ry rel)))
end
/-- H is H0 and, at a, an error of C that is being made, with the fields fs -/
def Mkg (H0 H : Hp) (a C : Addr) (fs : List (Str × V)) : Prop := H0 a = none ∧ ((fs = [] ∧ H = upd H0 a (exo a C none)) ∨ ∃ d, H0 d = none ∧ d ≠ a ∧ H = upd (upd H0 d (exd d fs)) a (exo a C (some d)))
def tPut (K : PySem.W.Frag) (f : Str) (to te : TE) : TS := fun D σ H => te σ H fun y H1 => to σ H1 fun x H2 => ∃ (a C : Addr) (H0 : Hp) (fs : List (Str × V)), x = .ref a ∧ ErrC K C ∧ PySem.W.findIn K (.ref C) f = some none ∧ fs.length ≤ 900 ∧ Mkg H0 H2 a C fs ∧ ∀ H3, Mkg H0 H3 a C ((f, y) :: fs) → D.nx σ H3
theorem ps_put {X : Cx} {o e : Expr} {to te : TE} {f : Str} {p' pos : Pos} (ho : PE X o to) (he : PE X e te) (hs : swapsWith e (some (.Attribute o f p')) pos.line X.env = pure false := by rfl) : PS X (.Assign [.Attribute o f p'] e pos) (tPut X.K f to te) := by
  refine ⟨fun pins s σ H D I h => ?_⟩
  refine plainObj_wpAny_Assign_Attribute (thn (he.run pins s σ H _ I h) fun v s1 ⟨y, H1, I1, r1, q1⟩ => thn (ho.run pins s1 σ H1 _ I1 q1) fun u s2 ⟨x, H2, I2, r2, a, C, H0, fs, ex, T, hno, hl, mk, q⟩ => ?_) hs
  subst ex
  cases (show u = Value.ref a from r2)
  obtain ⟨na, ⟨rfl, rfl⟩ | ⟨d, nd, ne, rfl⟩⟩ := mk
  · refine put_first T I2 upd_same hno r1 fun d s' n ne J => ⟨σ, _, J, q _ ⟨na, .inr ⟨d, ?_, ne, ?_⟩⟩⟩
    · rw [upd_ne ne] at n
      exact n
    · funext b
      by_cases h1 : b = d
      · subst h1
        rw [upd_same, upd_ne ne, upd_same]
      · rw [upd_ne h1]
        by_cases h2 : b = a
        · subst h2
          rw [upd_same, upd_same]
        · rw [upd_ne h2, upd_ne h1, upd_ne h2, upd_ne h2, upd_ne h1]
  · refine put_more T I2 upd_same (by rw [upd_ne ne, upd_same]) hl hno r1 fun s' J => ⟨σ, _, J, q _ ⟨na, .inr ⟨d, nd, ne, ?_⟩⟩⟩
    funext b
    by_cases h1 : b = d
    · subst h1
      rw [upd_same, upd_ne ne, upd_same]
    · rw [upd_ne h1]
      by_cases h2 : b = a
      · subst h2
        rw [upd_same, upd_same]
      · rw [upd_ne h2, upd_ne h2, upd_ne h1, upd_ne h1]
/-- __init__ of such a class: the fields are its parameters behind self -/
def spMk (K : PySem.W.Frag) (fs : List Str) : Sp := fun vs H Q _ => ∃ (a C : Addr) (H0 : Hp) (ws : List V), vs = .ref a :: ws ∧ ws.length = fs.length ∧ ErrC K C ∧ (∀ f ∈ fs, PySem.W.findIn K (.ref C) f = some none) ∧ Mkg H0 H a C [] ∧
  ∀ H', Mkg H0 H' a C (fs.zip ws).reverse → Q .non H'
/-- an error of C(e, ..), made: a dict with its fields is left -/
def tMkE0 (C : Addr) (fs : List Str) (ta : TA) : L2.St → Hp → XK → Prop := fun σ H Q => ∃ R : List V → Hp → Prop, ta σ H R ∧ ∀ vs H1, R vs H1 → vs.length = fs.length ∧ ∀ d, H1 d = none → Q (.ref C) (some d) (upd H1 d (.xd (fs.zip vs).reverse))
def tMkE (C : Addr) (fs : List Str) (ta : TA) : L2.St → Hp → XK → Prop := fun σ H Q => ta σ H fun vs H1 => vs.length = fs.length ∧ ∀ d, H1 d = none → Q (.ref C) (some d) (upd H1 d (.xd (fs.zip vs).reverse))
/-- all that is known of an own error class -/
structure Er (P : Program) (w : World) (K : PySem.W.Frag) (mg : Str → Option Value) (base : Heap) (x : Str) (C : Addr) (fs : List Str) : Prop where
  T : ErrC K C
  g : mg x = some (.ref C)
  no : ∀ f ∈ fs, PySem.W.findIn K (.ref C) f = some none
  len : fs.length ≤ 900
  pos : 1 ≤ fs.length
  ini : ∃ (fI : Addr) (fd : FuncData), PySem.W.findIn K (.ref C) "__init__" = some (some (.ref fI)) ∧ PySem.W.typeIn K (.ref fI) = some (.type "function") ∧ Binds K fd ("self" :: fs) [] ∧ FnOk P w K mg base CX0 1 fI fd ("self" :: fs) (spMk K fs)
section
variable {X : Cx} {x : Str} {C : Addr} {fs : List Str} {e : Expr} {es : List Expr} {ta : TA} {p pos : Pos}
theorem pmk_err0 (R : Er X.prog X.w X.K X.mg X.base x C fs) (hr : Room 2 X.A) (hg : Gl X x) (ha : PA X (e :: es) ta)
    (hdb : (x == ("__debug__" : Str)) = false := by decide) (he : starEach (e :: es) X.env = (false, eval e X.env) :: starEach es X.env := by rfl) (hpl : (backTo pos (starEach es X.env)).any (·.1) = false := by rfl) :
    PMk X (.Call (.Name x p) (e :: es) [] pos) (tMkE0 C fs ta) := by
  intro pins s σ H Q I ⟨R0, h, imp⟩
  obtain ⟨B, nw, ini, bm, ov, q1, _⟩ := R.T.ov
  obtain ⟨fI, fd, iC, tI, hb, F1⟩ := R.ini
  refine wpAny_Call_Name_kw (ld_glob I hg R.g ?_ hdb)
  refine PySem.W.callWith_K (h₀ := X.base) I.ok.mod.kin R.T.kC (thn (ha.run pos pins s σ H _ I h) fun us s1 ⟨vs, H1, I1, r1, q0⟩ => ⟨I1.kIn, ?_⟩) he hpl
  show wpAny _ _ (call (.ref C) us) _ _ _
  obtain ⟨hz, qf⟩ := imp vs H1 q0
  obtain ⟨hp, g, dr, tk, os⟩ := s1
  obtain ⟨nm, N, qn, bs, bm', hdct, sn, sub, ab, col, dd, k0, k1, k2, k3, k5, hC, hT⟩ := PySem.W.excInit_of I1.kIn q1
  have up1 : hp.objs.size ≤ hp.objs.size + 1 := Nat.le_succ _
  have hn : H1 (hp.objs.size + 1) = none := I1.hok.fresh up1
  have kk : ∀ b o, hp.get? b = some o → ((hp.push (PySem.W.kdv_tup us)).push (PySem.HandSPX.excO C hp.objs.size)).get? b = some o := fun b o e => Heap.get?_push_of_some _ (Heap.get?_push_of_some _ e)
  have ge : ((hp.push (PySem.W.kdv_tup us)).push (PySem.HandSPX.excO C hp.objs.size)).get? (hp.objs.size + 1) = some (PySem.HandSPX.excO C hp.objs.size) := by heap_get
  have I2 : Inv X pins σ (upd H1 (hp.objs.size + 1) (exo (hp.objs.size + 1) C none)) ⟨(hp.push (PySem.W.kdv_tup us)).push (PySem.HandSPX.excO C hp.objs.size), g, dr, tk, os⟩ :=
    I1.laid (t' := tk) (a := hp.objs.size + 1) (o := exo (hp.objs.size + 1) C none) (h' := (hp.push (PySem.W.kdv_tup us)).push (PySem.HandSPX.excO C hp.objs.size)) kk up1 (exo_ok ge)
  have r2 : Vals (V.ref (hp.objs.size + 1) :: vs) (Value.ref (hp.objs.size + 1) :: us) := .cons rfl r1
  have zl : us.length = fs.length := by rw [← Paired.length r1, hz]
  have hus : us.length ≤ sizeLine := by
    rw [zl, sizeLine_eq]
    exact Nat.le_trans R.len (by decide)
  refine wpAny_call (PySem.HandSPX.call_own ov.fb hT hC (PySem.W.looks_findIn I1.kIn iC) (fun self => PySem.W.bind_fn I1.kIn self tI) hus
    (codeAny_mono (F1.run _ X.stack _ _ ⟨Value.ref (hp.objs.size + 1) :: us, []⟩ (Value.ref (hp.objs.size + 1) :: us)
      (Q := fun v H2 => v = .non ∧ Mkg H1 H2 (hp.objs.size + 1) C (fs.zip vs).reverse) _ (fun _ _ _ => False) (hr.make C us []) (I2.env0.make C us [])
      (by simpa using hb _ (Value.ref (hp.objs.size + 1) :: us) I2.kIn (by rw [List.length_append, List.length_cons, zl]; rfl)) r2 ⟨_, C, H1, vs, rfl, hz, R.T, R.no, ⟨hn, .inl ⟨rfl, rfl⟩⟩, fun H' m => ⟨rfl, m⟩⟩) fun r s' hq' => ?_))
  cases r with
  | error er => exact False.elim hq'
  | ok fl =>
    cases fl with
    | ret u =>
      obtain ⟨v, H2, os2, bare2, un2, hok2, rv, ev, na, mk⟩ := hq'
      subst ev
      obtain ⟨h2, g2, d2, t2, os'⟩ := s'
      refine ⟨rv, ?_⟩
      rcases mk with ⟨mk, _⟩ | ⟨d, nd, ne, rfl⟩
      · have l0 := congrArg List.length mk
        rw [List.length_reverse, List.length_zip, ← hz, Nat.min_self, hz, List.length_nil] at l0
        have := R.pos
        omega
      · refine mk_end (raises_own R.T.ex.hs R.T.tyC) I1 up1 kk un2 hok2 os2 bare2 upd_same (by rw [upd_ne ne, upd_same]) nd ?_
        have e : upd (L2.del (upd (upd H1 d (exd d (fs.zip vs).reverse)) (hp.objs.size + 1) (exo (hp.objs.size + 1) C (some d))) (hp.objs.size + 1)) d (.xd (fs.zip vs).reverse) = upd H1 d (.xd (fs.zip vs).reverse) := by
          funext b
          by_cases h1 : b = d
          · rw [h1, upd_same, upd_same]
          · rw [upd_ne h1, upd_ne h1]
            by_cases h2 : b = hp.objs.size + 1
            · rw [h2, L2.del_same, hn]
            · rw [L2.del_ne h2, upd_ne h2, upd_ne h1]
        rw [e]
        exact qf d nd
    | next => exact False.elim hq'
    | brk => exact False.elim hq'
    | cont => exact False.elim hq'
theorem pmk_err (R : Er X.prog X.w X.K X.mg X.base x C fs) (hr : Room 2 X.A) (hg : Gl X x) (ha : PA X (e :: es) ta)
    (hdb : (x == ("__debug__" : Str)) = false := by decide) (he : starEach (e :: es) X.env = (false, eval e X.env) :: starEach es X.env := by rfl) (hpl : (backTo pos (starEach es X.env)).any (·.1) = false := by rfl) :
    PMk X (.Call (.Name x p) (e :: es) [] pos) (tMkE C fs ta) := fun pins s σ H Q I h => pmk_err0 R hr hg ha hdb he hpl pins s σ H Q I ⟨_, h, fun _ _ z => z⟩
end

/-- an error as a value: it is told, with its fields -/
def tErr (C : Addr) (fs : List Str) (ta : TA) : TE := fun σ H Q => ta σ H fun vs H1 => vs.length = fs.length ∧ ∀ H2 a d, Same H1 H2 → H1 a = none → H1 d = none → KeptAt H2 a C d (fs.zip vs).reverse → Q (.ref a) H2
theorem PE.weak {X : Cx} {e : Expr} {t u : TE} (h : PE X e t) (k : ∀ σ H Q, u σ H Q → t σ H Q) : PE X e u := ⟨fun pins s σ H Q I z => h.run pins s σ H Q I (k _ _ _ z)⟩
theorem pe_err {X : Cx} {x : Str} {C : Addr} {fs : List Str} {e : Expr} {es : List Expr} {ta : TA} {p pos : Pos} (x0 : X.ex = []) (st : X.stack = X.env :: X.outer) (fl : X.env.frame = some X.env.locals) (R : Er X.prog X.w X.K X.mg X.base x C fs) (hr : Room 2 X.A) (hg : Gl X x) (ha : PA X (e :: es) ta)
    (hdb : (x == ("__debug__" : Str)) = false := by decide) (he : starEach (e :: es) X.env = (false, eval e X.env) :: starEach es X.env := by rfl) (hpl : (backTo pos (starEach es X.env)).any (·.1) = false := by rfl) :
    PE X (.Call (.Name x p) (e :: es) [] pos) (tErr C fs ta) := by
  refine PE.weak (pe_kept x0 st fl (pmk_err0 R hr hg ha hdb he hpl)) fun σ H Q h => ⟨_, h, fun vs H1 ⟨l, q⟩ => ⟨l, fun d hd a ha => ?_⟩⟩
  have ne : a ≠ d := fun z => by rw [z, upd_same] at ha; cases ha
  have ha1 : H1 a = none := by rw [upd_ne ne] at ha; exact ha
  refine q _ a d ((same_new hd).trans (same_new ha)) ha1 hd ⟨upd_same, ?_⟩
  rw [upd_ne (Ne.symm ne), upd_same]
end Nb
namespace Nb
open PySem PySem.Spec PyProof.Rows Builtin.ObjectAttr
open L2 hiding del del_ne del_same
/-- all of it as one answer of the written part -/
def errB (K : PySem.W.Frag) (C : Addr) (bm : List Value) (nw : String) (fs : List Str) : Bool :=
  PySem.W.excInitIn K C bm nw && (PySem.W.excOver K C bm && (decide (PySem.W.findIn K (.ref C) "__setattr__" = some (some (.builtin "object.__setattr__"))) && (decide (PySem.W.typeIn K (.ref C) = some (.type "type")) && (PySem.W.keepIn K (.ref C) &&
  (decide (PySem.W.findIn K (.ref C) "__getattribute__" = some (some (.builtin "BaseException.__getattribute__"))) && (decide (PySem.W.findIn K (.ref C) "__getattr__" = some none) && (decide (PySem.W.subIn K (.ref C) (.type "BaseException") = some true) && (PySem.W.hasDictIn K C &&
  (decide (PySem.W.findIn K (.ref C) "__class__" = some (some (.builtin "object.__class__"))) && (decide (PySem.W.specialIn K (.builtin "object.__class__") "__get__" = some (some (.builtin "getset_descriptor.__get__"))) && (decide (PySem.W.takesIn K (.builtin "object.__class__") = some true) &&
  (decide (PySem.W.mroIn K C (.type "object") = some true) && fs.all fun f => decide (PySem.W.findIn K (.ref C) f = some none)))))))))))))
theorem er_mk {P : Program} {w : World} {K : PySem.W.Frag} {mg : Str → Option Value} {base : Heap} {x : Str} {C fI : Addr} {fd : FuncData} {fs : List Str} {B nw ini : String} {bm : List Value} (ov : Over B nw ini bm) (g : mg x = some (.ref C)) (q : errB K C bm nw fs = true)
    (i : PySem.W.findIn K (.ref C) "__init__" = some (some (.ref fI))) (t : PySem.W.typeIn K (.ref fI) = some (.type "function")) (b : Binds K fd ("self" :: fs) []) (G : FnOk P w K mg base CX0 1 fI fd ("self" :: fs) (spMk K fs)) (l1 : fs.length ≤ 900) (l2 : 1 ≤ fs.length) : Er P w K mg base x C fs := by
  unfold errB at q
  simp only [Bool.and_eq_true, decide_eq_true_eq, List.all_eq_true] at q
  obtain ⟨q1, q2, q3, q4, q5, q6, q7, q8, q9, q10, q11, q12, q13, q14⟩ := q
  exact ⟨⟨⟨B, nw, ini, bm, ov, q1, q2⟩, q3, q4, q5, ⟨q6, q7, q8, q9, q10, q11, q12, q13⟩⟩, g, q14, l1, l2, fI, fd, i, t, b, G⟩
theorem Er.xf {P : Program} {w : World} {K : PySem.W.Frag} {mg : Str → Option Value} {base : Heap} {x : Str} {C : Addr} {fs : List Str} (R : Er P w K mg base x C fs) : XfC K C := ⟨R.T.ex.hg, R.T.ex.hk, R.T.ex.hs, R.T.ex.hd⟩
/-- isinstance(e, (C, D, ..)) of a kept error -/
def rIsT (K : PySem.W.Frag) : List V → Hp → VK → Prop := fun xs H Q => ∃ (a D dd t : Addr) (fs : List (Str × V)) (cs : List V) (cvs : List Value) (b : Bool), xs = [.ref a, .ref t] ∧ ExcC K D ∧ KeptAt H a D dd fs ∧ SqT K H t cs ∧ (∀ us, Vals cs us → us = cvs) ∧ PySem.W.kitAny K (.ref D) cvs = some b ∧ Q (.bl b) H
theorem call_isKt {X : Cx} : CallR X (.builtin "isinstance") (rIsT X.K) := by
  intro pins s σ H xs us Q I r h
  obtain ⟨a, D, dd, t, fs, cs, cvs, b, rfl, C, ka, ht, hcv, e, q⟩ := h
  obtain ⟨oe, od, mA, J, _⟩ := kept_inst I.hok ka
  obtain ⟨its, ri, ⟨⟨tc, td, tdat, tsl⟩, et, ec1, n2, ed1⟩, _⟩ := I.tuple ht
  cases (show tc = Value.type "tuple" from ec1)
  cases (show tdat = Data.seq its.toArray n2 from ed1)
  cases r with
  | cons rx rr => cases rr with
    | cons rt rr =>
      cases rr
      cases rx
      cases rt
      obtain ⟨cd, hc, _⟩ := PySem.W.any_some C.hd
      have ec := hcv _ ri
      subst ec
      exact PySem.W.kia_tup (PySem.W.kitx_exc (by rw [hc]; rfl) C.hg C.hk C.hs C.ha C.hn C.ht C.hm) I.kIn J et e (fun z => nomatch z) fun tk => ⟨.bl b, H, I.kept (t' := tk) fun _ _ z => z, rfl, q⟩
end Nb

set_option Elab.async false
set_option linter.all false
set_option maxRecDepth 100000
set_option maxHeartbeats 4000000
namespace K09
open PySem Nb
open L2 hiding del del_ne del_same
def topS (i : Nat) : Stmt := PySem.Challenge.pw_nextbehind_k09_worlds_defined.main.body.getD i (.Pass ⟨0, 0, 0, 0⟩)
def clsAt (s : Stmt) (j : Nat) : Stmt := match s with
  | .ClassDef _ _ _ body _ _ _ _ _ _ _ => body.getD j (.Pass ⟨0, 0, 0, 0⟩)
  | _ => .Pass ⟨0, 0, 0, 0⟩
structure Txt (mg : Str → Option Value) : Prop where
  len : mg "len" = none
  isinstance : mg "isinstance" = none
  str : mg "str" = none
  tuple : mg "tuple" = none
  all : mg "all" = none
  set : mg "set" = none
  list : mg "list" = none
  range : mg "range" = none
  enumerate : mg "enumerate" = none
  repr : mg "repr" = none
  max : mg "max" = none
  min : mg "min" = none
  sorted : mg "sorted" = none
  dict : mg "dict" = none
/-- a value that may be a tuple of names; its items need not be data -/
def Thing1 (K : PySem.W.Frag) (H : Hp) (x : V) : Prop :=
  (∃ a xs, x = .ref a ∧ Rd H a (.tup xs) ∧ xs.length ≤ 1000 ∧ ∀ y ∈ xs, Known K H y) ∨ (∀ H', Same H H' → tupOf H' x = none) ∧ ∃ T, TyX K H x (.type T) ∧ kitB T "tuple" = some false
theorem to1 {K : PySem.W.Frag} {H : Hp} {x : V} (h : Thing K H x) : Thing1 K H x := h.imp (fun ⟨a, xs, e, r, l, k⟩ => ⟨a, xs, e, r, l, fun y hy => (k y hy).1⟩) id
theorem long_thing1 {K : PySem.W.Frag} {H : Hp} {a : Addr} {row : List Str} (h : LongRow row) (e : Rd H a (.tup (row.map V.str))) : Thing1 K H (.ref a) := to1 (long_thing h e)
theorem thing1_same {K : PySem.W.Frag} {H H' : Hp} (s : Same H H') {x : V} (h : Thing1 K H x) : Thing1 K H' x := by
  rcases h with ⟨a, xs, h1, h2, h3, h4⟩ | ⟨h1, T, h2, h3⟩
  · exact .inl ⟨a, xs, h1, rd_same s h2, h3, fun y hy => known_same s (h4 y hy)⟩
  · exact .inr ⟨fun H2 s2 => h1 H2 (s.trans s2), T, tyx_same s h2, h3⟩
def spOf1 (K : PySem.W.Frag) (f : Hp → V → Bool) : Sp := fun vs H Q _ => ∃ x, vs = [x] ∧ Thing1 K H x ∧ ∀ H', Same H H' → Q (.bl (f H x)) H'
section
variable {P : Program} {w : World} {K : PySem.W.Frag} {mg : Str → Option Value} {base : Heap}
abbrev s_h_source : Stmt := topS 63
theorem sc_h_source : FnScope ["_law_script", "_law_k", "_law_cell"] ["_law_script", "_law_k"] (defScope s_h_source) := ⟨rfl, rfl, rfl, by decide +kernel, rfl, by decide +kernel, by decide +kernel⟩
theorem ok_h_source {f : Addr} {fd : FuncData} (F : Fun K "_law_source" "_law_source" s_h_source f fd) (T : Txt mg) : FnOk P w K mg base CX0 1 f fd ["_law_script", "_law_k"] (spSource K) := by
  refine F.ok sc_h_source (fun vs H Q E h => ?_) (fun cdv A outer s H vs Q E hr h => ?_)
  · obtain ⟨a, ns, k, rfl, _⟩ := h
    rfl
  · obtain ⟨a, ns, k, rfl, hS, hlen, hk, q⟩ := h
    refine ⟨_, pss_cons (ps_set (i := 2) sc_h_source.nd rfl (Or.inl rfl) (pe_ifExp (pt_cmpR (op_neD hr.units) (pv 0) (pe_lst pa_nil) (nomark _)) (pe_ix ix_list (pv 0) (pe_op op_modN (pv 1) (pe_callB call_len_seq (by rfl) T.len PySem.boot_len (pa_cons (pv 0) pa_nil))) (fun _ _ => rfl)) pe_int))
        (pss_one (ps_ret (pe_lst (pa_cons (pv 2) (pa_cons (pe_op op_mul pe_int (pv 1)) (pa_cons (pe_ifExp (pt_cmpR op_ge (pv 2) (pe_op op_pow pe_int pe_int) (nomark _)) (pe_op op_fdivW (pv 2) (pe_op op_pow pe_int pe_int)) pe_int) pa_nil)))))), ?_⟩
    refine ⟨_, rfl, Nat.zero_le _, fun l hl => ?_⟩
    have s1 : Same H (upd H l (.lst [])) := same_new hl
    refine ⟨.list (ns.map PyData.int), .list [], .lst (s1.seq hS) (dp_ints ns), .lst (SqL.of upd_same) .nil, (fine_ints ns).shaped (by decide), by decide, _, rfl, ?_⟩

    rw [eqv_nil]
    cases ns with
    | nil =>
      refine iteF ?_
      refine ⟨_, rfl, _, rfl, _, _, rfl, rfl, .inl (by decide), _, rfl, _, _, rfl, rfl, ⟨by decide, by decide, by decide⟩, _, _, rfl, rfl, _, rfl, ?_⟩
      refine iteF ⟨(by show 3 ≤ sizeLine; decide), fun p hp => ?_⟩
      have s2 := s1.trans (same_new (o := .lst [.int 1, .int (3 * (k : Int)), .int 0]) hp)
      exact q _ p s2 (s1.free hp) ⟨1, 3 * (k : Int), 0, upd_same, by omega, by omega⟩
    | cons n ns =>
      refine iteT ?_
      have hl2 : ((k : Int).fmod ((((n :: ns).map V.int).length : Nat) : Int)) < (((n :: ns).map V.int).length : Nat) ∧ 0 ≤ (k : Int).fmod ((((n :: ns).map V.int).length : Nat) : Int) :=
        ⟨(fmod_pos _ (by simp; omega)).2, (fmod_pos _ (by simp; omega)).1⟩
      obtain ⟨j, hj⟩ : ∃ j : Nat, (k : Int).fmod ((((n :: ns).map V.int).length : Nat) : Int) = (j : Int) := ⟨_, (Int.toNat_of_nonneg hl2.2).symm⟩
      have hjl : j < (n :: ns).length := by
        have h1 := hl2.1
        rw [hj] at h1
        simp at h1 ⊢
        omega
      refine ⟨_, rfl, _, rfl, _, rfl, a, _, rfl, .inl (s1.seq hS), _, _, rfl, rfl, (by simp; omega), a, _, _, .int (n :: ns)[j], rfl, rfl, s1.seq hS, ?_, ?_⟩
      · rw [hj]
        refine atI_nat ?_
        rw [List.getElem?_map, List.getElem?_eq_getElem hjl]
        rfl
      · refine ⟨_, rfl, _, rfl, _, _, rfl, rfl, .inl (by decide), _, rfl, _, _, rfl, rfl, ⟨by decide, by decide, by decide⟩, _, _, rfl, rfl, _, rfl, ?_⟩
        refine ite2 (fun _ => ?_) (fun _ => ?_)
        · refine ⟨_, rfl, _, _, rfl, rfl, ⟨by decide, by decide, by decide⟩, _, _, rfl, rfl, wide_div (b := 70) (by decide) (by decide) (by decide) (by decide), (by show 3 ≤ sizeLine; decide), fun p hp => ?_⟩
          exact q _ p (s1.trans (same_new hp)) (s1.free hp) ⟨_, 3 * (k : Int), _, upd_same, by omega, by omega⟩
        · refine ⟨(by show 3 ≤ sizeLine; decide), fun p hp => ?_⟩
          exact q _ p (s1.trans (same_new hp)) (s1.free hp) ⟨_, 3 * (k : Int), _, upd_same, by omega, by omega⟩
abbrev s_h_next : Stmt := topS 64
theorem sc_h_next : FnScope ["_law_source_here", "_law_many", "_law_found", "_law_primes", "_law_prime"] ["_law_source_here", "_law_many"] (defScope s_h_next) := ⟨rfl, rfl, rfl, by decide +kernel, rfl, by decide +kernel, by decide +kernel⟩
theorem ok_h_next {f : Addr} {fd : FuncData} (F : Fun K "_law_next" "_law_next" s_h_next f fd) (T : Txt mg) : FnOk P w K mg base CX0 1 f fd ["_law_source_here", "_law_many"] (spNext) := by
  refine F.ok sc_h_next (fun vs H Q E h => ?_) (fun cdv A outer s H vs Q E hr h => ?_)
  · obtain ⟨p, m, b, G, rfl, _⟩ := h
    rfl
  · obtain ⟨p, m, b, G, rfl, m1, m2, ⟨c, n, r, hp, hn, hb⟩, hB, hG, hs, q⟩ := h
    refine ⟨_, pss_cons (ps_if (pt_cmpR op_gt (pe_ix ix_list (pv 0) pe_int (fun _ _ => rfl)) pe_int (nomark _)) (pss_cons (ps_set (i := 2) sc_h_next.nd rfl (Or.inl rfl) (pe_op op_modN (pe_ix ix_list (pv 0) pe_int (fun _ _ => rfl)) (pv 1)))
        (pss_cons (ps_asg (pe_op op_fdivN (pe_ix ix_list (pv 0) pe_int (fun _ _ => rfl)) (pv 1)) (pg_sub (pv 0) pe_int set_list))
        (pss_one (ps_ret (pv 2))))) pss_nil)
        (pss_cons (ps_asg (pe_op op_add (pe_ix ix_list (pv 0) pe_int (fun _ _ => rfl)) pe_int) (pg_sub (pv 0) pe_int set_list))
        (pss_cons (ps_set (i := 3) sc_h_next.nd rfl (Or.inl rfl) (pe_lst (pa_cons pe_int (pa_cons pe_int (pa_cons pe_int (pa_cons pe_int (pa_cons pe_int (pa_cons pe_int (pa_cons pe_int (pa_cons pe_int pa_nil))))))))))
        (pss_cons (ps_set (i := 4) sc_h_next.nd rfl (Or.inl rfl) (pe_ix ix_list (pe_op op_cat (pv 3) (pe_lst (pa_cons pe_int (pa_cons pe_int (pa_cons pe_int pa_nil))))) (pe_op op_modN (pe_ix ix_list (pv 0) pe_int (fun _ _ => rfl)) pe_int) (fun _ _ => rfl)))
        (pss_one (ps_ret (pe_op op_modN (pe_op op_fdivN (pe_op op_modN (pe_op op_pow (pe_op op_add (pe_op op_add (pe_op op_modN (pe_ix ix_list (pv 0) pe_int (fun _ _ => rfl)) (pv 4)) (pe_op op_mul pe_int (pe_ix ix_list (pv 0) pe_int (fun _ _ => rfl)))) pe_int) pe_int) (pv 4)) pe_int) (pv 1))))))), ?_⟩
    refine ⟨_, rfl, p, _, _, _, rfl, rfl, SqL.of hp, atI_nat (j := 2) rfl, _, _, rfl, rfl, _, rfl, ?_⟩
    refine ite2 (fun _ => ?_) (fun _ => ?_)
    · refine ⟨_, rfl, p, _, _, _, rfl, rfl, SqL.of hp, atI_nat (j := 2) rfl, _, rfl, _, _, rfl, rfl, (by omega), ?_⟩
      refine ⟨_, rfl, p, _, _, _, rfl, rfl, SqL.of hp, atI_nat (j := 2) rfl, _, rfl, _, _, rfl, rfl, ⟨by omega, by omega⟩, _, rfl, p, _, _, 2, rfl, rfl, hp, rfl, _, rfl, ?_⟩
      have f1 := fmod_pos r m1
      exact q _ _ f1.1 f1.2 (same_at hs hG) ⟨c, n, _, upd_same, hn, by omega⟩
    · refine ⟨_, rfl, p, _, _, _, rfl, rfl, SqL.of hp, atI_nat (j := 1) rfl, _, _, rfl, rfl, _, rfl, p, _, _, 1, rfl, rfl, hp, rfl, ?_⟩
      refine ⟨(by show 8 ≤ sizeLine; decide), fun l1 hl1 => ?_⟩
      have npl1 : p ≠ l1 := ne_of_none upd_same hl1
      have hp1 : (upd (upd H p (.lst [.int c, .int (n + 1), .int r])) l1 (.lst ((primes.take 8).map V.int))) p = some (.lst [.int c, .int (n + 1), .int r]) := by
        rw [upd_ne npl1]
        exact upd_same
      refine ⟨_, rfl, (by show 3 ≤ sizeLine; decide), fun l2 hl2 => ?_⟩
      have npl2 : p ≠ l2 := ne_of_none hp1 hl2
      have nl12 : l1 ≠ l2 := ne_of_none upd_same hl2
      refine ⟨l1, l2, _, _, rfl, rfl, (by rw [upd_ne nl12]; exact upd_same), upd_same, (by show 8 + 3 ≤ sizeLine; decide), fun l3 hl3 => ?_⟩
      have hp2 : ∀ o2 : HO, (upd (upd (upd H p (.lst [.int c, .int (n + 1), .int r])) l1 (.lst ((primes.take 8).map V.int))) l2 o2) p = some (.lst [.int c, .int (n + 1), .int r]) := fun o2 => by
        rw [upd_ne npl2]
        exact hp1
      have npl3 : p ≠ l3 := ne_of_none (hp2 _) hl3
      have hp3 : ∀ o2 o3 : HO, (upd (upd (upd (upd H p (.lst [.int c, .int (n + 1), .int r])) l1 (.lst ((primes.take 8).map V.int))) l2 o2) l3 o3) p = some (.lst [.int c, .int (n + 1), .int r]) := fun o2 o3 => by
        rw [upd_ne npl3]
        exact hp2 _
      have f0 := fmod_pos (n + 1) (show (1 : Int) ≤ 11 by decide)
      obtain ⟨pr, ep, pr2, pr31⟩ := prime_at _ f0.1 f0.2
      refine ⟨_, rfl, p, _, _, _, rfl, rfl, SqL.of (hp3 _ _), atI_nat (j := 1) rfl, _, _, rfl, rfl, (by show (11 : Int) ≠ 0; decide), l3, _, _, _, rfl, rfl, SqL.of upd_same, ep, ?_⟩
      have f1 := fmod_pos c (show 1 ≤ pr by omega)
      refine ⟨_, rfl, p, _, _, _, rfl, rfl, SqL.of (hp3 _ _), atI_nat (j := 0) rfl, _, rfl, _, _, rfl, rfl, (by omega), _, rfl, p, _, _, _, rfl, rfl, SqL.of (hp3 _ _), atI_nat (j := 1) rfl, _, _, rfl, rfl, .inl (by decide), _, _, rfl, rfl,
        _, _, rfl, rfl, _, _, rfl, rfl, ⟨by decide, by decide, (by omega)⟩, _, rfl, _, _, rfl, rfl, (by omega), _, _, rfl, rfl, ⟨by decide, by decide⟩, _, rfl, _, _, rfl, rfl, (by omega), ?_⟩
      have f2 := fmod_pos ((((c.fmod pr + 7919 * (n + 1) + 1) ^ (5 : Int).toNat).fmod pr).fdiv 13) m1
      have s1 : Same G (upd H p (.lst [.int c, .int (n + 1), .int r])) := same_at hs hG
      exact q _ _ f2.1 f2.2 (((s1.trans (same_new hl1)).trans (same_new hl2)).trans (same_new hl3)) ⟨c, n + 1, r, hp3 _ _, by omega, by omega⟩
abbrev s_is_name : Stmt := topS 23
theorem sc_is_name : FnScope ["thing", "letter"] ["thing"] (defScope s_is_name) := ⟨rfl, rfl, rfl, by decide +kernel, rfl, by decide +kernel, by decide +kernel⟩
def sx_is_name_0 : Scope := { kind := .function, names := [(".0", .local), ("letter", .local)], isGenerator := false, isCoroutine := false, more := [] }
theorem ok_is_name {f : Addr} {fd : FuncData} (F : Fun K "is_name" "is_name" s_is_name f fd) (T : Txt mg) {t_LONGEST_NAME : Tok} (m_LONGEST_NAME : mg "_LONGEST_NAME" = some (.int 8 t_LONGEST_NAME)) : FnOk P w K mg base CX0 1 f fd ["thing"] (spName K) := by
  refine F.ok sc_is_name (fun vs H Q E h => ?_) (fun cdv A outer s H vs Q E hr h => ?_)
  · obtain ⟨x, rfl, _⟩ := h
    rfl
  · obtain ⟨x, rfl, hx, q⟩ := h
    refine ⟨_, pss_cons (ps_if (PW.pt (pw_or (pt_not (pt_val (pe_callB call_isi (by rfl) T.isinstance (by decide +kernel) (pa_cons (pv 0) (pa_cons (pe_bltn (v := .ty "str") (by rfl) T.str (by decide +kernel) rfl) pa_nil))))) (pw_or1 (pt_not (pt_chain op_le op_le pe_int (pe_callB call_len_str (by rfl) T.len PySem.boot_len (pa_cons (pv 0) pa_nil)) (pe_glob (v := .int 8) (by rfl) m_LONGEST_NAME ⟨_, rfl⟩)))))) (pss_one (ps_ret pe_bl)) pss_nil)
        (pss_one (ps_ret (pe_callB (cr_all rfl) (by rfl) T.all (by decide +kernel) (pa_cons (pe_lc (own := [("letter", 1)]) (g := gName 1) (tt := tYes) rfl sc_is_name.nd (pi_str (pv 0)) (blkOk_by (N := ["thing", "letter"]) (sc := (defScope s_is_name)) (by decide +kernel)) (fun _ _ _ _ _ => (pg_name (i := 1) sc_is_name.nd rfl (Or.inl rfl))) (fun _ _ _ _ _ => pts_nil) (fun _ _ _ _ _ => (pe_chain op_le_str op_le_str pe_str (pv 1) pe_str))) pa_nil)))), ?_⟩
    rcases hx with ⟨z, rfl, hz, _⟩ | ⟨hno, ty, hty, hk⟩
    · refine ⟨_, rfl, _, _, .type "str", _, true, rfl, .ty _, .base (.str z), kit_ty (by decide +kernel), _, rfl, ?_⟩
      refine iteF ⟨_, rfl, z, rfl, Nat.le_of_lt (small1000 hz), ?_⟩
      refine ⟨_, _, rfl, rfl, _, rfl, ?_⟩
      have big : ∀ b : Bool, isNm z = ((decide ((1 : Int) ≤ (z.length : Int)) && decide ((z.length : Int) ≤ 8)) && z.cps.toList.all letterOk) := fun _ => rfl
      by_cases h1 : (1 : Int) ≤ (z.length : Int)
      · rw [decide_eq_true h1]
        refine iteT ?_
        refine ⟨_, _, rfl, rfl, _, rfl, ?_⟩
        by_cases h8 : (z.length : Int) ≤ 8
        · rw [decide_eq_true h8]
          refine iteF ?_
          refine ⟨_, rfl, z, rfl, fun D hD => ?_⟩
          refine lc_str (x := z) (fun i H' => Same H H' ∧ H' D = some (.lst (((z.cps.toList.take i).map letterOk).map V.bl))) ⟨same_new hD, upd_same⟩ (fun i c H' hc ⟨s1, eD⟩ => ?_) (fun H' ⟨s1, eD⟩ => ?_)
          · refine ⟨rfl, ?_⟩
            have hil : i < z.cps.toList.length := (List.getElem?_eq_some_iff.mp hc).1
            have hzl : z.cps.toList.length = z.length := Array.length_toList
            have next : (((z.cps.toList.take i).map letterOk).map V.bl) ++ [V.bl (letterOk c)] = (((z.cps.toList.take (i + 1)).map letterOk).map V.bl) := by
              rw [List.take_add_one, hc]
              simp
            have sm : (((z.cps.toList.take i).map letterOk).map V.bl).length < sizeLine := by
              rw [List.length_map, List.length_map, List.length_take]
              exact Nat.lt_of_le_of_lt (Nat.min_le_left _ _) (small1000 (by omega))
            refine ⟨_, rfl, _, _, rfl, rfl, _, rfl, ?_⟩
            by_cases ha : [c] < lowA
            · rw [decide_eq_true (show ((⟨#[c]⟩ : Str).cps.toList < ("a" : Str).cps.toList) from ha)]
              refine iteF ⟨_, eD, sm, same_at s1 hD, ?_⟩
              have e : letterOk c = false := by
                unfold letterOk
                rw [decide_eq_true ha]
                rfl
              rw [← next, e]
              exact upd_same
            · rw [decide_eq_false (show ¬ ((⟨#[c]⟩ : Str).cps.toList < ("a" : Str).cps.toList) from ha)]
              refine iteT ⟨_, _, rfl, rfl, _, eD, sm, same_at s1 hD, ?_⟩
              have e : letterOk c = !decide (lowZ < [c]) := by
                unfold letterOk
                rw [decide_eq_false ha]
                rfl
              rw [← next, e]
              exact upd_same
          · refine ⟨D, _, rfl, SqL.of eD, ?_⟩
            have e : (((z.cps.toList.take z.cps.toList.length).map letterOk).all id) = isNm z := by
              rw [List.take_length]
              unfold isNm
              rw [decide_eq_true h1, decide_eq_true h8]
              simp [List.all_map]
            rw [e]
            exact q H' s1
        · rw [decide_eq_false h8]
          refine iteT ?_
          have e : nameV (.str z) = false := by
            show isNm z = false
            unfold isNm
            rw [decide_eq_false h8]
            simp
          rw [← e]
          exact q H (Same.refl H)
      · rw [decide_eq_false h1]
        refine iteF ⟨_, rfl, ?_⟩
        refine iteT ?_
        have e : nameV (.str z) = false := by
          show isNm z = false
          unfold isNm
          rw [decide_eq_false h1]
          simp
        rw [← e]
        exact q H (Same.refl H)
    · refine ⟨_, rfl, _, _, .type ty, _, false, rfl, .ty _, hty, kit_ty hk, _, rfl, ?_⟩
      refine iteT ?_
      have e : nameV x = false := by
        cases x with
        | str z => exact absurd rfl (hno z)
        | _ => rfl
      rw [← e]
      exact q H (Same.refl H)
abbrev s_are_names : Stmt := topS 24
theorem sc_are_names : FnScope ["thing", "item"] ["thing"] (defScope s_are_names) := ⟨rfl, rfl, rfl, by decide +kernel, rfl, by decide +kernel, by decide +kernel⟩
def sx_are_names_0 : Scope := { kind := .function, names := [(".0", .local), ("item", .local), ("is_name", .globalImplicit)], isGenerator := false, isCoroutine := false, more := [] }
theorem ok_are_names {f : Addr} {fd : FuncData} (F : Fun K "are_names" "are_names" s_are_names f fd) (T : Txt mg) (D_is_name : Dn P w K mg base CX0 1 "is_name" ["thing"] (spName K)) : FnOk P w K mg base CX0 2 f fd ["thing"] (spOf1 K namesV) := by
  refine F.ok sc_are_names (fun vs H Q E h => ?_) (fun cdv A outer s H vs Q E hr h => ?_)
  · obtain ⟨x, rfl, _⟩ := h
    rfl
  · obtain ⟨x, rfl, hx, q⟩ := h
    refine ⟨_, pss_one (ps_ret (pe_and (pe_callB call_isi (by rfl) T.isinstance (by decide +kernel) (pa_cons (pv 0) (pa_cons (pe_bltn (v := .ty "tuple") (by rfl) T.tuple (by decide +kernel) rfl) pa_nil))) (pe_one (pe_callB (cr_all rfl) (by rfl) T.all (by decide +kernel) (pa_cons (pe_lc (own := [("item", 1)]) (g := gName 1) (tt := tYes) rfl sc_are_names.nd (pi_tup (pv 0)) (blkOk_by (N := ["thing", "item"]) (sc := (defScope s_are_names)) (by decide +kernel)) (fun _ _ _ _ _ => (pg_name (i := 1) sc_are_names.nd rfl (Or.inl rfl))) (fun _ _ _ _ _ => pts_nil) (fun _ _ _ _ _ => (pe_D D_is_name (hr.mono (by decide)) (by rfl) pass0 (pa_cons (pv 1) pa_nil)))) pa_nil))))), ?_⟩
    rcases hx with ⟨a, xs, rfl, ha, hl, hi⟩ | ⟨ht, ty, hty, hk⟩
    · refine ⟨_, rfl, _, _, .type "tuple", _, true, rfl, .ty _, rd_ty ha, kit_ty (by decide +kernel), _, rfl, ?_⟩
      refine iteT ⟨_, rfl, a, rfl, ⟨_, (.inl ha : SqT K H a xs)⟩, fun D hD => ?_⟩
      refine lc_tup (K := K) (a := a) (xs := xs) (fun i H' => Same H H' ∧ H' D = some (.lst (((xs.take i).map nameV).map V.bl))) ⟨same_new hD, upd_same⟩ (fun i H' _ ⟨s1, _⟩ => (.inl (rd_same s1 ha))) (fun i y H' hy ⟨s1, eD⟩ => ?_) (fun H' ⟨s1, eD⟩ => ?_)
      · refine ⟨rfl, _, rfl, y, rfl, known_same s1 (hi y (List.mem_of_getElem? hy)), fun H2 s2 => ?_⟩
        refine ⟨_, s2 _ _ eD, ?_, same_at (s1.trans s2) hD, ?_⟩
        · rw [List.length_map, List.length_map, List.length_take]
          exact Nat.lt_of_le_of_lt (Nat.min_le_right _ _) (small1000 hl)
        · rw [upd_same, List.take_add_one, hy]
          simp
      · refine ⟨D, _, rfl, SqL.of eD, ?_⟩
        have e : ((xs.take xs.length).map nameV).all id = namesV H (.ref a) := by
          unfold namesV
          rw [tupOf_at ha, List.take_length]
          simp [List.all_map]
        rw [e]
        exact q H' s1
    · refine ⟨_, rfl, _, _, .type ty, _, false, rfl, .ty _, hty, kit_ty hk, _, rfl, ?_⟩
      refine iteF ?_
      have e : namesV H x = false := by
        unfold namesV
        rw [ht _ (Same.refl _)]
      rw [← e]
      exact q H (Same.refl H)
abbrev s_are_different_names : Stmt := topS 25
theorem sc_are_different_names : FnScope ["thing"] ["thing"] (defScope s_are_different_names) := ⟨rfl, rfl, rfl, by decide +kernel, rfl, by decide +kernel, by decide +kernel⟩
theorem ok_are_different_names {f : Addr} {fd : FuncData} (F : Fun K "are_different_names" "are_different_names" s_are_different_names f fd) (T : Txt mg) (D_are_names : Dn P w K mg base CX0 2 "are_names" ["thing"] (spOf1 K namesV)) : FnOk P w K mg base CX0 3 f fd ["thing"] (spOf1 K diffOf) := by
  refine F.ok sc_are_different_names (fun vs H Q E h => ?_) (fun cdv A outer s H vs Q E hr h => ?_)
  · obtain ⟨x, rfl, _⟩ := h
    rfl
  · obtain ⟨x, rfl, hx, q⟩ := h
    refine ⟨_, pss_one (ps_ret (pe_and (pe_D D_are_names (hr.mono (by decide)) (by rfl) pass0 (pa_cons (pv 0) pa_nil)) (pe_one (pe_cmpR op_eq (pe_manyS (by rfl) T.len (by rfl) T.set (pv 0)) (pe_callB call_len_seq (by rfl) T.len PySem.boot_len (pa_cons (pv 0) pa_nil)) (nomark _))))), ?_⟩
    refine ⟨_, rfl, x, rfl, hx, fun H' s1 => ?_⟩
    refine ⟨_, rfl, ?_⟩
    rcases hx with ⟨a, xs, rfl, ha, hl, hi⟩ | ⟨ht, ty, hty, hk⟩
    · have e1 : namesV H (.ref a) = xs.all nameV := by
        unfold namesV
        rw [tupOf_at ha]
      have e2 : diffOf H (.ref a) = diffV xs := by
        unfold diffOf
        rw [tupOf_at ha]
      rw [e1]
      by_cases hn : xs.all nameV = true
      · rw [hn]
        refine iteT ⟨_, rfl, a, strsOf xs, rfl, ?_, ?_, _, rfl, a, xs, rfl, .inr ((.inl (rd_same s1 ha))), rfl, ?_⟩
        · rw [← strs_map hn]
          exact (.inl (rd_same s1 ha))
        · have : (strsOf xs).length ≤ xs.length := List.length_filterMap_le ..
          omega
        · have e3 : decide (V.int ((seen (strsOf xs)).length : Nat) = V.int (xs.length : Nat)) = diffOf H (.ref a) := by
            rw [e2]
            unfold diffV
            rw [hn, Bool.true_and, Bool.eq_iff_iff]
            simp
          show Q (.bl (decide (V.int ((seen (strsOf xs)).length : Nat) = V.int (xs.length : Nat)))) H'
          rw [e3]
          exact q H' s1
      · have hf : xs.all nameV = false := by simpa using hn
        rw [hf]
        refine iteF ?_
        have e3 : diffOf H (.ref a) = false := by
          rw [e2]
          unfold diffV
          rw [hf]
          rfl
        rw [← e3]
        exact q H' s1
    · have e1 : namesV H x = false := by
        unfold namesV
        rw [ht _ (Same.refl _)]
      have e2 : diffOf H x = false := by
        unfold diffOf
        rw [ht _ (Same.refl _)]
      rw [e1]
      refine iteF ?_
      rw [← e2]
      exact q H' s1
end
end K09

set_option Elab.async false
set_option linter.all false
set_option maxRecDepth 100000
set_option maxHeartbeats 4000000
namespace K09
open PySem Nb
open L2 hiding del del_ne del_same
section
variable {P : Program} {w : World} {K : PySem.W.Frag} {mg : Str → Option Value} {base : Heap}
abbrev s_Merge__prepare : Stmt := clsAt (topS 32) 4
theorem sc_Merge__prepare : FnScope ["self", "name"] ["self", "name"] (defScope s_Merge__prepare) := ⟨rfl, rfl, rfl, by decide +kernel, rfl, by decide +kernel, by decide +kernel⟩
theorem ok_Merge__prepare {f : Addr} {fd : FuncData} (F : Fun K "_prepare" "Merge._prepare" s_Merge__prepare f fd) {C_Merge : Addr} (T : Txt mg) (K_Merge : Kl K mg "Merge" C_Merge ["rows", "places", "gone", "heads", "behind", "ready"]) : FnOk P w K mg base CX0 1 f fd ["self", "name"] (spPrepare C_Merge) := by
  refine F.ok sc_Merge__prepare (fun vs H Q E h => ?_) (fun cdv A outer s H vs Q E hr h => ?_)
  · obtain ⟨m, T0, P0, g, hd, b, rows, F0, L, gone, hs, rdy, x, rfl, _⟩ := h
    rfl
  · obtain ⟨m, T0, P0, g, hd, b, rows, F0, L, gone, hs, rdy, x, rfl, M, S, hx, nx, q⟩ := h
    refine ⟨_, pss_one (ps_if (pt_cmpR op_eq (pe_dget (hu_of hr) (pe_fld (pv 0) rfl) (pv 1) (fun _ _ => rfl)) pe_int (nomark _)) (pss_one (ps_fldaug (pv 0) (pe_op op_oneShl pe_int (pe_ix ix_tup (pe_ix ix_list (pe_dget (hu_of hr) (pe_fld (pv 0) rfl) (pv 1) (fun _ _ => rfl)) pe_int (fun _ _ => rfl)) pe_int (fun _ _ => rfl))) in_orI)) pss_nil), ?_⟩
    obtain ⟨dx, ho⟩ := S.obj
    obtain ⟨bs, hb, lb, kb⟩ := S.hb
    obtain ⟨n, hv, hn⟩ := kb x hx
    have hn := hn nx
    subst hn
    refine ⟨_, rfl, m, C_Merge, dx, _, .ref b, rfl, ho, K_Merge.cl, K_Merge.no "behind" (by simp), rfl, _, rfl, b, _, rfl, hv ▸ DGet.k (k := Sum.inr x) hb, rfl, _, rfl, ?_⟩
    by_cases z : Mg.behN rows hs x = 0
    · have e : decide (V.int ((Mg.behN rows hs x : Nat) : Int) = V.int 0) = true := by
        rw [z]
        rfl
      rw [e]
      refine iteT ?_
      have mx : x ∈ rows.flatten := mem_names.mp hx
      have fit := M.fit
      obtain ⟨as, el, f2⟩ := M.pl.l x (by rw [Mg.names_trips]; exact mx)
      rw [Mg.pl_trips x rows 0 fit.nd] at f2
      obtain ⟨a, tl, ep⟩ := Mg.plc_head rows 0 mx
      rw [Nat.zero_add] at ep
      rw [ep] at f2
      cases f2 with
      | @cons t _ ts _ ht f3 =>
        have hp := rd_same S.same M.pl.d
        have dg : DGet H P0 (.str x) (some (.ref (L x))) := by
          have v := val_map (L := L) (x := x) (xs := seen ((Mg.trips 0 rows).map (·.1)))
          rw [if_pos (by rw [Mg.names_trips]; exact hx)] at v
          exact v ▸ (.inl ⟨_, _, hp, rfl, rfl⟩ : DGet H P0 (kV (Sum.inr x)) _)
        have lt : Mg.first rows x ≤ 134217727 := by
          obtain ⟨r, er, _⟩ := Mg.first_at mx
          have := (List.getElem?_eq_some_iff.mp er).1
          have := fit.few
          omega
        refine ⟨_, rfl, m, C_Merge, dx, _, _, rfl, ho, K_Merge.cl, K_Merge.no "ready" (by simp), rfl, ?_⟩
        refine ⟨_, rfl, m, C_Merge, dx, _, .ref P0, rfl, ho, K_Merge.cl, K_Merge.no "places" (by simp), rfl, _, rfl, P0, _, rfl, dg, ?_⟩
        refine ⟨L x, _, _, _, rfl, rfl, SqL.of (S.same _ _ el), atI_nat (j := 0) rfl, t, _, _, _, rfl, rfl, SqT.of (S.same _ _ ht), atI_nat (j := 0) rfl, _, rfl, rfl, lt, _, _, rfl, rfl, dx, _, ho, (by show 6 < 1000; decide), ?_⟩
        have e2 : Builtin.bitOr ((rdy : Nat) : Int) (2 ^ Mg.first rows x) = ((rdy ||| 2 ^ Mg.first rows x : Nat) : Int) := by
          rw [← PySem.W.kbt_cast, or_nat]
        rw [e2]
        have e3 : Mg.bits rows hs rdy (some x) = rdy ||| 2 ^ Mg.first rows x := by
          simp only [Mg.bits]
          rw [if_pos z]
        rw [e3] at q
        exact q _ (S.ready _)
    · have e : decide (V.int ((Mg.behN rows hs x : Nat) : Int) = V.int 0) = false := by
        rw [decide_eq_false_iff_not]
        intro h
        have : ((Mg.behN rows hs x : Nat) : Int) = 0 := by injection h
        omega
      rw [e]
      refine iteF ?_
      have e3 : Mg.bits rows hs rdy (some x) = rdy := by
        simp only [Mg.bits]
        rw [if_neg z]
      rw [e3] at q
      exact q _ S
abbrev s_Merge__advance : Stmt := clsAt (topS 32) 3
theorem sc_Merge__advance : FnScope ["self", "index", "row", "at", "head"] ["self", "index"] (defScope s_Merge__advance) := ⟨rfl, rfl, rfl, by decide +kernel, rfl, by decide +kernel, by decide +kernel⟩
theorem ok_Merge__advance {f : Addr} {fd : FuncData} (F : Fun K "_advance" "Merge._advance" s_Merge__advance f fd) {C_Merge : Addr} (T : Txt mg) (K_Merge : Kl K mg "Merge" C_Merge ["rows", "places", "gone", "heads", "behind", "ready"]) (D_Merge__prepare : Mn P w K mg base CX0 1 C_Merge "_prepare" ["self", "name"] (spPrepare C_Merge)) : FnOk P w K mg base CX0 2 f fd ["self", "index"] (spAdvance C_Merge) := by
  refine F.ok sc_Merge__advance (fun vs H Q E h => ?_) (fun cdv A outer s H vs Q E hr h => ?_)
  · obtain ⟨m, T0, P0, g, hd, b, rows, F0, L, gone, hs, rdy, x, i, r, h, pd, rfl, _⟩ := h
    rfl
  · obtain ⟨m, T0, P0, g, hd, b, rows, F0, L, gone, hs, rdy, x, i, r, h, pd, rfl, M, S, I, er, eh, ex, gx, q⟩ := h
    have hu := hu_of hr
    refine ⟨_, pss_cons (ps_set (i := 2) sc_Merge__advance.nd rfl (Or.inl rfl) (pe_ix ix_tup (pe_fld (pv 0) rfl) (pv 1) (fun _ _ => rfl)))
        (pss_cons (ps_set (i := 3) sc_Merge__advance.nd rfl (Or.inl rfl) (pe_ix ix_list (pe_fld (pv 0) rfl) (pv 1) (fun _ _ => rfl)))
        (pss_cons (ps_while PassesOwn.never (PW.pt (pw_and (pt_cmpR op_lt (pv 3) (pe_callB call_len_seq (by rfl) T.len PySem.boot_len (pa_cons (pv 2) pa_nil)) (nomark _)) (pw_and1 (pt_cmp (pc_din hu (pe_ix ix_tup (pv 2) (pv 3) (fun _ _ => rfl)) (pe_fld (pv 0) rfl)))))) (pss_one (ps_aug (i := 3) sc_Merge__advance.nd rfl (Or.inl rfl) pe_int ip_add)))
        (pss_cons (ps_asg (pv 3) (pg_sub (pe_fld (pv 0) rfl) (pv 1) set_list))
        (pss_one (ps_if (pt_cmpR op_lt (pv 3) (pe_callB call_len_seq (by rfl) T.len PySem.boot_len (pa_cons (pv 2) pa_nil)) (nomark _)) (pss_cons (ps_set (i := 4) sc_Merge__advance.nd rfl (Or.inl rfl) (pe_ix ix_tup (pv 2) (pv 3) (fun _ _ => rfl)))
        (pss_cons (ps_daug (hu_of hr) (pe_fld (pv 0) rfl) (pv 4) pe_int in_sub (fun _ _ _ => rfl))
        (pss_one (ps_expr (pe_M D_Merge__prepare K_Merge.cl (pv 0) (hr.mono (by decide)) pass0 (pa_cons (pv 4) pa_nil)))))) pss_nil))))), ?_⟩
    obtain ⟨dx, ho⟩ := S.obj
    obtain ⟨as, t1, t2, t3⟩ := M.at_
    have fit := M.fit
    have hil : i < rows.length := (List.getElem?_eq_some_iff.mp er).1
    have hih : i < hs.length := (List.getElem?_eq_some_iff.mp eh).1
    obtain ⟨ar, ea⟩ : ∃ ar, as[i]? = some ar := ⟨_, List.getElem?_eq_getElem (by rw [t2]; exact hil)⟩
    have rr := rd_same S.same (t3 i ar r ea er)
    have sq : SqT K H ar (r.map V.str) := .inl rr
    have rl := fit.row (List.mem_of_getElem? er)
    have nr := fit.nd r (List.mem_of_getElem? er)
    refine ⟨_, rfl, m, C_Merge, dx, _, .ref T0, rfl, ho, K_Merge.cl, K_Merge.no "rows" (by simp), rfl, _, rfl, T0, _, _, .ref ar, rfl, rfl, SqT.of (S.same _ _ t1), atI_nat (j := i) (by rw [List.getElem?_map, ea]; rfl), ?_⟩
    refine ⟨_, rfl, m, C_Merge, dx, _, .ref hd, rfl, ho, K_Merge.cl, K_Merge.no "heads" (by simp), rfl, _, rfl, hd, _, _, .int h, rfl, rfl, SqL.of S.hh, atI_nat (j := i) (by rw [List.getElem?_map, eh]; rfl), ?_⟩
    have hr0 := I.le i r h er eh
    refine ⟨fun k σ H' => ∃ j v4, σ = [some (.ref m), some (.int (i : Nat)), some (.ref ar), some (.int ((h + j : Nat))), v4] ∧ H' = H ∧ k = r.length - (h + j) ∧ h + j ≤ r.length ∧ ∀ (j' : Nat) (y : PySem.Str), h ≤ j' → j' < h + j → r[j']? = some y → y ∈ gone,
      ⟨_, 0, none, rfl, rfl, rfl, by omega, fun j' y l1 l2 => by omega⟩, ?_⟩
    rintro k σ H' ⟨j, v4, rfl, rfl, rfl, le, sk⟩
    refine ⟨_, rfl, _, rfl, ar, _, rfl, .inr sq, _, _, rfl, rfl, _, rfl, ?_⟩
    rw [List.length_map]
    by_cases lt : h + j < r.length
    · rw [decide_eq_true (by omega : ((h + j : Nat) : Int) < ((r.length : Nat) : Int))]
      obtain ⟨y, ey⟩ : ∃ y, r[h + j]? = some y := ⟨_, List.getElem?_eq_getElem lt⟩
      have dg : DGet H' g (.str y) (valV (gone.map fun x => ((Sum.inr x : Key), V.bl true)) (Sum.inr y)) := DGet.k (k := Sum.inr y) S.hg
      refine iteT ⟨_, rfl, _, rfl, ar, _, _, .str y, rfl, rfl, sq, atI_nat (j := h + j) (by rw [List.getElem?_map, ey]; rfl), _, rfl, m, C_Merge, dx, _, .ref g, rfl, ho, K_Merge.cl, K_Merge.no "gone" (by simp), rfl, g, _, rfl, dg, _, rfl, ?_⟩
      rw [val_gone]
      by_cases gy : y ∈ gone
      · rw [if_pos gy]
        refine iteT ⟨fun σ' H2 => ∃ v4, σ' = [some (.ref m), some (.int (i : Nat)), some (.ref ar), some (.int ((h + (j + 1) : Nat))), v4] ∧ H2 = H', ?_, ?_⟩
        · rintro σ' H2 ⟨v4, rfl, rfl⟩
          refine ⟨_, ?_, j + 1, v4, rfl, rfl, rfl, by omega, fun j' z l1 l2 ez => ?_⟩
          · omega
          · by_cases q2 : j' < h + j
            · exact sk j' z l1 q2 ez
            · have : j' = h + j := by omega
              subst this
              rw [ey] at ez
              cases ez
              exact gy
        · refine ⟨_, rfl, _, _, rfl, rfl, v4, ?_, rfl⟩
          rfl
      · rw [if_neg gy]
        refine iteF ?_
        have stop : ∀ y, r[h + j]? = some y → y ∉ gone := fun z ez => by
          rw [ey] at ez
          cases ez
          exact gy
        have S' := S
        obtain ⟨bs, hb0, lb, kb⟩ := S.hb
        have gt : h < h + j := by
          apply Nat.lt_of_not_le
          intro z
          have e0 : h + j = h := by omega
          rw [e0] at stop
          exact stop x ex gx
        have hne : ∀ k, k ≠ i → (hs.set i (h + j))[k]? = hs[k]? := fun k n => List.getElem?_set_ne (Ne.symm n)
        have I2 := I.move (h2 := h + j) (pd' := fun k => pd k ∧ k ≠ i) er eh ex gx gt le sk stop fun k p n => ⟨p, n⟩
        have bm := I.beh_move er eh gt sk
        have es : ((hs.map fun n => V.int (n : Nat)).set i (.int ((h + j : Nat)))) = (hs.set i (h + j)).map fun n => V.int (n : Nat) := by rw [List.map_set]
        refine ⟨_, rfl, _, rfl, m, C_Merge, dx, _, .ref hd, rfl, ho, K_Merge.cl, K_Merge.no "heads" (by simp), rfl, _, rfl, hd, _, _, i, rfl, rfl, S.hh, (by rw [List.length_map]; exact ixN_at hih), ?_⟩
        rw [es]
        obtain ⟨n1, n2, n3, n4, n5⟩ := S.nes
        have sq1 : SqT K (upd H' hd (.lst ((hs.set i (h + j)).map fun n => V.int (n : Nat)))) ar (r.map V.str) := .inl (rd_same (same_at S.same S.off.2.2.1) (t3 i ar r ea er))
        have ho1 : (upd H' hd (.lst ((hs.set i (h + j)).map fun n => V.int (n : Nat)))) m = some (.ins C_Merge dx (flds T0 P0 g hd b rdy)) := by rw [upd_ne n2]; exact ho
        refine ⟨_, rfl, _, rfl, ar, _, rfl, .inr sq1, _, _, rfl, rfl, _, rfl, ?_⟩
        rw [List.length_map]
        by_cases lt2 : h + j < r.length
        · rw [decide_eq_true (by omega : ((h + j : Nat) : Int) < ((r.length : Nat) : Int))]
          obtain ⟨y, ey⟩ : ∃ y, r[h + j]? = some y := ⟨_, List.getElem?_eq_getElem lt2⟩
          have gy := stop y ey
          have my : y ∈ names rows := mem_names.mpr (List.mem_flatten.mpr ⟨r, List.mem_of_getElem? er, List.mem_of_getElem? ey⟩)
          obtain ⟨n, hv, hn⟩ := kb y my
          refine iteT ⟨_, rfl, _, rfl, ar, _, _, .str y, rfl, rfl, sq1, atI_nat (j := h + j) (by rw [List.getElem?_map, ey]; rfl), ?_⟩
          have hb1 : (upd H' hd (.lst ((hs.set i (h + j)).map fun n => V.int (n : Nat)))) b = some (.dK bs) := by rw [upd_ne (Ne.symm n5)]; exact hb0
          refine ⟨_, rfl, m, C_Merge, dx, _, .ref b, rfl, ho1, K_Merge.cl, K_Merge.no "behind" (by simp), rfl, _, rfl, b, _, rfl, hv ▸ DGet.k (k := Sum.inr y) hb1, _, _, rfl, rfl, _, DPut.k (k := Sum.inr y) hb1 (Nat.lt_of_le_of_lt lb (by decide)), ?_⟩
          have S2 := S.moved (hs.set i (h + j)) y bs n hb0 lb hv my gy kb fun z gz => by
            have k1 := bm z gz
            rw [ey] at k1
            by_cases q1 : z = y
            · subst q1
              rw [if_pos rfl] at k1 ⊢
              exact k1
            · rw [if_neg q1]
              rw [if_neg (fun e => q1 (Option.some.inj e).symm)] at k1
              exact k1
          obtain ⟨dx2, ho2⟩ := S2.obj
          refine ⟨_, rfl, m, dx2, _, rfl, ho2, rfl, _, rfl, m, T0, P0, g, hd, b, rows, F0, L, gone, hs.set i (h + j), rdy, y, rfl, M, S2, my, gy, fun H3 S3 => ?_⟩
          rw [ey] at I2
          exact q H3 _ _ S3 I2 hne
        · rw [decide_eq_false (by omega : ¬ ((h + j : Nat) : Int) < ((r.length : Nat) : Int))]
          have none' : r[h + j]? = none := List.getElem?_eq_none_iff.mpr (Nat.le_of_not_lt lt2)
          refine iteF ?_
          rw [none'] at I2
          refine q _ _ _ (S.heads (hs.set i (h + j)) fun z gz => ?_) I2 hne
          have k1 := bm z gz
          rw [none'] at k1
          simpa using k1
    · rw [decide_eq_false (by omega : ¬ ((h + j : Nat) : Int) < ((r.length : Nat) : Int))]
      refine iteF ?_
      have stop : ∀ y, r[h + j]? = some y → y ∉ gone := fun z ez => by
        have := (List.getElem?_eq_some_iff.mp ez).1
        omega
      have S' := S
      obtain ⟨bs, hb0, lb, kb⟩ := S.hb
      have gt : h < h + j := by
        apply Nat.lt_of_not_le
        intro z
        have e0 : h + j = h := by omega
        rw [e0] at stop
        exact stop x ex gx
      have hne : ∀ k, k ≠ i → (hs.set i (h + j))[k]? = hs[k]? := fun k n => List.getElem?_set_ne (Ne.symm n)
      have I2 := I.move (h2 := h + j) (pd' := fun k => pd k ∧ k ≠ i) er eh ex gx gt le sk stop fun k p n => ⟨p, n⟩
      have bm := I.beh_move er eh gt sk
      have es : ((hs.map fun n => V.int (n : Nat)).set i (.int ((h + j : Nat)))) = (hs.set i (h + j)).map fun n => V.int (n : Nat) := by rw [List.map_set]
      refine ⟨_, rfl, _, rfl, m, C_Merge, dx, _, .ref hd, rfl, ho, K_Merge.cl, K_Merge.no "heads" (by simp), rfl, _, rfl, hd, _, _, i, rfl, rfl, S.hh, (by rw [List.length_map]; exact ixN_at hih), ?_⟩
      rw [es]
      obtain ⟨n1, n2, n3, n4, n5⟩ := S.nes
      have sq1 : SqT K (upd H' hd (.lst ((hs.set i (h + j)).map fun n => V.int (n : Nat)))) ar (r.map V.str) := .inl (rd_same (same_at S.same S.off.2.2.1) (t3 i ar r ea er))
      have ho1 : (upd H' hd (.lst ((hs.set i (h + j)).map fun n => V.int (n : Nat)))) m = some (.ins C_Merge dx (flds T0 P0 g hd b rdy)) := by rw [upd_ne n2]; exact ho
      refine ⟨_, rfl, _, rfl, ar, _, rfl, .inr sq1, _, _, rfl, rfl, _, rfl, ?_⟩
      rw [List.length_map]
      by_cases lt2 : h + j < r.length
      · rw [decide_eq_true (by omega : ((h + j : Nat) : Int) < ((r.length : Nat) : Int))]
        obtain ⟨y, ey⟩ : ∃ y, r[h + j]? = some y := ⟨_, List.getElem?_eq_getElem lt2⟩
        have gy := stop y ey
        have my : y ∈ names rows := mem_names.mpr (List.mem_flatten.mpr ⟨r, List.mem_of_getElem? er, List.mem_of_getElem? ey⟩)
        obtain ⟨n, hv, hn⟩ := kb y my
        refine iteT ⟨_, rfl, _, rfl, ar, _, _, .str y, rfl, rfl, sq1, atI_nat (j := h + j) (by rw [List.getElem?_map, ey]; rfl), ?_⟩
        have hb1 : (upd H' hd (.lst ((hs.set i (h + j)).map fun n => V.int (n : Nat)))) b = some (.dK bs) := by rw [upd_ne (Ne.symm n5)]; exact hb0
        refine ⟨_, rfl, m, C_Merge, dx, _, .ref b, rfl, ho1, K_Merge.cl, K_Merge.no "behind" (by simp), rfl, _, rfl, b, _, rfl, hv ▸ DGet.k (k := Sum.inr y) hb1, _, _, rfl, rfl, _, DPut.k (k := Sum.inr y) hb1 (Nat.lt_of_le_of_lt lb (by decide)), ?_⟩
        have S2 := S.moved (hs.set i (h + j)) y bs n hb0 lb hv my gy kb fun z gz => by
          have k1 := bm z gz
          rw [ey] at k1
          by_cases q1 : z = y
          · subst q1
            rw [if_pos rfl] at k1 ⊢
            exact k1
          · rw [if_neg q1]
            rw [if_neg (fun e => q1 (Option.some.inj e).symm)] at k1
            exact k1
        obtain ⟨dx2, ho2⟩ := S2.obj
        refine ⟨_, rfl, m, dx2, _, rfl, ho2, rfl, _, rfl, m, T0, P0, g, hd, b, rows, F0, L, gone, hs.set i (h + j), rdy, y, rfl, M, S2, my, gy, fun H3 S3 => ?_⟩
        rw [ey] at I2
        exact q H3 _ _ S3 I2 hne
      · rw [decide_eq_false (by omega : ¬ ((h + j : Nat) : Int) < ((r.length : Nat) : Int))]
        have none' : r[h + j]? = none := List.getElem?_eq_none_iff.mpr (Nat.le_of_not_lt lt2)
        refine iteF ?_
        rw [none'] at I2
        refine q _ _ _ (S.heads (hs.set i (h + j)) fun z gz => ?_) I2 hne
        have k1 := bm z gz
        rw [none'] at k1
        simpa using k1
abbrev s_Merge_drop : Stmt := clsAt (topS 32) 2
theorem sc_Merge_drop : FnScope ["self", "name", "index", "at"] ["self", "name"] (defScope s_Merge_drop) := ⟨rfl, rfl, rfl, by decide +kernel, rfl, by decide +kernel, by decide +kernel⟩
theorem ok_Merge_drop {f : Addr} {fd : FuncData} (F : Fun K "drop" "Merge.drop" s_Merge_drop f fd) {C_Merge : Addr} (T : Txt mg) (K_Merge : Kl K mg "Merge" C_Merge ["rows", "places", "gone", "heads", "behind", "ready"]) (D_Merge__advance : Mn P w K mg base CX0 2 C_Merge "_advance" ["self", "index"] (spAdvance C_Merge)) : FnOk P w K mg base CX0 3 f fd ["self", "name"] (spDrop C_Merge) := by
  refine F.ok sc_Merge_drop (fun vs H Q E h => ?_) (fun cdv A outer s H vs Q E hr h => ?_)
  · obtain ⟨m, T0, P0, g, hd, b, rows, F0, L, gone, hs, rdy, x, rfl, _⟩ := h
    rfl
  · obtain ⟨m, T0, P0, g, hd, b, rows, F0, L, gone, hs, rdy, x, rfl, M, S, hx, nx, gl, I, q⟩ := h
    refine ⟨_, pss_cons (ps_dput (hu_of hr) (pe_fld (pv 0) rfl) (pv 1) pe_bl rfl)
        (pss_one (ps_for PassesOwn.never rfl (pi_list (pe_dget (hu_of hr) (pe_fld (pv 0) rfl) (pv 1) (fun _ _ => rfl))) (pg_tup rfl (pgs_cons (pg_name (i := 2) sc_Merge_drop.nd rfl (Or.inl rfl)) (pgs_cons (pg_name (i := 3) sc_Merge_drop.nd rfl (Or.inl rfl)) pgs_nil))) (pss_one (ps_if (pt_cmpR op_eq (pv 3) (pe_ix ix_list (pe_fld (pv 0) rfl) (pv 2) (fun _ _ => rfl)) (nomark _)) (pss_one (ps_expr (pe_M D_Merge__advance K_Merge.cl (pv 0) (hr.mono (by decide)) pass0 (pa_cons (pv 2) pa_nil)))) pss_nil)))), ?_⟩
    obtain ⟨dx, ho⟩ := S.obj
    have fit := M.fit
    have mx : x ∈ rows.flatten := mem_names.mp hx
    refine ⟨_, rfl, m, C_Merge, dx, _, .ref g, rfl, ho, K_Merge.cl, K_Merge.no "gone" (by simp), rfl, _, rfl, g, _, rfl, DPut.k (k := Sum.inr x) S.hg (by rw [List.length_map]; exact Nat.lt_of_le_of_lt gl (by decide)), ?_⟩
    have S1 := S.dropped nx
    obtain ⟨as, el, f2⟩ := M.pl.l x (by rw [Mg.names_trips]; exact mx)
    rw [Mg.pl_trips x rows 0 fit.nd] at f2
    obtain ⟨ps, eps⟩ : ∃ ps, ps = Mg.plc 0 rows x := ⟨_, rfl⟩
    rw [← eps] at f2
    have rise : ps.Pairwise fun p q => p.1 < q.1 := by
      rw [eps]
      exact Mg.plc_rise rows 0
    have mem : ∀ i a, (i, a) ∈ ps ↔ ∃ r, rows[i]? = some r ∧ x ∈ r ∧ a = r.idxOf x := fun i a => by
      rw [eps, Mg.mem_plc rows 0 i a]
      constructor
      · rintro ⟨r, _, e, k⟩
        exact ⟨r, e, k⟩
      · rintro ⟨r, e, k⟩
        exact ⟨r, Nat.zero_le _, e, k⟩
    have lenp := f2_len f2
    have dg : ∀ {H'}, Same F0 H' → DGet H' P0 (.str x) (some (.ref (L x))) := fun s => by
      have v := val_map (L := L) (x := x) (xs := seen ((Mg.trips 0 rows).map (·.1)))
      rw [if_pos (by rw [Mg.names_trips]; exact hx)] at v
      exact v ▸ (.inl ⟨_, _, rd_same s M.pl.d, rfl, rfl⟩ : DGet _ P0 (kV (Sum.inr x)) _)
    obtain ⟨dx1, ho1⟩ := S1.obj
    refine ⟨_, rfl, m, C_Merge, dx1, _, .ref P0, rfl, ho1, K_Merge.cl, K_Merge.no "places" (by simp), rfl, _, rfl, P0, _, rfl, dg S1.same, ?_⟩
    refine ⟨L x, rfl, ⟨_, SqL.of (S1.same _ _ el)⟩, for_list (K := K) (a := L x) (xs := as.map V.ref) (fun j σ H' => ∃ v2 v3 hs' rdy', σ = [some (.ref m), some (.str x), v2, v3] ∧ MgS C_Merge m T0 P0 g hd b rows F0 H' (gone ++ [x]) hs' rdy' ∧
        Mg.Inv rows (gone ++ [x]) hs' rdy' (some x) (fun i => (∃ a, (i, a) ∈ ps.drop j) ∧ ∃ r h, rows[i]? = some r ∧ hs[i]? = some h ∧ r[h]? = some x) ∧ ∀ p ∈ ps.drop j, hs'[p.1]? = hs[p.1]?)
      ⟨_, _, hs, rdy, rfl, S1, I.weak fun i k => ⟨?_, k⟩, fun _ _ => rfl⟩ (fun j σ H' _ ⟨_, _, _, _, _, S2, _⟩ => SqL.of (S2.same _ _ el)) ?_ ?_⟩
    · obtain ⟨r, h, e1, e2, e3⟩ := k
      exact ⟨_, by rw [List.drop_zero, mem]; exact ⟨r, e1, List.mem_of_getElem? e3, rfl⟩⟩
    · rintro j y σ H' hy ⟨v2, v3, hs', rdy', rfl, S2, I2, ag⟩
      rw [List.getElem?_map] at hy
      obtain ⟨t, et, rfl⟩ : ∃ t, as[j]? = some t ∧ y = .ref t := by
        cases e : as[j]? with
        | none => rw [e] at hy; cases hy
        | some t => rw [e] at hy; exact ⟨t, rfl, (Option.some.inj hy).symm⟩
      obtain ⟨⟨i, a⟩, ep, ht⟩ := f2_getl f2 et
      have lj : j < ps.length := (List.getElem?_eq_some_iff.mp ep).1
      have dj : ps.drop j = (i, a) :: ps.drop (j + 1) := by
        rw [List.drop_eq_getElem_cons lj]
        congr 1
        exact (List.getElem?_eq_some_iff.mp ep).2
      obtain ⟨r, er, mr, ea⟩ := (mem i a).mp (List.mem_of_getElem? ep)
      have lih : i < hs'.length := by
        rw [I2.len]
        exact (List.getElem?_eq_some_iff.mp er).1
      obtain ⟨h, eh'⟩ : ∃ h, hs'[i]? = some h := ⟨_, List.getElem?_eq_getElem lih⟩
      have eh : hs[i]? = some h := by
        rw [← ag (i, a) (by rw [dj]; exact List.mem_cons_self ..)]
        exact eh'
      have later : ∀ p ∈ ps.drop (j + 1), p.1 ≠ i := fun p hp e => by
        have z := rise.drop (i := j)
        rw [dj] at z
        have := (List.pairwise_cons.mp z).1 p hp
        simp only at this
        omega
      have tt := S2.same _ _ ht
      refine ⟨t, [.int (i : Nat), .int (a : Nat)], rfl, SqT.of tt, rfl, .int (i : Nat), [.int (a : Nat)], rfl, .int (a : Nat), [], rfl, rfl, ?_⟩
      obtain ⟨dx2, ho2⟩ := S2.obj
      refine ⟨_, rfl, _, rfl, m, C_Merge, dx2, _, .ref hd, rfl, ho2, K_Merge.cl, K_Merge.no "heads" (by simp), rfl, _, rfl, hd, _, _, .int (h : Nat), rfl, rfl, SqL.of S2.hh, atI_nat (j := i) (by rw [List.getElem?_map, eh']; rfl), rfl, _, rfl, ?_⟩
      have nr := fit.nd r (List.mem_of_getElem? er)
      by_cases e : a = h
      · have ed : decide (V.int ((a : Nat) : Int) = V.int ((h : Nat) : Int)) = true := by
          rw [e]
          exact decide_eq_true rfl
        rw [ed]
        have ex : r[h]? = some x := by
          rw [← e, ea]
          exact Mg.at_idx mr
        refine iteT ⟨_, rfl, m, dx2, _, rfl, ho2, rfl, _, rfl, m, T0, P0, g, hd, b, rows, F0, L, gone ++ [x], hs', rdy', x, i, r, h, _, rfl, M, S2, I2, er, eh', ex, List.mem_append_right _ (by simp), fun H3 hs3 rdy3 S3 I3 ag3 => ?_⟩
        refine ⟨_, _, hs3, rdy3, rfl, S3, I3.weak fun k ⟨⟨⟨a', ha'⟩, k2⟩, k3⟩ => ⟨⟨a', ?_⟩, k2⟩, fun p hp => ?_⟩
        · rw [dj] at ha'
          rcases List.mem_cons.mp ha' with z | z
          · exact absurd (Prod.mk.inj z).1 k3
          · exact z
        · rw [ag3 p.1 (later p hp)]
          exact ag p (by rw [dj]; exact List.mem_cons_of_mem _ hp)
      · have ed : decide (V.int ((a : Nat) : Int) = V.int ((h : Nat) : Int)) = false := by
          rw [decide_eq_false_iff_not]
          intro z
          injection z with z
          omega
        rw [ed]
        refine iteF ?_
        refine ⟨_, _, hs', rdy', rfl, S2, I2.weak fun k ⟨⟨a', ha'⟩, r', h', f1, f2', f3⟩ => ⟨⟨a', ?_⟩, r', h', f1, f2', f3⟩, fun p hp => ag p (by rw [dj]; exact List.mem_cons_of_mem _ hp)⟩
        rw [dj] at ha'
        rcases List.mem_cons.mp ha' with z | z
        · exfalso
          obtain ⟨z1, z2⟩ := Prod.mk.inj z
          subst z1
          rw [er] at f1
          rw [eh] at f2'
          cases f1
          cases f2'
          exact e (ea.trans (Mg.idx_of nr f3))
        · exact z
    · rintro σ H' ⟨v2, v3, hs', rdy', rfl, S2, I2, ag⟩
      refine q H' hs' rdy' S2 (I2.done fun k ⟨⟨a, ha⟩, _⟩ => ?_)
      rw [List.length_map, lenp, List.drop_length] at ha
      cases ha
abbrev s_Merge_draw : Stmt := clsAt (topS 32) 1
theorem sc_Merge_draw : FnScope ["self", "names", "index", "name"] ["self"] (defScope s_Merge_draw) := ⟨rfl, rfl, rfl, by decide +kernel, rfl, by decide +kernel, by decide +kernel⟩
theorem ok_Merge_draw {f : Addr} {fd : FuncData} (F : Fun K "draw" "Merge.draw" s_Merge_draw f fd) {C_Merge : Addr} (T : Txt mg) (K_Merge : Kl K mg "Merge" C_Merge ["rows", "places", "gone", "heads", "behind", "ready"]) (D_Merge_drop : Mn P w K mg base CX0 3 C_Merge "drop" ["self", "name"] (spDrop C_Merge)) : FnOk P w K mg base CX0 4 f fd ["self"] (spDraw C_Merge) := by
  refine F.ok sc_Merge_draw (fun vs H Q E h => ?_) (fun cdv A outer s H vs Q E hr h => ?_)
  · obtain ⟨m, T0, P0, g, hd, b, rows, F0, L, gone, hs, rdy, rfl, _⟩ := h
    rfl
  · obtain ⟨m, T0, P0, g, hd, b, rows, F0, L, gone, hs, rdy, rfl, M, S, gnd, gsub, I, q⟩ := h
    refine ⟨_, pss_cons (ps_set (i := 1) sc_Merge_draw.nd rfl (Or.inl rfl) (pe_lstS pa_nil))
        (pss_cons (ps_while PassesOwn.never (pt_truth (pe_fld (pv 0) rfl) (by intro _; rfl)) (pss_cons (ps_set (i := 2) sc_Merge_draw.nd rfl (Or.inl rfl) (pe_op op_sub (pe_bits (pe_op op_and (pe_fld (pv 0) rfl) (pe_un un_neg (pe_fld (pv 0) rfl)))) pe_int))
        (pss_cons (ps_fldaug (pv 0) (pe_op op_sub (pe_fld (pv 0) rfl) pe_int) in_andI)
        (pss_cons (ps_set (i := 3) sc_Merge_draw.nd rfl (Or.inl rfl) (pe_ix ix_tup (pe_ix ix_tup (pe_fld (pv 0) rfl) (pv 2) (fun _ _ => rfl)) (pe_ix ix_list (pe_fld (pv 0) rfl) (pv 2) (fun _ _ => rfl)) (fun _ _ => rfl)))
        (pss_cons (ps_expr (pe_M D_Merge_drop K_Merge.cl (pv 0) (hr.mono (by decide)) pass0 (pa_cons (pv 3) pa_nil)))
        (pss_one (ps_expr (pe_bm PySem.F.plainAttrs_list PySem.F.slot_list_append PySem.F.type_list_append mt_append (pv 1) (pa_cons (pv 3) pa_nil)))))))))
        (pss_one (ps_ret (pv 1)))), ?_⟩
    have fit := M.fit
    refine ⟨by show 0 ≤ 100000; decide, fun HA l sA nl eA => ?_⟩
    have nF : F0 l = none := S.same.free nl
    have offs : l ≠ m ∧ l ≠ g ∧ l ≠ hd ∧ l ≠ b := by
      obtain ⟨dx, e1⟩ := S.obj
      obtain ⟨bs, e4, _⟩ := S.hb
      exact ⟨Ne.symm (ne_of_none e1 nl), Ne.symm (ne_of_none S.hg nl), Ne.symm (ne_of_none S.hh nl), Ne.symm (ne_of_none e4 nl)⟩
    obtain ⟨n1, n2, n3, n4⟩ := offs
    have SA : MgS C_Merge m T0 P0 g hd b rows F0 HA gone hs rdy := by
      obtain ⟨dx, e1⟩ := S.obj
      obtain ⟨bs, e4, k⟩ := S.hb
      exact ⟨S.same.trans sA, S.off, S.gb, ⟨dx, sA _ _ e1⟩, sA _ _ S.hg, sA _ _ S.hh, bs, sA _ _ e4, k⟩
    refine ⟨fun k σ H' => ∃ v2 v3 ns hs' rdy', σ = [some (.ref m), some (.ref l), v2, v3] ∧ MgS C_Merge m T0 P0 g hd b rows F0 H' (gone ++ ns) hs' rdy' ∧ Mg.Inv rows (gone ++ ns) hs' rdy' none (fun _ => False) ∧ H' l = some (.lst (ns.map V.str)) ∧
        (gone ++ ns).Nodup ∧ (∀ x ∈ gone ++ ns, x ∈ names rows) ∧ Mg.drawn (Mg.alive gone rows) = ns ++ Mg.drawn (Mg.alive (gone ++ ns) rows) ∧ k + (gone ++ ns).length = (names rows).length,
      ⟨(names rows).length - gone.length, none, none, [], hs, rdy, rfl, by rw [List.append_nil]; exact SA, by rw [List.append_nil]; exact I, eA, by rw [List.append_nil]; exact gnd, by rw [List.append_nil]; exact gsub, by rw [List.append_nil]; rfl, ?_⟩, ?_⟩
    · rw [List.append_nil]
      have := nodup_sub gnd gsub
      omega
    rintro k σ H' ⟨v2, v3, ns, hs', rdy', rfl, S2, I2, eL, nd2, sub2, dr, ek⟩
    obtain ⟨dx, ho⟩ := S2.obj
    refine ⟨_, rfl, m, C_Merge, dx, _, .int rdy', rfl, ho, K_Merge.cl, K_Merge.no "ready" (by simp), rfl, (((rdy' : Nat) : Int) != 0), rfl, ?_⟩
    by_cases z : rdy' = 0
    · have ez : (((rdy' : Nat) : Int) != 0) = false := by
        rw [z]
        rfl
      rw [ez]
      refine iteF ?_
      have e0 : Mg.drawn (Mg.alive (gone ++ ns) rows) = [] := Mg.drawn_none (I2.pick_none z)
      rw [e0, List.append_nil] at dr
      refine ⟨_, rfl, ?_⟩
      subst z
      rw [← dr] at S2 I2 eL nd2 sub2
      exact q H' l hs' S2 I2 eL nl nd2 sub2
    · have ez : (((rdy' : Nat) : Int) != 0) = true := by
        simp [z]
      rw [ez]
      obtain ⟨kk, r', b1, b2, b3, b4, b5⟩ := low_of rdy' z
      obtain ⟨x, r, h, pk, er, eh, ex, gx, mx, zx⟩ := I2.pick_low b1 b2
      have mn : x ∈ names rows := mem_names.mpr mx
      refine iteT ⟨fun σ' H2 => ∃ v2 v3 ns hs' rdy', σ' = [some (.ref m), some (.ref l), v2, v3] ∧ MgS C_Merge m T0 P0 g hd b rows F0 H2 (gone ++ ns) hs' rdy' ∧ Mg.Inv rows (gone ++ ns) hs' rdy' none (fun _ => False) ∧ H2 l = some (.lst (ns.map V.str)) ∧
        (gone ++ ns).Nodup ∧ (∀ x ∈ gone ++ ns, x ∈ names rows) ∧ Mg.drawn (Mg.alive gone rows) = ns ++ Mg.drawn (Mg.alive (gone ++ ns) rows) ∧ k + (gone ++ ns).length = (names rows).length + 1, ?_, ?_⟩
      · rintro σ' H2 ⟨w2, w3, ns2, hs2, rdy2, rfl, a1, a2, a3, a4, a5, a6, a7⟩
        have := nodup_sub a4 a5
        exact ⟨k - 1, by omega, w2, w3, ns2, hs2, rdy2, rfl, a1, a2, a3, a4, a5, a6, by omega⟩
      · refine ⟨_, rfl, m, C_Merge, dx, _, .int rdy', rfl, ho, K_Merge.cl, K_Merge.no "ready" (by simp), rfl, _, rfl, m, C_Merge, dx, _, .int rdy', rfl, ho, K_Merge.cl, K_Merge.no "ready" (by simp), rfl, _, rfl, _, _, rfl, rfl, _, rfl, _, _, rfl, rfl, ?_⟩
        have e1 : ((Builtin.Int.intBits (Builtin.bitAnd ((rdy' : Nat) : Int) (-((rdy' : Nat) : Int))) : Nat) : Int) - 1 = (kk : Nat) := by
          rw [b3, bits_pow]
          omega
        dsimp only
        rw [e1]
        refine ⟨_, rfl, m, C_Merge, dx, _, _, rfl, ho, K_Merge.cl, K_Merge.no "ready" (by simp), rfl, _, rfl, m, C_Merge, dx, _, .int rdy', rfl, ho, K_Merge.cl, K_Merge.no "ready" (by simp), rfl, _, _, rfl, rfl, _, _, rfl, rfl, dx, _, ho, (by show 6 < 1000; decide), ?_⟩
        rw [b4]
        have S3 := S2.ready (dx := dx) r'
        obtain ⟨dx3, ho3⟩ := S3.obj
        obtain ⟨as, t1, t2, t3⟩ := M.at_
        have hil : kk < rows.length := (List.getElem?_eq_some_iff.mp er).1
        obtain ⟨ar, ea⟩ : ∃ ar, as[kk]? = some ar := ⟨_, List.getElem?_eq_getElem (by rw [t2]; exact hil)⟩
        refine ⟨_, rfl, m, C_Merge, dx3, _, .ref T0, rfl, ho3, K_Merge.cl, K_Merge.no "rows" (by simp), rfl, _, rfl, T0, _, _, .ref ar, rfl, rfl, SqT.of (S3.same _ _ t1), atI_nat (j := kk) (by rw [List.getElem?_map, ea]; rfl),
          _, rfl, m, C_Merge, dx3, _, .ref hd, rfl, ho3, K_Merge.cl, K_Merge.no "heads" (by simp), rfl, _, rfl, hd, _, _, .int (h : Nat), rfl, rfl, SqL.of S3.hh, atI_nat (j := kk) (by rw [List.getElem?_map, eh]; rfl), ar, _, _, .str x, rfl, rfl, .inl (rd_same S3.same (t3 kk ar r ea er)), atI_nat (j := h) (by rw [List.getElem?_map, ex]; rfl), ?_⟩
        have eL3 : (upd H' m (HO.ins C_Merge dx (putF "ready" (.int (r' : Nat)) (flds T0 P0 g hd b rdy')))) l = some (.lst (ns.map V.str)) := by rw [upd_ne n1]; exact eL
        have S4 := S3.hold eL3 n1 n2 n3 n4
        have M4 : MgF (upd F0 l (.lst (ns.map V.str))) T0 P0 rows L := mgF_same (same_new nF) M
        have lose := I2.lose er eh ex gx zx b1 b5
        have gl : (gone ++ ns).length ≤ 100000 := Nat.le_trans (nodup_sub nd2 sub2) (Nat.le_trans (seen_len _) fit.all)
        refine ⟨_, rfl, m, dx3, _, rfl, ho3, rfl, _, rfl, m, T0, P0, g, hd, b, rows, _, L, gone ++ ns, hs', r', x, rfl, M4, S4, mn, gx, gl, I2.drop r' lose, fun H5 hs5 rdy5 S5 I5 => ?_⟩
        have eL5 : H5 l = some (.lst (ns.map V.str)) := S5.same _ _ upd_same
        have nl2 : ns.length ≤ 100000 := by
          rw [List.length_append] at gl
          omega
        refine ⟨_, rfl, .inl ⟨rfl, _, SqL.of eL5⟩, _, rfl, l, _, _, rfl, rfl, eL5, (by rw [List.length_map]; exact Nat.lt_of_le_of_lt nl2 (by decide)), ?_⟩
        have S6 := (S5.frame ((same_new nF).trans S5.same) S.off).beside (o := .lst (ns.map V.str ++ [.str x])) n1 n2 n3 n4 nF
        rw [List.append_assoc] at S6 I5
        refine ⟨_, _, ns ++ [x], hs5, rdy5, rfl, S6, I5, by rw [upd_same, List.map_append]; rfl, ?_, ?_, ?_, ?_⟩
        · rw [← List.append_assoc]
          exact List.nodup_append.mpr ⟨nd2, by simp, fun a ha c hc e => by
            have : c = x := by simpa using hc
            rw [e, this] at ha
            exact gx ha⟩
        · intro y hy
          rw [← List.append_assoc] at hy
          rcases List.mem_append.mp hy with w | w
          · exact sub2 y w
          · have : y = x := by simpa using w
            rw [this]
            exact mn
        · rw [dr, Mg.drawn_some pk, Mg.without_alive, List.append_assoc, List.append_assoc]
          rfl
        · rw [← List.append_assoc, List.length_append, List.length_singleton]
          omega
end
end K09

set_option Elab.async false
set_option linter.all false
set_option maxRecDepth 100000
set_option maxHeartbeats 4000000
namespace K09
open PySem Nb
open L2 hiding del del_ne del_same
section
variable {P : Program} {w : World} {K : PySem.W.Frag} {mg : Str → Option Value} {base : Heap}
abbrev s_places : Stmt := topS 35
theorem sc_places : FnScope ["rows", "places", "index", "row", "at", "name"] ["rows"] (defScope s_places) := ⟨rfl, rfl, rfl, by decide +kernel, rfl, by decide +kernel, by decide +kernel⟩
theorem ok_places {f : Addr} {fd : FuncData} (F : Fun K "_places" "_places" s_places f fd) (T : Txt mg) : FnOk P w K mg base CX0 1 f fd ["rows"] (spPlaces) := by
  refine F.ok sc_places (fun vs H Q E h => ?_) (fun cdv A outer s H vs Q E hr h => ?_)
  · obtain ⟨T0, rows, rfl, _⟩ := h
    rfl
  · obtain ⟨T0, rows, rfl, hR, fit, q⟩ := h
    refine ⟨_, pss_cons (ps_set (i := 1) sc_places.nd rfl (Or.inl rfl) pe_dnewS)
        (pss_cons (ps_for PassesOwn.never rfl (pi_enumT (by rfl) T.enumerate (pa_cons (pv 0) pa_nil)) (pg_tup rfl (pgs_cons (pg_name (i := 2) sc_places.nd rfl (Or.inl rfl)) (pgs_cons (pg_name (i := 3) sc_places.nd rfl (Or.inl rfl)) pgs_nil))) (pss_one (ps_for PassesOwn.never rfl (pi_enumT (by rfl) T.enumerate (pa_cons (pv 3) pa_nil)) (pg_tup rfl (pgs_cons (pg_name (i := 4) sc_places.nd rfl (Or.inl rfl)) (pgs_cons (pg_name (i := 5) sc_places.nd rfl (Or.inl rfl)) pgs_nil))) (pss_one (ps_expr (pe_bm PySem.F.plainAttrs_list PySem.F.slot_list_append PySem.F.type_list_append mt_append (pe_dsetd (pv 1) (pv 5) (pe_lstS pa_nil) ⟨rfl, rfl, rfl, rfl⟩) (pa_cons (pe_tupS (pa_cons (pv 2) (pa_cons (pv 4) pa_nil))) pa_nil)))))))
        (pss_one (ps_ret (pv 1)))), ?_⟩
    obtain ⟨as, t1, t2, t3⟩ := id hR
    refine fun HA D sA nD eD => ?_
    have P0 : Plm H HA D (fun _ => D) [] := ⟨sA, nD, eD, fun x hx => (nomatch hx), fun x hx => (nomatch hx)⟩
    refine ⟨_, rfl, T0, _, rfl, SqT.of (sA _ _ t1), for_it (walk_enumT (K := K) (a := T0) (xs := as.map V.ref)) (fun i σ H' => ∃ v2 v3 v4 v5 L, σ = [some (.ref T0), some (.ref D), v2, v3, v4, v5] ∧ Plm H H' D L (Mg.trips 0 (rows.take i)))
      ⟨_, _, _, _, _, rfl, by rw [List.take_zero]; exact P0⟩ (fun i σ H' _ ⟨_, _, _, _, _, _, p⟩ => SqT.of (p.same _ _ t1)) ?_ ?_⟩
    · rintro i y σ H1 H2 hi ⟨v2, v3, v4, v5, L, rfl, p⟩ ⟨t, y1, y2, rfl, new, rfl, e1, e2⟩
      have ey1 : y1 = .int (i : Nat) := (Option.some.inj e1).symm
      subst ey1
      have e2 : (as.map V.ref)[i]? = some y2 := e2
      rw [List.getElem?_map] at e2
      obtain ⟨a, ea, rfl⟩ : ∃ a, as[i]? = some a ∧ y2 = .ref a := by
        cases e : as[i]? with
        | none => rw [e] at e2; cases e2
        | some a => rw [e] at e2; exact ⟨a, rfl, (Option.some.inj e2).symm⟩
      have hil : i < rows.length := by
        rw [← t2]
        exact (List.getElem?_eq_some_iff.mp ea).1
      have er : rows[i]? = some rows[i] := List.getElem?_eq_getElem hil
      obtain ⟨r, hr_⟩ : ∃ r, rows[i]? = some r := ⟨_, er⟩
      have s2 := same_new (o := HO.tup [.int (i : Nat), .ref a]) new
      have ra := t3 i a r ea hr_
      have p2 : Plm H (upd H1 t (.tup [.int (i : Nat), .ref a])) D L (Mg.trips 0 (rows.take i)) := ⟨p.same.trans s2, p.nd, s2 _ _ p.d, fun x hx => let ⟨n, bs, e, f⟩ := p.l x hx; ⟨n, bs, s2 _ _ e, f2_same s2 f⟩, p.inj⟩
      refine ⟨t, [.int (i : Nat), .ref a], rfl, .inl (.inl upd_same), rfl, .int (i : Nat), [.ref a], rfl, .ref a, [], rfl, rfl, ?_⟩
      refine ⟨_, rfl, a, _, rfl, .inl (rd_same p2.same ra), for_it (walk_enumT (K := K) (a := a) (xs := r.map V.str)) (fun j σ H' => ∃ v4 v5 L, σ = [some (.ref T0), some (.ref D), some (.int (i : Nat)), some (.ref a), v4, v5] ∧ Plm H H' D L (Mg.trips 0 (rows.take i) ++ Mg.row3 i (r.take j)))
        ⟨_, _, _, rfl, by rw [List.take_zero]; show Plm _ _ _ _ (_ ++ []); rw [List.append_nil]; exact p2⟩ (fun j σ H' _ ⟨_, _, _, _, p⟩ => .inl (rd_same p.same ra)) ?_ ?_⟩
      · rintro j y σ H3 H4 hj ⟨w4, w5, L3, rfl, p3⟩ ⟨u, z1, z2, rfl, newu, rfl, f1, f2⟩
        have ez1 : z1 = .int (j : Nat) := (Option.some.inj f1).symm
        subst ez1
        have f2 : (r.map V.str)[j]? = some z2 := f2
        rw [List.getElem?_map] at f2
        obtain ⟨x, ex, rfl⟩ : ∃ x, r[j]? = some x ∧ z2 = .str x := by
          cases e : r[j]? with
          | none => rw [e] at f2; cases f2
          | some x => rw [e] at f2; exact ⟨x, rfl, (Option.some.inj f2).symm⟩
        have s4 := same_new (o := HO.tup [.int (j : Nat), .str x]) newu
        have p4 : Plm H (upd H3 u (.tup [.int (j : Nat), .str x])) D L3 (Mg.trips 0 (rows.take i) ++ Mg.row3 i (r.take j)) := ⟨p3.same.trans s4, p3.nd, s4 _ _ p3.d, fun x hx => let ⟨n, bs, e, f⟩ := p3.l x hx; ⟨n, bs, s4 _ _ e, f2_same s4 f⟩, p3.inj⟩
        obtain ⟨ts, ets⟩ : ∃ ts, ts = Mg.trips 0 (rows.take i) ++ Mg.row3 i (r.take j) := ⟨_, rfl⟩
        have few : ts.length ≤ 100000 := by
          have n1 : ts.length = ((rows.take i).flatten ++ r.take j).length := by
            rw [ets, List.length_append, List.length_append]
            have m1 := congrArg List.length (Mg.names_trips (rows.take i) 0)
            have m2 : (Mg.row3 i (r.take j)).length = (r.take j).length := by
              unfold Mg.row3
              rw [List.length_map, List.length_zipIdx]
            rw [List.length_map] at m1
            omega
          have sub : ((rows.take i).flatten ++ r.take j).length ≤ rows.flatten.length := by
            have e := List.take_append_drop i rows
            have hd : rows.drop i = r :: rows.drop (i + 1) := by
              obtain ⟨l, e⟩ := List.getElem?_eq_some_iff.mp hr_
              rw [List.drop_eq_getElem_cons l, e]
            rw [hd] at e
            have e2 := congrArg List.flatten e
            rw [List.flatten_append, List.flatten_cons] at e2
            have e3 := congrArg List.length e2
            rw [List.length_append, List.length_append] at e3
            have tl : (r.take j).length ≤ r.length := by rw [List.length_take]; omega
            rw [List.length_append]
            omega
          rw [n1]
          exact Nat.le_trans sub fit.all
        have few2 : (seen (ts.map (·.1))).length < sizeLine := by
          have := seen_len (ts.map (·.1))
          rw [List.length_map] at this
          exact Nat.lt_of_le_of_lt (Nat.le_trans this few) (by decide)
        rw [← ets] at p4
        have goal4 : Mg.trips 0 (rows.take i) ++ Mg.row3 i (r.take (j + 1)) = ts ++ [(x, i, j)] := by rw [row3_snoc ex, ets, List.append_assoc]
        refine ⟨u, [.int (j : Nat), .str x], rfl, .inl (.inl upd_same), rfl, .int (j : Nat), [.str x], rfl, .str x, [], rfl, rfl, ?_⟩
        obtain ⟨H5, e5⟩ : ∃ H5, H5 = upd H3 u (HO.tup [.int (j : Nat), .str x]) := ⟨_, rfl⟩
        rw [← e5] at p4 ⊢
        refine ⟨_, rfl, D, rfl, .inl ⟨_, .inl p4.d⟩, _, rfl, (by show 0 ≤ 100000; decide), fun H6 l0 s6 n6 e6 => ?_⟩
        have v := val_map (L := L3) (x := x) (xs := seen (ts.map (·.1)))
        refine ⟨_, Sum.inr x, s6 _ _ p4.d, rfl, (by rw [List.length_map]; exact few2), fun w hw => ?_, fun hw => ?_⟩
        · have mx : x ∈ ts.map (·.1) := by
            apply Classical.byContradiction
            intro k
            rw [if_neg (fun z => k (mem_seen.mp z))] at v
            rw [v] at hw
            cases hw
          rw [if_pos (mem_seen.mpr mx)] at v
          rw [v] at hw
          cases hw
          obtain ⟨_, as1, ea1, _⟩ := p4.l x mx
          refine ⟨.inl ⟨rfl, _, SqL.of (s6 _ _ ea1)⟩, _, rfl, _, rfl, (by show 2 ≤ 100000; decide), fun H7 t7 s7 n7 e7 => ?_⟩
          obtain ⟨as2, ea2, l2, p7⟩ := p4.more mx (s6.trans s7) e7 (s6.free n7)
          refine ⟨L3 x, _, _, rfl, rfl, ea2, (by rw [List.length_map]; exact Nat.lt_of_le_of_lt (Nat.le_trans l2 few) (by decide)), _, _, L3, rfl, ?_⟩
          rw [goal4]
          exact p7
        · have mx : x ∉ ts.map (·.1) := fun k => by
            rw [if_pos (mem_seen.mpr k)] at v
            rw [v] at hw
            cases hw
          have eD6 : l0 ≠ D := fun z => by
            have := p4.d
            rw [← z, n6] at this
            cases this
          refine ⟨.inl ⟨rfl, _, SqL.of (by rw [upd_ne eD6]; exact e6)⟩, _, rfl, _, rfl, (by show 2 ≤ 100000; decide), fun H7 t7 s7 n7 e7 => ?_⟩
          obtain ⟨el0, p7⟩ := p4.fresh mx s6 n6 e6 s7 e7 n7
          refine ⟨l0, _, _, rfl, rfl, el0, (by show 0 < sizeLine; decide), _, _, (fun y => if y = x then l0 else L3 y), rfl, ?_⟩
          rw [goal4]
          exact p7
      · rintro σ H3 ⟨w4, w5, L3, rfl, p3⟩
        refine ⟨_, _, _, _, L3, rfl, ?_⟩
        rw [List.length_map, List.take_length] at p3
        rw [Mg.trips_take rows 0 i r hr_, Nat.zero_add]
        exact p3
    · rintro σ H1 ⟨v2, v3, v4, v5, L, rfl, p⟩
      refine ⟨_, rfl, ?_⟩
      rw [List.length_map, t2, List.take_length] at p
      exact q H1 D L p
abbrev s_Merge___init : Stmt := clsAt (topS 32) 0
theorem sc_Merge___init : FnScope ["self", "rows", "name", "index", "at"] ["self", "rows"] (defScope s_Merge___init) := ⟨rfl, rfl, rfl, by decide +kernel, rfl, by decide +kernel, by decide +kernel⟩
def sx_Merge___init_0 : Scope := { kind := .function, names := [(".0", .local), ("index", .local), ("at", .local)], isGenerator := false, isCoroutine := false, more := [] }
def sx_Merge___init_1 : Scope := { kind := .function, names := [(".0", .local), ("name", .local), ("len", .globalImplicit), ("self", .cell)], isGenerator := false, isCoroutine := false, more := [] }
theorem ok_Merge___init {f : Addr} {fd : FuncData} (F : Fun K "__init__" "Merge.__init__" s_Merge___init f fd) {C_Merge : Addr} (T : Txt mg) (K_Merge : Kl K mg "Merge" C_Merge ["rows", "places", "gone", "heads", "behind", "ready"]) (D_Merge__prepare : Mn P w K mg base CX0 1 C_Merge "_prepare" ["self", "name"] (spPrepare C_Merge)) (D_places : Dn P w K mg base CX0 1 "_places" ["rows"] (spPlaces)) : FnOk P w K mg base CX0 2 f fd ["self", "rows"] (spMInit C_Merge) := by
  refine F.ok sc_Merge___init (fun vs H Q E h => ?_) (fun cdv A outer s H vs Q E hr h => ?_)
  · obtain ⟨m, dx, T0, rows, rfl, _⟩ := h
    rfl
  · obtain ⟨m, dx, T0, rows, rfl, ho, hR, fit, q⟩ := h
    refine ⟨_, pss_cons (ps_fld (pv 0) (pv 1) rfl)
        (pss_cons (ps_fld (pv 0) (pe_D D_places (hr.mono (by decide)) (by rfl) pass0 (pa_cons (pv 1) pa_nil)) rfl)
        (pss_cons (ps_fld (pv 0) pe_dnewS rfl)
        (pss_cons (ps_fld (pv 0) (pe_op op_repS (pe_lstS (pa_cons pe_int pa_nil)) (pe_callB call_len_seq (by rfl) T.len PySem.boot_len (pa_cons (pv 1) pa_nil))) rfl)
        (pss_cons (ps_fld (pv 0) (pe_lock (pe_dc (own := [("name", 2)]) (g := gName 2) (tt := tYes) rfl sc_Merge___init.nd (pi_keys (pe_fld (pv 0) rfl)) (blkOk_by (N := ["self", "rows", "name", "index", "at"]) (sc := (defScope s_Merge___init)) (by decide +kernel)) (fun _ _ _ _ _ => (pg_name (i := 2) sc_Merge___init.nd rfl (Or.inl rfl))) (fun _ _ _ _ _ => pts_nil) (fun _ _ _ _ _ => (pv 2)) (fun _ _ _ _ _ => (pe_callB (call_len_seqK (K := K) rfl) (by rfl) T.len PySem.boot_len (pa_cons (pe_lc (own := [("index", 3), ("at", 4)]) rfl sc_Merge___init.nd (show PI _ _ _ (iList K _) from pi_list (pe_dget (hu_of hr) (pe_fldK (K := K) rfl (pv 0) rfl) (pv 2) (fun _ _ => rfl))) (blkOk_by (N := ["self", "rows", "name", "index", "at"]) (sc := sx_Merge___init_1) (by decide +kernel)) (fun _ _ _ _ _ => (show PG _ _ (gTup K 2 (gCons (gName 3) (gCons (gName 4) gNil))) from pg_tup rfl (pgs_cons (pg_name (i := 3) sc_Merge___init.nd rfl (Or.inl rfl)) (pgs_cons (pg_name (i := 4) sc_Merge___init.nd rfl (Or.inl rfl)) pgs_nil)))) (fun _ _ _ _ _ => (pts_one (pt_cmpR op_gt (pv 4) pe_int (nomark _)))) (fun _ _ _ _ _ => (pv 4))) pa_nil))))) rfl)
        (pss_cons (ps_fld (pv 0) pe_int rfl)
        (pss_one (ps_lock (ps_for PassesOwn.never rfl (pi_keys (pe_fld (pv 0) rfl)) (pg_name (i := 2) sc_Merge___init.nd rfl (Or.inl rfl)) (pss_one (ps_expr (pe_M D_Merge__prepare K_Merge.cl (pv 0) (hr.mono (by decide)) pass0 (pa_cons (pv 2) pa_nil)))))))))))), ?_⟩
    obtain ⟨as, t1, t2, t3⟩ := id hR
    have KI : ∀ f ∈ (["rows", "places", "gone", "heads", "behind", "ready"] : List Str), NoAttr K C_Merge f := K_Merge.no
    -- rows
    refine ⟨_, rfl, _, rfl, m, C_Merge, dx, _, rfl, ho, K_Merge.cl, K_Merge.no "rows" (by simp), (by show 0 < 1000; decide), ?_⟩
    obtain ⟨H1, e1⟩ : ∃ H1, H1 = upd H m (.ins C_Merge dx (putF "rows" (.ref T0) [])) := ⟨_, rfl⟩
    rw [← e1]
    have d1 : Nb.del H1 m = Nb.del H m := by rw [e1]; exact del_upd
    have o1 : H1 m = some (.ins C_Merge dx [("rows", .ref T0)]) := by rw [e1]; exact upd_same
    have R1 : RowsAt H1 T0 rows := rows_same del_same (d1 ▸ hR)
    -- places
    refine ⟨_, rfl, T0, rows, rfl, R1, fit, fun H2 P0 L p2 => ?_⟩
    have o2 : H2 m = some (.ins C_Merge dx [("rows", .ref T0)]) := p2.same _ _ o1
    refine ⟨_, rfl, m, C_Merge, dx, _, rfl, o2, K_Merge.cl, K_Merge.no "places" (by simp), (by show 1 < 1000; decide), ?_⟩
    obtain ⟨H3, e3⟩ : ∃ H3, H3 = upd H2 m (.ins C_Merge dx (putF "places" (.ref P0) [("rows", .ref T0)])) := ⟨_, rfl⟩
    rw [← e3]
    have d3 : Nb.del H3 m = Nb.del H2 m := by rw [e3]; exact del_upd
    have o3 : H3 m = some (.ins C_Merge dx [("rows", .ref T0), ("places", .ref P0)]) := by rw [e3]; exact upd_same
    -- gone
    refine fun H4 g s4 n4 e4 => ?_
    refine ⟨_, rfl, m, C_Merge, dx, _, rfl, s4 _ _ o3, K_Merge.cl, K_Merge.no "gone" (by simp), (by show 2 < 1000; decide), ?_⟩
    obtain ⟨H5, e5⟩ : ∃ H5, H5 = upd H4 m (.ins C_Merge dx (putF "gone" (.ref g) [("rows", .ref T0), ("places", .ref P0)])) := ⟨_, rfl⟩
    rw [← e5]
    have gm : g ≠ m := fun z => by
      rw [z, o3] at n4
      cases n4
    have d5 : Nb.del H5 m = Nb.del H4 m := by rw [e5]; exact del_upd
    have o5 : H5 m = some (.ins C_Merge dx [("rows", .ref T0), ("places", .ref P0), ("gone", .ref g)]) := by rw [e5]; exact upd_same
    have g5 : H5 g = some (.dK []) := by
      rw [e5, upd_ne gm]
      exact e4
    -- what stands still
    obtain ⟨F, eF⟩ : ∃ F, F = Nb.del H3 m := ⟨_, rfl⟩
    have sF : Same (Nb.del H m) F := by
      rw [eF, d3, ← d1]
      exact same_off (H0 := H) p2.same
    have pF : Pl F P0 L (Mg.trips 0 rows) := by
      have off : ∀ {a : Addr} {o : HO}, H2 a = some o → (∀ C dx fs, o ≠ .ins C dx fs) → F a = some o := fun {a o} k n => by
        have : a ≠ m := fun z => by
          rw [z, o2] at k
          cases k
          exact n _ _ _ rfl
        rw [eF, d3, Nb.del_ne this]
        exact k
      refine ⟨.inl (off p2.d (fun _ _ _ z => by cases z)), fun x hx => ?_⟩
      obtain ⟨_, bs, k1, k2⟩ := p2.l x hx
      exact ⟨bs, off k1 (fun _ _ _ z => by cases z), f2_imp (fun a q k => off k (fun _ _ _ z => by cases z)) k2⟩
    have dF : F P0 = some (.dK ((names rows).map fun x => ((Sum.inr x : Key), V.ref (L x)))) := by
      have k := p2.d
      rw [Mg.names_trips] at k
      have : P0 ≠ m := fun z => by
        rw [z, o2] at k
        cases k
      rw [eF, d3, Nb.del_ne this]
      exact k
    have MF : MgF F T0 P0 rows L := ⟨fit, rows_same sF hR, pF⟩
    have F5 : Same F H5 := by
      rw [eF]
      refine (same_off (H0 := H) (m := m) s4).trans ?_
      rw [← d5]
      exact del_same
    have fm : F m = none := by rw [eF]; exact Nb.del_at
    have fg : F g = none := by rw [eF, Nb.del_ne gm]; exact n4
    -- heads
    refine ⟨(by show 1 ≤ 100000; decide), fun H6 l6 s6 n6 e6 => ?_⟩
    refine ⟨_, rfl, T0, _, rfl, .inr (SqT.of (s6 _ _ (F5 _ _ (sF _ _ t1)))), l6, as.length, [.int 0], rfl, by rw [List.length_map], e6, ?_, ?_, fun H7 hd s7 n7 e7 => ?_⟩
    · rw [t2]
      exact Nat.le_trans fit.few (by decide)
    · show 1 * as.length ≤ 100000
      rw [t2]
      have := fit.few
      omega
    have s67 := s6.trans s7
    refine ⟨_, rfl, m, C_Merge, dx, _, rfl, s67 _ _ o5, K_Merge.cl, K_Merge.no "heads" (by simp), (by show 3 < 1000; decide), ?_⟩
    obtain ⟨H8, e8⟩ : ∃ H8, H8 = upd H7 m (.ins C_Merge dx (putF "heads" (.ref hd) [("rows", .ref T0), ("places", .ref P0), ("gone", .ref g)])) := ⟨_, rfl⟩
    rw [← e8]
    have n7' : H5 hd = none := s6.free n7
    have hm : hd ≠ m := fun z => by
      rw [z, o5] at n7'
      cases n7'
    have hg : hd ≠ g := fun z => by
      rw [z, g5] at n7'
      cases n7'
    have o8 : H8 m = some (.ins C_Merge dx [("rows", .ref T0), ("places", .ref P0), ("gone", .ref g), ("heads", .ref hd)]) := by rw [e8]; exact upd_same
    have g8 : H8 g = some (.dK []) := by
      rw [e8, upd_ne gm]
      exact s67 _ _ g5
    have h8 : H8 hd = some (.lst ((List.replicate rows.length 0).map fun n => V.int (n : Nat))) := by
      rw [e8, upd_ne hm, e7, t2]
      congr 1
      congr 1
      rw [List.map_replicate]
      have : ∀ n, (List.replicate n [V.int 0]).flatten = List.replicate n (V.int ((0 : Nat) : Int)) := by
        intro n
        induction n with
        | zero => rfl
        | succ n ih =>
          rw [List.replicate_succ, List.flatten_cons, ih]
          rfl
      exact this _
    have F8 : Same F H8 := by
      rw [e8]
      exact same_at (F5.trans s67) fm
    have fh : F hd = none := F5.free n7'
    -- behind: under the lock
    have lP : H8 P0 = some (.dK ((names rows).map fun x => ((Sum.inr x : Key), V.ref (L x)))) := F8 _ _ dF
    refine ⟨P0, _, lP, trivial, fun od => ?_⟩
    obtain ⟨kvs, ekv⟩ : ∃ kvs, kvs = (names rows).map fun x => ((Sum.inr x : Key), V.ref (L x)) := ⟨_, rfl⟩
    rw [← ekv] at lP dF ⊢
    obtain ⟨H9, e9⟩ : ∃ H9, H9 = upd H8 P0 (.frz od (.dK kvs)) := ⟨_, rfl⟩
    rw [← e9]
    have Pm : P0 ≠ m := fun z => by rw [z, fm] at dF; cases dF
    have Pg : P0 ≠ g := fun z => by rw [z, fg] at dF; cases dF
    have Ph : P0 ≠ hd := fun z => by rw [z, fh] at dF; cases dF
    have o9 : H9 m = some (.ins C_Merge dx [("rows", .ref T0), ("places", .ref P0), ("gone", .ref g), ("heads", .ref hd)]) := by rw [e9, upd_ne (Ne.symm Pm)]; exact o8
    have P9 : H9 P0 = some (.frz od (.dK kvs)) := by rw [e9]; exact upd_same
    have keep9 : ∀ {a : Addr} {o : HO}, H8 a = some o → a ≠ P0 → H9 a = some o := fun {a o} k n => by rw [e9, upd_ne n]; exact k
    have len : kvs.length = (names rows).length := by rw [ekv, List.length_map]
    have lst9 : ∀ x ∈ names rows, ∃ bs : List Addr, H9 (L x) = some (.lst (bs.map V.ref)) ∧ F2 (fun a (p : Nat × Nat) => H9 a = some (.tup [.int p.1, .int p.2])) bs (Mg.plc 0 rows x) := fun x hx => by
      obtain ⟨bs, k1, k2⟩ := pF.l x (by rw [Mg.names_trips]; exact mem_names.mp hx)
      rw [Mg.pl_trips x rows 0 fit.nd] at k2
      have ne : ∀ {a : Addr} {o : HO}, F a = some o → (∀ kvs, o ≠ .dK kvs) → a ≠ P0 := fun {a o} k n z => by
        rw [z, dF] at k
        cases k
        exact n _ rfl
      exact ⟨bs, keep9 (F8 _ _ k1) (ne k1 fun _ z => by cases z), f2_imp (fun a q k => keep9 (F8 _ _ k) (ne k fun _ z => by cases z)) k2⟩
    have small : (names rows).length ≤ 100000 := Nat.le_trans (seen_len _) fit.all
    refine ⟨_, rfl, m, C_Merge, dx, _, .ref P0, rfl, o9, K_Merge.cl, K_Merge.no "places" (by simp), rfl, P0, od, rfl, .inl ⟨kvs, P9, fun b hb => ?_⟩⟩
    refine dcM (walk_keys (kvs := kvs)) (fun i => Sum.inr ((names rows).getD i "")) (fun i => .int (Mg.behN rows (List.replicate rows.length 0) ((names rows).getD i "") : Nat)) (fun i j l1 l2 e => ?_) (by rw [len]; exact small) hb (fun H' s => s _ _ P9) ?_ ?_
    · have e : (names rows).getD i "" = (names rows).getD j "" := by injection e
      rw [len] at l2
      have nd := nodup_seen rows.flatten
      have l1' : i < (names rows).length := by omega
      rw [List.getD_eq_getElem?_getD, List.getD_eq_getElem?_getD, List.getElem?_eq_getElem l1', List.getElem?_eq_getElem l2] at e
      have := (List.getElem_inj nd).mp (show (names rows)[i] = (names rows)[j] from e)
      omega
    · rintro i x H' H2' N hi s ⟨rfl, k, v, ek, rfl⟩ post
      rw [len] at hi
      obtain ⟨z, ez⟩ : ∃ z, (names rows)[i]? = some z := ⟨_, List.getElem?_eq_getElem hi⟩
      have eg : (names rows).getD i "" = z := by
        rw [List.getD_eq_getElem?_getD, ez]
        rfl
      rw [eg] at post
      have kz : k = Sum.inr z ∧ v = .ref (L z) := by
        rw [ekv, List.getElem?_map, ez] at ek
        cases ek
        exact ⟨rfl, rfl⟩
      obtain ⟨rfl, rfl⟩ := kz
      have mz : z ∈ names rows := List.mem_of_getElem? ez
      obtain ⟨bs, k1, k2⟩ := lst9 z mz
      have dg : DGet H2' P0 (.str z) (some (.ref (L z))) := by
        have v := val_map (L := L) (x := z) (xs := names rows)
        rw [if_pos mz] at v
        exact v ▸ (.inl ⟨_, _, .inr ⟨od, by rw [← ekv]; exact s _ _ P9⟩, rfl, rfl⟩ : DGet _ P0 (kV (Sum.inr z)) _)
      refine ⟨rfl, _, rfl, _, rfl, m, C_Merge, dx, _, .ref P0, rfl, s _ _ o9, K_Merge.cl, K_Merge.no "places" (by simp), rfl, _, rfl, P0, _, rfl, dg, L z, rfl, ⟨_, SqL.of (s _ _ k1)⟩, fun D2 hD2 => ?_⟩
      obtain ⟨ps, eps⟩ : ∃ ps, ps = Mg.plc 0 rows z := ⟨_, rfl⟩
      rw [← eps] at k2
      have lb := f2_len k2
      refine lcS (walk_list (xs := bs.map V.ref)) (fun j => decide (0 < (ps.getD j (0, 0)).2)) (fun j => .int ((ps.getD j (0, 0)).2 : Nat)) ?_ hD2 (fun H3 s3 => SqL.of (s3 _ _ (s _ _ k1))) ?_ ?_
      · rw [List.length_map, lb, eps]
        have := Mg.plc_few rows 0 z
        have := fit.few
        omega
      · rintro j y H3 H4 Nx Nf hj s3 ⟨rfl, hy⟩ px pf
        rw [List.getElem?_map] at hy
        obtain ⟨t, et, rfl⟩ : ∃ t, bs[j]? = some t ∧ y = .ref t := by
          cases e : bs[j]? with
          | none => rw [e] at hy; cases hy
          | some t => rw [e] at hy; exact ⟨t, rfl, (Option.some.inj hy).symm⟩
        obtain ⟨⟨pi, pa⟩, ep, ht⟩ := f2_getl k2 et
        have egp : ps.getD j (0, 0) = (pi, pa) := by
          rw [List.getD_eq_getElem?_getD, ep]
          rfl
        rw [egp] at px pf
        refine ⟨t, [.int (pi : Nat), .int (pa : Nat)], rfl, SqT.of (s3 _ _ (s _ _ ht)), rfl, .int (pi : Nat), [.int (pa : Nat)], rfl, .int (pa : Nat), [], rfl, rfl, rfl, ?_⟩
        refine ⟨_, rfl, _, _, rfl, rfl, _, rfl, ?_⟩
        by_cases q : 0 < pa
        · rw [decide_eq_true (by omega : (0 : Int) < ((pa : Nat) : Int))]
          exact iteT ⟨_, rfl, px (decide_eq_true q) _ (Same.refl _)⟩
        · rw [decide_eq_false (by omega : ¬ (0 : Int) < ((pa : Nat) : Int))]
          exact iteF (pf (decide_eq_false q) _ (Same.refl _))
      · intro H3 s3 e3'
        refine ⟨D2, _, rfl, .inl (SqL.of e3'), ?_⟩
        have el : (((List.range (bs.map V.ref).length).filter fun j => decide (0 < (ps.getD j (0, 0)).2)).map fun j => V.int ((ps.getD j (0, 0)).2 : Nat)).length = Mg.behN rows (List.replicate rows.length 0) z := by
          rw [List.length_map, List.length_map, lb, filter_range (0, 0) (fun p : Nat × Nat => decide (0 < p.2)) ps, eps]
          exact Mg.plc_behind rows 0
        rw [el]
        exact post H3 s3
    intro H10 s10 e10
    refine ⟨s10 _ _ P9, ?_⟩
    have fb : F b = none := F8.free (by
      have k := hb
      rw [e9] at k
      by_cases z : b = P0
      · rw [z, upd_same] at k
        cases k
      · rwa [upd_ne z] at k)
    have bP : b ≠ P0 := fun z => by rw [z, dF] at fb; cases fb
    have hb8 : H8 b = none := by
      have k := hb
      rw [e9, upd_ne bP] at k
      exact k
    have bm : b ≠ m := fun z => by rw [z, o8] at hb8; cases hb8
    have bg : b ≠ g := fun z => by rw [z, g8] at hb8; cases hb8
    have bh : b ≠ hd := fun z => by rw [z, h8] at hb8; cases hb8
    obtain ⟨H11, e11⟩ : ∃ H11, H11 = upd H10 P0 (HO.dK kvs) := ⟨_, rfl⟩
    rw [← e11]
    have keep11 : ∀ {a : Addr} {o : HO}, H8 a = some o → a ≠ P0 → H11 a = some o := fun {a o} k n => by rw [e11, upd_ne n]; exact s10 _ _ (keep9 k n)
    have o11 : H11 m = some (.ins C_Merge dx [("rows", .ref T0), ("places", .ref P0), ("gone", .ref g), ("heads", .ref hd)]) := keep11 o8 (Ne.symm Pm)
    have b11 : H11 b = some (.dK ((names rows).map fun x => ((Sum.inr x : Key), V.int (Mg.behN rows (List.replicate rows.length 0) x : Nat)))) := by
      rw [e11, upd_ne bP, e10, len]
      congr 1
      congr 1
      have := congrArg (List.map fun x => ((Sum.inr x : Key), V.int (Mg.behN rows (List.replicate rows.length 0) x : Nat))) (range_getD ("" : Str) (names rows))
      rw [List.map_map] at this
      exact this
    have F11 : Same F H11 := fun a o k => by
      by_cases z : a = P0
      · rw [z, dF] at k
        cases k
        rw [z, e11]
        exact upd_same
      · exact keep11 (F8 _ _ k) z
    refine ⟨_, rfl, m, C_Merge, dx, _, rfl, o11, K_Merge.cl, K_Merge.no "behind" (by simp), (by show 4 < 1000; decide), ?_⟩
    obtain ⟨H12, e12⟩ : ∃ H12, H12 = upd H11 m (.ins C_Merge dx (putF "behind" (.ref b) [("rows", .ref T0), ("places", .ref P0), ("gone", .ref g), ("heads", .ref hd)])) := ⟨_, rfl⟩
    rw [← e12]
    have o12 : H12 m = some (.ins C_Merge dx [("rows", .ref T0), ("places", .ref P0), ("gone", .ref g), ("heads", .ref hd), ("behind", .ref b)]) := by rw [e12]; exact upd_same
    -- ready
    refine ⟨_, rfl, m, C_Merge, dx, _, rfl, o12, K_Merge.cl, K_Merge.no "ready" (by simp), (by show 5 < 1000; decide), ?_⟩
    obtain ⟨H13, e13⟩ : ∃ H13, H13 = upd H12 m (.ins C_Merge dx (putF "ready" (.int 0) [("rows", .ref T0), ("places", .ref P0), ("gone", .ref g), ("heads", .ref hd), ("behind", .ref b)])) := ⟨_, rfl⟩
    rw [← e13]
    have up : ∀ {a : Addr} {o : HO}, H11 a = some o → a ≠ m → H13 a = some o := fun {a o} k n => by rw [e13, upd_ne n, e12, upd_ne n]; exact k
    have S13 : MgS C_Merge m T0 P0 g hd b rows F H13 [] (List.replicate rows.length 0) 0 := by
      refine ⟨fun a o k => up (F11 _ _ k) (fun z => by rw [z, fm] at k; cases k), ⟨fm, fg, fh, fb⟩, Ne.symm bg, ⟨dx, by rw [e13]; exact upd_same⟩, up (keep11 g8 (Ne.symm Pg)) gm, up (keep11 h8 (Ne.symm Ph)) hm, _, up b11 bm, by rw [List.length_map]; exact small, fun x hx => ?_⟩
      refine ⟨_, val_int hx, fun _ => rfl⟩
    -- the loop, under the lock
    have P13 : H13 P0 = some (.dK kvs) := S13.same _ _ dF
    refine ⟨P0, _, P13, trivial, fun od2 => ?_⟩
    obtain ⟨H14, e14⟩ : ∃ H14, H14 = upd H13 P0 (.frz od2 (.dK kvs)) := ⟨_, rfl⟩
    rw [← e14]
    obtain ⟨F2', eF2⟩ : ∃ F2', F2' = upd F P0 (.frz od2 (.dK kvs)) := ⟨_, rfl⟩
    have S14 : MgS C_Merge m T0 P0 g hd b rows F2' H14 [] (List.replicate rows.length 0) 0 := by
      rw [e14, eF2]
      exact S13.locked Pm Pg Ph (Ne.symm bP)
    have M14 : MgF F2' T0 P0 rows L := by
      rw [eF2]
      exact MF.locked dF ekv
    obtain ⟨dx14, o14⟩ := S14.obj
    refine ⟨_, rfl, m, C_Merge, dx14, _, .ref P0, rfl, o14, K_Merge.cl, K_Merge.no "places" (by simp), rfl, P0, od2, rfl, .inl ⟨kvs, by rw [e14]; exact upd_same, ?_⟩⟩
    refine for_it (walk_keys (kvs := kvs)) (fun i σ H' => ∃ v2 rdy, σ = [some (.ref m), some (.ref T0), v2, none, none] ∧ MgS C_Merge m T0 P0 g hd b rows F2' H' [] (List.replicate rows.length 0) rdy ∧
        ∀ j, rdy.testBit j = true ↔ ∃ x, x ∈ (names rows).take i ∧ Mg.behN rows (List.replicate rows.length 0) x = 0 ∧ Mg.first rows x = j)
      ⟨_, 0, rfl, S14, fun j => by simp⟩ (fun i σ H' _ ⟨_, _, _, S, _⟩ => S.same _ _ (by rw [eF2]; exact upd_same)) ?_ ?_
    · rintro i y σ H' H'' hi ⟨v2, rdy, rfl, S, bits⟩ ⟨rfl, k, v, ek, rfl⟩
      rw [len] at hi
      obtain ⟨z, ez⟩ : ∃ z, (names rows)[i]? = some z := ⟨_, List.getElem?_eq_getElem hi⟩
      have kz : k = Sum.inr z := by
        rw [ekv, List.getElem?_map, ez] at ek
        cases ek
        rfl
      subst kz
      obtain ⟨dx5, o5'⟩ := S.obj
      refine ⟨_, rfl, m, dx5, _, rfl, o5', rfl, _, rfl, m, T0, P0, g, hd, b, rows, F2', L, [], List.replicate rows.length 0, rdy, z, rfl, M14, S, List.mem_of_getElem? ez, (fun h => nomatch h), fun H3 S3 => ?_⟩
      refine ⟨_, _, rfl, S3, fun j => ?_⟩
      have step : (∃ x, x ∈ (names rows).take (i + 1) ∧ Mg.behN rows (List.replicate rows.length 0) x = 0 ∧ Mg.first rows x = j) ↔ (∃ x, x ∈ (names rows).take i ∧ Mg.behN rows (List.replicate rows.length 0) x = 0 ∧ Mg.first rows x = j) ∨ (Mg.behN rows (List.replicate rows.length 0) z = 0 ∧ Mg.first rows z = j) := by
        rw [List.take_add_one, ez]
        constructor
        · rintro ⟨x, hx, a, b⟩
          rcases List.mem_append.mp hx with h | h
          · exact .inl ⟨x, h, a, b⟩
          · have : x = z := by simpa using h
            subst this
            exact .inr ⟨a, b⟩
        · rintro (⟨x, hx, a, b⟩ | ⟨a, b⟩)
          · exact ⟨x, List.mem_append_left _ hx, a, b⟩
          · exact ⟨z, List.mem_append_right _ (by simp), a, b⟩
      rw [step, ← bits j]
      simp only [Mg.bits]
      by_cases q : Mg.behN rows (List.replicate rows.length 0) z = 0
      · rw [if_pos q, Nat.testBit_or, Nat.testBit_two_pow]
        simp [q]
      · rw [if_neg q]
        simp [q]
    · rintro σ H' ⟨v2, rdy, rfl, S, bits⟩
      refine ⟨S.same _ _ (by rw [eF2]; exact upd_same), ?_⟩
      rw [len, List.take_length] at bits
      have SF : MgS C_Merge m T0 P0 g hd b rows F (upd H' P0 (.dK kvs)) [] (List.replicate rows.length 0) rdy := by
        rw [eF2] at S
        exact S.unlocked dF Pm Pg Ph (Ne.symm bP)
      refine q _ P0 g hd b L F rdy sF MF SF (Mg.inv_begin fit.nd fun j => ?_) (by rw [← ekv]; exact dF)
      rw [bits j]
      constructor
      · rintro ⟨x, hx, r⟩
        exact ⟨x, mem_names.mp hx, r⟩
      · rintro ⟨x, hx, r⟩
        exact ⟨x, mem_names.mpr hx, r⟩
end
end K09

set_option Elab.async false
set_option linter.all false
set_option maxRecDepth 100000
set_option maxHeartbeats 4000000
namespace K09
open PySem Nb
open L2 hiding del del_ne del_same
def spCheck : Sp := fun vs H Q _ => ∃ (r : Addr) (rows : List (List Str)), vs = [.ref r] ∧ RowsAt H r rows ∧ (∀ row ∈ rows, LongRow row) ∧ rows.length ≤ 100 ∧ ∀ H', Same H H' → Q .non H'
theorem flat_len {rows : List (List Str)} : (∀ row ∈ rows, LongRow row) → rows.flatten.length ≤ 100 * rows.length := by
  induction rows with
  | nil => exact fun _ => Nat.le_refl _
  | cons r rs ih =>
    intro h
    have h1 := (h r (List.mem_cons_self ..)).2.2
    have h2 := ih fun x hx => h x (List.mem_cons_of_mem _ hx)
    rw [List.flatten_cons, List.length_append, List.length_cons]
    omega
theorem fit_good {rows : List (List Str)} (h : ∀ row ∈ rows, LongRow row) (l : rows.length ≤ 100) : Fit rows := ⟨fun r hr => (h r hr).1, by omega, by have := flat_len h; omega⟩
/-- the merge exists -/
def Full (rows : List (List Str)) : Prop := (Mg.drawn rows).length = (names rows).length
def spMerged : Sp := fun vs H Q _ => ∃ (T0 : Addr) (rows : List (List Str)), vs = [.ref T0] ∧ RowsAt H T0 rows ∧ (∀ row ∈ rows, LongRow row) ∧ rows.length ≤ 100 ∧ Full rows ∧ ∀ H' r o, Same H H' → H' r = some (.frz o (.tup ((Mg.drawn rows).map V.str))) → TupObj o → Q (.ref r) H'
section
variable {P : Program} {w : World} {K : PySem.W.Frag} {mg : Str → Option Value} {base : Heap}
abbrev s_check_tuples : Stmt := topS 34
theorem sc_check_tuples : FnScope ["tuples", "index", "row"] ["tuples"] (defScope s_check_tuples) := ⟨rfl, rfl, rfl, by decide +kernel, rfl, by decide +kernel, by decide +kernel⟩
theorem ok_check_tuples {f : Addr} {fd : FuncData} (F : Fun K "_check_tuples" "_check_tuples" s_check_tuples f fd) (T : Txt mg) (D_are_different_names : Dn P w K mg base CX0 3 "are_different_names" ["thing"] (spOf1 K diffOf)) : FnOk P w K mg base CX0 4 f fd ["tuples"] (spCheck) := by
  refine F.ok sc_check_tuples (fun vs H Q E h => ?_) (fun cdv A outer s H vs Q E hr h => ?_)
  · obtain ⟨r, rows, rfl, _⟩ := h
    rfl
  · obtain ⟨r, rows, rfl, hR, hg, hl, q⟩ := h
    refine ⟨_, pss_one (ps_for PassesOwn.never rfl (pi_enumT (by rfl) T.enumerate (pa_cons (pv 0) pa_nil)) (pg_tup rfl (pgs_cons (pg_name (i := 1) sc_check_tuples.nd rfl (Or.inl rfl)) (pgs_cons (pg_name (i := 2) sc_check_tuples.nd rfl (Or.inl rfl)) pgs_nil))) (pss_one (ps_if (pt_not (pt_val (pe_D D_are_different_names (hr.mono (by decide)) (by rfl) pass0 (pa_cons (pv 2) pa_nil)))) (pss_one ps_never) pss_nil))), ?_⟩
    obtain ⟨as, h1, h2, h3⟩ := id hR
    refine ⟨_, rfl, r, _, rfl, SqT.of h1, for_it (walk_enumT (K := K) (a := r) (xs := as.map V.ref)) (fun i σ H' => ∃ v1 v2, σ = [some (.ref r), v1, v2] ∧ Same H H')
      ⟨_, _, rfl, Same.refl _⟩ (fun i σ H' _ ⟨_, _, _, s1⟩ => SqT.of (s1 _ _ h1)) ?_ ?_⟩
    · rintro i x σ H1 H2 hi ⟨v1, v2, rfl, s1⟩ ⟨t, x1, x2, rfl, new, rfl, e1, e2⟩
      have ex1 : x1 = .int (i : Nat) := (Option.some.inj e1).symm
      subst ex1
      have e2 : (as.map V.ref)[i]? = some x2 := e2
      rw [List.getElem?_map] at e2
      obtain ⟨a, ea, rfl⟩ : ∃ a, as[i]? = some a ∧ x2 = .ref a := by
        cases e : as[i]? with
        | none =>
          rw [e] at e2
          cases e2
        | some a =>
          rw [e] at e2
          exact ⟨a, rfl, (Option.some.inj e2).symm⟩
      have hil : i < rows.length := by
        rw [← h2]
        exact (List.getElem?_eq_some_iff.mp ea).1
      have er : rows[i]? = some rows[i] := List.getElem?_eq_getElem hil
      have gr := hg rows[i] (List.getElem_mem hil)
      have s2 : Same H (upd H1 t (.tup [.int (i : Nat), .ref a])) := s1.trans (same_new new)
      have ha := rd_same s2 (h3 i a rows[i] ea er)
      refine ⟨t, [.int (i : Nat), .ref a], rfl, .inl (.inl upd_same), rfl, .int (i : Nat), [.ref a], rfl, .ref a, [], rfl, rfl, ?_⟩
      refine ⟨_, rfl, .ref a, rfl, long_thing1 gr ha, fun H3 s3 => ⟨_, rfl, ?_⟩⟩
      have e3 : diffOf (upd H1 t (.tup [.int (i : Nat), .ref a])) (.ref a) = true := by
        unfold diffOf
        rw [tupOf_at ha]
        exact long_diff gr
      rw [e3]
      refine iteF ?_
      exact ⟨_, _, rfl, s2.trans s3⟩
    · rintro σ H' ⟨v1, v2, rfl, s1⟩
      exact q H' s1
abbrev s_merged : Stmt := topS 33
theorem sc_merged : FnScope ["tuples", "merge", "names"] ["tuples"] (defScope s_merged) := ⟨rfl, rfl, rfl, by decide +kernel, rfl, by decide +kernel, by decide +kernel⟩
theorem ok_merged {f : Addr} {fd : FuncData} (F : Fun K "merged" "merged" s_merged f fd) {C_Merge : Addr} (T : Txt mg) (K_Merge : Kl K mg "Merge" C_Merge ["rows", "places", "gone", "heads", "behind", "ready"]) (D_Merge_draw : Mn P w K mg base CX0 4 C_Merge "draw" ["self"] (spDraw C_Merge)) (D_Merge___init : Mi P w K mg base CX0 2 C_Merge ["self", "rows"] (spMInit C_Merge)) (D_check_tuples : Dn P w K mg base CX0 4 "_check_tuples" ["tuples"] (spCheck)) : FnR P w K mg base CX0 5 f (spStar (spMerged)) := by
  refine okStar F sc_merged (fun _ _ _ _ _ _ => rfl) (fun _ _ _ _ _ _ _ _ => rfl) (fun cdv A outer s H vs Q E hr h => ?_)
  obtain ⟨T0, rows, rfl, hR, hg, hl, full, q⟩ := h
  refine ⟨_, pss_cons (ps_expr (pe_D D_check_tuples (hr.mono (by decide)) (by rfl) pass0 (pa_cons (pv 0) pa_nil)))
        (pss_cons (ps_set (i := 1) sc_merged.nd rfl (Or.inl rfl) (pe_Mi D_Merge___init (hr.mono (by decide)) (by rfl) K_Merge.g pass0 (pa_cons (pv 0) pa_nil)))
        (pss_cons (ps_set (i := 2) sc_merged.nd rfl (Or.inl rfl) (pe_M0 D_Merge_draw K_Merge.cl (pv 1) (hr.mono (by decide)) pass0))
        (pss_cons (ps_if (pt_cmpR op_lt (pe_callB call_len_seq (by rfl) T.len PySem.boot_len (pa_cons (pv 2) pa_nil)) (pe_callB call_lenD (by rfl) T.len PySem.boot_len (pa_cons (pe_fld (pv 1) rfl) pa_nil)) (nomark _)) (pss_one ps_never) pss_nil)
        (pss_one (ps_ret (pe_callTy cr_tupleFS (by rfl) T.tuple (by decide +kernel) (pa_cons (pv 2) pa_nil))))))), ?_⟩
  refine ⟨_, rfl, T0, rows, rfl, hR, hg, hl, fun H1 s1 => ?_⟩
  have fit := fit_good hg hl
  refine ⟨_, rfl, fun m dx hm hdx ne => ?_⟩
  obtain ⟨H2, e2⟩ : ∃ H2, H2 = upd (upd H1 dx (.own m)) m (.ins C_Merge dx []) := ⟨_, rfl⟩
  rw [← e2]
  have s2 : Same H (Nb.del H2 m) := fun a o k => by
    have k1 := s1 _ _ k
    have am : a ≠ m := fun z => by
      rw [z, hm] at k1
      cases k1
    have ad : a ≠ dx := fun z => by
      rw [z, hdx] at k1
      cases k1
    rw [Nb.del_ne am, e2, upd_ne am, upd_ne ad]
    exact k1
  refine ⟨m, dx, T0, rows, rfl, by rw [e2]; exact upd_same, rows_same s2 hR, fit, ?_⟩
  intro H3 P0 g hd b L F rdy s3 MF S I eP
  refine ⟨rfl, ?_⟩
  obtain ⟨dx3, o3⟩ := S.obj
  refine ⟨_, rfl, m, dx3, _, rfl, o3, rfl, m, T0, P0, g, hd, b, rows, F, L, [], List.replicate rows.length 0, rdy, rfl, MF, S, List.nodup_nil, (fun x h => nomatch h), I, ?_⟩
  intro H4 l hs' S4 _ el _ _ _
  rw [Mg.alive_nil] at el
  obtain ⟨dx4, o4⟩ := S4.obj
  have P4 : H4 P0 = some (.dK ((names rows).map fun x => ((Sum.inr x : Key), V.ref (L x)))) := S4.same _ _ eP
  refine ⟨_, rfl, l, _, rfl, .inl (SqL.of el), _, rfl, m, C_Merge, dx4, _, .ref P0, rfl, o4, K_Merge.cl, K_Merge.no "places" (by simp), rfl, P0, _, rfl, P4, ?_⟩
  refine ⟨_, _, rfl, rfl, _, rfl, ?_⟩
  have e5 : decide (((((Mg.drawn rows).map V.str).length : Nat) : Int) < ((((names rows).map fun x => ((Sum.inr x : Key), V.ref (L x))).length : Nat) : Int)) = false := by
    rw [decide_eq_false_iff_not, List.length_map, List.length_map, full]
    exact Int.lt_irrefl _
  rw [e5]
  exact ⟨_, rfl, l, _, rfl, SqL.of el, fun H5 r o s5 _ e5 t5 => q H5 r o (((s2.trans s3).trans S4.same).trans s5) e5 t5⟩
end
end K09

set_option Elab.async false
set_option linter.all false
set_option maxRecDepth 100000
set_option maxHeartbeats 4000000
namespace K09
open PySem Nb
open L2 hiding del del_ne del_same
section
variable {P : Program} {w : World} {K : PySem.W.Frag} {mg : Str → Option Value} {base : Heap}
abbrev s_h_mixed : Stmt := topS 65
theorem sc_h_mixed : FnScope ["_law_source_here", "_law_items", "_law_rest", "_law_found"] ["_law_source_here", "_law_items"] (defScope s_h_mixed) := ⟨rfl, rfl, rfl, by decide +kernel, rfl, by decide +kernel, by decide +kernel⟩
theorem ok_h_mixed {f : Addr} {fd : FuncData} (F : Fun K "_law_mixed" "_law_mixed" s_h_mixed f fd) (T : Txt mg) (D_h_next : Dn P w K mg base CX0 1 "_law_next" ["_law_source_here", "_law_many"] (spNext)) : FnOk P w K mg base CX0 2 f fd ["_law_source_here", "_law_items"] (spMixed) := by
  refine F.ok sc_h_mixed (fun vs H Q E h => ?_) (fun cdv A outer s H vs Q E hr h => ?_)
  · obtain ⟨p, l, zs, b, G, rfl, _⟩ := h
    rfl
  · obtain ⟨p, l, zs, b, G, rfl, hl, hlen, hw, hS, hB, hG, hs, q⟩ := h
    refine ⟨_, pss_cons (ps_par (i := 2) (j := 3) rfl sc_h_mixed.nd rfl rfl (by decide) rfl rfl (pa_cons (pe_callTy call_list_of (by rfl) T.list (by decide +kernel) (pa_cons (pv 1) pa_nil)) (pa_cons (pe_lst pa_nil) pa_nil)) rfl)
        (pss_cons (ps_while PassesOwn.never (pt_cmpR (op_neD hr.units) (pv 2) (pe_lst pa_nil) (nomark _)) (pss_one (ps_expr (pe_bm PySem.F.plainAttrs_list PySem.F.slot_list_append PySem.F.type_list_append mt_append (pv 3) (pa_cons (pe_bm PySem.F.plainAttrs_list PySem.F.slot_list_pop PySem.F.type_list_pop mt_popAt (pv 2) (pa_cons (pe_D D_h_next (hr.mono (by decide)) (by rfl) pass0 (pa_cons (pv 0) (pa_cons (pe_callB call_len_seq (by rfl) T.len PySem.boot_len (pa_cons (pv 2) pa_nil)) pa_nil))) pa_nil)) pa_nil)))))
        (pss_one (ps_ret (pv 3)))), ?_⟩
    refine ⟨_, rfl, l, _, rfl, .inl (SqL.of (hs _ _ hl)), fun r hr0 => ?_⟩
    refine ⟨Nat.zero_le _, fun o ho => ?_⟩
    have nrp : r ≠ p := src_fresh hS hr0
    have S1 := src_new (o := HO.lst (zs.map V.str)) hS hr0
    have nop : o ≠ p := src_fresh S1 ho
    have nro : r ≠ o := ne_of_none upd_same ho
    have Gr : G r = none := hs.free hr0
    have Go : G o = none := (hs.trans (same_new hr0)).free ho
    refine ⟨_, _, rfl, while_by (fun σ H' => ∃ rs fs : List Str, σ = [some (.ref p), some (.ref l), some (.ref r), some (.ref o)] ∧ Same G H' ∧ H' r = some (.lst (rs.map V.str)) ∧ H' o = some (.lst (fs.map V.str)) ∧ (fs ++ rs).Perm zs ∧ Src H' p (b + fs.length))
      (fun σ H' => match H' r with | some (.lst xs) => xs.length | _ => 0) ?_ ?_ ?_⟩
    · refine ⟨zs, [], rfl, (hs.trans (same_new hr0)).trans (same_new ho), by rw [upd_ne nro]; exact upd_same, upd_same, List.Perm.refl _, src_new S1 ho⟩
    · rintro σ H' ⟨rs, fs, rfl, s1, er, eo, pm, S'⟩
      have lrs : fs.length + rs.length = zs.length := by rw [← List.length_append]; exact pm.length_eq
      have wrs : ∀ z ∈ rs, Word z := fun z hz => hw z (pm.subset (List.mem_append_right _ hz))
      refine ⟨_, rfl, Nat.zero_le _, fun e he => ?_⟩
      have ner : r ≠ e := ne_of_none er he
      have neo : o ≠ e := ne_of_none eo he
      have s2 : Same H' (upd H' e (.lst [])) := same_new he
      refine ⟨.list (rs.map PyData.str), .list [], .lst (SqL.of (s2 _ _ er)) (dps_strs rs), .lst (SqL.of upd_same) .nil, (fine_strs wrs).shaped (by decide), by decide, _, rfl, ?_⟩
      rw [eqv_nil]
      cases rs with
      | nil =>
        refine iteF ?_
        refine ⟨_, rfl, ?_⟩
        refine q _ o fs (s1.trans s2) Go nop (by rw [upd_ne neo]; exact eo) (by simpa using pm) ?_
        have : fs.length = zs.length := by simpa using lrs
        rw [← this]
        exact src_new S' he
      | cons z0 rs =>
        refine iteT ?_
        have S2 := src_new (o := HO.lst []) S' he
        have m0 : (match (upd H' e (.lst [])) r with | some (.lst xs) => xs.length | _ => 0) = (z0 :: rs).length := by
          rw [upd_ne ner, er]
          simp
        refine ⟨_, rfl, .inl ⟨rfl, _, SqL.of (s2 _ _ eo)⟩, _, rfl, .inl ⟨rfl, _, SqL.of (s2 _ _ er)⟩, _, rfl, _, rfl, r, _, rfl, .inl (SqL.of (s2 _ _ er)), p, _, _, del (upd H' e (.lst [])) p, rfl, by simp; omega, by simp at lrs ⊢; omega, S2, by omega, del_at, del_same, fun H2 k k0 k1 s3 S3 => ?_⟩
        have er2 := del_get s3 nrp (s2 _ _ er)
        have eo2 := del_get s3 nop (s2 _ _ eo)
        obtain ⟨j, rfl⟩ : ∃ j : Nat, k = (j : Int) := ⟨_, (Int.toNat_of_nonneg k0).symm⟩
        have hj : j < (z0 :: rs).length := by simp at k1 ⊢; omega
        have hjl : j < 1000 := by simp at hj lrs; omega
        refine ⟨r, _, _, j, .str (z0 :: rs)[j], rfl, rfl, er2, by omega, by omega, ?_, ?_, ?_⟩
        · exact seqIx (by rw [List.length_map]; exact hj)
        · rw [List.getElem?_map, List.getElem?_eq_getElem hj]
          rfl
        · rw [erase_map]
          have lr2 : ((z0 :: rs).eraseIdx j).length = rs.length := by rw [List.length_eraseIdx_of_lt hj]; rfl
          have nor : o ≠ r := nro.symm
          have eo3 : (upd H2 r (.lst (((z0 :: rs).eraseIdx j).map V.str))) o = some (.lst (fs.map V.str)) := by rw [upd_ne nor]; exact eo2
          refine ⟨o, _, _, rfl, rfl, eo3, ?_, ?_, ?_⟩
          · rw [List.length_map]
            exact small1000 (by omega)
          · refine ⟨(z0 :: rs).eraseIdx j, fs ++ [(z0 :: rs)[j]], rfl, ?_, ?_, ?_, ?_, ?_⟩
            · have s4 : Same G H2 := (same_del (s1.trans s2) hG).trans s3
              exact same_at (same_at s4 Gr) Go
            · rw [upd_ne nro]
              exact upd_same
            · rw [upd_same]
              simp
            · refine List.Perm.trans ?_ pm
              rw [List.append_assoc]
              exact List.Perm.append_left fs (erase_perm hj)
            · have := src_at (src_at S3 nrp.symm) nop.symm (o := HO.lst (fs.map V.str ++ [V.str (z0 :: rs)[j]])) (H := upd H2 r (.lst (((z0 :: rs).eraseIdx j).map V.str)))
              refine this.mono ?_
              rw [List.length_append]
              simp
              omega
          · show (match (upd (upd H2 r _) o _) r with | some (.lst xs) => xs.length | _ => 0) < (match H' r with | some (.lst xs) => xs.length | _ => 0)
            rw [upd_ne nro, upd_same, er]
            simp only [List.length_map]
            rw [lr2]
            exact Nat.lt_succ_self _
    · rintro σ' H1 Q1 Q2 hq ⟨v, ev, lv, kv⟩
      exact ⟨v, ev, lv, fun p hp => let ⟨d, e, a1, a2, a3, a4, c, ec, qq⟩ := kv p hp; ⟨d, e, a1, a2, a3, a4, c, ec, hq _ _ qq⟩⟩
end
end K09

set_option Elab.async false
set_option linter.all false
set_option maxRecDepth 100000
set_option maxHeartbeats 4000000
namespace K09
open PySem Nb
open L2 hiding del del_ne del_same
/-- lists of names, in a list -/
def LsAt (H : Hp) (l : Addr) (vs : List V) (rows : List (List Str)) : Prop := H l = some (.lst vs) ∧ F2 (fun v (r : List Str) => ∃ a, v = .ref a ∧ H a = some (.lst (r.map V.str))) vs rows
theorem ls_same {H H' : Hp} {l : Addr} {vs : List V} {rows : List (List Str)} (s : Same H H') (h : LsAt H l vs rows) : LsAt H' l vs rows := ⟨s _ _ h.1, f2_imp (fun _ _ ⟨a, e, k⟩ => ⟨a, e, s _ _ k⟩) h.2⟩
theorem ls_get {H : Hp} {l : Addr} {vs : List V} {rows : List (List Str)} (h : LsAt H l vs rows) {i : Nat} {y : V} (e : vs[i]? = some y) : ∃ a, y = .ref a ∧ H a = some (.lst ((rows.getD i []).map V.str)) ∧ vs.getD i .non = y ∧ rows[i]? = some (rows.getD i []) := by
  obtain ⟨r, er, a, ea, k⟩ := f2_getl h.2 e
  refine ⟨a, ea, ?_, ?_, ?_⟩
  · rw [List.getD_eq_getElem?_getD, er]
    exact k
  · rw [List.getD_eq_getElem?_getD, e]
    rfl
  · rw [List.getD_eq_getElem?_getD, er]
    rfl
theorem ls_len {H : Hp} {l : Addr} {vs : List V} {rows : List (List Str)} (h : LsAt H l vs rows) : vs.length = rows.length := f2_len h.2
theorem dp_sel {K : PySem.W.Frag} {H : Hp} {l : Addr} {vs : List V} {rows : List (List Str)} (h : LsAt H l vs rows) : ∀ is : List Nat, (∀ i ∈ is, i < vs.length) → DpAll K H (is.map fun i => vs.getD i .non) (is.map fun i => .list ((rows.getD i []).map PyData.str))
  | [], _ => .nil
  | i :: is, k => by
    have lt := k i (List.mem_cons_self ..)
    obtain ⟨a, ea, ha, eg, _⟩ := ls_get h (List.getElem?_eq_getElem lt)
    refine .cons ?_ (dp_sel h is fun j hj => k j (List.mem_cons_of_mem _ hj))
    show Dp K H (vs.getD i .non) _
    rw [eg, ea]
    exact .lst (SqL.of ha) (dps_strs _)
theorem fine_sel {rows : List (List Str)} (hw : ∀ r ∈ rows, ∀ z ∈ r, Word z) (is : List Nat) : Fine 2 (.list (is.map fun i => .list ((rows.getD i []).map PyData.str))) := fine_list fun d hd => by
  obtain ⟨i, _, rfl⟩ := List.mem_map.mp hd
  refine fine_strs fun z hz => ?_
  rw [List.getD_eq_getElem?_getD] at hz
  cases e : rows[i]? with
  | none =>
    rw [e] at hz
    cases hz
  | some r =>
    rw [e] at hz
    exact hw r (List.mem_of_getElem? e) z hz
theorem ne_nil {K : PySem.W.Frag} {H : Hp} {l b : Addr} {ds : List PyData} {n : Nat} {Q : VK} (hd : Dp K H (.ref l) (.list ds)) (hf : Fine n (.list ds)) (ln : n ≤ 64) (eb : H b = some (.lst [])) (q : Q (.bl (!ds.isEmpty)) H) : rNeD K (.ref l) (.ref b) H Q :=
  ⟨.list ds, .list [], hd, .lst (SqL.of eb) .nil, hf.shaped ln, by decide, by rw [eqv_nil]; exact q⟩
theorem eq_nil {K : PySem.W.Frag} {H : Hp} {l b : Addr} {ds : List PyData} {n : Nat} {Q : VK} (hd : Dp K H (.ref l) (.list ds)) (hf : Fine n (.list ds)) (ln : n ≤ 64) (eb : H b = some (.lst [])) (q : Q (.bl ds.isEmpty) H) : rEqD K (.ref l) (.ref b) H Q :=
  ⟨.list ds, .list [], hd, .lst (SqL.of eb) .nil, hf.shaped ln, by decide, by rw [eqv_nil]; exact q⟩
theorem cr_listSK {X : Cx} {K : PySem.W.Frag} (hK : X.K = K) : CallR X (.type "list") (fun xs H Q => ∃ p ys, xs = [.ref p] ∧ (SqL K H p ys ∨ SqT K H p ys) ∧ ∀ H2 l, Same H H2 → H l = none → H2 l = some (.lst ys) → Q (.ref l) H2) := by
  subst hK
  exact cr_listS
/-- the rows of a comprehension over lists, each made anew -/
theorem f2_made {P : Nat → List Str} {R : V → List Str → Prop} : ∀ {is : List Nat} {ys : List V}, F2 (fun i y => R y (P i)) is ys → F2 R ys (is.map P)
  | _, _, .nil => .nil
  | _, _, .cons a b => .cons a (f2_made b)
theorem sel_map {α β : Type} (d : α) (p : α → Bool) (g : α → β) (xs : List α) : ((List.range xs.length).filter fun i => p (xs.getD i d)).map (fun i => g (xs.getD i d)) = (xs.filter p).map g := by
  have e : xs.filter p = ((List.range xs.length).map fun i => xs.getD i d).filter p := by rw [range_getD]
  rw [e, List.filter_map, List.map_map]
  rfl
theorem heads_filter : ∀ rows : List (List Str), (rows.filter fun r => decide (r ≠ [])).map (fun r => r.headD "") = rows.filterMap List.head?
  | [] => rfl
  | [] :: rows => by
    rw [List.filter_cons_of_neg (by simp), List.filterMap_cons_none (by rfl)]
    exact heads_filter rows
  | (x :: r) :: rows => by
    rw [List.filter_cons_of_pos (by simp), List.map_cons, List.filterMap_cons_some (by rfl), heads_filter rows]
    rfl
theorem tail_cut (r : List Str) : cutV (r.map V.str) (some 1) none = r.tail.map V.str := by
  unfold cutV
  cases r with
  | nil => rfl
  | cons x r =>
    have e : HT.sIx ((x :: r).map V.str).length 0 (some 1) = 1 := by
      rw [show (some (1 : Int)) = some ((1 : Nat) : Int) from rfl, HT.sIx_nat, List.length_map, List.length_cons]
      omega
    rw [e, HT.sIx_none, List.map_cons]
    show ((r.map V.str)).take _ = _
    rw [List.take_of_length_le]
    · rfl
    · rw [List.length_cons]
      omega
theorem in_strs (z : Str) (r : List Str) : inV (.str z) (r.map V.str) = decide (z ∈ r) := by
  unfold inV
  rw [List.any_map, Bool.eq_iff_iff, List.any_eq_true, decide_eq_true_eq]
  constructor
  · rintro ⟨y, hy, e⟩
    have : y = z := by simpa [eqV] using e
    exact this ▸ hy
  · intro h
    exact ⟨z, h, by simp [eqV]⟩
theorem yesT {te : TE} {σ : L2.St} {H : Hp} {Nx : VK} {Nf : Hp → Prop} (h : te σ H Nx) : tYes σ H (fun b H3 => if b = true then te σ H3 Nx else Nf H3) := by
  show if true = true then te σ H Nx else Nf H
  exact iteT h
structure LMI (rows : List (List Str)) (fk : List Str) : Prop where
  nd : fk.Nodup
  sub : ∀ x ∈ fk, x ∈ rows.flatten
  eq : Mg.drawn rows = fk ++ Mg.drawn (Mg.alive fk rows)
  ord : ∀ r ∈ rows, r.Sublist (fk ++ r.filter fun x => decide (x ∉ fk))
theorem lmi_0 (rows : List (List Str)) : LMI rows [] := ⟨List.nodup_nil, (fun x h => nomatch h), by rw [Mg.alive_nil]; rfl, fun r _ => by
  have e : (r.filter fun x => decide (x ∉ ([] : List Str))) = r := List.filter_eq_self.mpr fun x _ => by simp
  rw [e]
  exact List.Sublist.refl _⟩
theorem alive_mem {fk : List Str} {rows : List (List Str)} {x : Str} (h : x ∈ (Mg.alive fk rows).flatten) : x ∈ rows.flatten ∧ x ∉ fk := by
  obtain ⟨a, ha, hx⟩ := List.mem_flatten.mp h
  obtain ⟨r, hr, rfl⟩ := List.mem_map.mp ha
  obtain ⟨h1, h2⟩ := List.mem_filter.mp hx
  exact ⟨List.mem_flatten.mpr ⟨r, hr, h1⟩, of_decide_eq_true h2⟩
theorem lmi_step {rows : List (List Str)} {fk : List Str} {x : Str} (M : LMI rows fk) (p : Mg.pick (Mg.alive fk rows) = some x) : LMI rows (fk ++ [x]) := by
  obtain ⟨m1, m2⟩ := alive_mem (Mg.pick_mem p)
  refine ⟨?_, fun y hy => ?_, ?_, fun r hr => ?_⟩
  · rw [List.nodup_append]
    refine ⟨M.nd, by simp, fun a ha b hb => ?_⟩
    have : b = x := by simpa using hb
    subst this
    exact fun e => m2 (e ▸ ha)
  · rcases List.mem_append.mp hy with h | h
    · exact M.sub y h
    · have : y = x := by simpa using h
      exact this ▸ m1
  · rw [M.eq, Mg.drawn_some p, Mg.without_alive, List.append_assoc]
    rfl
  · have g : Mg.good (Mg.alive fk rows) x = true := List.find?_some p
    have g1 := List.all_eq_true.mp g (r.filter fun y => decide (y ∉ fk)) (List.mem_map.mpr ⟨r, hr, rfl⟩)
    have g2 : x ∉ (r.filter fun y => decide (y ∉ fk)).tail := of_decide_eq_true g1
    have e : (r.filter fun y => decide (y ∉ fk ++ [x])) = (r.filter fun y => decide (y ∉ fk)).filter fun y => decide (y ≠ x) := by
      rw [List.filter_filter]
      congr 1
      funext y
      rw [Bool.eq_iff_iff]
      simp
      constructor
      · rintro ⟨a, b⟩
        exact ⟨b, a⟩
      · rintro ⟨a, b⟩
        exact ⟨b, a⟩
    have o := M.ord r hr
    rw [e]
    generalize (r.filter fun y => decide (y ∉ fk)) = a at g2 o
    cases a with
    | nil =>
      rw [List.append_nil] at o
      rw [List.filter_nil, List.append_nil]
      exact o.trans (List.sublist_append_left _ _)
    | cons y t =>
      have nt : (t.filter fun y => decide (y ≠ x)) = t := List.filter_eq_self.mpr fun z hz => decide_eq_true fun e => g2 (e ▸ hz)
      by_cases h : y = x
      · subst h
        rw [List.filter_cons_of_neg (by simp), nt, List.append_assoc]
        exact o
      · rw [List.filter_cons_of_pos (by simpa using h), nt]
        refine o.trans ?_
        rw [List.append_assoc]
        exact (List.Sublist.refl fk).append (List.sublist_cons_self x _)
theorem lmi_end {rows : List (List Str)} {fk : List Str} (M : LMI rows fk) (all : ∀ r ∈ Mg.alive fk rows, r = []) : Mg.drawn rows = fk ∧ Full rows ∧ ∀ r ∈ rows, r.Sublist (Mg.drawn rows) := by
  have pn : Mg.pick (Mg.alive fk rows) = none := by
    have e : (Mg.alive fk rows).filterMap List.head? = [] := List.filterMap_eq_nil_iff.mpr fun r hr => by rw [all r hr]; rfl
    unfold Mg.pick
    rw [e]
    rfl
  have ed : Mg.drawn rows = fk := by rw [M.eq, Mg.drawn_none pn, List.append_nil]
  have gone : ∀ r ∈ rows, (r.filter fun x => decide (x ∉ fk)) = [] := fun r hr => all _ (List.mem_map.mpr ⟨r, hr, rfl⟩)
  refine ⟨ed, ?_, fun r hr => ?_⟩
  · unfold Full
    rw [ed]
    refine Nat.le_antisymm (nodup_sub M.nd fun x hx => mem_names.mpr (M.sub x hx)) (nodup_sub (nodup_seen _) fun x hx => ?_)
    obtain ⟨r, hr, h⟩ := List.mem_flatten.mp (mem_names.mp hx)
    by_cases q : x ∈ fk
    · exact q
    · have : x ∈ r.filter fun x => decide (x ∉ fk) := List.mem_filter.mpr ⟨h, decide_eq_true q⟩
      rw [gone r hr] at this
      cases this
  · have o := M.ord r hr
    rw [gone r hr, List.append_nil] at o
    rw [ed]
    exact o
/-- where no name can be taken and some are left, there is no merge -/
theorem lmi_stuck {rows : List (List Str)} {fk : List Str} (M : LMI rows fk) (pn : Mg.pick (Mg.alive fk rows) = none) (some_ : ¬ ∀ r ∈ Mg.alive fk rows, r = []) : ¬ Full rows := by
  intro fu
  have ed : Mg.drawn rows = fk := by rw [M.eq, Mg.drawn_none pn, List.append_nil]
  unfold Full at fu
  rw [ed] at fu
  refine some_ fun r hr => ?_
  obtain ⟨r0, h0, rfl⟩ := List.mem_map.mp hr
  refine List.filter_eq_nil_iff.mpr fun x hx => ?_
  have hn : x ∈ names rows := mem_names.mpr (List.mem_flatten.mpr ⟨r0, h0, hx⟩)
  intro nx
  have nx : x ∉ fk := of_decide_eq_true nx
  have nd : (x :: fk).Nodup := List.nodup_cons.mpr ⟨nx, M.nd⟩
  have := nodup_sub nd fun y hy => (List.mem_cons.mp hy).elim (fun e => e ▸ hn) fun m => mem_names.mpr (M.sub y m)
  rw [List.length_cons] at this
  omega
def spLMerged : Sp := fun vs H Q _ => ∃ (l : Addr) (as : List Addr) (rows : List (List Str)), vs = [.ref l] ∧ H l = some (.lst (as.map V.ref)) ∧ RowsR H as rows ∧ (∀ row ∈ rows, LongRow row) ∧ rows.length ≤ 10 ∧
  (∀ H' r, Same H H' → Full rows → (Mg.drawn rows).Nodup → (∀ x ∈ rows, x.Sublist (Mg.drawn rows)) → FtA H' r ((Mg.drawn rows).map V.str) → Q (.ref r) H') ∧ (¬ Full rows → ∀ H', Same H H' → Q .non H')
section
variable {P : Program} {w : World} {K : PySem.W.Frag} {mg : Str → Option Value} {base : Heap}
abbrev s_h_merged : Stmt := topS 66
theorem sc_h_merged : FnScope ["_law_lists", "_law_found", "_law_heads", "_law_good", "_law_one", "_law_head", "_law_name"] ["_law_lists"] (defScope s_h_merged) := ⟨rfl, rfl, rfl, by decide +kernel, rfl, by decide +kernel, by decide +kernel⟩
def sx_h_merged_0 : Scope := { kind := .function, names := [(".0", .local), ("_law_one", .local), ("list", .globalImplicit)], isGenerator := false, isCoroutine := false, more := [] }
def sx_h_merged_1 : Scope := { kind := .function, names := [(".0", .local), ("_law_one", .local)], isGenerator := false, isCoroutine := false, more := [] }
def sx_h_merged_2 : Scope := { kind := .function, names := [(".0", .local), ("_law_one", .local)], isGenerator := false, isCoroutine := false, more := [] }
def sx_h_merged_3 : Scope := { kind := .function, names := [(".0", .local), ("_law_one", .local), ("_law_head", .cell)], isGenerator := false, isCoroutine := false, more := [] }
def sx_h_merged_4 : Scope := { kind := .function, names := [(".0", .local), ("_law_head", .cell), ("_law_lists", .cell)], isGenerator := false, isCoroutine := false, more := [] }
def sx_h_merged_5 : Scope := { kind := .function, names := [(".0", .local), ("_law_name", .local), ("_law_good", .cell)], isGenerator := false, isCoroutine := false, more := [] }
def sx_h_merged_6 : Scope := { kind := .function, names := [(".0", .local), ("_law_one", .local), ("_law_good", .cell)], isGenerator := false, isCoroutine := false, more := [] }
theorem ok_h_merged {f : Addr} {fd : FuncData} (F : Fun K "_law_merged" "_law_merged" s_h_merged f fd) (T : Txt mg) : FnOk P w K mg base CX0 1 f fd ["_law_lists"] (spLMerged) := by
  refine F.ok sc_h_merged (fun vs H Q E h => ?_) (fun cdv A outer s H vs Q E hr h => ?_)
  · obtain ⟨l, as, rows, rfl, _⟩ := h
    rfl
  · obtain ⟨l, as, rows, rfl, hl, hR, hg, h10, q1, q2⟩ := h
    refine ⟨_, pss_cons (ps_asg (pe_tupS (pa_cons (pe_lc (own := [("_law_one", 4)]) (g := gName 4) (tt := tYes) rfl sc_h_merged.nd (pi_list (pv 0)) (blkOk_by (N := ["_law_lists", "_law_found", "_law_heads", "_law_good", "_law_one", "_law_head", "_law_name"]) (sc := (defScope s_h_merged)) (by decide +kernel)) (fun _ _ _ _ _ => (pg_name (i := 4) sc_h_merged.nd rfl (Or.inl rfl))) (fun _ _ _ _ _ => pts_nil) (fun _ _ _ _ _ => (pe_callTy (cr_listSK (K := K) rfl) (by rfl) T.list (by decide +kernel) (pa_cons (pv 4) pa_nil)))) (pa_cons (pe_lstS pa_nil) pa_nil))) (pg_tup rfl (pgs_cons (pg_name (i := 0) sc_h_merged.nd rfl (Or.inr rfl)) (pgs_cons (pg_name (i := 1) sc_h_merged.nd rfl (Or.inl rfl)) pgs_nil))))
        (pss_cons (ps_while PassesOwn.never (pt_up (pt_cmpR (op_neD hr.units) (pe_lc (own := [("_law_one", 4)]) (g := gName 4) rfl sc_h_merged.nd (pi_list (pv 0)) (blkOk_by (N := ["_law_lists", "_law_found", "_law_heads", "_law_good", "_law_one", "_law_head", "_law_name"]) (sc := (defScope s_h_merged)) (by decide +kernel)) (fun _ _ _ _ _ => (pg_name (i := 4) sc_h_merged.nd rfl (Or.inl rfl))) (fun _ _ _ _ _ => (pts_one (pt_cmpR (r := rNeD K) (op_neD hr.units) (pv 4) (pe_lstS pa_nil) (nomark _)))) (fun _ _ _ _ _ => (pv 4))) (pe_lstS pa_nil) (nomark _))) (pss_cons (ps_setLc (i := 2) (own := [("_law_one", 4)]) (g := gName 4) rfl sc_h_merged.nd rfl rfl (sw_true rfl rfl rfl (by decide +kernel)) (pi_list (pv 0)) (blkOk_by (N := ["_law_lists", "_law_found", "_law_heads", "_law_good", "_law_one", "_law_head", "_law_name"]) (sc := (defScope s_h_merged)) (by decide +kernel)) (fun _ _ _ _ _ => (pg_name (i := 4) sc_h_merged.nd rfl (Or.inl rfl))) (fun _ _ _ _ _ => (pts_one (pt_cmpR (r := rNeD K) (op_neD hr.units) (pv 4) (pe_lstS pa_nil) (nomark _)))) (fun _ _ _ _ _ => (pe_ix (r := rIxL K) ix_list (pv 4) pe_int (fun _ _ => rfl))))
        (pss_cons (ps_set (i := 3) sc_h_merged.nd rfl (Or.inr rfl) (pe_lc (own := [("_law_head", 5)]) (g := gName 5) rfl sc_h_merged.nd (pi_list (pv 2)) (blkOk_by (N := ["_law_lists", "_law_found", "_law_heads", "_law_good", "_law_one", "_law_head", "_law_name"]) (sc := (defScope s_h_merged)) (by decide +kernel)) (fun _ _ _ _ _ => (pg_name (i := 5) sc_h_merged.nd rfl (Or.inr rfl))) (fun _ _ _ _ _ => (pts_one (pt_cmpR (r := rEqD K) (op_eqD hr.units) (pe_lc (own := [("_law_one", 4)]) (g := gName 4) rfl sc_h_merged.nd (show PI _ _ _ (iList K _) from pi_list (pv 0)) (blkOk_by (N := ["_law_lists", "_law_found", "_law_heads", "_law_good", "_law_one", "_law_head", "_law_name"]) (sc := sx_h_merged_4) (by decide +kernel)) (fun _ _ _ _ _ => (pg_name (i := 4) sc_h_merged.nd rfl (Or.inl rfl))) (fun _ _ _ _ _ => (pts_one (pt_cmpR (r := rIn K false) op_in_seq (pv 5) (pe_slice (r := rSlL K) sl_list (pv 4) (po_some pe_int) po_none) (by rfl)))) (fun _ _ _ _ _ => (pv 4))) (pe_lstS pa_nil) (nomark _)))) (fun _ _ _ _ _ => (pv 5))))
        (pss_cons (ps_if (pt_cmpR (op_eqD hr.units) (pv 3) (pe_lstS pa_nil) (nomark _)) (pss_one (ps_ret pe_non)) pss_nil)
        (pss_cons (ps_expr (pe_bm PySem.F.plainAttrs_list PySem.F.slot_list_append PySem.F.type_list_append mt_append (pv 1) (pa_cons (pe_ix ix_list (pv 3) pe_int (fun _ _ => rfl)) pa_nil)))
        (pss_one (ps_set (i := 0) sc_h_merged.nd rfl (Or.inr rfl) (pe_lc (own := [("_law_one", 4)]) (g := gName 4) (tt := tYes) rfl sc_h_merged.nd (pi_list (pv 0)) (blkOk_by (N := ["_law_lists", "_law_found", "_law_heads", "_law_good", "_law_one", "_law_head", "_law_name"]) (sc := (defScope s_h_merged)) (by decide +kernel)) (fun _ _ _ _ _ => (pg_name (i := 4) sc_h_merged.nd rfl (Or.inl rfl))) (fun _ _ _ _ _ => pts_nil) (fun _ _ _ _ _ => (pe_lc (own := [("_law_name", 6)]) (g := gName 6) rfl sc_h_merged.nd (show PI _ _ _ (iList K _) from pi_list (pv 4)) (blkOk_by (N := ["_law_lists", "_law_found", "_law_heads", "_law_good", "_law_one", "_law_head", "_law_name"]) (sc := sx_h_merged_6) (by decide +kernel)) (fun _ _ _ _ _ => (pg_name (i := 6) sc_h_merged.nd rfl (Or.inl rfl))) (fun _ _ _ _ _ => (pts_one (pt_cmpR op_ne (pv 6) (pe_ix (r := rIxL K) ix_list (pv 3) pe_int (fun _ _ => rfl)) (nomark _)))) (fun _ _ _ _ _ => (pv 6))))))))))))
        (pss_one (ps_ret (pe_callTy cr_tupleFS (by rfl) T.tuple (by decide +kernel) (pa_cons (pv 1) pa_nil))))), ?_⟩
    have la : as.length = rows.length := hR.1
    have words : ∀ r ∈ rows, ∀ z ∈ r, Word z := fun r hr => long_words (hg r hr)
    refine ⟨_, rfl, l, rfl, ⟨_, SqL.of hl⟩, fun D hD => ?_⟩
    refine lcR (walk_list (xs := as.map V.ref)) (fun _ => true) (fun i y H => ∃ a, y = .ref a ∧ H a = some (.lst ((rows.getD i []).map V.str))) (fun i y H1 H2 s ⟨a, e, k⟩ => ⟨a, e, s _ _ k⟩) (by rw [List.length_map]; omega) hD (fun H2 s => SqL.of (s _ _ hl)) ?_ ?_
    · rintro i x H1 H2 Nx Nf hi s1 nD ⟨rfl, ex⟩ k1 k2
      rw [List.getElem?_map] at ex
      obtain ⟨a, ea, rfl⟩ : ∃ a, as[i]? = some a ∧ x = .ref a := by
        cases e : as[i]? with
        | none => rw [e] at ex; cases ex
        | some a => rw [e] at ex; exact ⟨a, rfl, (Option.some.inj ex).symm⟩
      have il : i < rows.length := by
        rw [← la]
        exact (List.getElem?_eq_some_iff.mp ea).1
      have ho := hR.2 i a rows[i] ea (List.getElem?_eq_getElem il)
      have eg : rows.getD i [] = rows[i] := by
        rw [List.getD_eq_getElem?_getD, List.getElem?_eq_getElem il]
        rfl
      refine ⟨rfl, yesT ⟨_, rfl, a, _, rfl, .inr (.inl (rd_same s1 ho)), fun H3 l3 s3 n3 e3 => k1 rfl _ H3 s3 ⟨l3, rfl, ?_⟩⟩⟩
      rw [Nb.del_ne (fun z => nD (by rw [← z]; exact n3)), e3, eg]
    rintro H1 ys s1 e1 f1
    have L1 : LsAt H1 D ys rows := by
      refine ⟨e1, ?_⟩
      have f2 := f2_made (P := fun i => rows.getD i []) (R := fun v (r : List Str) => ∃ a, v = .ref a ∧ H1 a = some (.lst (r.map V.str))) f1
      rw [List.filter_eq_self.mpr (fun _ _ => rfl), List.length_map, la, range_getD] at f2
      exact f2
    refine ⟨by decide, fun H2 fo s2 n2 e2 => ⟨(by show 2 ≤ 100000; decide), fun H3 t s3 n3 e3 => ?_⟩⟩
    refine ⟨t, [.ref D, .ref fo], rfl, .inl (.inl e3), rfl, .ref D, [.ref fo], rfl, .ref fo, [], rfl, rfl, ?_⟩
    refine while_by (fun σ H' => ∃ ls fk vs v2 v3, σ = [some (.ref ls), some (.ref fo), v2, v3, none, none, none] ∧ Same H H' ∧ LsAt (Nb.del H' fo) ls vs (Mg.alive fk rows) ∧ H' fo = some (.lst (fk.map V.str)) ∧ LMI rows fk)
      (fun σ H' => match H' fo with | some (.lst xs) => rows.flatten.length - xs.length | _ => 0) ?_ ?_ (fun σ H Q Q' k z => tUp_mono σ H Q Q' k z)
    · refine ⟨D, [], ys, none, none, rfl, (s1.trans s2).trans s3, ?_, s3 _ _ e2, lmi_0 rows⟩
      rw [Mg.alive_nil]
      exact ls_same (same_del (s2.trans s3) n2) L1
    rintro σ H4 ⟨ls, fk, vs, v2, v3, rfl, s4, hL, eF, M⟩
    have fits : ∀ r ∈ Mg.alive fk rows, r.length ≤ 100 ∧ ∀ z ∈ r, Word z := fun r hr => by
      obtain ⟨r0, h0, rfl⟩ := List.mem_map.mp hr
      exact ⟨Nat.le_trans (List.length_filter_le _ _) (hg r0 h0).2.2, fun z hz => words r0 h0 z (List.mem_filter.mp hz).1⟩
    have lrk : (Mg.alive fk rows).length = rows.length := List.length_map ..
    have step : ∀ x, Mg.pick (Mg.alive fk rows) = some x → LMI rows (fk ++ [x]) := fun x p => lmi_step M p
    have fin : (∀ r ∈ Mg.alive fk rows, r = []) → Mg.drawn rows = fk ∧ Full rows ∧ ∀ r ∈ rows, r.Sublist (Mg.drawn rows) := lmi_end M
    have stuck : Mg.pick (Mg.alive fk rows) = none → ¬ (∀ r ∈ Mg.alive fk rows, r = []) → ¬ Full rows := fun p n => lmi_stuck M p n
    have wo : ∀ x, Mg.without x (Mg.alive fk rows) = Mg.alive (fk ++ [x]) rows := fun x => Mg.without_alive fk rows x
    generalize Mg.alive fk rows = rk at hL fits lrk step fin stuck wo
    have lv : vs.length = rk.length := ls_len hL
    have hL4 : LsAt H4 ls vs rk := ls_same del_same hL
    have wk : ∀ r ∈ rk, ∀ z ∈ r, Word z := fun r hr => (fits r hr).2
    have n100 : vs.length ≤ 100000 := by omega
    refine ⟨_, ⟨_, rfl, ls, rfl, ⟨vs, SqL.of hL4.1⟩, fun D hD => ?_⟩, fun _ _ z => z⟩
    refine lcS (walk_list (xs := vs)) (fun i => decide (rk.getD i [] ≠ [])) (fun i => vs.getD i .non) n100 hD (fun H5 s5 => SqL.of (s5 _ _ hL4.1)) ?_ ?_
    · rintro i x H5 H6 Nx Nf hi s5 ⟨rfl, ex⟩ k1 k2
      obtain ⟨a, rfl, ha, eg, er⟩ := ls_get (ls_same s5 hL4) ex
      refine ⟨rfl, _, rfl, by decide, fun H7 e s7 n7 e7 => ne_nil (.lst (SqL.of (s7 _ _ ha)) (dps_strs _)) (fine_strs (wk _ (List.mem_of_getElem? er))) (by decide) e7 ⟨_, rfl, ?_⟩⟩
      cases q : rk.getD i [] with
      | nil => exact iteF (k2 (by simp only [q]; decide) H7 s7)
      | cons z zs =>
        refine iteT ⟨_, rfl, ?_⟩
        have := k1 (by simp only [q]; simp) H7 s7
        rw [eg] at this
        exact this
    rintro H5 s5 e5
    refine ⟨by decide, fun H6 e s6 n6 e6 => ne_nil (.lst (SqL.of (s6 _ _ e5)) (dp_sel (ls_same (s5.trans s6) hL4) _ fun i hi => List.mem_range.mp (List.mem_filter.mp hi).1)) (fine_sel wk _) (by decide) e6 ⟨_, rfl, ?_⟩⟩
    by_cases all : ∀ r ∈ rk, r = []
    · have none_ : (List.range vs.length).filter (fun i => decide (rk.getD i [] ≠ [])) = [] := List.filter_eq_nil_iff.mpr fun i hi => by
        have lt := List.mem_range.mp hi
        obtain ⟨_, _, _, _, er⟩ := ls_get hL4 (List.getElem?_eq_getElem lt)
        rw [all _ (List.mem_of_getElem? er)]
        simp
      rw [none_]
      refine iteF ?_
      obtain ⟨g1, g2, g3⟩ := fin all
      exact ⟨_, rfl, fo, _, rfl, SqL.of (s6 _ _ (s5 _ _ eF)), fun H7 r o7 s7 _ e7 t7 => q1 H7 r (((s4.trans s5).trans s6).trans s7) g2 (by rw [g1]; exact M.nd) g3 (by rw [g1]; exact ⟨o7, e7, t7⟩)⟩
    have some_ : ∃ i is, (List.range vs.length).filter (fun i => decide (rk.getD i [] ≠ [])) = i :: is := by
      cases q : (List.range vs.length).filter (fun i => decide (rk.getD i [] ≠ [])) with
      | cons i is => exact ⟨i, is, rfl⟩
      | nil =>
        refine (all fun r hr => ?_).elim
        obtain ⟨i, er⟩ := List.getElem?_of_mem hr
        have lt : i < vs.length := by
          rw [lv]
          exact (List.getElem?_eq_some_iff.mp er).1
        have := List.filter_eq_nil_iff.mp q i (List.mem_range.mpr lt)
        rw [List.getD_eq_getElem?_getD, er] at this
        simpa using this
    obtain ⟨i0, is0, q0⟩ := some_
    rw [q0]
    refine iteT ?_
    have L6 : LsAt (Nb.del H6 fo) ls vs rk := ls_same (del_mono (s5.trans s6)) hL
    have F6 : H6 fo = some (.lst (fk.map V.str)) := s6 _ _ (s5 _ _ eF)
    have S6 : Same H H6 := (s4.trans s5).trans s6
    have L6' : LsAt H6 ls vs rk := ls_same del_same L6
    -- the heads
    refine ⟨_, rfl, ls, rfl, ⟨vs, SqL.of L6'.1⟩, fun D2 hD2 => ?_⟩
    refine lcS (walk_list (xs := vs)) (fun i => decide (rk.getD i [] ≠ [])) (fun i => .str ((rk.getD i []).headD "")) n100 hD2 (fun H5 s5 => SqL.of (s5 _ _ L6'.1)) ?_ ?_
    · rintro i x H7 H8 Nx Nf hi s7 ⟨rfl, ex⟩ k1 k2
      obtain ⟨a, rfl, ha, eg, er⟩ := ls_get (ls_same s7 L6') ex
      refine ⟨rfl, _, rfl, by decide, fun H9 e s9 n9 e9 => ne_nil (.lst (SqL.of (s9 _ _ ha)) (dps_strs _)) (fine_strs (wk _ (List.mem_of_getElem? er))) (by decide) e9 ⟨_, rfl, ?_⟩⟩
      cases q : rk.getD i [] with
      | nil => exact iteF (k2 (by simp only [q]; decide) H9 s9)
      | cons z zs =>
        rw [q] at ha
        refine iteT ⟨_, rfl, a, _, _, _, rfl, rfl, SqL.of (s9 _ _ ha), atI_nat (j := 0) rfl, ?_⟩
        have := k1 (by simp only [q]; simp) H9 s9
        simp only [q] at this
        exact this
    rintro H7 s7 e7
    obtain ⟨hs, ehs⟩ : ∃ hs, hs = rk.filterMap List.head? := ⟨_, rfl⟩
    have e7' : H7 D2 = some (.lst (hs.map V.str)) := by
      have z := sel_map ([] : List Str) (fun r => decide (r ≠ [])) (fun r => r.headD "") rk
      rw [heads_filter, ← ehs, ← lv] at z
      rw [e7, ← z, List.map_map]
      rfl
    have lh : hs.length ≤ 10 := by
      rw [ehs]
      exact Nat.le_trans (List.length_filterMap_le _ _) (by omega)
    have wh : ∀ z ∈ hs, Word z := fun z hz => by
      rw [ehs] at hz
      obtain ⟨r, hr, h2⟩ := List.mem_filterMap.mp hz
      exact wk r hr z (List.mem_of_head? h2)
    have L7 : LsAt H7 ls vs rk := ls_same s7 L6'
    -- the good ones
    refine ⟨_, rfl, D2, rfl, ⟨_, SqL.of e7'⟩, fun D3 hD3 => ?_⟩
    refine lcS (walk_list (xs := hs.map V.str)) (fun i => Mg.good rk (hs.getD i "")) (fun i => .str (hs.getD i "")) (by rw [List.length_map]; omega) hD3 (fun H5 s5 => SqL.of (s5 _ _ e7')) ?_ ?_
    · rintro i x H8 H9 Nx Nf hi s8 ⟨rfl, ex⟩ k1 k2
      rw [List.getElem?_map] at ex
      obtain ⟨z, ez, rfl⟩ : ∃ z, hs[i]? = some z ∧ x = .str z := by
        cases e : hs[i]? with
        | none => rw [e] at ex; cases ex
        | some a => rw [e] at ex; exact ⟨a, rfl, (Option.some.inj ex).symm⟩
      have eg : hs.getD i "" = z := by
        rw [List.getD_eq_getElem?_getD, ez]
        rfl
      rw [eg] at k1 k2
      have L9 : LsAt H9 ls vs rk := ls_same s8 L7
      refine ⟨rfl, _, rfl, ls, rfl, ⟨vs, SqL.of L9.1⟩, fun D4 hD4 => ?_⟩
      refine lcS (walk_list (xs := vs)) (fun j => decide (z ∈ (rk.getD j []).tail)) (fun j => vs.getD j .non) n100 hD4 (fun H5 s5 => SqL.of (s5 _ _ L9.1)) ?_ ?_
      · rintro j y Ha Hb Ny Nn hj sa ⟨rfl, ey⟩ m1 m2
        obtain ⟨a, rfl, ha, eg2, er⟩ := ls_get (ls_same sa L9) ey
        refine ⟨rfl, _, rfl, _, rfl, _, rfl, a, _, rfl, SqL.of ha, fun p hp => ?_⟩
        refine ⟨p, _, rfl, .inl (SqL.of upd_same), rfl, ?_, _, rfl, ?_⟩
        · rw [tail_cut]
          exact List.all_eq_true.mpr fun v hv => by
            obtain ⟨w, _, rfl⟩ := List.mem_map.mp hv
            rfl
        · rw [tail_cut, if_neg (by decide), in_strs]
          by_cases q : z ∈ (rk.getD j []).tail
          · rw [decide_eq_true q]
            refine iteT ⟨_, rfl, ?_⟩
            have := m1 (decide_eq_true q) _ (same_new (o := HO.lst ((rk.getD j []).tail.map V.str)) hp)
            rw [eg2] at this
            exact this
          · rw [decide_eq_false q]
            exact iteF (m2 (decide_eq_false q) _ (same_new hp))
      rintro Ha sa ea
      refine ⟨by decide, fun Hb e sb nb eb => eq_nil (.lst (SqL.of (sb _ _ ea)) (dp_sel (ls_same (sa.trans sb) L9) _ fun i hi => List.mem_range.mp (List.mem_filter.mp hi).1)) (fine_sel wk _) (by decide) eb ⟨_, rfl, ?_⟩⟩
      have key : ((List.range vs.length).filter (fun j => decide (z ∈ (rk.getD j []).tail))).map (fun i => PyData.list ((rk.getD i []).map PyData.str)) = ((rk.filter fun r => decide (z ∈ r.tail))).map fun r => PyData.list (r.map PyData.str) := by
        rw [lv]
        exact sel_map ([] : List Str) (fun r => decide (z ∈ r.tail)) (fun r => PyData.list (r.map PyData.str)) rk
      rw [key]
      by_cases g : Mg.good rk z = true
      · have e0 : (rk.filter fun r => decide (z ∈ r.tail)) = [] := List.filter_eq_nil_iff.mpr fun r hr => by
          have := of_decide_eq_true (List.all_eq_true.mp g r hr)
          simpa using this
        rw [e0]
        exact iteT ⟨_, rfl, k1 g Hb (sa.trans sb)⟩
      · have e0 : ∃ r rs, (rk.filter fun r => decide (z ∈ r.tail)) = r :: rs := by
          cases q : rk.filter fun r => decide (z ∈ r.tail) with
          | cons r rs => exact ⟨r, rs, rfl⟩
          | nil =>
            refine (g (List.all_eq_true.mpr fun r hr => ?_)).elim
            have := List.filter_eq_nil_iff.mp q r hr
            simpa using this
        obtain ⟨r, rs, e0⟩ := e0
        rw [e0]
        exact iteF (k2 (by simpa using g) Hb (sa.trans sb))
    rintro H8 s8 e8
    obtain ⟨gs, egs⟩ : ∃ gs, gs = hs.filter (Mg.good rk) := ⟨_, rfl⟩
    have e8' : H8 D3 = some (.lst (gs.map V.str)) := by
      have z := sel_map ("" : Str) (Mg.good rk) V.str hs
      rw [← egs] at z
      rw [e8, List.length_map, z]
    have pk : Mg.pick rk = gs.head? := by
      rw [egs, List.head?_filter]
      unfold Mg.pick
      rw [ehs]
    have wg : ∀ z ∈ gs, Word z := fun z hz => by
      rw [egs] at hz
      exact wh z (List.mem_filter.mp hz).1
    refine ⟨_, rfl, by decide, fun H9 e s9 n9 e9 => eq_nil (.lst (SqL.of (s9 _ _ e8')) (dps_strs _)) (fine_strs wg) (by decide) e9 ⟨_, rfl, ?_⟩⟩
    have S9 : Same H H9 := ((S6.trans s7).trans s8).trans s9
    cases gs with
    | nil => exact iteT (q2 (stuck pk all) _ S9)
    | cons x gs =>
    refine iteF ?_
    have D39 : H9 D3 = some (.lst ((x :: gs).map V.str)) := s9 _ _ e8'
    have F9 : H9 fo = some (.lst (fk.map V.str)) := ((s7.trans s8).trans s9) _ _ F6
    have p : Mg.pick rk = some x := pk
    have M2 := step x p
    have lf : (fk ++ [x]).length ≤ rows.flatten.length := nodup_sub M2.nd M2.sub
    have lr := flat_len hg
    refine ⟨_, rfl, .inl ⟨rfl, _, SqL.of F9⟩, _, rfl, D3, _, _, _, rfl, rfl, SqL.of D39, atI_nat (j := 0) rfl, fo, _, _, rfl, rfl, F9, ?_, ?_⟩
    · rw [List.length_map]
      rw [List.length_append] at lf
      exact small1000 (by omega)
    have nd3 : D3 ≠ fo := ne_of (s8.trans s9 |> fun _ => D39) F9 |> fun _ => fun z => by
      rw [z] at hD3
      rw [s7 _ _ F6] at hD3
      cases hD3
    obtain ⟨Ha, ea⟩ : ∃ Ha, Ha = upd H9 fo (.lst (fk.map V.str ++ [.str x])) := ⟨_, rfl⟩
    rw [← ea]
    have La : LsAt (Nb.del Ha fo) ls vs rk := by
      rw [ea, del_upd]
      exact ls_same (del_mono ((s7.trans s8).trans s9)) L6
    have Fa : Ha fo = some (.lst ((fk ++ [x]).map V.str)) := by
      rw [ea, upd_same, List.map_append]
      rfl
    have Da : Ha D3 = some (.lst ((x :: gs).map V.str)) := by
      rw [ea, upd_ne nd3]
      exact D39
    have La' : LsAt Ha ls vs rk := ls_same del_same La
    have nfo : H fo = none := (s1.free n2)
    have Sa : Same H Ha := by
      rw [ea]
      exact same_at S9 nfo
    refine ⟨_, rfl, ls, rfl, ⟨vs, SqL.of La'.1⟩, fun D5 hD5 => ?_⟩
    have n5 : D5 ≠ fo := fun z => by
      rw [z, Fa] at hD5
      cases hD5
    refine lcR (walk_list (xs := vs)) (fun _ => true) (fun i y H => ∃ a, y = .ref a ∧ Nb.del H fo a = some (.lst (((rk.getD i []).filter fun y => decide (y ≠ x)).map V.str))) (fun i y H1 H2 s ⟨a, e, k⟩ => ⟨a, e, del_mono s _ _ k⟩) n100 hD5 (fun H5 s5 => SqL.of (s5 _ _ La'.1)) ?_ ?_
    · rintro i y Hb Hc Nx Nf hi sb nb ⟨rfl, ey⟩ k1 k2
      obtain ⟨a, rfl, ha, eg, er⟩ := ls_get (ls_same sb La') ey
      have l8 := (fits _ (List.mem_of_getElem? er)).1
      refine ⟨rfl, yesT ⟨_, rfl, a, rfl, ⟨_, SqL.of ha⟩, fun D6 hD6 => ?_⟩⟩
      refine lcS (walk_list (xs := (rk.getD i []).map V.str)) (fun j => decide ((rk.getD i []).getD j "" ≠ x)) (fun j => .str ((rk.getD i []).getD j "")) (by rw [List.length_map]; omega) hD6 (fun H5 s5 => SqL.of (s5 _ _ ha)) ?_ ?_
      · rintro j v Hd He Ny Nn hj sd ⟨rfl, ev⟩ m1 m2
        rw [List.getElem?_map] at ev
        obtain ⟨w, ew, rfl⟩ : ∃ w, (rk.getD i [])[j]? = some w ∧ v = .str w := by
          cases e : (rk.getD i [])[j]? with
          | none => rw [e] at ev; cases ev
          | some a => rw [e] at ev; exact ⟨a, rfl, (Option.some.inj ev).symm⟩
        have egw : (rk.getD i []).getD j "" = w := by
          rw [List.getD_eq_getElem?_getD, ew]
          rfl
        rw [egw] at m1 m2
        refine ⟨rfl, _, rfl, _, rfl, D3, _, _, _, rfl, rfl, SqL.of (sd _ _ (sb _ _ Da)), atI_nat (j := 0) rfl, rfl, _, rfl, ?_⟩
        by_cases q : w = x
        · rw [q, decide_eq_true (rfl : V.str x = V.str x)]
          exact iteF (m2 (by simp [q]) _ (Same.refl _))
        · rw [decide_eq_false (show ¬ V.str w = V.str x from fun z => q (V.str.inj z))]
          exact iteT ⟨_, rfl, m1 (by simp [q]) _ (Same.refl _)⟩
      rintro Hd sd ed
      have z := sel_map ("" : Str) (fun y => decide (y ≠ x)) V.str (rk.getD i [])
      rw [List.length_map, z] at ed
      have f6 : D6 ≠ fo := fun z => by
        rw [z, sb _ _ Fa] at hD6
        cases hD6
      have f5 : D6 ≠ D5 := fun z => nb (by rw [← z]; exact hD6)
      refine k1 rfl (.ref D6) Hd sd ⟨D6, rfl, ?_⟩
      rw [Nb.del_ne f6, Nb.del_ne f5]
      exact ed
    rintro Hb ys sb eb fb
    refine ⟨⟨D5, fk ++ [x], ys, _, _, rfl, Sa.trans sb, ⟨?_, ?_⟩, sb _ _ Fa, M2⟩, ?_⟩
    · rw [Nb.del_ne n5]
      exact eb
    · rw [← wo x]
      have f2 := f2_made (P := fun i => (rk.getD i []).filter fun y => decide (y ≠ x)) (R := fun v (r : List Str) => ∃ a, v = .ref a ∧ Nb.del Hb fo a = some (.lst (r.map V.str))) fb
      rw [List.filter_eq_self.mpr (fun _ _ => rfl), lv] at f2
      have e3 : (List.range rk.length).map (fun i => (rk.getD i []).filter fun y => decide (y ≠ x)) = Mg.without x rk := by
        have := congrArg (List.map fun r : List Str => r.filter fun y => decide (y ≠ x)) (range_getD ([] : List Str) rk)
        rw [List.map_map] at this
        exact this
      rw [e3] at f2
      exact f2
    · show (match Hb fo with | some (.lst xs) => rows.flatten.length - xs.length | _ => 0) < (match H4 fo with | some (.lst xs) => rows.flatten.length - xs.length | _ => 0)
      rw [sb _ _ Fa, eF]
      simp only [List.length_map]
      rw [List.length_append] at lf ⊢
      simp only [List.length_cons, List.length_nil] at lf ⊢
      omega
end
end K09

set_option Elab.async false
set_option linter.all false
set_option maxRecDepth 100000
set_option maxHeartbeats 4000000
namespace K09
open PySem Nb
open L2 hiding del del_ne del_same
open Nb.Wd
def spChkName : Sp := fun vs H Q _ => ∃ z : Str, vs = [.str z] ∧ isNm z = true ∧ Word z ∧ ∀ H', Same H H' → Q .non H'
def spWInit (C : Addr) : Sp := fun vs H Q _ => ∃ (a dx : Addr), vs = [.ref a] ∧ H a = some (.ins C dx []) ∧ ∀ H', Same (Nb.del H a) H' → WAt C H' a [] → Q .non H'
def spWHas (C : Addr) : Sp := fun vs H Q _ => ∃ (a : Addr) (z : Str) (es : Ens), vs = [.ref a, .str z] ∧ WAt C H a es ∧ Word z ∧ (z ∈ nms es → isNm z = true) ∧ ∀ H', Same H H' → Q (.bl (decide (z ∈ nms es))) H'
section
variable {P : Program} {w : World} {K : PySem.W.Frag} {mg : Str → Option Value} {base : Heap}
abbrev sI_Clash : Stmt := clsAt (topS 16) 0
theorem scI_Clash : FnScope ["self", "name", "tuples", "steps"] ["self", "name", "tuples", "steps"] (defScope sI_Clash) := ⟨rfl, rfl, rfl, by decide +kernel, rfl, by decide +kernel, by decide +kernel⟩
theorem okI_Clash {f : Addr} {fd : FuncData} (F : Fun K "__init__" "Clash.__init__" sI_Clash f fd) : FnOk P w K mg base CX0 1 f fd ["self", "name", "tuples", "steps"] (spMk K ["name", "tuples", "steps"]) := by
  refine F.ok scI_Clash (fun vs H Q E h => ?_) (fun cdv A outer s H vs Q E hr h => ?_)
  · obtain ⟨a, C, H0, ws, rfl, l, _⟩ := h
    exact congrArg (· + 1) l
  · obtain ⟨a, C, H0, ws, rfl, l, hC, hn, mk, q⟩ := h
    match ws, l with
    | [v1, v2, v3], _ =>
      refine ⟨_, pss_cons (ps_put (pv 0) (pv 1)) (pss_cons (ps_put (pv 0) (pv 2)) (pss_one (ps_put (pv 0) (pv 3)))), ?_⟩
      refine ⟨_, rfl, _, rfl, a, C, H0, [], rfl, hC, hn "name" (by simp), (by show 0 ≤ 900; decide), mk, fun H1 mk1 => ?_⟩
      refine ⟨_, rfl, _, rfl, a, C, H0, _, rfl, hC, hn "tuples" (by simp), (by show 1 ≤ 900; decide), mk1, fun H2 mk2 => ?_⟩
      refine ⟨_, rfl, _, rfl, a, C, H0, _, rfl, hC, hn "steps" (by simp), (by show 2 ≤ 900; decide), mk2, fun H3 mk3 => ?_⟩
      exact q _ mk3
abbrev s_check_name : Stmt := topS 28
theorem sc_check_name : FnScope ["thing"] ["thing"] (defScope s_check_name) := ⟨rfl, rfl, rfl, by decide +kernel, rfl, by decide +kernel, by decide +kernel⟩
theorem ok_check_name {f : Addr} {fd : FuncData} (F : Fun K "check_name" "check_name" s_check_name f fd) (T : Txt mg) (D_is_name : Dn P w K mg base CX0 1 "is_name" ["thing"] (spName K)) : FnOk P w K mg base CX0 2 f fd ["thing"] (spChkName) := by
  refine F.ok sc_check_name (fun vs H Q E h => ?_) (fun cdv A outer s H vs Q E hr h => ?_)
  · obtain ⟨z, rfl, _⟩ := h
    rfl
  · obtain ⟨z, rfl, hn, hw, q⟩ := h
    refine ⟨_, pss_one (ps_if (pt_not (pt_val (pe_D D_is_name (hr.mono (by decide)) (by rfl) pass0 (pa_cons (pv 0) pa_nil)))) (pss_one ps_never) pss_nil), ?_⟩
    refine ⟨_, rfl, .str z, rfl, .inl ⟨z, rfl, hw.1, hw.2⟩, fun H1 s1 => ⟨_, rfl, ?_⟩⟩
    rw [show nameV (.str z) = true from hn]
    exact iteF (q H1 s1)
abbrev s_World___init : Stmt := clsAt (topS 58) 3
theorem sc_World___init : FnScope ["self"] ["self"] (defScope s_World___init) := ⟨rfl, rfl, rfl, by decide +kernel, rfl, by decide +kernel, by decide +kernel⟩
theorem ok_World___init {f : Addr} {fd : FuncData} (F : Fun K "__init__" "World.__init__" s_World___init f fd) {C_World : Addr} (T : Txt mg) (K_World : Kl K mg "World" C_World ["_classes"]) : FnOk P w K mg base CX0 1 f fd ["self"] (spWInit C_World) := by
  refine F.ok sc_World___init (fun vs H Q E h => ?_) (fun cdv A outer s H vs Q E hr h => ?_)
  · obtain ⟨a, dx, rfl, _⟩ := h
    rfl
  · obtain ⟨a, dx, rfl, ha, q⟩ := h
    refine ⟨_, pss_one (ps_fld (pv 0) pe_dnewS rfl), ?_⟩
    refine fun H1 d s1 nd e1 => ⟨_, rfl, a, C_World, dx, [], rfl, s1 _ _ ha, K_World.cl, K_World.no "_classes" (by simp), by decide, ?_⟩
    have na : d ≠ a := fun z => by
      rw [z, ha] at nd
      cases nd
    refine q _ (same_at (del_same.trans s1) del_at) ⟨dx, d, upd_same, na, [], ?_, .nil⟩
    rw [Nb.del_ne na, upd_ne na]
    exact e1
abbrev s_World___contains : Stmt := clsAt (topS 58) 16
theorem sc_World___contains : FnScope ["self", "x"] ["self", "x"] (defScope s_World___contains) := ⟨rfl, rfl, rfl, by decide +kernel, rfl, by decide +kernel, by decide +kernel⟩
theorem ok_World___contains {f : Addr} {fd : FuncData} (F : Fun K "__contains__" "World.__contains__" s_World___contains f fd) {C_World : Addr} (T : Txt mg) (K_World : Kl K mg "World" C_World ["_classes"]) (D_is_name : Dn P w K mg base CX0 1 "is_name" ["thing"] (spName K)) : FnOk P w K mg base CX0 2 f fd ["self", "x"] (spWHas C_World) := by
  refine F.ok sc_World___contains (fun vs H Q E h => ?_) (fun cdv A outer s H vs Q E hr h => ?_)
  · obtain ⟨a, z, es, rfl, _⟩ := h
    rfl
  · obtain ⟨a, z, es, rfl, hW, hw, hn, q⟩ := h
    have hu := hu_of hr
    refine ⟨_, pss_one (ps_ret (pe_and (pe_D D_is_name (hr.mono (by decide)) (by rfl) pass0 (pa_cons (pv 1) pa_nil)) (pe_one (pe_cmp (pc_din hu (pv 1) (pe_fld (pv 0) rfl)))))), ?_⟩
    refine ⟨_, rfl, .str z, rfl, .inl ⟨z, rfl, hw.1, hw.2⟩, fun H1 s1 => ⟨_, rfl, ?_⟩⟩
    obtain ⟨dx, d, e, nd, hD⟩ := wat_same s1 hW
    obtain ⟨kvs, ed, hK⟩ := d_same del_back hD
    cases hz : isNm z with
    | false =>
      rw [show nameV (.str z) = false from hz]
      have := q H1 s1
      rw [decide_eq_false (fun m => by rw [hn m] at hz; cases hz)] at this
      exact iteF this
    | true =>
      rw [show nameV (.str z) = true from hz]
      refine iteT ⟨_, rfl, _, rfl, a, C_World, dx, _, .ref d, rfl, e, K_World.cl, K_World.no "_classes" (by simp), rfl, d, _, rfl, .inl ⟨kvs, .inr z, .inl ed, rfl, rfl⟩, ?_⟩
      rw [kv_some hK]
      exact q H1 s1
end
end K09

set_option Elab.async false
set_option linter.all false
set_option maxRecDepth 100000
set_option maxHeartbeats 4000000
namespace K09
open PySem Nb
open L2 hiding del del_ne del_same
open Nb.Wd
theorem iteF0 {b : Bool} {p q : Prop} (e : b = false) (h : q) : if b = true then p else q := by rwa [e, if_neg (by decide)]
theorem iteT0 {b : Bool} {p q : Prop} (e : b = true) (h : p) : if b = true then p else q := by rwa [e, if_pos rfl]
theorem parts_def : ([("define", 4), ("remove", 2), ("rebase", 3)] : List (Str × Int)).lookup ("define" : Str) = some 4 := by decide +kernel
theorem call_isiN {X : Cx} {K : PySem.W.Frag} (hK : X.K = K) : CallR X (.builtin "isinstance") (rIsi K) := hK ▸ call_isi
def spChkClass (C : Addr) : Sp := fun vs H Q _ => ∃ (a : Addr) (z : Str) (es : Ens), vs = [.ref a, .str z] ∧ WAt C H a es ∧ isNm z = true ∧ Word z ∧ z ∈ nms es ∧ ∀ H', Same H H' → Q .non H'
def spChkClasses (C : Addr) : Sp := fun vs H Q _ => ∃ (a b : Addr) (zs : List Str) (es : Ens), vs = [.ref a, .ref b] ∧ WAt C H a es ∧ Rd H b (.tup (zs.map V.str)) ∧ LongRow zs ∧ (∀ z ∈ zs, z ∈ nms es) ∧ ∀ H', Same H H' → Q .non H'
def spChkSome (C : Addr) : Sp := fun vs H Q _ => ∃ (a b : Addr) (zs : List Str) (es : Ens), vs = [.ref a, .ref b] ∧ WAt C H a es ∧ Rd H b (.tup (zs.map V.str)) ∧ zs ≠ [] ∧ LongRow zs ∧ (∀ z ∈ zs, z ∈ nms es) ∧ ∀ H', Same H H' → Q .non H'
def spHasWords : Sp := fun vs H Q _ => ∃ (m : Addr) (kvs : List (Key × V)) (ks : List Str), vs = [.ref m] ∧ H m = some (.dK kvs) ∧ kvs.map (·.1) = ks.map Sum.inr ∧ ks.length ≤ 100 ∧ ∀ H', Same H H' → Q (.bl true) H'
def spDefChange : Sp := fun vs H Q _ => ∃ (t b m : Addr) (n : Str) (xs : List V) (kvs : List (Key × V)) (ks : List Str), vs = [.ref t] ∧ H t = some (.tup [.str "define", .str n, .ref b, .ref m]) ∧ Rd H b (.tup xs) ∧ H m = some (.dK kvs) ∧ kvs.map (·.1) = ks.map Sum.inr ∧ ks.length ≤ 100 ∧ ∀ H', Same H H' → Q (.bl true) H'
def spCopy (C : Addr) : Sp := fun vs H Q _ => ∃ (a : Addr) (es : Ens), vs = [.ref a] ∧ WAt C H a es ∧ ∀ H' b, Same H H' → H b = none → WAt C H' b es → Q (.ref b) H'
def spLines (C : Addr) : Sp := fun vs H Q _ => ∃ (a : Addr) (es : Ens), vs = [.ref a] ∧ WAt C H a es ∧ (nms es).Nodup ∧ es.length ≤ 100 ∧ ∀ H' d kvs, Same H H' → H d = none → H' d = some (.dK kvs) → F2 (fun (kv : Key × V) (p : Str × En) => kv.1 = Sum.inr p.1 ∧ ∃ l, kv.2 = .ref l ∧ Rd H' l (.tup (p.2.line.map V.str))) kvs es → Q (.ref d) H'
section
variable {P : Program} {w : World} {K : PySem.W.Frag} {mg : Str → Option Value} {base : Heap}
abbrev s_check_class : Stmt := topS 29
theorem sc_check_class : FnScope ["world", "name"] ["world", "name"] (defScope s_check_class) := ⟨rfl, rfl, rfl, by decide +kernel, rfl, by decide +kernel, by decide +kernel⟩
theorem ok_check_class {f : Addr} {fd : FuncData} (F : Fun K "check_class" "check_class" s_check_class f fd) {C_World : Addr} (T : Txt mg) (K_World : Kl K mg "World" C_World ["_classes"]) (D_check_name : Dn P w K mg base CX0 2 "check_name" ["thing"] (spChkName)) (D_World___contains : Mn P w K mg base CX0 2 C_World "__contains__" ["self", "x"] (spWHas C_World)) : FnOk P w K mg base CX0 3 f fd ["world", "name"] (spChkClass C_World) := by
  refine F.ok sc_check_class (fun vs H Q E h => ?_) (fun cdv A outer s H vs Q E hr h => ?_)
  · obtain ⟨a, z, es, rfl, _⟩ := h
    rfl
  · obtain ⟨a, z, es, rfl, hW, hn, hw, hz, q⟩ := h
    refine ⟨_, pss_cons (ps_expr (pe_D D_check_name (hr.mono (by decide)) (by rfl) pass0 (pa_cons (pv 1) pa_nil)))
        (pss_one (ps_if (pt_cmpR (op_notInO D_World___contains.om (hr.mono (by decide)) pass0) (pv 1) (pv 0) (by rfl)) (pss_one ps_never) pss_nil)), ?_⟩
    refine ⟨_, rfl, z, rfl, hn, hw, fun H1 s1 => ?_⟩
    have W1 := wat_same s1 hW
    obtain ⟨dx, d, e, _⟩ := id W1
    refine ⟨_, rfl, _, rfl, a, dx, _, rfl, e, a, z, es, rfl, W1, hw, fun _ => hn, fun H2 s2 => ⟨_, rfl, _, rfl, ?_⟩⟩
    rw [decide_eq_true hz]
    exact iteF (q H2 (s1.trans s2))
abbrev s_has_words : Stmt := topS 4
theorem sc_has_words : FnScope ["thing", "key"] ["thing"] (defScope s_has_words) := ⟨rfl, rfl, rfl, by decide +kernel, rfl, by decide +kernel, by decide +kernel⟩
def sx_has_words_0 : Scope := { kind := .function, names := [(".0", .local), ("key", .local), ("isinstance", .globalImplicit), ("str", .globalImplicit)], isGenerator := false, isCoroutine := false, more := [] }
theorem ok_has_words {f : Addr} {fd : FuncData} (F : Fun K "_has_words" "_has_words" s_has_words f fd) (T : Txt mg) : FnOk P w K mg base CX0 1 f fd ["thing"] (spHasWords) := by
  refine F.ok sc_has_words (fun vs H Q E h => ?_) (fun cdv A outer s H vs Q E hr h => ?_)
  · obtain ⟨m, kvs, ks, rfl, _⟩ := h
    rfl
  · obtain ⟨m, kvs, ks, rfl, hm, hk, h100, q⟩ := h
    refine ⟨_, pss_one (ps_ret (pe_and (pe_callB (call_isiN (K := K) rfl) (by rfl) T.isinstance (by decide +kernel) (pa_cons (pv 0) (pa_cons (pe_bltn (v := .ty "dict") (by rfl) T.dict (by decide +kernel) rfl) pa_nil))) (pe_one (pe_callB (cr_all rfl) (by rfl) T.all (by decide +kernel) (pa_cons (pe_lock (pe_lc (own := [("key", 1)]) (g := gName 1) (tt := tYes) rfl sc_has_words.nd (pi_keys (pv 0)) (blkOk_by (N := ["thing", "key"]) (sc := (defScope s_has_words)) (by decide +kernel)) (fun _ _ _ _ _ => (pg_name (i := 1) sc_has_words.nd rfl (Or.inl rfl))) (fun _ _ _ _ _ => pts_nil) (fun _ _ _ _ _ => (pe_callB (call_isiN (K := K) rfl) (by rfl) T.isinstance (by decide +kernel) (pa_cons (pv 1) (pa_cons (pe_bltn (v := .ty "str") (by rfl) T.str (by decide +kernel) rfl) pa_nil)))))) pa_nil))))), ?_⟩
    refine ⟨_, rfl, _, _, .type "dict", _, true, rfl, .ty _, .base (.dK hm), kit_ty (by decide +kernel), _, rfl, ?_⟩
    refine iteT ⟨m, .dK kvs, hm, trivial, fun od => ?_⟩
    obtain ⟨HL, eL⟩ : ∃ HL, HL = upd H m (.frz od (.dK kvs)) := ⟨_, rfl⟩
    rw [← eL]
    have mL : HL m = some (.frz od (.dK kvs)) := by
      rw [eL]
      exact upd_same
    have lk : kvs.length = ks.length := by
      have := congrArg List.length hk
      rwa [List.length_map, List.length_map] at this
    refine ⟨_, rfl, m, od, rfl, .inl ⟨kvs, mL, fun D hD => ?_⟩⟩
    refine lcM (walk_keys (kvs := kvs)) (fun _ => .bl true) (by omega) hD (fun H' s => s _ _ mL) ?_ ?_
    · rintro i x H1 H2 Nx hi s1 ⟨rfl, k, v, ek, rfl⟩ k1
      have e1 := congrArg (fun l => l[i]?) hk
      rw [List.getElem?_map, List.getElem?_map, ek] at e1
      cases e2 : ks[i]? with
      | none => rw [e2] at e1; cases e1
      | some z =>
        rw [e2] at e1
        have e3 : k = Sum.inr z := Option.some.inj e1
        subst e3
        exact ⟨rfl, _, rfl, _, _, .type "str", _, true, rfl, .ty _, .base (.str z), kit_ty (by decide +kernel), k1 _ (Same.refl _)⟩
    · intro H3 s3 e3
      have nm : D ≠ m := fun z => by
        rw [z, mL] at hD
        cases hD
      have e4 : (upd H3 m (.dK kvs)) D = some (.lst (((List.range kvs.length).map fun _ => true).map V.bl)) := by
        rw [upd_ne nm, e3, List.map_map]
        rfl
      refine ⟨s3 _ _ mL, D, _, rfl, SqL.of e4, ?_⟩
      have e5 : ((List.range kvs.length).map fun _ => true).all id = true := by simp
      rw [e5]
      exact q _ (unlock_same hm (eL ▸ s3))
abbrev s_is_change : Stmt := topS 3
theorem sc_is_change : FnScope ["thing", "word", "_", "rest"] ["thing"] (defScope s_is_change) := ⟨rfl, rfl, rfl, by decide +kernel, rfl, by decide +kernel, by decide +kernel⟩
theorem ok_is_change {f : Addr} {fd : FuncData} (F : Fun K "is_change" "is_change" s_is_change f fd) (T : Txt mg) (D_has_words : Dn P w K mg base CX0 1 "_has_words" ["thing"] (spHasWords)) {p_parts : Addr} (g_parts : mg "PARTS_changes" = some (.ref p_parts)) (k_parts : KInts K w p_parts [("define", 4), ("remove", 2), ("rebase", 3)]) : FnOk P w K mg base CX0 2 f fd ["thing"] (spDefChange) := by
  refine F.ok sc_is_change (fun vs H Q E h => ?_) (fun cdv A outer s H vs Q E hr h => ?_)
  · obtain ⟨t, b, m, n, xs, kvs, ks, rfl, _⟩ := h
    rfl
  · obtain ⟨t, b, m, n, xs, kvs, ks, rfl, ht, hb, hm, hk, h100, q⟩ := h
    refine ⟨_, pss_cons (ps_if (PW.pt (pw_or (pt_not (pt_val (pe_callB call_isi (by rfl) T.isinstance (by decide +kernel) (pa_cons (pv 0) (pa_cons (pe_bltn (v := .ty "tuple") (by rfl) T.tuple (by decide +kernel) rfl) pa_nil))))) (pw_or (pt_not (pt_truth (pv 0) (by intro _; rfl))) (pw_or1 (pt_not (pt_val (pe_callB call_isi (by rfl) T.isinstance (by decide +kernel) (pa_cons (pe_ix ix_tup (pv 0) pe_int (fun _ _ => rfl)) (pa_cons (pe_bltn (v := .ty "str") (by rfl) T.str (by decide +kernel) rfl) pa_nil))))))))) (pss_one (ps_ret pe_bl)) pss_nil)
        (pss_cons (ps_if (pt_cmpR op_ne (pe_callB call_len_seq (by rfl) T.len PySem.boot_len (pa_cons (pv 0) pa_nil)) (pe_kget k_parts (pe_glob (v := .ref p_parts) (by rfl) g_parts rfl) (pe_ix ix_tup (pv 0) pe_int (fun _ _ => rfl)) ⟨rfl, rfl, rfl, rfl⟩) (nomark _)) (pss_one (ps_ret pe_bl)) pss_nil)
        (pss_cons (ps_asg (pv 0) (pg_star (i := 2) rfl (pgs_cons (pg_name (i := 1) sc_is_change.nd rfl (Or.inl rfl)) (pgs_cons (pg_name (i := 2) sc_is_change.nd rfl (Or.inl rfl)) (pgs_cons (pg_name (i := 3) sc_is_change.nd rfl (Or.inl rfl)) pgs_nil)))))
        (pss_one (ps_ret (pe_or (pe_cmpR op_eq (pv 1) pe_str (nomark _)) (pe_one (pe_and (pe_callB call_isi (by rfl) T.isinstance (by decide +kernel) (pa_cons (pe_ix ix_list (pv 3) pe_int (fun _ _ => rfl)) (pa_cons (pe_bltn (v := .ty "tuple") (by rfl) T.tuple (by decide +kernel) rfl) pa_nil))) (pe_one (pe_or (pe_cmpR op_eq (pv 1) pe_str (nomark _)) (pe_one (pe_D D_has_words (hr.mono (by decide)) (by rfl) pass0 (pa_cons (pe_ix ix_list (pv 3) pe_int (fun _ _ => rfl)) pa_nil)))))))))))), ?_⟩
    refine ⟨_, rfl, _, _, .type "tuple", _, true, rfl, .ty _, .base (.tup ht), kit_ty (by decide +kernel), _, rfl, ?_⟩
    refine iteF ⟨_, rfl, true, .inr (.inl ⟨_, .inl (.inl ht), rfl⟩), iteF ?_⟩
    refine ⟨_, rfl, t, _, 0, _, rfl, rfl, .inl (.inl ht), atI_nat (j := 0) rfl, _, _, .type "str", _, true, rfl, .ty _, .base (.str _), kit_ty (by decide +kernel), _, rfl, ?_⟩
    refine iteF ?_
    refine ⟨_, rfl, t, _, rfl, .inr (.inl (.inl ht)), _, rfl, t, _, 0, _, rfl, rfl, .inl (.inl ht), atI_nat (j := 0) rfl, "define", rfl, ?_⟩
    rw [parts_def]
    refine ⟨rfl, _, rfl, iteF0 (by rw [Bool.not_eq_false', decide_eq_true_eq]; rfl) ?_⟩
    refine ⟨_, rfl, t, _, rfl, .inl (.inl ht), (show 2 ≤ 4 by decide), fun H1 D s1 nD e1 => ?_⟩
    refine ⟨_, _, rfl, _, _, rfl, _, _, rfl, rfl, ?_⟩
    refine ⟨_, rfl, rfl, _, rfl, iteF0 (by rw [decide_eq_false_iff_not]; exact fun z => absurd (V.str.inj z) (by decide +kernel)) ?_⟩
    have rest0 : SqL K H1 D [.ref b, .ref m] := SqL.of e1
    refine ⟨_, rfl, D, _, 0, _, rfl, rfl, rest0, atI_nat (j := 0) rfl, _, _, .type "tuple", _, true, rfl, .ty _, rd_ty (rd_same s1 hb), kit_ty (by decide +kernel), _, rfl, iteT ?_⟩
    refine ⟨_, rfl, rfl, _, rfl, iteF0 (by rw [decide_eq_false_iff_not]; exact fun z => absurd (V.str.inj z) (by decide +kernel)) ?_⟩
    exact ⟨_, rfl, D, _, 1, _, rfl, rfl, rest0, atI_nat (j := 1) rfl, m, kvs, ks, rfl, s1 _ _ hm, hk, h100, fun H2 s2 => q H2 (s1.trans s2)⟩
abbrev s_World_copy : Stmt := clsAt (topS 58) 14
theorem sc_World_copy : FnScope ["self", "twin"] ["self"] (defScope s_World_copy) := ⟨rfl, rfl, rfl, by decide +kernel, rfl, by decide +kernel, by decide +kernel⟩
theorem ok_World_copy {f : Addr} {fd : FuncData} (F : Fun K "copy" "World.copy" s_World_copy f fd) {C_World : Addr} (T : Txt mg) (K_World : Kl K mg "World" C_World ["_classes"]) (D_World___init : Mi P w K mg base CX0 1 C_World ["self"] (spWInit C_World)) : FnOk P w K mg base CX0 3 f fd ["self"] (spCopy C_World) := by
  refine F.ok sc_World_copy (fun vs H Q E h => ?_) (fun cdv A outer s H vs Q E hr h => ?_)
  · obtain ⟨a, es, rfl, _⟩ := h
    rfl
  · obtain ⟨a, es, rfl, hW, q⟩ := h
    refine ⟨_, pss_cons (ps_set (i := 1) sc_World_copy.nd rfl (Or.inl rfl) (pe_Mi0 D_World___init (hr.mono (by decide)) (by rfl) K_World.g pass0))
        (pss_cons (ps_fld (pv 1) (pe_fld (pv 0) rfl) rfl)
        (pss_one (ps_ret (pv 1)))), ?_⟩
    obtain ⟨dx, d, e, nd, hD⟩ := id hW
    refine fun b dy hb hdy ne => ⟨b, dy, rfl, upd_same, fun H1 s1 W1 => ⟨rfl, ?_⟩⟩
    obtain ⟨dz, d0, e1, _, _⟩ := id W1
    have sH : Same H H1 := make_same hb hdy s1
    have nb : d ≠ b := fun z => by
      obtain ⟨kvs, ed, _⟩ := d_same del_back hD
      rw [z, hb] at ed
      cases ed
    refine ⟨_, rfl, a, C_World, dx, _, .ref d, rfl, sH _ _ e, K_World.cl, K_World.no "_classes" (by simp), rfl, _, rfl, b, C_World, dz, _, rfl, e1, K_World.cl, K_World.no "_classes" (by simp), (show 1 < 1000 by decide), ?_⟩
    have sU := same_at (o := HO.ins C_World dz [("_classes", .ref d)]) sH hb
    exact ⟨_, rfl, q _ b sU hb ⟨dz, d, upd_same, nb, d_same (same_upd sU hb) (d_same del_back hD)⟩⟩
abbrev s_World_linearizations : Stmt := clsAt (topS 58) 13
theorem sc_World_linearizations : FnScope ["self", "name"] ["self"] (defScope s_World_linearizations) := ⟨rfl, rfl, rfl, by decide +kernel, rfl, by decide +kernel, by decide +kernel⟩
def sx_World_linearizations_0 : Scope := { kind := .function, names := [(".0", .local), ("name", .local), ("_LINE", .globalImplicit), ("self", .cell)], isGenerator := false, isCoroutine := false, more := [] }
theorem ok_World_linearizations {f : Addr} {fd : FuncData} (F : Fun K "linearizations" "World.linearizations" s_World_linearizations f fd) {C_World : Addr} (T : Txt mg) (K_World : Kl K mg "World" C_World ["_classes"]) {t_LINE : Tok} (m_LINE : mg "_LINE" = some (.int 2 t_LINE)) : FnOk P w K mg base CX0 1 f fd ["self"] (spLines C_World) := by
  refine F.ok sc_World_linearizations (fun vs H Q E h => ?_) (fun cdv A outer s H vs Q E hr h => ?_)
  · obtain ⟨a, es, rfl, _⟩ := h
    rfl
  · obtain ⟨a, es, rfl, hW, nd, h100, q⟩ := h
    refine ⟨_, pss_one (ps_ret (pe_lock (pe_dc (own := [("name", 1)]) (g := gName 1) (tt := tYes) rfl sc_World_linearizations.nd (pi_keys (pe_fld (pv 0) rfl)) (blkOk_by (N := ["self", "name"]) (sc := (defScope s_World_linearizations)) (by decide +kernel)) (fun _ _ _ _ _ => (pg_name (i := 1) sc_World_linearizations.nd rfl (Or.inl rfl))) (fun _ _ _ _ _ => pts_nil) (fun _ _ _ _ _ => (pv 1)) (fun _ _ _ _ _ => (pe_ix (r := rIxT K) ix_tup (pe_dget (hu_of hr) (pe_fldK (K := K) rfl (pv 0) rfl) (pv 1) (fun _ _ => rfl)) (pe_glob (v := .int 2) (by rfl) m_LINE ⟨_, rfl⟩) (fun _ _ => rfl)))))), ?_⟩
    obtain ⟨dx, d, e, nda, hD⟩ := id hW
    obtain ⟨kvs, ed, hK⟩ := d_same del_back hD
    have lk := kv_len hK
    refine ⟨d, .dK kvs, ed, trivial, fun od => ?_⟩
    obtain ⟨HL, eL⟩ : ∃ HL, HL = upd H d (.frz od (.dK kvs)) := ⟨_, rfl⟩
    rw [← eL]
    have dL : HL d = some (.frz od (.dK kvs)) := by
      rw [eL]
      exact upd_same
    have aL : HL a = some (.ins C_World dx [("_classes", .ref d)]) := by
      rw [eL, upd_ne (Ne.symm nda)]
      exact e
    have KD := kv_del ed hK
    have sDL : Same (Nb.del H d) HL := eL ▸ same_lock
    have KL : KvAt HL kvs es := kv_same sDL KD
    obtain ⟨ls, ll, hls⟩ := kv_lines KD
    refine ⟨_, rfl, a, C_World, dx, _, .ref d, rfl, aL, K_World.cl, K_World.no "_classes" (by simp), rfl, d, od, rfl, .inl ⟨kvs, dL, fun D hD => ?_⟩⟩
    refine dcM (walk_keys (kvs := kvs)) (fun i => Sum.inr ((nms es).getD i "")) (fun i => .ref (ls.getD i 0)) (fun i j l1 l2 z => nodup_get nd l1 (by rw [nms_len]; omega) (Sum.inr.inj z)) (by omega) hD (fun H' s => s _ _ dL) ?_ ?_
    · rintro i x H1 H2 N hi s1 ⟨rfl, k, v, ek, rfl⟩ post
      obtain ⟨p, ep⟩ : ∃ p, es[i]? = some p := ⟨_, List.getElem?_eq_getElem (by omega : i < es.length)⟩
      obtain ⟨t, b, kk, l, e1, e2, e3, e4⟩ := hls i p ep
      rw [e1] at ek
      cases ek
      have el : ls.getD i 0 = l := by
        rw [List.getD_eq_getElem?_getD, e2]
        rfl
      rw [nms_get ep, el] at post
      have vv : valV kvs (Sum.inr p.1) = some (.ref t) := kv_at_ix KL nd ep e1
      exact ⟨rfl, _, rfl, _, rfl, a, C_World, dx, _, .ref d, rfl, s1 _ _ aL, K_World.cl, K_World.no "_classes" (by simp), rfl, _, rfl, d, _, rfl, .inl ⟨kvs, .inr p.1, .inr ⟨od, s1 _ _ dL⟩, rfl, vv.symm⟩, t, _, 2, _, rfl, rfl,   .inl (.inl (s1 _ _ (sDL _ _ e3))), atI_nat (j := 2) rfl, post _ (Same.refl _)⟩
    · intro H3 s3 e3
      have nm : D ≠ d := fun z => by
        rw [z, dL] at hD
        cases hD
      have sU : Same H (upd H3 d (.dK kvs)) := unlock_same ed (eL ▸ s3)
      refine ⟨s3 _ _ dL, q _ D _ sU (by rw [← hD, eL, upd_ne nm]) (by rw [upd_ne nm]; exact e3) ?_⟩
      rw [lk]
      refine f2_ix fun i p ep => ?_
      obtain ⟨t, b, kk, l, e1, e2, e5, e4⟩ := hls i p ep
      refine ⟨congrArg Sum.inr (nms_get ep), l, ?_, ?_⟩
      · show V.ref (ls.getD i 0) = _
        rw [List.getD_eq_getElem?_getD, e2]
        rfl
      · exact rd_same (del_back.trans sU) e4
end
end K09

set_option Elab.async false
set_option linter.all false
set_option maxRecDepth 100000
set_option maxHeartbeats 4000000
namespace K09
open PySem Nb
open L2 hiding del del_ne del_same
open Nb.Wd
def spRow : Sp := fun vs H Q _ => ∃ (a : Addr) (zs : List Str), vs = [.ref a] ∧ Rd H a (.tup (zs.map V.str)) ∧ RwOk zs ∧ ∀ H', Same H H' → Q (.bl true) H'
def spWds : Sp := fun vs H Q _ => ∃ (a : Addr) (zs : List Str), vs = [.ref a] ∧ Rd H a (.tup (zs.map V.str)) ∧ WdOk zs ∧ ∀ H', Same H H' → Q (.bl true) H'
def spMeth : Sp := fun vs H Q _ => ∃ (v : V) (m : Me), vs = [v] ∧ MeAt H v m ∧ MeOk m ∧ ∀ H', Same H H' → Q (.bl true) H'
section
variable {P : Program} {w : World} {K : PySem.W.Frag} {mg : Str → Option Value} {base : Heap}
abbrev s_is_row : Stmt := topS 26
theorem sc_is_row : FnScope ["thing"] ["thing"] (defScope s_is_row) := ⟨rfl, rfl, rfl, by decide +kernel, rfl, by decide +kernel, by decide +kernel⟩
theorem ok_is_row {f : Addr} {fd : FuncData} (F : Fun K "is_row" "is_row" s_is_row f fd) (T : Txt mg) (D_are_different_names : Dn P w K mg base CX0 3 "are_different_names" ["thing"] (spOf1 K diffOf)) {t_LONGEST_ROW : Tok} (m_LONGEST_ROW : mg "_LONGEST_ROW" = some (.int 4 t_LONGEST_ROW)) : FnOk P w K mg base CX0 4 f fd ["thing"] (spRow) := by
  refine F.ok sc_is_row (fun vs H Q E h => ?_) (fun cdv A outer s H vs Q E hr h => ?_)
  · obtain ⟨a, zs, rfl, _⟩ := h
    rfl
  · obtain ⟨a, zs, rfl, ha, ok, q⟩ := h
    refine ⟨_, pss_one (ps_ret (pe_and (pe_D D_are_different_names (hr.mono (by decide)) (by rfl) pass0 (pa_cons (pv 0) pa_nil)) (pe_one (pe_cmpR op_le (pe_callB call_len_seq (by rfl) T.len PySem.boot_len (pa_cons (pv 0) pa_nil)) (pe_glob (v := .int 4) (by rfl) m_LONGEST_ROW ⟨_, rfl⟩) (nomark _))))), ?_⟩
    refine ⟨_, rfl, .ref a, rfl, long_thing1 ok.long ha, fun H1 s1 => ⟨_, rfl, ?_⟩⟩
    have ed : diffOf H (.ref a) = true := by
      unfold diffOf
      rw [tupOf_at ha]
      exact long_diff ok.long
    rw [ed]
    refine iteT ⟨_, rfl, a, _, rfl, .inr (.inl (rd_same s1 ha)), _, _, rfl, rfl, ?_⟩
    have l4 := ok.l4
    show Q (V.bl (decide (((zs.map V.str).length : Int) ≤ 4))) H1
    rw [decide_eq_true (by rw [List.length_map]; omega)]
    exact q H1 s1
abbrev s_are_words : Stmt := topS 42
theorem sc_are_words : FnScope ["thing"] ["thing"] (defScope s_are_words) := ⟨rfl, rfl, rfl, by decide +kernel, rfl, by decide +kernel, by decide +kernel⟩
theorem ok_are_words {f : Addr} {fd : FuncData} (F : Fun K "_are_words" "_are_words" s_are_words f fd) (T : Txt mg) (D_are_names : Dn P w K mg base CX0 2 "are_names" ["thing"] (spOf1 K namesV)) {t_MOST_WORDS : Tok} (m_MOST_WORDS : mg "_MOST_WORDS" = some (.int 4 t_MOST_WORDS)) : FnOk P w K mg base CX0 3 f fd ["thing"] (spWds) := by
  refine F.ok sc_are_words (fun vs H Q E h => ?_) (fun cdv A outer s H vs Q E hr h => ?_)
  · obtain ⟨a, zs, rfl, _⟩ := h
    rfl
  · obtain ⟨a, zs, rfl, ha, ok, q⟩ := h
    refine ⟨_, pss_one (ps_ret (pe_and (pe_D D_are_names (hr.mono (by decide)) (by rfl) pass0 (pa_cons (pv 0) pa_nil)) (pe_one (pe_cmpR op_le (pe_callB call_len_seq (by rfl) T.len PySem.boot_len (pa_cons (pv 0) pa_nil)) (pe_glob (v := .int 4) (by rfl) m_MOST_WORDS ⟨_, rfl⟩) (nomark _))))), ?_⟩
    refine ⟨_, rfl, .ref a, rfl, .inl ⟨a, _, rfl, ha, by rw [List.length_map]; have := ok.l4; omega, fun y hy => ?_⟩, fun H1 s1 => ⟨_, rfl, ?_⟩⟩
    · obtain ⟨z, mz, rfl⟩ := List.mem_map.mp hy
      exact .inl ⟨z, rfl, (ok.nm z mz).2.1, (ok.nm z mz).2.2⟩
    have en : namesV H (.ref a) = true := by
      unfold namesV
      rw [tupOf_at ha]
      exact List.all_eq_true.mpr fun v hv => by
        obtain ⟨z, mz, rfl⟩ := List.mem_map.mp hv
        exact (ok.nm z mz).1
    rw [en]
    refine iteT ⟨_, rfl, a, _, rfl, .inr (.inl (rd_same s1 ha)), _, _, rfl, rfl, ?_⟩
    have l4 := ok.l4
    show Q (V.bl (decide (((zs.map V.str).length : Int) ≤ 4))) H1
    rw [decide_eq_true (by rw [List.length_map]; omega)]
    exact q H1 s1
abbrev s_is_method : Stmt := topS 41
theorem sc_is_method : FnScope ["thing", "takes", "before", "passes", "after"] ["thing"] (defScope s_is_method) := ⟨rfl, rfl, rfl, by decide +kernel, rfl, by decide +kernel, by decide +kernel⟩
theorem ok_is_method {f : Addr} {fd : FuncData} (F : Fun K "is_method" "is_method" s_is_method f fd) (T : Txt mg) (D_is_row : Dn P w K mg base CX0 4 "is_row" ["thing"] (spRow)) (D_are_words : Dn P w K mg base CX0 3 "_are_words" ["thing"] (spWds)) {t_PARTS_methods : Tok} (m_PARTS_methods : mg "PARTS_methods" = some (.int 4 t_PARTS_methods)) : FnOk P w K mg base CX0 5 f fd ["thing"] (spMeth) := by
  refine F.ok sc_is_method (fun vs H Q E h => ?_) (fun cdv A outer s H vs Q E hr h => ?_)
  · obtain ⟨v, m, rfl, _⟩ := h
    rfl
  · obtain ⟨v, m, rfl, hm, ok, q⟩ := h
    refine ⟨_, pss_cons (ps_if (PW.pt (pw_or (pt_not (pt_val (pe_callB call_isi (by rfl) T.isinstance (by decide +kernel) (pa_cons (pv 0) (pa_cons (pe_bltn (v := .ty "tuple") (by rfl) T.tuple (by decide +kernel) rfl) pa_nil))))) (pw_or1 (pt_cmpR op_ne (pe_callB call_len_seq (by rfl) T.len PySem.boot_len (pa_cons (pv 0) pa_nil)) (pe_glob (v := .int 4) (by rfl) m_PARTS_methods ⟨_, rfl⟩) (nomark _))))) (pss_one (ps_ret pe_bl)) pss_nil)
        (pss_cons (ps_asg (pv 0) (pg_tup rfl (pgs_cons (pg_name (i := 1) sc_is_method.nd rfl (Or.inl rfl)) (pgs_cons (pg_name (i := 2) sc_is_method.nd rfl (Or.inl rfl)) (pgs_cons (pg_name (i := 3) sc_is_method.nd rfl (Or.inl rfl)) (pgs_cons (pg_name (i := 4) sc_is_method.nd rfl (Or.inl rfl)) pgs_nil))))))
        (pss_cons (ps_if (PW.pt (pw_or (pt_not (pt_val (pe_D D_is_row (hr.mono (by decide)) (by rfl) pass0 (pa_cons (pv 1) pa_nil)))) (pw_or (pt_not (pt_val (pe_D D_are_words (hr.mono (by decide)) (by rfl) pass0 (pa_cons (pv 2) pa_nil)))) (pw_or1 (pt_not (pt_val (pe_D D_are_words (hr.mono (by decide)) (by rfl) pass0 (pa_cons (pv 4) pa_nil)))))))) (pss_one (ps_ret pe_bl)) pss_nil)
        (pss_cons (ps_if (pt_cmpR op_isN (pv 3) pe_non (nomark _)) (pss_one (ps_ret (pe_cmpR (op_eqD hr.units) (pv 4) (pe_tupS pa_nil) (nomark _)))) pss_nil)
        (pss_one (ps_ret (pe_D D_is_row (hr.mono (by decide)) (by rfl) pass0 (pa_cons (pv 3) pa_nil))))))), ?_⟩
    obtain ⟨t, a, b, d, p, rfl, h1, h2, h3, h4, h5⟩ := id hm
    refine ⟨_, rfl, _, _, .type "tuple", _, true, rfl, .ty _, .base (.tup h1), kit_ty (by decide +kernel), _, rfl, ?_⟩
    refine iteF ⟨_, rfl, t, _, rfl, .inr (.inl (.inl h1)), rfl, _, rfl, iteF0 (by rw [decide_eq_true (show V.int (([V.ref a, V.ref b, p, V.ref d] : List V).length : Nat) = V.int 4 from rfl)]; rfl) ?_⟩
    refine ⟨_, rfl, t, _, rfl, .inl (.inl h1), rfl, _, _, rfl, _, _, rfl, _, _, rfl, _, _, rfl, rfl, ?_⟩
    refine ⟨_, rfl, a, m.takes, rfl, .inl h2, ok.t, fun H1 s1 => ⟨_, rfl, iteF0 rfl ?_⟩⟩
    refine ⟨_, rfl, b, m.before, rfl, .inl (s1 _ _ h3), ok.b, fun H2 s2 => ⟨_, rfl, iteF0 rfl ?_⟩⟩
    have s02 := s1.trans s2
    refine ⟨_, rfl, d, m.after, rfl, .inl (s02 _ _ h5), ok.a, fun H3 s3 => ⟨_, rfl, iteF0 rfl ?_⟩⟩
    have s03 := s02.trans s3
    obtain ⟨tk, bf, po, af⟩ := m
    cases po with
    | none =>
      have e1 : p = .non := h4
      have e2 : af = [] := ok.s rfl
      subst e1 e2
      refine ⟨_, rfl, rfl, _, rfl, iteT0 (decide_eq_true rfl) ⟨_, rfl, (show 0 ≤ 100000 by decide), fun H4 e s4 n4 e4 => ?_⟩⟩
      exact ⟨.tuple [], .tuple [], .tup (.inl (.inl (s4 _ _ (s03 _ _ h5)))) .nil, .tup (SqT.of e4) .nil, by decide +kernel, by decide +kernel, q H4 (s03.trans s4)⟩
    | some ps =>
      obtain ⟨c, rfl, hc⟩ := h4
      exact ⟨_, rfl, rfl, _, rfl, iteF0 (decide_eq_false fun z => nomatch z) ⟨_, rfl, c, ps, rfl, .inl (s03 _ _ hc), ok.p ps rfl, fun H4 s4 => q H4 (s03.trans s4)⟩⟩
end
end K09

set_option Elab.async false
set_option linter.all false
set_option maxRecDepth 100000
set_option maxHeartbeats 4000000
namespace K09
open PySem Nb
open L2 hiding del del_ne del_same
open Nb.Wd
theorem kd_tds {H : Hp} : ∀ {qs : Mss} {ys : List V}, (∀ q ∈ qs, Word q.1 ∧ MeOk q.2) → F2 (fun (q : Str × Me) (y : V) => ∃ (t : Addr) (v : V), y = .ref t ∧ H t = some (.tup [.str q.1, v]) ∧ MeAt H v q.2) qs ys → Tds H 5 ys (qs.map fun q => .tuple [.str q.1, meD q.2])
  | _, _, _, .nil => .nil
  | q :: qs, _ :: ys, ok, .cons ⟨t, v, e, h, m⟩ r => by
    have o := ok q (List.mem_cons_self ..)
    subst e
    exact .cons (.tup h (show 2 ≤ 1000 by decide) (.cons (.str o.1) (.cons (me_td (n := 2) o.2 m) .nil))) (kd_tds (fun p hp => ok p (List.mem_cons_of_mem _ hp)) r)
theorem f2_of_get {α β : Type} {R : α → β → Prop} : ∀ {xs : List α} {ys : List β}, xs.length = ys.length → (∀ (i : Nat) x y, xs[i]? = some x → ys[i]? = some y → R x y) → F2 R xs ys
  | [], [], _, _ => .nil
  | x :: xs, y :: ys, l, h => .cons (h 0 x y rfl rfl) (f2_of_get (by simpa using l) fun i a b => h (i + 1) a b)
theorem range_at {n i j : Nat} (h : (List.range n)[i]? = some j) : j = i ∧ i < n := by
  obtain ⟨lt, e⟩ := List.getElem?_eq_some_iff.mp h
  rw [List.getElem_range] at e
  rw [List.length_range] at lt
  exact ⟨e.symm, lt⟩
def spChkBases (C : Addr) : Sp := fun vs H Q _ => ∃ (a b : Addr) (bs : List Str) (es : Ens), vs = [.ref a, .ref b] ∧ WAt C H a es ∧ Rd H b (.tup (bs.map V.str)) ∧ LongRow bs ∧ bs.length ≤ 8 ∧ (∀ z ∈ bs, z ∈ nms es) ∧ ∀ H', Same H H' → Q .non H'
def spChkMeths (C : Addr) : Sp := fun vs H Q _ => ∃ (a m : Addr) (es : Ens) (ms : Mss), vs = [.ref a, .ref m] ∧ WAt C H a es ∧ MdAt H m ms ∧ MsOk ms ∧ ∀ H', Same H H' → Q .non H'
/-- what is asked of a class that is defined -/
structure New (es : Ens) (n : Str) (bs : List Str) : Prop where
  bt : Bt es
  few : es.length < 24
  new : n ∉ nms es
  nm : isNm n = true
  wd : Word n
  nd : bs.Nodup
  b8 : bs.length ≤ 8
  sub : ∀ b ∈ bs, b ∈ nms es
  full : Full (rws es bs)
theorem cov_full {rows : List (List Str)} (f : Full rows) : Mg.Cov rows := fun y hy => by
  by_cases m : y ∈ Mg.drawn rows
  · exact m
  · have h : (y :: Mg.drawn rows).Nodup := List.nodup_cons.mpr ⟨m, Mg.drawn_nodup rows⟩
    have := nodup_sub h (fun z hz => (List.mem_cons.mp hz).elim (fun e => e ▸ mem_names.mpr hy) fun k => mem_names.mpr (Mg.drawn_in rows z k))
    unfold Full at f
    rw [List.length_cons] at this
    omega
theorem full_cov {rows : List (List Str)} (c : Mg.Cov rows) : Full rows := Nat.le_antisymm (nodup_sub (Mg.drawn_nodup rows) fun z hz => mem_names.mpr (Mg.drawn_in rows z hz)) (nodup_sub (nodup_seen _) fun z hz => c z (mem_names.mp hz))
section
variable {es : Ens} {n : Str} {bs : List Str}
theorem bt_long (B : Bt es) (few : es.length ≤ 24) (x : Str) : LongRow (ln es x) := ⟨B.line_nodup x, fun z hz => B.names z (B.sub x z hz), Nat.le_trans (B.line_len x) (by omega)⟩
theorem New.long (N : New es n bs) : LongRow bs := ⟨N.nd, fun z hz => N.bt.names z (N.sub z hz), by have := N.b8; omega⟩
theorem New.rows (N : New es n bs) : ∀ r ∈ rws es bs, LongRow r := fun r hr => by
  rcases List.mem_append.mp hr with h | h
  · obtain ⟨b, _, rfl⟩ := List.mem_map.mp h
    exact bt_long N.bt (by have := N.few; omega) b
  · rw [List.mem_singleton.mp h]
    exact N.long
theorem New.rl (N : New es n bs) : (rws es bs).length ≤ 9 := by
  have := N.b8
  unfold rws
  rw [List.length_append, List.length_map]
  show bs.length + 1 ≤ 9
  omega
theorem New.next (N : New es n bs) : Bt (es ++ [(n, ⟨bs, [], n :: Mg.drawn (rws es bs)⟩)]) := .snoc N.bt N.new ⟨N.nm, N.wd⟩ N.nd N.b8 N.sub (cov_full N.full)
theorem New.line (N : New es n bs) : LongRow (n :: Mg.drawn (rws es bs)) := by
  have h := bt_long N.next (by rw [List.length_append]; have := N.few; show es.length + 1 ≤ 24; omega) n
  rw [ln_new N.new] at h
  exact h
end
/-- the lines of some classes, as they stand -/
theorem base_lines {H : Hp} {d : Addr} {es : Ens} (B : Bt es) (hD : DAt H d es) : ∀ {bs : List Str}, (∀ b ∈ bs, b ∈ nms es) → ∃ ls : List Addr, ls.length = bs.length ∧ ∀ (i : Nat) (z : Str), bs[i]? = some z → ∃ t b k l, DGet H d (.str z) (some (.ref t)) ∧ H t = some (.tup [.ref b, .ref k, .ref l]) ∧ ls[i]? = some l ∧ Rd H l (.tup ((ln es z).map V.str))
  | [], _ => ⟨[], rfl, fun i z e => by cases e⟩
  | z :: bs, h => by
    obtain ⟨ls, ll, k⟩ := base_lines B hD (bs := bs) fun b hb => h b (List.mem_cons_of_mem _ hb)
    obtain ⟨kvs, ed, hK⟩ := hD
    obtain ⟨v, e, e1, e2, t, b, kk, l, rfl, e3, _, _, e4, _⟩ := kv_in hK (h z (List.mem_cons_self ..))
    have el : e.line = ln es z := by
      unfold ln
      rw [e1]
    refine ⟨l :: ls, by rw [List.length_cons, List.length_cons, ll], fun i y ey => ?_⟩
    cases i with
    | zero =>
      cases ey
      exact ⟨t, b, kk, l, .inl ⟨kvs, .inr z, .inl ed, rfl, e2.symm⟩, e3, rfl, el ▸ e4⟩
    | succ i => exact k i y ey
abbrev lnNew (es : Ens) (n : Str) (bs : List Str) : List Str := n :: Mg.drawn (rws es bs)
def spLin : Sp := fun vs H Q _ => ∃ (d b : Addr) (n : Str) (bs : List Str) (es : Ens), vs = [.ref d, .str n, .ref b] ∧ DAt H d es ∧ Rd H b (.tup (bs.map V.str)) ∧ New es n bs ∧ ∀ H' r, Same H H' → H' r = some (.tup ((lnNew es n bs).map V.str)) → Q (.ref r) H'
def spDefine (C : Addr) : Sp := fun vs H Q _ => ∃ (a b m : Addr) (n : Str) (bs : List Str) (es : Ens) (ms : Mss), vs = [.ref a, .str n, .ref b, .ref m] ∧ WAt C H a es ∧ Rd H b (.tup (bs.map V.str)) ∧ MdAt H m ms ∧ MsOk ms ∧ New es n bs ∧
  ∀ H' r, Same (Nb.del H a) H' → WAt C H' a (es ++ [(n, ⟨bs, kdOf ms, lnNew es n bs⟩)]) → Rd H' r (.tup ((lnNew es n bs).map V.str)) → Q (.ref r) H'
def spCarry (C : Addr) : Sp := fun vs H Q _ => ∃ (a t b m : Addr) (n : Str) (bs : List Str) (es : Ens) (ms : Mss), vs = [.ref a, .ref t] ∧ H t = some (.tup [.str "define", .str n, .ref b, .ref m]) ∧ WAt C H a es ∧ Rd H b (.tup (bs.map V.str)) ∧ MdAt H m ms ∧ MsOk ms ∧ New es n bs ∧
  ∀ H' r, Same (Nb.del H a) H' → WAt C H' a (es ++ [(n, ⟨bs, kdOf ms, lnNew es n bs⟩)]) → Rd H' r (.tup ((lnNew es n bs).map V.str)) → Q (.ref r) H'
def spPerform (C : Addr) : Sp := fun vs H Q _ => ∃ (a T0 t b m : Addr) (n : Str) (bs : List Str) (es : Ens) (ms : Mss), vs = [.ref a, .ref T0] ∧ H T0 = some (.tup [.ref t]) ∧ H t = some (.tup [.str "define", .str n, .ref b, .ref m]) ∧ WAt C H a es ∧ Rd H b (.tup (bs.map V.str)) ∧ MdAt H m ms ∧ MsOk ms ∧ New es n bs ∧
  ∀ H' l r, Same (Nb.del H a) H' → WAt C H' a (es ++ [(n, ⟨bs, kdOf ms, lnNew es n bs⟩)]) → H' l = some (.lst [.ref r]) → Rd H' r (.tup ((lnNew es n bs).map V.str)) → Q (.ref l) H'
def spClosure (C : Addr) : Sp := fun vs H Q _ => ∃ (a T0 : Addr) (zs : List Str) (es : Ens), vs = [.ref a, .ref T0] ∧ H T0 = some (.tup (zs.map V.str)) ∧ WAt C H a es ∧ Bt es ∧ es.length ≤ 24 ∧ LongRow zs ∧ zs ≠ [] ∧ (∀ z ∈ zs, z ∈ nms es) ∧ ∀ H' r, Same H H' → H' r = some (.tup ((cl es zs).map V.str)) → Q (.ref r) H'
section
variable {P : Program} {w : World} {K : PySem.W.Frag} {mg : Str → Option Value} {base : Heap}
abbrev s_World__check_bases : Stmt := clsAt (topS 58) 23
theorem sc_World__check_bases : FnScope ["self", "bases", "base"] ["self", "bases"] (defScope s_World__check_bases) := ⟨rfl, rfl, rfl, by decide +kernel, rfl, by decide +kernel, by decide +kernel⟩
theorem ok_World__check_bases {f : Addr} {fd : FuncData} (F : Fun K "_check_bases" "World._check_bases" s_World__check_bases f fd) {C_World : Addr} (T : Txt mg) (K_World : Kl K mg "World" C_World ["_classes"]) (D_are_different_names : Dn P w K mg base CX0 3 "are_different_names" ["thing"] (spOf1 K diffOf)) {u_MAX_BASES : Value} (k_MAX_BASES : Con K C_World "MAX_BASES" (.int 8) u_MAX_BASES) : FnOk P w K mg base CX0 4 f fd ["self", "bases"] (spChkBases C_World) := by
  refine F.ok sc_World__check_bases (fun vs H Q E h => ?_) (fun cdv A outer s H vs Q E hr h => ?_)
  · obtain ⟨a, b, bs, es, rfl, _⟩ := h
    rfl
  · obtain ⟨a, b, bs, es, rfl, hW, hb, hL, h8, hz, q⟩ := h
    have hu := hu_of hr
    refine ⟨_, pss_cons (ps_if (PW.pt (pw_or (pt_not (pt_val (pe_D D_are_different_names (hr.mono (by decide)) (by rfl) pass0 (pa_cons (pv 1) pa_nil)))) (pw_or1 (pt_cmpR op_gt (pe_callB call_len_seq (by rfl) T.len PySem.boot_len (pa_cons (pv 1) pa_nil)) (pe_con (pv 0) rfl) (nomark _))))) (pss_one ps_never) pss_nil)
        (pss_one (ps_for PassesOwn.never rfl (pi_tup (pv 1)) (pg_name (i := 2) sc_World__check_bases.nd rfl (Or.inl rfl)) (pss_one (ps_if (pt_cmp (pc_dnotin hu (pv 2) (pe_fld (pv 0) rfl))) (pss_one ps_never) pss_nil)))), ?_⟩
    obtain ⟨dx, d, e, nda, hD⟩ := id hW
    obtain ⟨kvs, ed, hK⟩ := d_same del_back hD
    refine ⟨_, rfl, .ref b, rfl, long_thing1 hL hb, fun H1 s1 => ⟨_, rfl, ?_⟩⟩
    have e1 : diffOf H (.ref b) = true := by
      unfold diffOf
      rw [tupOf_at hb]
      exact long_diff hL
    rw [e1]
    refine iteF ⟨_, rfl, b, _, rfl, .inr (.inl (rd_same s1 hb)), _, rfl, a, C_World, dx, _, _, _, rfl, s1 _ _ e, K_World.cl, k_MAX_BASES, rfl, _, _, rfl, rfl, _, rfl, ?_⟩
    refine iteF0 (decide_eq_false (by rw [List.length_map]; omega)) ?_
    refine ⟨_, rfl, b, rfl, ⟨_, (.inl (rd_same s1 hb) : SqT K H1 b _)⟩, for_it (walk_tup (K := K) (a := b) (xs := bs.map V.str)) (fun i σ H' => ∃ v, σ = [some (.ref a), some (.ref b), v] ∧ Same H H') ⟨_, rfl, s1⟩ (fun i σ H' _ ⟨_, _, s1⟩ => .inl (rd_same s1 hb)) ?_ ?_⟩
    · rintro i x σ H2 H3 hi ⟨v, rfl, s2⟩ ⟨rfl, ex⟩
      rw [List.getElem?_map] at ex
      cases ez : bs[i]? with
      | none => rw [ez] at ex; cases ex
      | some z =>
        rw [ez] at ex
        cases ex
        obtain ⟨vv, en, _, hv, _⟩ := kv_in hK (hz z (List.mem_of_getElem? ez))
        refine ⟨_, rfl, _, rfl, a, C_World, dx, _, .ref d, rfl, s2 _ _ e, K_World.cl, K_World.no "_classes" (by simp), rfl, d, _, rfl, .inl ⟨kvs, .inr z, .inl (s2 _ _ ed), rfl, rfl⟩, _, rfl, ?_⟩
        rw [hv]
        exact iteF ⟨_, rfl, s2⟩
    rintro σ H2 ⟨v, rfl, s2⟩
    exact q H2 s2
abbrev s_World__check_methods : Stmt := clsAt (topS 58) 24
theorem sc_World__check_methods : FnScope ["self", "methods", "key"] ["self", "methods"] (defScope s_World__check_methods) := ⟨rfl, rfl, rfl, by decide +kernel, rfl, by decide +kernel, by decide +kernel⟩
theorem ok_World__check_methods {f : Addr} {fd : FuncData} (F : Fun K "_check_methods" "World._check_methods" s_World__check_methods f fd) {C_World : Addr} (T : Txt mg) (K_World : Kl K mg "World" C_World ["_classes"]) (D_is_name : Dn P w K mg base CX0 1 "is_name" ["thing"] (spName K)) (D_is_method : Dn P w K mg base CX0 5 "is_method" ["thing"] (spMeth)) {u_MAX_METHODS : Value} (k_MAX_METHODS : Con K C_World "MAX_METHODS" (.int 3) u_MAX_METHODS) {p_barred : Addr} (g_barred : mg "_BARRED" = some (.ref p_barred)) (k_barred : textsIn K p_barred ["name", "self"] = true) : FnOk P w K mg base CX0 6 f fd ["self", "methods"] (spChkMeths C_World) := by
  refine F.ok sc_World__check_methods (fun vs H Q E h => ?_) (fun cdv A outer s H vs Q E hr h => ?_)
  · obtain ⟨a, m, es, ms, rfl, _⟩ := h
    rfl
  · obtain ⟨a, m, es, ms, rfl, hW, hm, hO, q⟩ := h
    refine ⟨_, pss_cons (ps_for PassesOwn.never rfl (pi_list (pe_callB (call_sortedD rfl) (by rfl) T.sorted (by decide +kernel) (pa_cons (pv 1) pa_nil))) (pg_name (i := 2) sc_World__check_methods.nd rfl (Or.inl rfl)) (pss_one (ps_if (PW.pt (pw_or (pt_not (pt_val (pe_D D_is_name (hr.mono (by decide)) (by rfl) pass0 (pa_cons (pv 2) pa_nil)))) (pw_or (pt_cmpR (r := rIn K false) op_in_seq (pv 2) (pe_glob (v := .ref p_barred) (by rfl) g_barred rfl) (by rfl)) (pw_or1 (pt_not (pt_val (pe_D D_is_method (hr.mono (by decide)) (by rfl) pass0 (pa_cons (pe_dget (hu_of hr) (pv 1) (pv 2) (fun _ _ => rfl)) pa_nil)))))))) (pss_one ps_never) pss_nil)))
        (pss_one (ps_if (pt_cmpR op_gt (pe_callB call_lenD (by rfl) T.len PySem.boot_len (pa_cons (pv 1) pa_nil)) (pe_con (pv 0) rfl) (nomark _)) (pss_one ps_never) pss_nil)), ?_⟩
    obtain ⟨dx, d, e, nda, hD⟩ := id hW
    obtain ⟨mk, em, hM⟩ := id hm
    have kk := mk_keys hM
    have lkm := mk_len hM
    have l3 := hO.l3
    refine ⟨_, rfl, m, mk, ms.map (·.1), rfl, .inl em, kk, by rw [List.length_map]; omega, fun ys p py so np => ?_⟩
    have s1 : Same H (upd H p (.lst (ys.map V.str))) := same_new np
    obtain ⟨HL, eHL⟩ : ∃ HL, HL = upd H p (.lst (ys.map V.str)) := ⟨_, rfl⟩
    rw [← eHL] at s1 ⊢
    have eL : HL p = some (.lst (ys.map V.str)) := eHL ▸ upd_same
    refine ⟨p, rfl, ⟨_, SqL.of eL⟩, for_it (walk_list (xs := ys.map V.str)) (fun i σ H' => ∃ v, σ = [some (.ref a), some (.ref m), v] ∧ Same HL H') ⟨_, rfl, Same.refl _⟩ (fun i σ H' _ ⟨_, _, s2⟩ => SqL.of (s2 _ _ eL)) ?_ ?_⟩
    · rintro i x σ H1 H2 hi ⟨v, rfl, s2⟩ ⟨rfl, ex⟩
      rw [List.getElem?_map] at ex
      obtain ⟨z, ez, rfl⟩ : ∃ z, ys[i]? = some z ∧ x = .str z := by
        cases e : ys[i]? with
        | none => rw [e] at ex; cases ex
        | some t => rw [e] at ex; exact ⟨t, rfl, (Option.some.inj ex).symm⟩
      have mz := py.subset (List.mem_of_getElem? ez)
      obtain ⟨mm, lk, inm⟩ := ms_look mz
      obtain ⟨⟨nmz, wdz⟩, n1, n2⟩ := hO.nm _ inm
      have s12 := s1.trans s2
      obtain ⟨w, hw, mw⟩ := mk_val (mk_keep (kt_same s12) hM) lk
      refine ⟨_, rfl, .str z, rfl, .inl ⟨z, rfl, wdz.1, wdz.2⟩, fun H3 s3 => ⟨_, rfl, ?_⟩⟩
      rw [show nameV (.str z) = true from nmz]
      have flat : ∀ ys : List Str, (ys.map V.str).all flatV = true := fun ys => List.all_eq_true.mpr fun v hv => by
        obtain ⟨w, _, rfl⟩ := List.mem_map.mp hv
        rfl
      have s13 := s12.trans s3
      refine iteF0 rfl ⟨_, rfl, p_barred, _, rfl, .inr (texts_in k_barred (by decide)), rfl, flat _, ?_⟩
      rw [if_neg (by decide), in_strs]
      refine ⟨_, rfl, iteF0 (decide_eq_false fun k => ?_) ?_⟩
      · rcases List.mem_cons.mp k with k | k
        · exact n1 k
        · exact n2 (List.mem_singleton.mp k)
      exact ⟨_, rfl, _, rfl, m, _, rfl, .inl ⟨mk, Sum.inr z, .inl (s13 _ _ em), rfl, hw.symm⟩, w, mm, rfl, me_keep (kt_same s3) mw, hO.ok _ inm, fun H4 s4 => ⟨_, rfl, iteF0 rfl ⟨_, rfl, (s2.trans s3).trans s4⟩⟩⟩
    rintro σ H2 ⟨v, rfl, s2⟩
    have s3 := s1.trans s2
    refine ⟨_, rfl, m, mk, rfl, s3 _ _ em, _, rfl, a, C_World, dx, _, _, _, rfl, s3 _ _ e, K_World.cl, k_MAX_METHODS, rfl, _, _, rfl, rfl, _, rfl, ?_⟩
    refine iteF0 (decide_eq_false (by omega)) (q H2 s3)
abbrev s_linearized : Stmt := topS 61
theorem sc_linearized : FnScope ["classes", "name", "bases", "lines", "clash", "base"] ["classes", "name", "bases"] (defScope s_linearized) := ⟨rfl, rfl, rfl, by decide +kernel, rfl, by decide +kernel, by decide +kernel⟩
def sx_linearized_0 : Scope := { kind := .function, names := [(".0", .local), ("base", .local), ("_LINE", .globalImplicit), ("classes", .cell)], isGenerator := false, isCoroutine := false, more := [] }
theorem ok_linearized {f : Addr} {fd : FuncData} (F : Fun K "_linearized" "_linearized" s_linearized f fd) {C_Clash : Addr} (T : Txt mg) (D_merged : Dr P w K mg base CX0 5 "merged" (spStar (spMerged))) (E_Clash : Er P w K mg base "Clash" C_Clash ["name", "tuples", "steps"]) {t_LINE : Tok} (m_LINE : mg "_LINE" = some (.int 2 t_LINE)) : FnOk P w K mg base CX0 6 f fd ["classes", "name", "bases"] (spLin) := by
  refine F.ok sc_linearized (fun vs H Q E h => ?_) (fun cdv A outer s H vs Q E hr h => ?_)
  · obtain ⟨d, b, n, bs, es, rfl, _⟩ := h
    rfl
  · obtain ⟨d, b, n, bs, es, rfl, hD, hb, hN, q⟩ := h
    refine ⟨_, pss_cons (ps_setLc (i := 3) (own := [("base", 5)]) (g := gName 5) (tt := tYes) rfl sc_linearized.nd rfl rfl (sw_true rfl rfl rfl (by decide +kernel)) (pi_tup (pv 2)) (blkOk_by (N := ["classes", "name", "bases", "lines", "clash", "base"]) (sc := (defScope s_linearized)) (by decide +kernel)) (fun _ _ _ _ _ => (pg_name (i := 5) sc_linearized.nd rfl (Or.inl rfl))) (fun _ _ _ _ _ => pts_nil) (fun _ _ _ _ _ => (pe_ix (r := rIxT K) ix_tup (pe_dget (hu_of hr) (pv 0) (pv 5) (fun _ _ => rfl)) (pe_glob (v := .int 2) (by rfl) m_LINE ⟨_, rfl⟩) (fun _ _ => rfl))))
        (pss_one (ps_try_kept (i := 4) rfl rfl rfl sc_linearized.nd rfl rfl ⟨by rfl, rfl, .inl E_Clash.g⟩ (fun W pn xe tk _ => (pss_one (ps_ret (pe_tupS (pa_cons (pv 1) (pa_starK (K := K) rfl (pe_Rmix D_merged (hr.mono (by decide)) (by rfl) pass0 (pa_starK (K := K) rfl (pv 3) (pa_cons (pv 2) pa_nil))) pa_nil)))))) (fun a oe cls d pn hz hf => (pss_one ps_never)))), ?_⟩
    obtain ⟨ls, ll, hls⟩ := base_lines hN.bt hD hN.sub
    have lb : bs.length ≤ 8 := hN.b8
    refine ⟨_, rfl, b, rfl, ⟨_, (.inl hb : SqT K H b _)⟩, fun D hDn => ?_⟩
    refine lcM (walk_tup (K := K) (a := b) (xs := bs.map V.str)) (fun i => .ref (ls.getD i 0)) (by rw [List.length_map]; omega) hDn (fun H' s => .inl (rd_same s hb)) ?_ ?_
    · rintro i x H1 H2 Nx hi s1 ⟨rfl, ex⟩ k1
      rw [List.getElem?_map] at ex
      cases ez : bs[i]? with
      | none => rw [ez] at ex; cases ex
      | some z =>
        rw [ez] at ex
        cases ex
        obtain ⟨t, b1, kk, l, g, e1, e2, e3⟩ := hls i z ez
        have el : ls.getD i 0 = l := by
          rw [List.getD_eq_getElem?_getD, e2]
          rfl
        rw [el] at k1
        exact ⟨rfl, _, rfl, _, rfl, d, _, rfl, dget_same s1 g, t, _, 2, _, rfl, rfl, .inl (.inl (s1 _ _ e1)), atI_nat (j := 2) rfl, k1 _ (Same.refl _)⟩
    intro H1 s1 e1
    have e2 : H1 D = some (.lst (ls.map V.ref)) := by
      have z := range_getD (0 : Addr) ls
      rw [e1, List.length_map, ← ll]
      conv => rhs; rw [← z]
      rw [List.map_map]
      rfl
    refine ⟨_, rfl, _, rfl, D, _, rfl, .inr (SqL.of e2), _, rfl, (by simp; omega), fun p np => ?_⟩
    have em : ls.map V.ref ++ [.ref b] = (ls ++ [b]).map V.ref := by rw [List.map_append]; rfl
    have s2 : Same H1 (upd H1 p (.tup (ls.map V.ref ++ [.ref b]))) := same_new np
    refine ⟨p, rws es bs, rfl, ⟨ls ++ [b], by rw [upd_same, em], by unfold rws; rw [List.length_append, List.length_append, ll, List.length_map]; rfl, fun k a row e3 e4 => ?_⟩, hN.rows, by have := hN.rl; omega, hN.full, fun H2 r o s3 er to => ?_⟩
    · unfold rws at e4
      by_cases lt : k < bs.length
      · rw [List.getElem?_append_left (by omega)] at e3
        rw [List.getElem?_append_left (by rw [List.length_map]; exact lt), List.getElem?_map] at e4
        cases ez : bs[k]? with
        | none => rw [ez] at e4; cases e4
        | some z =>
          rw [ez] at e4
          cases e4
          obtain ⟨t, b1, kk, l, _, _, e5, e6⟩ := hls k z ez
          rw [e5] at e3
          cases e3
          exact rd_same (s1.trans s2) e6
      · rw [List.getElem?_append_right (by omega)] at e3
        rw [List.getElem?_append_right (by rw [List.length_map]; omega)] at e4
        rw [List.length_map, ← ll] at e4
        cases ek : k - ls.length with
        | zero =>
          rw [ek] at e3 e4
          cases e3
          cases e4
          exact rd_same (s1.trans s2) hb
        | succ j =>
          rw [ek] at e3
          cases e3
    have l24 : (n :: Mg.drawn (rws es bs)).length ≤ 100 := hN.line.2.2
    refine ⟨r, _, rfl, .inl (.inl (.inr ⟨o, er⟩)), ?_, fun H3 l s4 n4 e4 => q H3 l (((s1.trans s2).trans s3).trans s4) ?_⟩
    · rw [List.append_nil, List.length_cons, List.length_map]
      rw [List.length_cons] at l24
      omega
    · rw [e4, List.append_nil]
      rfl
abbrev s_World__define : Stmt := clsAt (topS 58) 21
theorem sc_World__define : FnScope ["self", "name", "bases", "methods", "line", "kept", "key"] ["self", "name", "bases", "methods"] (defScope s_World__define) := ⟨rfl, rfl, rfl, by decide +kernel, rfl, by decide +kernel, by decide +kernel⟩
def sx_World__define_0 : Scope := { kind := .function, names := [(".0", .local), ("key", .local), ("methods", .cell)], isGenerator := false, isCoroutine := false, more := [] }
theorem ok_World__define {f : Addr} {fd : FuncData} (F : Fun K "_define" "World._define" s_World__define f fd) {C_World : Addr} (T : Txt mg) (K_World : Kl K mg "World" C_World ["_classes"]) (D_check_name : Dn P w K mg base CX0 2 "check_name" ["thing"] (spChkName)) (D_World__check_bases : Mn P w K mg base CX0 4 C_World "_check_bases" ["self", "bases"] (spChkBases C_World)) (D_World__check_methods : Mn P w K mg base CX0 6 C_World "_check_methods" ["self", "methods"] (spChkMeths C_World)) (D_linearized : Dn P w K mg base CX0 6 "_linearized" ["classes", "name", "bases"] (spLin)) {u_MAX_CLASSES : Value} (k_MAX_CLASSES : Con K C_World "MAX_CLASSES" (.int 24) u_MAX_CLASSES) : FnOk P w K mg base CX0 7 f fd ["self", "name", "bases", "methods"] (spDefine C_World) := by
  refine F.ok sc_World__define (fun vs H Q E h => ?_) (fun cdv A outer s H vs Q E hr h => ?_)
  · obtain ⟨a, b, m, n, bs, es, ms, rfl, _⟩ := h
    rfl
  · obtain ⟨a, b, m, n, bs, es, ms, rfl, hW, hb, hm, hO, hN, q⟩ := h
    have hu := hu_of hr
    refine ⟨_, pss_cons (ps_expr (pe_D D_check_name (hr.mono (by decide)) (by rfl) pass0 (pa_cons (pv 1) pa_nil)))
        (pss_cons (ps_if (pt_cmp (pc_din hu (pv 1) (pe_fld (pv 0) rfl))) (pss_one ps_never) pss_nil)
        (pss_cons (ps_expr (pe_M D_World__check_bases K_World.cl (pv 0) (hr.mono (by decide)) pass0 (pa_cons (pv 2) pa_nil)))
        (pss_cons (ps_expr (pe_M D_World__check_methods K_World.cl (pv 0) (hr.mono (by decide)) pass0 (pa_cons (pv 3) pa_nil)))
        (pss_cons (ps_if (pt_cmpR op_ge (pe_callB call_lenD (by rfl) T.len PySem.boot_len (pa_cons (pe_fld (pv 0) rfl) pa_nil)) (pe_con (pv 0) rfl) (nomark _)) (pss_one ps_never) pss_nil)
        (pss_cons (ps_set (i := 4) sc_World__define.nd rfl (Or.inl rfl) (pe_D D_linearized (hr.mono (by decide)) (by rfl) pass0 (pa_cons (pe_fld (pv 0) rfl) (pa_cons (pv 1) (pa_cons (pv 2) pa_nil)))))
        (pss_cons (ps_set (i := 5) sc_World__define.nd rfl (Or.inl rfl) (pe_callTy cr_tupleFS (by rfl) T.tuple (by decide +kernel) (pa_cons (pe_lc (own := [("key", 6)]) (g := gName 6) (tt := tYes) rfl sc_World__define.nd (pi_list (pe_callB (call_sortedD rfl) (by rfl) T.sorted (by decide +kernel) (pa_cons (pv 3) pa_nil))) (blkOk_by (N := ["self", "name", "bases", "methods", "line", "kept", "key"]) (sc := (defScope s_World__define)) (by decide +kernel)) (fun _ _ _ _ _ => (pg_name (i := 6) sc_World__define.nd rfl (Or.inl rfl))) (fun _ _ _ _ _ => pts_nil) (fun _ _ _ _ _ => (pe_tupS (pa_cons (pv 6) (pa_cons (pe_dget (hu_of hr) (pv 3) (pv 6) (fun _ _ => rfl)) pa_nil))))) pa_nil)))
        (pss_cons (ps_fld (pv 0) (pe_splat (pe_fld (pv 0) rfl) (pv 1) (pe_tupS (pa_cons (pv 2) (pa_cons (pv 5) (pa_cons (pv 4) pa_nil))))) rfl)
        (pss_one (ps_ret (pv 4)))))))))), ?_⟩
    obtain ⟨dx, d, e, nda, hD⟩ := id hW
    have hD0 := d_same del_back hD
    obtain ⟨kvs, ed, hK⟩ := id hD0
    have lk := kv_len hK
    have few := hN.few
    refine ⟨_, rfl, n, rfl, hN.nm, hN.wd, fun H1 s1 => ?_⟩
    refine ⟨_, rfl, _, rfl, a, C_World, dx, _, .ref d, rfl, s1 _ _ e, K_World.cl, K_World.no "_classes" (by simp), rfl, d, _, rfl, .inl ⟨kvs, .inr n, .inl (s1 _ _ ed), rfl, rfl⟩, _, rfl, ?_⟩
    rw [kv_out hK hN.new]
    refine iteF ⟨_, rfl, a, dx, _, rfl, s1 _ _ e, rfl, _, rfl, a, b, bs, es, rfl, wat_same s1 hW, rd_same s1 hb, hN.long, hN.b8, hN.sub, fun H2 s2 => ?_⟩
    have s02 := s1.trans s2
    refine ⟨_, rfl, a, dx, _, rfl, s02 _ _ e, rfl, _, rfl, a, m, es, ms, rfl, wat_same s02 hW, md_same s02 hm, hO, fun H3 s3 => ?_⟩
    have s03 := s02.trans s3
    refine ⟨_, rfl, a, C_World, dx, _, .ref d, rfl, s03 _ _ e, K_World.cl, K_World.no "_classes" (by simp), rfl, d, kvs, rfl, s03 _ _ ed, _, rfl, a, C_World, dx, _, _, _, rfl, s03 _ _ e, K_World.cl, k_MAX_CLASSES, rfl, _, _, rfl, rfl, _, rfl, ?_⟩
    refine iteF0 (decide_eq_false (by omega)) ?_
    refine ⟨_, rfl, a, C_World, dx, _, .ref d, rfl, s03 _ _ e, K_World.cl, K_World.no "_classes" (by simp), rfl, _, rfl, _, rfl, d, b, n, bs, es, rfl, d_same s03 hD0, rd_same s03 hb, hN, fun H4 r s4 er => ?_⟩
    have s04 := s03.trans s4
    obtain ⟨mk, em, hM⟩ := id hm
    have hM4 := mk_keep (kt_same s04) hM
    have l3 := hO.l3
    refine ⟨_, rfl, m, mk, ms.map (·.1), rfl, .inl (s04 _ _ em), mk_keys hM, by rw [List.length_map]; omega, fun ys p py so np => ?_⟩
    have ey : ys = (sms ms).map (·.1) := (sort_uniq py so).trans (sms_keys ms).symm
    subst ey
    have s5 : Same H4 (upd H4 p (.lst (((sms ms).map (·.1)).map V.str))) := same_new np
    obtain ⟨H5, eH5⟩ : ∃ H5, H5 = upd H4 p (.lst (((sms ms).map (·.1)).map V.str)) := ⟨_, rfl⟩
    rw [← eH5] at s5 ⊢
    have e5 : H5 p = some (.lst (((sms ms).map (·.1)).map V.str)) := eH5 ▸ upd_same
    have lsm := sms_len ms
    refine ⟨p, rfl, ⟨_, SqL.of e5⟩, fun D hD => ?_⟩
    refine lcRM (walk_list (xs := ((sms ms).map (·.1)).map V.str)) (fun i y H => ∃ (q : Str × Me) (t : Addr) (v : V), (sms ms)[i]? = some q ∧ y = .ref t ∧ H t = some (.tup [.str q.1, v]) ∧ valV mk (Sum.inr q.1) = some v) (fun i y H H' s ⟨q, t, v, e0, e, h, z⟩ => ⟨q, t, v, e0, e, s _ _ h, z⟩) (by rw [List.length_map, List.length_map]; omega) hD (fun H' s => SqL.of (s _ _ e5)) ?_ ?_
    · rintro i x H1 H2 Nx hi s1' ne ⟨rfl, ex⟩ N
      rw [List.getElem?_map, List.getElem?_map] at ex
      obtain ⟨qq, eq, rfl⟩ : ∃ qq, (sms ms)[i]? = some qq ∧ x = .str qq.1 := by
        cases ez : (sms ms)[i]? with
        | none => rw [ez] at ex; cases ex
        | some z => rw [ez] at ex; exact ⟨z, rfl, (Option.some.inj ex).symm⟩
      obtain ⟨w, hw, _⟩ := mk_val hM4 (look_at hO.nd (sms_in (List.mem_of_getElem? eq)))
      refine ⟨rfl, _, rfl, _, rfl, _, rfl, m, _, rfl, .inl ⟨mk, Sum.inr qq.1, .inl ((s5.trans s1') _ _ (s04 _ _ em)), rfl, hw.symm⟩, (show 2 ≤ 100000 by decide), fun H3' t s3' n3' e3' => N _ _ s3' ⟨qq, t, w, eq, rfl, (Nb.del_ne fun z => ?_).trans e3', hw⟩⟩
      rw [z] at n3'
      exact ne n3'
    intro H6 ys s6 e6 f6
    have lys := f2_len f6
    rw [List.length_range, List.length_map, List.length_map] at lys
    have pf : F2 (fun (q : Str × Me) (y : V) => ∃ (t : Addr) (v : V), y = .ref t ∧ H6 t = some (.tup [.str q.1, v]) ∧ MeAt H6 v q.2) (sms ms) ys := f2_of_get lys fun i q y eq ey => by
      obtain ⟨i', ei, q', t, v, e0, e, h, z⟩ := f2_get f6 ey
      obtain ⟨rfl, _⟩ := range_at ei
      rw [eq] at e0
      cases e0
      obtain ⟨v2, h2, m2⟩ := mk_val hM4 (look_at hO.nd (sms_in (List.mem_of_getElem? eq)))
      rw [z] at h2
      cases h2
      exact ⟨t, v, e, h, me_keep (kt_same (s5.trans s6)) m2⟩
    have tds := kd_tds (fun q hq => ⟨(hO.nm q (sms_in hq)).1.2, hO.ok q (sms_in hq)⟩) pf
    refine ⟨D, _, rfl, SqL.of e6, fun H7 k ok s7 n7 ek tk => ?_⟩
    have s47 : Same H4 H7 := (s5.trans s6).trans s7
    have s07 := s04.trans s47
    have nk := kv_nodup hK hN.bt.nodup
    refine fun p0 n0 => ⟨_, rfl, a, C_World, dx, _, .ref d, rfl, (same_new n0) _ _ (s07 _ _ e), K_World.cl, K_World.no "_classes" (by simp), rfl, d, kvs, rfl, ?_, (same_new n0) _ _ (s07 _ _ ed), upd_same, by omega, fun q0 nq nqp => ⟨_, rfl, _, rfl, _, rfl, _, rfl, (show 3 ≤ 100000 by decide), fun G t sG nt et => ?_⟩⟩
    · intro z
      rw [← z, s07 _ _ ed] at n0
      cases n0
    rw [merge_nil nk]
    rw [merge_nil nk] at sG
    have hp0 : G p0 = some (.dK kvs) := sG _ _ (by rw [upd_ne (Ne.symm nqp)]; exact upd_same)
    refine ⟨.inr n, .ref t, rfl, sG _ _ upd_same, hp0, ?_⟩
    have sF := splat_same (u4 := .dK (mergeK [] [((Sum.inr n : Key), V.ref t)])) (u5 := .dK (putK kvs (Sum.inr n) (.ref t))) n0 nq sG
    rw [putK_new _ (kv_out hK hN.new)] at sF ⊢
    obtain ⟨HF, eF⟩ : ∃ HF, HF = upd (upd G q0 (.dK (mergeK [] [((Sum.inr n : Key), V.ref t)]))) p0 (.dK (kvs ++ [((Sum.inr n : Key), V.ref t)])) := ⟨_, rfl⟩
    rw [← eF] at sF ⊢
    have s0F : Same H HF := s07.trans sF
    refine ⟨_, rfl, a, C_World, dx, _, rfl, s0F _ _ e, K_World.cl, K_World.no "_classes" (by simp), (show 1 < 1000 by decide), ?_⟩
    have pa : p0 ≠ a := fun z => by
      rw [z, s07 _ _ e] at n0
      cases n0
    have eP : HF p0 = some (.dK (kvs ++ [((Sum.inr n : Key), V.ref t)])) := by
      rw [eF]
      exact upd_same
    have tF : HF t = some (.tup [.ref b, .ref k, .ref r]) := by
      have t1 : t ≠ p0 := fun z => by
        rw [z, upd_ne (Ne.symm nqp), upd_same] at nt
        cases nt
      have t2 : t ≠ q0 := fun z => by
        rw [z, upd_same] at nt
        cases nt
      rw [eF, upd_ne t1, upd_ne t2]
      exact et
    have rF : Rd HF r (.tup ((lnNew es n bs).map V.str)) := .inl (sF _ _ (s47 _ _ er))
    have kF : KpAt HF k (kdOf ms) := ⟨_, ⟨ok, sF _ _ ek, tk⟩, by omega, tds_same (s7.trans sF) tds⟩
    have EF : EnAt HF (.ref t) ⟨bs, kdOf ms, lnNew es n bs⟩ := ⟨t, b, k, r, rfl, tF, rd_same s0F hb, kF, rF, noL_kd ms⟩
    have KF : KvAt HF (kvs ++ [((Sum.inr n : Key), V.ref t)]) (es ++ [(n, ⟨bs, kdOf ms, lnNew es n bs⟩)]) := kv_snoc (kv_same s0F hK) EF
    obtain ⟨HU, eU⟩ : ∃ HU, HU = upd HF a (.ins C_World dx [("_classes", .ref p0)]) := ⟨_, rfl⟩
    have oa : HF a = some (.ins C_World dx [("_classes", .ref d)]) := s0F _ _ e
    have back : upd HF a (.ins C_World dx (putF "_classes" (.ref p0) [("_classes", .ref d)])) = HU := by
      rw [eU]
      rfl
    rw [back]
    have sFU : Same (Nb.del HF a) HU := fun c o z => by
      by_cases ca : c = a
      · rw [ca, del_at] at z
        cases z
      · rw [Nb.del_ne ca] at z
        rw [eU, upd_ne ca]
        exact z
    refine ⟨_, rfl, q HU r ((same_del (del_same.trans s0F) del_at).trans sFU) ⟨dx, p0, by rw [eU]; exact upd_same, pa, kvs ++ [((Sum.inr n : Key), V.ref t)], ?_, ?_⟩ ?_⟩
    · rw [Nb.del_ne pa]
      exact sFU _ _ (by rw [Nb.del_ne pa]; exact eP)
    · refine kv_same ?_ (kv_ins oa KF)
      exact same_del sFU del_at
    · exact rd_same sFU (rd_ins oa rF)
abbrev s_World__carry_out : Stmt := clsAt (topS 58) 25
theorem sc_World__carry_out : FnScope ["self", "change", "word", "name", "rest", "changed"] ["self", "change"] (defScope s_World__carry_out) := ⟨rfl, rfl, rfl, by decide +kernel, rfl, by decide +kernel, by decide +kernel⟩
theorem ok_World__carry_out {f : Addr} {fd : FuncData} (F : Fun K "_carry_out" "World._carry_out" s_World__carry_out f fd) {C_World : Addr} (T : Txt mg) (K_World : Kl K mg "World" C_World ["_classes"]) {g_World__define : Addr} (B_World__define : Mb P w K mg base CX0 7 C_World "_define" g_World__define (spDefine C_World)) : FnOk P w K mg base CX0 8 f fd ["self", "change"] (spCarry C_World) := by
  refine F.ok sc_World__carry_out (fun vs H Q E h => ?_) (fun cdv A outer s H vs Q E hr h => ?_)
  · obtain ⟨a, t, b, m, n, bs, es, ms, rfl, _⟩ := h
    rfl
  · obtain ⟨a, t, b, m, n, bs, es, ms, rfl, ht, hW, hb, hm, hO, hN, q⟩ := h
    refine ⟨_, pss_cons (ps_asg (pv 1) (pg_star (i := 2) rfl (pgs_cons (pg_name (i := 2) sc_World__carry_out.nd rfl (Or.inl rfl)) (pgs_cons (pg_name (i := 3) sc_World__carry_out.nd rfl (Or.inl rfl)) (pgs_cons (pg_name (i := 4) sc_World__carry_out.nd rfl (Or.inl rfl)) pgs_nil)))))
        (pss_cons (ps_if (pt_cmpR op_eq (pv 2) pe_str (nomark _)) (pss_one (ps_ret (pe_Mb B_World__define K_World.cl (pv 0) (hr.mono (by decide)) pass0 (pv 3) (pv 4)))) pss_nil)
        (pss_cons ps_never
        (pss_cons ps_never
        (pss_cons ps_never
        (pss_one ps_never))))), ?_⟩
    refine ⟨_, rfl, t, _, rfl, .inl (.inl ht), (show 2 ≤ 4 by decide), fun H1 D s1 nD e1 => ⟨_, _, rfl, _, _, rfl, _, _, rfl, rfl, ?_⟩⟩
    refine ⟨_, rfl, rfl, _, rfl, iteT0 (decide_eq_true rfl) ?_⟩
    have W1 := wat_same s1 hW
    obtain ⟨dx, d, e, _⟩ := id W1
    refine ⟨_, rfl, a, dx, _, rfl, e, rfl, fun q0 nq => ?_⟩
    have sq : Same H1 (upd H1 q0 (.met g_World__define a)) := same_new nq
    have s2 := s1.trans sq
    exact ⟨_, rfl, _, rfl, D, [.ref b, .ref m], rfl, .inr (SqL.of (sq _ _ e1)), upd_same, a, b, m, n, bs, es, ms, rfl, wat_same sq W1, rd_same s2 hb, md_same s2 hm, hO, hN, fun H' r s' W' R' => q H' r ((del_mono s2).trans s') W' R'⟩
abbrev s_World_perform : Stmt := clsAt (topS 58) 9
theorem sc_World_perform : FnScope ["self", "changes", "index", "change", "later", "results"] ["self", "changes"] (defScope s_World_perform) := ⟨rfl, rfl, rfl, by decide +kernel, rfl, by decide +kernel, by decide +kernel⟩
theorem ok_World_perform {f : Addr} {fd : FuncData} (F : Fun K "perform" "World.perform" s_World_perform f fd) {C_World : Addr} (T : Txt mg) (K_World : Kl K mg "World" C_World ["_classes"]) (D_is_change : Dn P w K mg base CX0 2 "is_change" ["thing"] (spDefChange)) (D_World_copy : Mn P w K mg base CX0 3 C_World "copy" ["self"] (spCopy C_World)) (D_World__carry_out : Mn P w K mg base CX0 8 C_World "_carry_out" ["self", "change"] (spCarry C_World)) : FnR P w K mg base CX0 9 f (spStar1 (spPerform C_World)) := by
  refine okStar1 F sc_World_perform (fun _ _ _ _ _ _ _ => rfl) (fun _ _ _ _ _ _ _ _ _ => rfl) (fun vs H Q E h => by
    obtain ⟨a, T0, t, b, m, n, bs, es, ms, rfl, _⟩ := h
    rfl) (fun cdv A outer s H vs Q E hr h => ?_)
  obtain ⟨a, T0, t, b, m, n, bs, es, ms, rfl, hT, ht, hW, hb, hm, hO, hN, q⟩ := h
  refine ⟨_, pss_cons (ps_for PassesOwn.never rfl (pi_enumT (by rfl) T.enumerate (pa_cons (pv 1) pa_nil)) (pg_tup rfl (pgs_cons (pg_name (i := 2) sc_World_perform.nd rfl (Or.inl rfl)) (pgs_cons (pg_name (i := 3) sc_World_perform.nd rfl (Or.inl rfl)) pgs_nil))) (pss_one (ps_if (pt_not (pt_val (pe_D D_is_change (hr.mono (by decide)) (by rfl) pass0 (pa_cons (pv 3) pa_nil)))) (pss_one ps_never) pss_nil)))
        (pss_cons (ps_set (i := 4) sc_World_perform.nd rfl (Or.inl rfl) (pe_M0 D_World_copy K_World.cl (pv 0) (hr.mono (by decide)) pass0))
        (pss_cons (ps_set (i := 5) sc_World_perform.nd rfl (Or.inl rfl) (pe_lstS pa_nil))
        (pss_cons (ps_for PassesOwn.never rfl (pi_tup (pv 1)) (pg_name (i := 3) sc_World_perform.nd rfl (Or.inl rfl)) (pss_one (ps_expr (pe_bm PySem.F.plainAttrs_list PySem.F.slot_list_append PySem.F.type_list_append mt_append (pv 5) (pa_cons (pe_M D_World__carry_out K_World.cl (pv 4) (hr.mono (by decide)) pass0 (pa_cons (pv 3) pa_nil)) pa_nil)))))
        (pss_cons (ps_fld (pv 0) (pe_fld (pv 4) rfl) rfl)
        (pss_one (ps_ret (pv 5))))))), ?_⟩
  have one : ∀ {i : Nat} {x : V}, ([.ref t] : List V)[i]? = some x → x = .ref t ∧ i = 0 := fun {i x} e => by
    cases i with
    | zero => cases e; exact ⟨rfl, rfl⟩
    | succ i => cases e
  refine ⟨_, rfl, T0, _, rfl, SqT.of hT, for_it (walk_enumT (K := K) (a := T0) (xs := [.ref t])) (fun i σ H' => ∃ v2 v3, σ = [some (.ref a), some (.ref T0), v2, v3, none, none] ∧ Same H H') ⟨_, _, rfl, Same.refl _⟩ (fun i σ H' _ ⟨_, _, _, s1⟩ => SqT.of (s1 _ _ hT)) ?_ ?_⟩
  · rintro i x σ H1 H2 hi ⟨v1, v2, rfl, s1⟩ ⟨t', x1, x2, rfl, new, rfl, e1, e2⟩
    obtain ⟨rfl, rfl⟩ := one e2
    have ex1 : x1 = .int ((0 : Nat) : Int) := (Option.some.inj e1).symm
    subst ex1
    have s2 := s1.trans (same_new (o := .tup [.int ((0 : Nat) : Int), .ref t]) new)
    refine ⟨t', _, rfl, .inl (.inl upd_same), rfl, _, _, rfl, _, _, rfl, rfl, ?_⟩
    obtain ⟨mk, em, hM⟩ := id hm
    have l3 := hO.l3
    refine ⟨_, rfl, t, b, m, n, _, mk, ms.map (·.1), rfl, s2 _ _ ht, rd_same s2 hb, s2 _ _ em, mk_keys hM, by rw [List.length_map]; omega, fun H3 s3 => ⟨_, rfl, ?_⟩⟩
    exact iteF ⟨_, _, rfl, s2.trans s3⟩
  rintro σ H1 ⟨v2, v3, rfl, s1⟩
  have W1 := wat_same s1 hW
  obtain ⟨dx, d, e, nda, hD⟩ := id W1
  refine ⟨_, rfl, a, dx, _, rfl, e, rfl, a, es, rfl, W1, fun H2 b' s2 nb W2 => ?_⟩
  refine ⟨by decide, fun H3 l s3 n3 e3 => ?_⟩
  have s03 : Same H H3 := (s1.trans s2).trans s3
  have Hb : H b' = none := s1.free nb
  have Hl : H l = none := (s1.trans s2).free n3
  have W3 := wat_same s3 W2
  obtain ⟨db, d2, eb, _⟩ := id W3
  have lb : l ≠ b' := fun z => by
    rw [z, eb] at e3
    cases e3
  refine ⟨_, rfl, T0, rfl, ⟨_, SqT.of (s03 _ _ hT)⟩, for_it (walk_tup (K := K) (a := T0) (xs := [.ref t])) (fun i σ H' => ∃ v3, σ = [some (.ref a), some (.ref T0), v2, v3, some (.ref b'), some (.ref l)] ∧ Same H H' ∧ (i = 0 → WAt C_World H' b' es ∧ H' l = some (.lst [])) ∧ (i = 1 → WAt C_World H' b' (es ++ [(n, ⟨bs, kdOf ms, lnNew es n bs⟩)]) ∧ ∃ r, H' l = some (.lst [.ref r]) ∧ Rd H' r (.tup ((lnNew es n bs).map V.str))))
    ⟨_, rfl, s03, fun _ => ⟨W3, e3⟩, fun z => nomatch z⟩ (fun i σ H' _ ⟨_, _, s, _⟩ => SqT.of (s _ _ hT)) ?_ ?_⟩
  · rintro i x σ H4 H5 hi ⟨v3, rfl, s4, k0, _⟩ ⟨rfl, ex⟩
    obtain ⟨rfl, rfl⟩ := one ex
    obtain ⟨W4, e4⟩ := k0 rfl
    obtain ⟨db4, d4, eb4, _⟩ := id W4
    refine ⟨_, rfl, .inl ⟨rfl, _, SqL.of e4⟩, _, rfl, b', db4, _, rfl, eb4, rfl, _, rfl, b', t, b, m, n, bs, es, ms, rfl, s4 _ _ ht, W4, rd_same s4 hb, md_same s4 hm, hO, hN, fun H6 r s6 W6 R6 => ?_⟩
    have e6 : H6 l = some (.lst []) := s6 _ _ ((Nb.del_ne lb).trans e4)
    have s06 : Same H H6 := (same_upd s4 Hb).trans s6
    refine ⟨l, _, _, rfl, rfl, e6, (by show 0 < sizeLine; decide), _, rfl, same_at s06 Hl, (fun z => nomatch z), fun _ => ?_⟩
    have W7 : WAt C_World (upd H6 l (.lst [.ref r])) b' (es ++ [(n, ⟨bs, kdOf ms, lnNew es n bs⟩)]) := wat_off e6 W6
    exact ⟨W7, r, upd_same, rd_off e6 R6⟩
  rintro σ H4 ⟨v3, rfl, s4, _, k1⟩
  obtain ⟨W4, r, e4, R4⟩ := k1 rfl
  obtain ⟨db4, d4, eb4, nd4, hD4⟩ := id W4
  obtain ⟨dx4, dd4, ea4, _⟩ := wat_same s4 hW
  refine ⟨_, rfl, b', C_World, db4, _, .ref d4, rfl, eb4, K_World.cl, K_World.no "_classes" (by simp), rfl, _, rfl, a, C_World, dx4, _, rfl, ea4, K_World.cl, K_World.no "_classes" (by simp), (show 1 < 1000 by decide), ?_⟩
  obtain ⟨HU, eU⟩ : ∃ HU, HU = upd H4 a (.ins C_World dx4 [("_classes", .ref d4)]) := ⟨_, rfl⟩
  have back : upd H4 a (.ins C_World dx4 (putF "_classes" (.ref d4) [("_classes", .ref dd4)])) = HU := by
    rw [eU]
    rfl
  rw [back]
  have sFU : Same (Nb.del H4 a) HU := fun c o z => by
    by_cases ca : c = a
    · rw [ca, del_at] at z
      cases z
    · rw [Nb.del_ne ca] at z
      rw [eU, upd_ne ca]
      exact z
  obtain ⟨kvs4, ed4, hK4⟩ := d_same del_back hD4
  have nda4 : d4 ≠ a := fun z => by
    rw [z, ea4] at ed4
    cases ed4
  have la : l ≠ a := fun z => by
    rw [z, ea4] at e4
    cases e4
  refine ⟨_, rfl, q HU l r ((del_mono s4).trans sFU) ⟨dx4, d4, by rw [eU]; exact upd_same, nda4, kvs4, ?_, ?_⟩ (sFU _ _ ((Nb.del_ne la).trans e4)) (rd_same sFU (rd_ins ea4 R4))⟩
  · rw [Nb.del_ne nda4]
    exact sFU _ _ ((Nb.del_ne nda4).trans ed4)
  · exact kv_same (same_del sFU del_at) (kv_ins ea4 hK4)
end
end K09

set_option Elab.async false
set_option linter.all false
set_option maxRecDepth 100000
set_option maxHeartbeats 4000000
namespace K09
open PySem Nb
open L2 hiding del del_ne del_same
open Nb.Wd
/-- a dict of lines, as the law keeps it -/
def LdAt (H : Hp) (d : Addr) (es : Ens) : Prop := ∃ kvs, H d = some (.dK kvs) ∧ F2 (fun (kv : Key × V) (p : Str × En) => kv.1 = Sum.inr p.1 ∧ ∃ l, kv.2 = .ref l ∧ Rd H l (.tup (p.2.line.map V.str))) kvs es
theorem ld_same {H H' : Hp} {d : Addr} {es : Ens} (s : Same H H') (h : LdAt H d es) : LdAt H' d es := let ⟨kvs, e, f⟩ := h; ⟨kvs, s _ _ e, f2_imp (fun _ _ ⟨a, l, b, c⟩ => ⟨a, l, b, rd_same s c⟩) f⟩
theorem ld_get {H : Hp} {d : Addr} {es : Ens} (h : LdAt H d es) {z : Str} (m : z ∈ nms es) : ∃ l, DGet H d (.str z) (some (.ref l)) ∧ Rd H l (.tup ((ln es z).map V.str)) := let ⟨_, e, f⟩ := h; line_get e f m
/-- what is known of the bases of a class to come -/
structure Pre (es : Ens) (bs : List Str) : Prop where
  bt : Bt es
  few : es.length < 24
  nd : bs.Nodup
  b8 : bs.length ≤ 8
  sub : ∀ b ∈ bs, b ∈ nms es
theorem Pre.long {es : Ens} {bs : List Str} (N : Pre es bs) : LongRow bs := ⟨N.nd, fun z hz => N.bt.names z (N.sub z hz), by have := N.b8; omega⟩
theorem Pre.rows {es : Ens} {bs : List Str} (N : Pre es bs) : ∀ r ∈ rws es bs, LongRow r := fun r hr => by
  rcases List.mem_append.mp hr with h | h
  · obtain ⟨b, _, rfl⟩ := List.mem_map.mp h
    exact bt_long N.bt (by have := N.few; omega) b
  · rw [List.mem_singleton.mp h]
    exact N.long
theorem Pre.rl {es : Ens} {bs : List Str} (N : Pre es bs) : (rws es bs).length ≤ 9 := by
  have := N.b8
  unfold rws
  rw [List.length_append, List.length_map]
  show bs.length + 1 ≤ 9
  omega
def spLine : Sp := fun vs H Q _ => ∃ (d b : Addr) (n : Str) (bs : List Str) (es : Ens), vs = [.ref d, .str n, .ref b] ∧ LdAt H d es ∧ Rd H b (.tup (bs.map V.str)) ∧ Pre es bs ∧
  (Full (rws es bs) → ∀ H' r, Same H H' → FtA H' r ((lnNew es n bs).map V.str) → Q (.ref r) H') ∧ (¬ Full (rws es bs) → ∀ H', Same H H' → Q .non H')
/-- addresses found one by one -/
theorem pick_all {α : Type} {R : Addr → α → Prop} : ∀ {bs : List α}, (∀ b ∈ bs, ∃ l, R l b) → ∃ ls : List Addr, F2 R ls bs
  | [], _ => ⟨[], .nil⟩
  | b :: bs, h => by
    obtain ⟨l, r⟩ := h b (List.mem_cons_self ..)
    obtain ⟨ls, f⟩ := pick_all fun b hb => h b (List.mem_cons_of_mem _ hb)
    exact ⟨l :: ls, .cons r f⟩
theorem rr_f2 {H : Hp} : ∀ {ls : List Addr} {rows : List (List Str)}, F2 (fun a (r : List Str) => Rd H a (.tup (r.map V.str))) ls rows → RowsR H ls rows
  | _, _, h => ⟨f2_len h, fun k a row e1 e2 => by
    obtain ⟨y, e3, r⟩ := f2_getl h e1
    rw [e3] at e2
    cases e2
    exact r⟩
theorem f2_mapr {α β γ : Type} {R : α → γ → Prop} {g : β → γ} : ∀ {xs : List α} {ys : List β}, F2 (fun x y => R x (g y)) xs ys → F2 R xs (ys.map g)
  | _, _, .nil => .nil
  | _, _, .cons a b => .cons a (f2_mapr b)
section
variable {P : Program} {w : World} {K : PySem.W.Frag} {mg : Str → Option Value} {base : Heap}
abbrev s_h_line : Stmt := topS 67
theorem sc_h_line : FnScope ["_law_lines_here", "_law_name", "_law_bases", "_law_found", "_law_base"] ["_law_lines_here", "_law_name", "_law_bases"] (defScope s_h_line) := ⟨rfl, rfl, rfl, by decide +kernel, rfl, by decide +kernel, by decide +kernel⟩
def sx_h_line_0 : Scope := { kind := .function, names := [(".0", .local), ("_law_base", .local), ("_law_lines_here", .cell)], isGenerator := false, isCoroutine := false, more := [] }
theorem ok_h_line {f : Addr} {fd : FuncData} (F : Fun K "_law_line" "_law_line" s_h_line f fd) (T : Txt mg) (D_h_merged : Dn P w K mg base CX0 1 "_law_merged" ["_law_lists"] (spLMerged)) : FnOk P w K mg base CX0 2 f fd ["_law_lines_here", "_law_name", "_law_bases"] (spLine) := by
  refine F.ok sc_h_line (fun vs H Q E h => ?_) (fun cdv A outer s H vs Q E hr h => ?_)
  · obtain ⟨d, b, n, bs, es, rfl, _⟩ := h
    rfl
  · obtain ⟨d, b, n, bs, es, rfl, hD, hb, hN, q1, q2⟩ := h
    refine ⟨_, pss_cons (ps_set (i := 3) sc_h_line.nd rfl (Or.inl rfl) (pe_D D_h_merged (hr.mono (by decide)) (by rfl) pass0 (pa_cons (pe_op op_catS (pe_lc (own := [("_law_base", 4)]) (g := gName 4) (tt := tYes) rfl sc_h_line.nd (pi_tup (pv 2)) (blkOk_by (N := ["_law_lines_here", "_law_name", "_law_bases", "_law_found", "_law_base"]) (sc := (defScope s_h_line)) (by decide +kernel)) (fun _ _ _ _ _ => (pg_name (i := 4) sc_h_line.nd rfl (Or.inl rfl))) (fun _ _ _ _ _ => pts_nil) (fun _ _ _ _ _ => (pe_dget (hu_of hr) (pv 0) (pv 4) (fun _ _ => rfl)))) (pe_lstS (pa_cons (pv 2) pa_nil))) pa_nil)))
        (pss_one (ps_ret (pe_ifExp (pt_cmpR op_isN (pv 3) pe_non (nomark _)) pe_non (pe_op op_catF (pe_tupF (pa_cons (pv 1) pa_nil)) (pv 3))))), ?_⟩
    obtain ⟨ls, hls⟩ := pick_all (R := fun l z => DGet H d (.str z) (some (.ref l)) ∧ Rd H l (.tup ((ln es z).map V.str))) fun z hz => ld_get hD (hN.sub z hz)
    have ll := f2_len hls
    have lb : bs.length ≤ 8 := hN.b8
    refine ⟨_, rfl, b, rfl, ⟨_, (.inl hb : SqT K H b _)⟩, fun D hDn => ?_⟩
    refine lcM (walk_tup (K := K) (a := b) (xs := bs.map V.str)) (fun i => .ref (ls.getD i 0)) (by rw [List.length_map]; omega) hDn (fun H' s => .inl (rd_same s hb)) ?_ ?_
    · rintro i x H1 H2 Nx hi s1 ⟨rfl, ex⟩ k1
      rw [List.getElem?_map] at ex
      cases ez : bs[i]? with
      | none => rw [ez] at ex; cases ex
      | some z =>
        rw [ez] at ex
        cases ex
        obtain ⟨l, e2, g, _⟩ := f2_get hls ez
        have el : ls.getD i 0 = l := by
          rw [List.getD_eq_getElem?_getD, e2]
          rfl
        rw [el] at k1
        exact ⟨rfl, _, rfl, _, rfl, d, _, rfl, dget_same s1 g, k1 _ (Same.refl _)⟩
    intro H1 s1 e1
    have e2 : H1 D = some (.lst (ls.map V.ref)) := by
      have z := range_getD (0 : Addr) ls
      rw [e1, List.length_map, ← ll]
      conv => rhs; rw [← z]
      rw [List.map_map]
      rfl
    refine ⟨_, rfl, (show 1 ≤ 100000 by decide), fun H2 l2 s2 n2 e3 => ?_⟩
    refine ⟨D, l2, _, _, rfl, rfl, s2 _ _ e2, e3, by simp; omega, fun H3 l3 s3 n3 e4 => ?_⟩
    have em : ls.map V.ref ++ [.ref b] = (ls ++ [b]).map V.ref := by rw [List.map_append]; rfl
    rw [em] at e4
    have s03 := (s1.trans s2).trans s3
    have R3 : RowsR H3 (ls ++ [b]) (rws es bs) := rr_f2 (f2_snoc (f2_mapr (f2_imp (fun _ _ ⟨_, r⟩ => rd_same s03 r) hls)) (rd_same s03 hb))
    refine ⟨l3, ls ++ [b], rws es bs, rfl, e4, R3, hN.rows, by have := hN.rl; omega, fun H4 r s4 full nd sub er => ?_, fun nf H4 s4 => ?_⟩
    · refine ⟨_, rfl, rfl, _, rfl, iteF0 (decide_eq_false fun z => nomatch z) ?_⟩
      refine ⟨_, rfl, (show 1 ≤ 100000 by decide), fun H5 t s5 n5 e5 => ⟨_, rfl, t, r, _, _, rfl, rfl, e5, fta_same s5 er, ?_, fun H6 u s6 e6 => q1 full H6 u (((s03.trans s4).trans s5).trans s6) e6⟩⟩
      have l1 := hN.rl
      have l2 : (Mg.drawn (rws es bs)).length ≤ (nms es).length := nodup_sub nd fun z hz => (rws_mem.mp (Mg.drawn_in _ z hz)).elim (fun ⟨b, _, k⟩ => hN.bt.sub b z k) (hN.sub z)
      have := hN.few
      rw [nms_len] at l2
      rw [List.length_map]
      show 1 + _ ≤ 100000
      omega
    · exact ⟨_, rfl, rfl, _, rfl, iteT0 (decide_eq_true rfl) (q2 nf H4 (s03.trans s4))⟩
end
end K09

set_option Elab.async false
set_option linter.all false
set_option maxRecDepth 100000
set_option maxHeartbeats 4000000
namespace K09
open PySem Nb
open L2 hiding del del_ne del_same
open Nb.Wd
/-- the law's rows: tuples of a name and its bases -/
def RwAt (H : Hp) (ts : List Addr) (es : Ens) : Prop := F2 (fun t (p : Str × En) => ∃ b, H t = some (.tup [.str p.1, .ref b]) ∧ Rd H b (.tup (p.2.bases.map V.str))) ts es
theorem rw_keep {H H' : Hp} {ts : List Addr} {es : Ens} (s : KeepT H H') (h : RwAt H ts es) : RwAt H' ts es := f2_imp (fun _ _ ⟨b, e, r⟩ => ⟨b, s _ _ trivial e, s.rd r⟩) h
/-- the law's lines, entry by entry -/
def LnE (H : Hp) (kvs : List (Key × V)) (es : Ens) : Prop := F2 (fun (kv : Key × V) (p : Str × En) => kv.1 = Sum.inr p.1 ∧ ∃ l, kv.2 = .ref l ∧ Rd H l (.tup (p.2.line.map V.str))) kvs es
theorem lnE_keep {H H' : Hp} {kvs : List (Key × V)} {es : Ens} (s : KeepT H H') (h : LnE H kvs es) : LnE H' kvs es := f2_imp (fun _ _ ⟨a, l, b, c⟩ => ⟨a, l, b, s.rd c⟩) h
theorem lnE_keys {H : Hp} : ∀ {kvs : List (Key × V)} {es : Ens}, LnE H kvs es → kvs.map (fun kv => kV kv.1) = (nms es).map V.str
  | _, _, .nil => rfl
  | (k, v) :: _, (n, e) :: _, .cons ⟨a, _⟩ t => by
    have a : k = Sum.inr n := a
    subst a
    exact congrArg (List.cons (V.str n)) (lnE_keys t)
theorem lnE_out {H : Hp} {n : Str} : ∀ {kvs : List (Key × V)} {es : Ens}, LnE H kvs es → n ∉ nms es → valV kvs (Sum.inr n) = none
  | _, _, .nil, _ => rfl
  | (k, v) :: kvs, (m, e) :: es, .cons ⟨a, _⟩ t, h => by
    have a : k = Sum.inr m := a
    subst a
    have e1 : valV ((Sum.inr m, v) :: kvs) (Sum.inr n) = valV kvs (Sum.inr n) := by
      have : m ≠ n := fun z => h (z ▸ List.mem_cons_self ..)
      simp [valV, this]
    rw [e1]
    exact lnE_out t fun z => h (List.mem_cons_of_mem _ z)
theorem full_nil {es : Ens} : Full (rws es []) := full_cov fun x hx => (rws_mem.mp hx).elim (fun ⟨b, hb, _⟩ => nomatch hb) fun h => nomatch h
theorem cut_take (xs : List V) (t : Nat) : cutV xs none (some (t : Int)) = xs.take t := by
  unfold cutV
  rw [HT.sIx_none, HT.sIx_nat]
  simp
/-- the length of the tuple in a slot -/
def lenAt (j : Nat) (σ : L2.St) (H : Hp) : Nat := match σ[j]? with
  | some (some (.ref B)) => (match H B with
    | some (.tup xs) => xs.length
    | _ => 0)
  | _ => 0
theorem lenAt_of {j : Nat} {σ : L2.St} {H : Hp} {B : Addr} {xs : List V} (h : σ[j]? = some (some (.ref B))) (e : H B = some (.tup xs)) : lenAt j σ H = xs.length := by
  unfold lenAt
  rw [h]
  dsimp only
  rw [e]
theorem Pre.part {es : Ens} {bs cs : List Str} (N : Pre es bs) (h : cs.Sublist bs) : Pre es cs := ⟨N.bt, N.few, N.nd.sublist h, Nat.le_trans h.length_le N.b8, fun b hb => N.sub b (h.subset hb)⟩
def ten : List Str := ["b", "a", "d", "c", "node", "f", "e", "zz", "g", "box"]
theorem ten_ok : ∀ z ∈ ten, isNm z = true ∧ Word z := by
  intro z hz
  unfold ten at hz
  simp only [List.mem_cons, List.not_mem_nil, or_false] at hz
  rcases hz with rfl | rfl | rfl | rfl | rfl | rfl | rfl | rfl | rfl | rfl <;> exact ⟨by decide +kernel, by decide +kernel, by decide +kernel⟩
theorem good_ten : ten.Nodup ∧ ∀ z ∈ ten, Word z := ⟨by decide +kernel, fun z hz => (ten_ok z hz).2⟩
def spRowsK : Sp := fun vs H Q _ => ∃ (p : Addr) (m k b : Nat), vs = [.ref p, .int m, .int k] ∧ m ≤ 10 ∧ k ≤ 8 ∧ Src H p b ∧ b ≤ 800000 ∧
  ∀ H' l ts es, Same (Nb.del H p) H' → H l = none → l ≠ p → H' l = some (.lst (ts.map V.ref)) → RwAt H' ts es → Bt es → (∀ q ∈ es, q.2.kept = []) → es.length = m → Src H' p (b + 10 + 12 * m) → Q (.ref l) H'
section
variable {P : Program} {w : World} {K : PySem.W.Frag} {mg : Str → Option Value} {base : Heap}
abbrev s_h_rows : Stmt := topS 68
theorem sc_h_rows : FnScope ["_law_source_here", "_law_many", "_law_most", "_law_names", "_law_rows_here", "_law_lines_here", "_law_name", "_law_bases"] ["_law_source_here", "_law_many", "_law_most"] (defScope s_h_rows) := ⟨rfl, rfl, rfl, by decide +kernel, rfl, by decide +kernel, by decide +kernel⟩
theorem ok_h_rows {f : Addr} {fd : FuncData} (F : Fun K "_law_rows" "_law_rows" s_h_rows f fd) (T : Txt mg) (D_h_next : Dn P w K mg base CX0 1 "_law_next" ["_law_source_here", "_law_many"] (spNext)) (D_h_mixed : Dn P w K mg base CX0 2 "_law_mixed" ["_law_source_here", "_law_items"] (spMixed)) (D_h_line : Dn P w K mg base CX0 2 "_law_line" ["_law_lines_here", "_law_name", "_law_bases"] (spLine)) : FnOk P w K mg base CX0 3 f fd ["_law_source_here", "_law_many", "_law_most"] (spRowsK) := by
  refine F.ok sc_h_rows (fun vs H Q E h => ?_) (fun cdv A outer s H vs Q E hr h => ?_)
  · obtain ⟨p, m, k, b, rfl, _⟩ := h
    rfl
  · obtain ⟨p, m, k, b, rfl, hm, hk, hS, hB, q⟩ := h
    refine ⟨_, pss_cons (ps_par3 (i := 3) (j := 4) (l := 5) rfl sc_h_rows.nd rfl rfl rfl (by decide) (by decide) (by decide) rfl rfl rfl (pa_cons (pe_slice sl_list (pe_D D_h_mixed (hr.mono (by decide)) (by rfl) pass0 (pa_cons (pv 0) (pa_cons (pe_lstS (pa_cons pe_str (pa_cons pe_str (pa_cons pe_str (pa_cons pe_str (pa_cons pe_str (pa_cons pe_str (pa_cons pe_str (pa_cons pe_str (pa_cons pe_str (pa_cons pe_str pa_nil))))))))))) pa_nil))) po_none (po_some (pv 1))) (pa_cons (pe_lstS pa_nil) (pa_cons pe_dnewS pa_nil))) rfl)
        (pss_cons (ps_for PassesOwn.never rfl (pi_list (pv 3)) (pg_name (i := 6) sc_h_rows.nd rfl (Or.inl rfl)) (pss_cons (ps_set (i := 7) sc_h_rows.nd rfl (Or.inl rfl) (pe_callTy cr_tupleS (by rfl) T.tuple (by decide +kernel) (pa_cons (pe_slice sl_list (pe_D D_h_mixed (hr.mono (by decide)) (by rfl) pass0 (pa_cons (pv 0) (pa_cons (pe_callTy (call_listD rfl) (by rfl) T.list (by decide +kernel) (pa_cons (pv 5) pa_nil)) pa_nil))) po_none (po_some (pe_D D_h_next (hr.mono (by decide)) (by rfl) pass0 (pa_cons (pv 0) (pa_cons (pe_op op_add (pv 2) pe_int) pa_nil))))) pa_nil)))
        (pss_cons (ps_while PassesOwn.never (pt_up (pt_cmpR op_isN (pe_D D_h_line (hr.mono (by decide)) (by rfl) pass0 (pa_cons (pv 5) (pa_cons (pv 6) (pa_cons (pv 7) pa_nil)))) pe_non (nomark _))) (pss_one (ps_set (i := 7) sc_h_rows.nd rfl (Or.inl rfl) (pe_slice sl_tupA (pv 7) (po_some pe_int) po_none))))
        (pss_cons (ps_expr (pe_bm PySem.F.plainAttrs_list PySem.F.slot_list_append PySem.F.type_list_append mt_append (pv 4) (pa_cons (pe_tupS (pa_cons (pv 6) (pa_cons (pv 7) pa_nil))) pa_nil)))
        (pss_one (ps_dput (hu_of hr) (pv 5) (pv 6) (pe_D D_h_line (hr.mono (by decide)) (by rfl) pass0 (pa_cons (pv 5) (pa_cons (pv 6) (pa_cons (pv 7) pa_nil)))) rfl))))))
        (pss_one (ps_ret (pv 4)))), ?_⟩
    have hr1 := hr.mono (show 1 ≤ _ by decide)
    refine ⟨_, rfl, (show 10 ≤ 100000 by decide), fun H1 l0 s1 n1 e1 => ?_⟩
    have S1 := hS.same s1
    have np0 : l0 ≠ p := src_away hS n1
    refine ⟨p, l0, ten, b, Nb.del H1 p, rfl, del_keep e1 np0, by decide, good_ten.2, S1, by omega, del_at, del_same, fun H2 l1 ys s2 f2 n2 e2 pm S2 => ?_⟩
    have k02 : Same (Nb.del H p) H2 := (del_mono s1).trans s2
    refine ⟨_, rfl, _, rfl, l1, _, rfl, SqL.of e2, fun W hW => ?_⟩
    rw [cut_take, ← List.map_take]
    obtain ⟨ws, ews⟩ : ∃ ws, ws = ys.take m := ⟨_, rfl⟩
    rw [← ews]
    have lys : ys.length = 10 := pm.length_eq
    have lws : ws.length = m := by rw [ews, List.length_take, lys]; omega
    have ndw : ws.Nodup := ews ▸ ((pm.nodup_iff.mpr good_ten.1).sublist (List.take_sublist _ _))
    have wds : ∀ z ∈ ws, isNm z = true ∧ Word z := fun z hz => ten_ok z (pm.subset ((List.take_sublist _ _).subset (ews ▸ hz)))
    have nWp : W ≠ p := src_away S2 hW
    refine ⟨by decide, fun H4 R s4 nR eR => ?_⟩
    refine fun H5 L s5 nL eL => ⟨_, _, _, rfl, ?_⟩
    have s25 : Same H2 H5 := ((same_new hW).trans s4).trans s5
    have S5 : Src H5 p (b + 10) := S2.same s25
    have eW5 : H5 W = some (.lst (ws.map V.str)) := s5 _ _ (s4 _ _ upd_same)
    have eR5 : H5 R = some (.lst ([].map V.ref)) := s5 _ _ eR
    have HW : H W = none ∨ W = p := by
      by_cases c : W = p
      · exact .inr c
      · exact .inl (by have := k02.free hW; rwa [Nb.del_ne c] at this)
    have nRp : R ≠ p := src_away (S2.same (same_new hW)) nR
    have HR : H R = none := by
      have := (k02.trans (same_new hW)).free nR
      rwa [Nb.del_ne nRp] at this
    have nLp : L ≠ p := src_away (S2.same ((same_new hW).trans s4)) nL
    have HL : H L = none := by
      have := ((k02.trans (same_new hW)).trans s4).free nL
      rwa [Nb.del_ne nLp] at this
    have HWn : H W = none := HW.resolve_right nWp
    have nWR : W ≠ R := fun z => by rw [← z, upd_same] at nR; cases nR
    have nWL : W ≠ L := fun z => by rw [← z, s4 _ _ upd_same] at nL; cases nL
    have nRL : R ≠ L := fun z => by rw [← z, eR] at nL; cases nL
    refine ⟨_, rfl, W, rfl, ⟨_, SqL.of eW5⟩, for_it (walk_list (xs := ws.map V.str)) (fun i σ H' => ∃ v6 v7 ts kvs es, σ = [some (.ref p), some (.int m), some (.int k), some (.ref W), some (.ref R), some (.ref L), v6, v7] ∧ Same (Nb.del H p) H' ∧ H' W = some (.lst (ws.map V.str)) ∧ H' R = some (.lst (ts.map V.ref)) ∧ H' L = some (.dK kvs) ∧ RwAt H' ts es ∧ LnE H' kvs es ∧ Bt es ∧ (∀ q ∈ es, q.2.kept = []) ∧ nms es = ws.take i ∧ Src H' p (b + 10 + 12 * i))
      ⟨none, none, [], [], [], rfl, k02.trans s25, eW5, eR5, eL, .nil, .nil, .nil, (fun q h => nomatch h), rfl, S5⟩ (fun i σ H' _ ⟨_, _, _, _, _, _, _, e, _⟩ => SqL.of e) ?_ ?_⟩
    · rintro i x σ H6 H7 hi ⟨v6, v7, ts, kvs, es, rfl, s6, eW6, eR6, eL6, rw6, ln6, B6, kp6, nm6, S6⟩ ⟨rfl, ex⟩
      rw [List.length_map, lws] at hi
      rw [List.getElem?_map] at ex
      obtain ⟨n, en, rfl⟩ : ∃ n, ws[i]? = some n ∧ x = .str n := by
        cases ez : ws[i]? with
        | none => rw [ez] at ex; cases ex
        | some z => rw [ez] at ex; exact ⟨z, rfl, (Option.some.inj ex).symm⟩
      have les : es.length = i := by
        rw [← nms_len, nm6, List.length_take, lws]
        omega
      have new : n ∉ nms es := fun h => by
        rw [nm6] at h
        obtain ⟨j, hj, e⟩ := List.getElem_of_mem h
        have lj : j < i := by
          rw [List.length_take] at hj
          omega
        rw [List.getElem_take] at e
        have li : i < ws.length := by omega
        have e3 : ws[i] = n := by
          rw [List.getElem?_eq_getElem li] at en
          exact Option.some.inj en
        have := (List.getElem_inj ndw).mp (e.trans e3.symm)
        omega
      have nn := wds n (List.mem_of_getElem? en)
      refine ⟨_, rfl, _, rfl, L, kvs, rfl, .inl eL6, fun l2 hl2 => ?_⟩
      rw [lnE_keys ln6]
      have S7 : Src (upd H7 l2 (.lst ((nms es).map V.str))) p (b + 10 + 12 * i) := src_new S6 hl2
      refine ⟨p, l2, nms es, _, Nb.del (upd H7 l2 (.lst ((nms es).map V.str))) p, rfl, del_keep upd_same (src_away S6 hl2), by rw [nms_len]; omega, fun z hz => (B6.names z hz).2, S7, by omega, del_at, del_same, fun H8 l3 zs s8 f8 n8 e8 pm8 S8 => ?_⟩
      refine ⟨_, rfl, _, rfl, _, _, rfl, rfl, ?_⟩
      refine ⟨p, _, _, Nb.del H8 p, rfl, by omega, by omega, S8, by rw [nms_len]; omega, del_at, del_same, fun H9 kk kk0 kk1 s9 S9 => ⟨_, rfl, l3, _, rfl, SqL.of (s9 _ _ (del_keep e8 n8)), fun W2 hW2 => ?_⟩⟩
      obtain ⟨t, rfl⟩ : ∃ t : Nat, kk = t := ⟨kk.toNat, (Int.toNat_of_nonneg kk0).symm⟩
      rw [cut_take, ← List.map_take]
      obtain ⟨bs0, ebs⟩ : ∃ bs0, bs0 = zs.take t := ⟨_, rfl⟩
      rw [← ebs]
      have pre0 : Pre es bs0 := ⟨B6, by omega, ebs ▸ ((pm8.nodup_iff.mpr B6.nodup).sublist (List.take_sublist _ _)), by rw [ebs, List.length_take]; omega, fun z hz => pm8.subset ((List.take_sublist _ _).subset (ebs ▸ hz))⟩
      refine ⟨W2, _, rfl, .inl upd_same, fun H11 B0 s11 eB0 => ?_⟩
      have s911 : Same H9 H11 := (same_new hW2).trans s11
      have kp11 : KeepT H7 H11 := (((kt_new hl2).trans (kt_src S7 s8)).trans (kt_src S8 s9)).trans (kt_same s911)
      have thr : ∀ {a : Addr} {o : HO}, a ≠ p → H7 a = some o → H11 a = some o := fun {a o} ne e => s911 _ _ (s9 _ _ (del_keep (s8 _ _ (del_keep ((same_new hl2) _ _ e) ne)) ne))
      have f11 : Same (Nb.del H p) H11 := ((same_upd ((same_upd (s6.trans (same_new hl2)) del_at).trans s8) del_at).trans s9).trans s911
      have S11 : Src H11 p (b + 10 + 12 * (i + 1)) := (S9.same s911).mono (by rw [nms_len]; omega)
      refine while_by (fun σ H' => ∃ B bs, σ = [some (.ref p), some (.int m), some (.int k), some (.ref W), some (.ref R), some (.ref L), some (.str n), some (.ref B)] ∧ Same H11 H' ∧ H' B = some (.tup (bs.map V.str)) ∧ Pre es bs) (lenAt 7) ⟨B0, bs0, rfl, Same.refl _, eB0, pre0⟩ ?_ (fun σ H Q Q' h z => tUp_mono σ H Q Q' h z)
      rintro σ H12 ⟨B, bs, rfl, s12, eB, pre⟩
      have kp12 := kp11.trans (kt_same s12)
      have eL12 := s12 _ _ (thr nLp eL6)
      refine ⟨_, ⟨_, rfl, _, rfl, _, rfl, L, B, n, bs, es, rfl, ⟨kvs, eL12, lnE_keep kp12 ln6⟩, .inl eB, pre, fun full H13 r s13 er => ?_, fun nf H13 s13 => ?_⟩, fun _ _ z => z⟩
      · refine ⟨rfl, _, rfl, iteF0 (decide_eq_false fun z => nomatch z) ?_⟩
        have s1113 := s12.trans s13
        have eR13 := s1113 _ _ (thr nRp eR6)
        refine ⟨_, rfl, .inl ⟨rfl, _, SqL.of eR13⟩, _, rfl, _, rfl, (show 2 ≤ 100000 by decide), fun H14 tt s14 n14 e14 => ⟨R, _, _, rfl, rfl, s14 _ _ eR13, ?_, ?_⟩⟩
        · have := f2_len rw6
          rw [List.length_map]
          exact Nat.lt_of_lt_of_le (show ts.length < 100000 by omega) (line100 (Nat.le_refl _))
        have em : ts.map V.ref ++ [.ref tt] = (ts ++ [tt]).map V.ref := by rw [List.map_append]; rfl
        rw [em]
        have s1114 := s1113.trans s14
        have kR : KeepT H14 (upd H14 R (.lst ((ts ++ [tt]).map V.ref))) := kt_upd (s14 _ _ eR13) id
        have kp15 := (kp12.trans (kt_same (s13.trans s14))).trans kR
        have eL15 : (upd H14 R (.lst ((ts ++ [tt]).map V.ref))) L = some (.dK kvs) := by
          rw [upd_ne (Ne.symm nRL)]
          exact s1114 _ _ (thr nLp eL6)
        have eB15 := kR _ (.tup (bs.map V.str)) trivial ((s13.trans s14) _ _ eB)
        refine ⟨_, rfl, _, rfl, _, rfl, L, B, n, bs, es, rfl, ⟨kvs, eL15, lnE_keep kp15 ln6⟩, .inl eB15, pre, fun _ H16 r2 s16 er2 => ?_, fun nf => absurd full nf⟩
        have eL16 := s16 _ _ eL15
        refine ⟨_, rfl, _, rfl, L, _, rfl, DPut.k (k := (Sum.inr n : Key)) eL16 ?_, ?_⟩
        · have := f2_len ln6
          exact Nat.lt_of_lt_of_le (show kvs.length < 100000 by omega) (line100 (Nat.le_refl _))
        rw [putK_new _ (lnE_out ln6 new)]
        have kL : KeepT H16 (upd H16 L (.dK (kvs ++ [((Sum.inr n : Key), V.ref r2)]))) := kt_upd eL16 id
        have kF := (kp15.trans (kt_same s16)).trans kL
        have kt14 := (kR.trans (kt_same s16)).trans kL
        have thr2 : ∀ {a : Addr} {o : HO}, a ≠ p → a ≠ R → a ≠ L → H7 a = some o → (upd H16 L (.dK (kvs ++ [((Sum.inr n : Key), V.ref r2)]))) a = some o := fun {a o} n1 n2 n3 e => (upd_ne n3).trans (s16 _ _ ((upd_ne n2).trans (s1114 _ _ (thr n1 e))))
        refine ⟨_, _, ts ++ [tt], kvs ++ [((Sum.inr n : Key), V.ref r2)], es ++ [(n, ⟨bs, [], lnNew es n bs⟩)], rfl, ?_, thr2 nWp nWR nWL eW6, ?_, upd_same, ?_, ?_, ?_, ?_, ?_, ?_⟩
        · exact same_at ((same_at (f11.trans s1114) ((Nb.del_ne nRp).trans HR)).trans s16) ((Nb.del_ne nLp).trans HL)
        · rw [upd_ne nRL]
          exact s16 _ _ upd_same
        · exact f2_snoc (rw_keep kF rw6) ⟨B, kt14 _ (.tup [.str n, .ref B]) trivial e14, kt14.rd (.inl ((s13.trans s14) _ _ eB))⟩
        · exact f2_snoc (lnE_keep kF ln6) ⟨rfl, r2, rfl, kL.rd er2.rd⟩
        · exact .snoc B6 new nn pre.nd pre.b8 pre.sub (cov_full full)
        · intro qq hq
          rcases List.mem_append.mp hq with h | h
          · exact kp6 qq h
          · rw [List.mem_singleton.mp h]
        · rw [nms_snoc, nm6, List.take_add_one, en]
          rfl
        · have S14 := S11.same s1114
          have npR : p ≠ R := Ne.symm nRp
          have npL : p ≠ L := Ne.symm nLp
          obtain ⟨c0, n0, r0, ep, h0⟩ := S14
          exact ⟨c0, n0, r0, (upd_ne npL).trans (s16 _ _ ((upd_ne npR).trans ep)), h0⟩
      · refine ⟨rfl, _, rfl, iteT0 (decide_eq_true rfl) ?_⟩
        cases bs with
        | nil => exact absurd full_nil nf
        | cons x bs =>
          refine ⟨_, rfl, _, rfl, B, _, rfl, .inl (.inl (s13 _ _ eB)), fun whole => ?_, fun _ p2 np2 => ?_⟩
          · have := whole.1
            rw [show (1 : Int) = ((1 : Nat) : Int) from rfl, HT.sIx_nat] at this
            simp at this
          rw [tail_cut]
          refine ⟨⟨p2, bs, rfl, (s12.trans s13).trans (same_new np2), upd_same, pre.part (List.sublist_cons_self x bs)⟩, ?_⟩
          refine Nat.lt_of_le_of_lt (Nat.le_of_eq (lenAt_of (B := p2) (xs := bs.map V.str) rfl upd_same)) (Nat.lt_of_lt_of_le ?_ (Nat.le_of_eq (lenAt_of (B := B) (xs := (x :: bs).map V.str) rfl eB).symm))
          rw [List.length_map, List.length_map]
          exact Nat.lt_succ_self _
    rintro σ H6 ⟨v6, v7, ts, kvs, es, rfl, s6, eW6, eR6, eL6, rw6, ln6, B6, kp6, nm6, S6⟩
    have les : es.length = m := by
      rw [← nms_len, nm6, List.length_take, List.length_map, lws]
      omega
    exact ⟨_, rfl, q H6 R ts es s6 HR nRp eR6 rw6 B6 kp6 les (by rw [List.length_map, lws] at S6; exact S6)⟩
end
end K09

set_option Elab.async false
set_option linter.all false
set_option maxRecDepth 100000
set_option maxHeartbeats 4000000
namespace K09
open PySem Nb
open L2 hiding del del_ne del_same
open Nb.Wd
/-- a world as it was ahead of one of its classes -/
theorem bt_step {es : Ens} (h : Bt es) : ∀ (i : Nat) (p : Str × En), es[i]? = some p → Bt (es.take i) ∧ p.1 ∉ nms (es.take i) ∧ (isNm p.1 = true ∧ Word p.1) ∧ p.2.bases.Nodup ∧ p.2.bases.length ≤ 8 ∧ (∀ b ∈ p.2.bases, b ∈ nms (es.take i)) ∧ Mg.Cov (rws (es.take i) p.2.bases) ∧ p.2.line = p.1 :: Mg.drawn (rws (es.take i) p.2.bases) := by
  induction h with
  | nil => exact fun i p e => nomatch e
  | @snoc es n bs kd h new nm nd few sub cov ih =>
    intro i p e
    by_cases lt : i < es.length
    · rw [List.getElem?_append_left lt] at e
      rw [List.take_append_of_le_length (Nat.le_of_lt lt)]
      exact ih i p e
    · rw [List.getElem?_append_right (by omega)] at e
      cases ek : i - es.length with
      | zero =>
        rw [ek] at e
        cases e
        have : i = es.length := by omega
        subst this
        rw [List.take_append_of_le_length (Nat.le_refl _), List.take_length]
        exact ⟨h, new, nm, nd, few, sub, cov, rfl⟩
      | succ j =>
        rw [ek] at e
        cases e
theorem bt_new {es : Ens} (h : Bt es) (l : es.length ≤ 24) {i : Nat} {p : Str × En} (e : es[i]? = some p) (kp : p.2.kept = []) : New (es.take i) p.1 p.2.bases ∧ es.take i ++ [(p.1, ⟨p.2.bases, [], lnNew (es.take i) p.1 p.2.bases⟩)] = es.take (i + 1) := by
  obtain ⟨a, b, c, d, f, g, k, m⟩ := bt_step h i p e
  have lt := (List.getElem?_eq_some_iff.mp e).1
  refine ⟨⟨a, by rw [List.length_take]; omega, b, c.1, c.2, d, f, g, full_cov k⟩, ?_⟩
  rw [List.take_add_one, e]
  obtain ⟨n, bs, kd, ln⟩ := p
  have m : ln = n :: Mg.drawn (rws (es.take i) bs) := m
  have kp : kd = [] := kp
  subst m kp
  rfl
/-- the law's search for ancestors: what is found when the last i classes have been looked at -/
structure AncI (es : Ens) (zs : List Str) (i : Nat) (xs : List Str) : Prop where
  up : ∀ x ∈ xs, ∃ z ∈ zs, x ∈ ln es z
  ini : ∀ z ∈ zs, z ∈ xs
  cls : ∀ (j : Nat) (p : Str × En), es[j]? = some p → es.length ≤ j + i → p.1 ∈ xs → ∀ b ∈ p.2.bases, b ∈ xs
  few : xs.length ≤ 10 + 8 * i
theorem anc_0 {es : Ens} {zs : List Str} (B : Bt es) (hz : ∀ z ∈ zs, z ∈ nms es) (l : zs.length ≤ 10) : AncI es zs 0 zs :=
  ⟨fun x hx => ⟨x, hx, B.line_self x (hz x hx)⟩, fun z hz => hz, fun j p e h => by have := (List.getElem?_eq_some_iff.mp e).1; omega, by omega⟩
theorem anc_out {es : Ens} {zs xs : List Str} {i j : Nat} {p : Str × En} (A : AncI es zs i xs) (e : es[j]? = some p) (ej : j + i + 1 = es.length) (h : p.1 ∉ xs) : AncI es zs (i + 1) xs :=
  ⟨A.up, A.ini, fun j2 p2 e2 l2 m => by
    by_cases c : j2 = j
    · subst c
      rw [e] at e2
      cases e2
      exact absurd m h
    · exact A.cls j2 p2 e2 (by omega) m, by have := A.few; omega⟩
theorem anc_in {es : Ens} {zs xs : List Str} {i j : Nat} {p : Str × En} (B : Bt es) (A : AncI es zs i xs) (e : es[j]? = some p) (ej : j + i + 1 = es.length) (h : p.1 ∈ xs) : AncI es zs (i + 1) (xs ++ p.2.bases.filter fun b => decide (b ∉ xs)) := by
  obtain ⟨_, _, _, _, b8, sub, _, _⟩ := bt_step B j p e
  refine ⟨fun x hx => ?_, fun z hz => List.mem_append_left _ (A.ini z hz), fun j2 p2 e2 l2 m b hb => ?_, ?_⟩
  · rcases List.mem_append.mp hx with m | m
    · exact A.up x m
    · obtain ⟨z, hz, k⟩ := A.up p.1 h
      exact ⟨z, hz, B.trans z p.1 x k (B.bases_in p (List.mem_of_getElem? e) x (List.mem_filter.mp m).1)⟩
  · by_cases c : j2 = j
    · subst c
      rw [e] at e2
      cases e2
      by_cases mb : b ∈ xs
      · exact List.mem_append_left _ mb
      · exact List.mem_append_right _ (List.mem_filter.mpr ⟨hb, decide_eq_true mb⟩)
    · rcases List.mem_append.mp m with k | k
      · exact List.mem_append_left _ (A.cls j2 p2 e2 (by omega) k b hb)
      · have k1 := sub _ (List.mem_filter.mp k).1
        obtain ⟨_, n2, _⟩ := bt_step B j2 p2 e2
        refine absurd ?_ n2
        unfold nms at k1 ⊢
        obtain ⟨y, hy, ey⟩ := List.mem_map.mp k1
        refine List.mem_map.mpr ⟨y, ?_, ey⟩
        exact (List.take_subset_take_left es (by omega)) hy
  · have l1 := List.length_filter_le (fun b => decide (b ∉ xs)) p.2.bases
    have := A.few
    rw [List.length_append]
    omega
theorem anc_end {es : Ens} {zs xs : List Str} (B : Bt es) (A : AncI es zs es.length xs) : (nms es).filter (fun x => decide (x ∈ xs)) = cl es zs := by
  unfold cl
  refine List.filter_congr fun x hx => ?_
  rw [Bool.eq_iff_iff, decide_eq_true_eq, List.any_eq_true]
  constructor
  · intro h
    obtain ⟨z, hz, k⟩ := A.up x h
    exact ⟨z, hz, decide_eq_true k⟩
  · rintro ⟨z, hz, k⟩
    refine B.closed (fun y => y ∈ xs) (fun p hp fp b hb => ?_) z x (A.ini z hz) (of_decide_eq_true k)
    obtain ⟨j, hj, e⟩ := List.getElem_of_mem hp
    exact A.cls j p (by rw [List.getElem?_eq_getElem hj, e]) (by omega) fp b hb
/-- the world with methods -/
def wk (μ : Str → Mss) (es : Ens) : Ens := es.map fun q => (q.1, ⟨q.2.bases, kdOf (μ q.1), q.2.line⟩)
theorem nms_wk (μ : Str → Mss) (es : Ens) : nms (wk μ es) = nms es := by
  unfold nms wk
  rw [List.map_map]
  rfl
theorem ln_wk (μ : Str → Mss) (x : Str) : ∀ es : Ens, ln (wk μ es) x = ln es x
  | [] => rfl
  | (n, e) :: es => by
    have ih := ln_wk μ x es
    unfold ln at ih ⊢
    show (match List.lookup x ((n, _) :: wk μ es) with | some e => e.line | none => []) = _
    rw [List.lookup_cons, List.lookup_cons]
    by_cases c : x = n
    · subst c
      rw [show (x == x) = true from beq_self_eq_true x]
    · rw [show (x == n) = false from beq_eq_false_iff_ne.mpr c]
      exact ih
theorem rws_wk (μ : Str → Mss) (es : Ens) (bs : List Str) : rws (wk μ es) bs = rws es bs := by
  unfold rws
  exact congrArg (· ++ [bs]) (List.map_congr_left fun x _ => ln_wk μ x es)
theorem wk_take (μ : Str → Mss) (es : Ens) (i : Nat) : (wk μ es).take i = wk μ (es.take i) := (List.map_take ..).symm
theorem wk_len (μ : Str → Mss) (es : Ens) : (wk μ es).length = es.length := List.length_map ..
theorem bt_wk (μ : Str → Mss) {es : Ens} (B : Bt es) : Bt (wk μ es) := by
  induction B with
  | nil => exact .nil
  | @snoc es n bs kd h new nm nd few sub cov ih =>
    have e : wk μ (es ++ [(n, ⟨bs, kd, n :: Mg.drawn (rws es bs)⟩)]) = wk μ es ++ [(n, ⟨bs, kdOf (μ n), n :: Mg.drawn (rws (wk μ es) bs)⟩)] := by
      rw [rws_wk]
      unfold wk
      rw [List.map_append]
      rfl
    rw [e]
    exact .snoc ih (by rw [nms_wk]; exact new) nm nd few (fun b m => by rw [nms_wk]; exact sub b m) (by rw [rws_wk]; exact cov)
def MmAt (H : Hp) (M : Addr) (μ : Str → Mss) : Prop := ∃ kvs, H M = some (.dK kvs) ∧ ∀ x, (valV kvs (Sum.inr x) = none ∧ μ x = []) ∨ ∃ d, valV kvs (Sum.inr x) = some (.ref d) ∧ MdAt H d (μ x)
theorem mm_same {H H' : Hp} (s : Same H H') {M : Addr} {μ : Str → Mss} (h : MmAt H M μ) : MmAt H' M μ :=
  let ⟨kvs, e, k⟩ := h; ⟨kvs, s _ _ e, fun x => (k x).imp id fun ⟨d, a, b⟩ => ⟨d, a, md_same s b⟩⟩
def spWorldM (C : Addr) : Sp := fun vs H Q _ => ∃ (l M : Addr) (ts : List Addr) (es : Ens) (μ : Str → Mss), vs = [.ref l, .ref M] ∧ H l = some (.lst (ts.map V.ref)) ∧ RwAt H ts es ∧ Bt es ∧ es.length ≤ 24 ∧ MmAt H M μ ∧ (∀ x, MsOk (μ x)) ∧ ∀ H' a, Same H H' → H a = none → WAt C H' a (wk μ es) → Q (.ref a) H'
def spWorld (C : Addr) : Sp := fun vs H Q _ => ∃ (l M : Addr) (ts : List Addr) (es : Ens), vs = [.ref l, .ref M] ∧ H l = some (.lst (ts.map V.ref)) ∧ RwAt H ts es ∧ Bt es ∧ (∀ q ∈ es, q.2.kept = []) ∧ es.length ≤ 24 ∧ H M = some (.dK []) ∧ ∀ H' a, Same H H' → H a = none → WAt C H' a es → Q (.ref a) H'
def spAsked (C f : Addr) : Sp := fun vs H Q _ => ∃ (a b : Addr) (zs : List Str) (es : Ens), vs = [.ref f, .ref a, .ref b] ∧ WAt C H a es ∧ Bt es ∧ es.length ≤ 24 ∧ Rd H b (.tup (zs.map V.str)) ∧ LongRow zs ∧ 1 ≤ zs.length ∧ zs.length ≤ 4 ∧ (∀ z ∈ zs, z ∈ nms es) ∧ ∀ H' r, Same H H' → H' r = some (.tup ((cl es zs).map V.str)) → Q (.ref r) H'
def spSome : Sp := fun vs H Q _ => ∃ (p l : Addr) (m b : Nat) (ts : List Addr) (es : Ens), vs = [.ref p, .ref l, .int m] ∧ Src H p b ∧ b ≤ 800000 ∧ l ≠ p ∧ H l = some (.lst (ts.map V.ref)) ∧ RwAt H ts es ∧ Bt es ∧ 1 ≤ m ∧ m ≤ es.length ∧ es.length ≤ 10 ∧
  ∀ (H' : Hp) (r : Addr) (zs : List Str), Same (Nb.del H p) H' → H' r = some (.tup (zs.map V.str)) → zs.Nodup → (∀ z ∈ zs, z ∈ nms es) → 1 ≤ zs.length → zs.length ≤ m → Src H' p (b + 12) → Q (.ref r) H'
def spAnc : Sp := fun vs H Q _ => ∃ (l b : Addr) (ts : List Addr) (zs : List Str) (es : Ens), vs = [.ref l, .ref b] ∧ H l = some (.lst (ts.map V.ref)) ∧ RwAt H ts es ∧ Bt es ∧ es.length ≤ 10 ∧ Rd H b (.tup (zs.map V.str)) ∧ zs.length ≤ 10 ∧ (∀ z ∈ zs, z ∈ nms es) ∧ ∀ H' r, Same H H' → H' r = some (.tup ((cl es zs).map V.str)) → Q (.ref r) H'
section
variable {P : Program} {w : World} {K : PySem.W.Frag} {mg : Str → Option Value} {base : Heap}
end
end K09

set_option Elab.async false
set_option linter.all false
set_option maxRecDepth 100000
set_option maxHeartbeats 4000000
namespace K09
open PySem Nb
open L2 hiding del del_ne del_same
open Nb.Wd
section
variable {H : Hp}
theorem tds_strs_inv {n : Nat} : ∀ {zs : List Str} {xs : List V}, Tds H n xs (zs.map PyData.str) → xs = zs.map V.str
  | [], _, .nil => rfl
  | z :: zs, _, .cons h t => by
    cases h
    rw [tds_strs_inv t]
    rfl
theorem row_inv {n : Nat} {x : V} {zs : List Str} (h : Td H n x (rwD zs)) : ∃ a, x = .ref a ∧ H a = some (.tup (zs.map V.str)) := by
  cases h with
  | tup e l t => exact ⟨_, rfl, tds_strs_inv t ▸ e⟩
theorem me_inv {n : Nat} {v : V} {m : Me} (h : Td H n v (meD m)) : MeAt H v m := by
  cases h with
  | tup e l t =>
    cases t with
    | cons h1 t =>
      cases t with
      | cons h2 t =>
        cases t with
        | cons h3 t =>
          cases t with
          | cons h4 t =>
            cases t
            obtain ⟨a, rfl, ea⟩ := row_inv h1
            obtain ⟨b, rfl, eb⟩ := row_inv h2
            obtain ⟨d, rfl, ed⟩ := row_inv h4
            refine ⟨_, a, b, d, _, rfl, e, ea, eb, ?_, ed⟩
            cases hp : m.passes with
            | none =>
              rw [hp] at h3
              cases h3
              rfl
            | some ps =>
              rw [hp] at h3
              obtain ⟨c, e, ec⟩ := row_inv (zs := ps) h3
              exact ⟨c, e, ec⟩
theorem kd_inv {n : Nat} : ∀ {qs : Mss} {ys : List V}, Tds H n ys (qs.map fun q => .tuple [.str q.1, meD q.2]) → ∃ ts : List Addr, ys = ts.map V.ref ∧ ∃ kvs, Paired (fun t kv => H t = some (.tup [kV kv.1, kv.2])) ts kvs ∧ MkAt H kvs qs
  | [], _, .nil => ⟨[], rfl, [], .nil, .nil⟩
  | q :: qs, _, .cons h t => by
    obtain ⟨ts, e, kvs, p, m⟩ := kd_inv t
    cases h with
    | tup e1 l t1 =>
      cases t1 with
      | cons h1 t2 =>
        cases t2 with
        | cons h2 t3 =>
          cases t3
          cases h1
          exact ⟨_ :: ts, by rw [e]; rfl, (Sum.inr q.1, _) :: kvs, .cons e1 p, .cons ⟨rfl, me_inv h2⟩ m⟩
end
theorem paired_len {α β : Type} {F : α → β → Prop} : ∀ {l : List α} {m : List β}, Paired F l m → l.length = m.length
  | _, _, .nil => rfl
  | _, _, .cons _ t => congrArg (· + 1) (paired_len t)
theorem paired_imp {α β : Type} {F G : α → β → Prop} (h : ∀ a b, F a b → G a b) : ∀ {l : List α} {m : List β}, Paired F l m → Paired G l m
  | _, _, .nil => .nil
  | _, _, .cons a t => .cons (h _ _ a) (paired_imp h t)
/-- what a world has of a class -/
def enOf (es : Ens) (n : Str) : En := (es.lookup n).getD ⟨[], [], []⟩
def MbAt (C : Addr) (H : Hp) (b a : Addr) (n : Str) : Prop := ∃ dx, H b = some (.ins C dx [("_world", .ref a), ("_label", .str n)])
theorem mb_same {C : Addr} {H H' : Hp} {b a : Addr} {n : Str} (s : Same H H') (h : MbAt C H b a n) : MbAt C H' b a n := let ⟨dx, e⟩ := h; ⟨dx, s _ _ e⟩
def spNames (C : Addr) : Sp := fun vs H Q _ => ∃ (a : Addr) (es : Ens), vs = [.ref a] ∧ WAt C H a es ∧ ∀ H' p, Same H H' → H' p = some (.tup ((nms es).map V.str)) → Q (.ref p) H'
def spWLen (C : Addr) : Sp := fun vs H Q _ => ∃ (a : Addr) (es : Ens), vs = [.ref a] ∧ WAt C H a es ∧ es.length ≤ 1000 ∧ Q (.int (es.length : Nat)) H
def spMbInit (C : Addr) : Sp := fun vs H Q _ => ∃ (b dx a : Addr) (n : Str), vs = [.ref b, .ref a, .str n] ∧ H b = some (.ins C dx []) ∧ ∀ H', Same (Nb.del H b) H' → MbAt C H' b a n → Q .non H'
def spMember (C M : Addr) : Sp := fun vs H Q _ => ∃ (a : Addr) (n : Str) (es : Ens), vs = [.ref a, .str n] ∧ WAt C H a es ∧ isNm n = true ∧ Word n ∧ n ∈ nms es ∧ ∀ H' b, Same H H' → MbAt M H' b a n → Q (.ref b) H'
def spFound : Sp := fun vs H Q _ => ∃ (d : Addr) (n : Str) (es : Ens), vs = [.ref d, .str n] ∧ DAt H d es ∧ n ∈ nms es ∧ ∀ v, EnAt H v (enOf es n) → Q v H
def spMBases (C M : Addr) : Sp := fun vs H Q _ => ∃ (b a : Addr) (n : Str) (es : Ens), vs = [.ref b] ∧ MbAt M H b a n ∧ WAt C H a es ∧ n ∈ nms es ∧ ∀ l, Rd H l (.tup ((enOf es n).bases.map V.str)) → Q (.ref l) H
def spMLine (C M : Addr) : Sp := fun vs H Q _ => ∃ (b a : Addr) (n : Str) (es : Ens), vs = [.ref b] ∧ MbAt M H b a n ∧ WAt C H a es ∧ n ∈ nms es ∧ ∀ l, Rd H l (.tup ((enOf es n).line.map V.str)) → Q (.ref l) H
def spMMeths (C M : Addr) : Sp := fun vs H Q _ => ∃ (b a : Addr) (n : Str) (es : Ens) (ms : Mss), vs = [.ref b] ∧ MbAt M H b a n ∧ WAt C H a es ∧ n ∈ nms es ∧ (enOf es n).kept = kdOf ms ∧ MsOk ms ∧ ∀ H' d, Same H H' → H d = none → MdAt H' d (sms ms) → Q (.ref d) H'
section
variable {P : Program} {w : World} {K : PySem.W.Frag} {mg : Str → Option Value} {base : Heap}
abbrev s_World_names : Stmt := clsAt (topS 58) 12
theorem sc_World_names : FnScope ["self"] ["self"] (defScope s_World_names) := ⟨rfl, rfl, rfl, by decide +kernel, rfl, by decide +kernel, by decide +kernel⟩
theorem ok_World_names {f : Addr} {fd : FuncData} (F : Fun K "names" "World.names" s_World_names f fd) {C_World : Addr} (T : Txt mg) (K_World : Kl K mg "World" C_World ["_classes"]) : FnOk P w K mg base CX0 1 f fd ["self"] (spNames C_World) := by
  refine F.ok sc_World_names (fun vs H Q E h => ?_) (fun cdv A outer s H vs Q E hr h => ?_)
  · obtain ⟨a, es, rfl, _⟩ := h
    rfl
  · obtain ⟨a, es, rfl, hW, q⟩ := h
    refine ⟨_, pss_one (ps_ret (pe_callTy (call_tupleD rfl) (by rfl) T.tuple (by decide +kernel) (pa_cons (pe_fld (pv 0) rfl) pa_nil))), ?_⟩
    obtain ⟨dx, d, e, nda, kvs, ed, hK⟩ := id hW
    exact ⟨_, rfl, a, C_World, dx, _, .ref d, rfl, e, K_World.cl, K_World.no "_classes" (by simp), rfl, d, kvs, nms es, rfl, .inl (del_back _ _ ed), kv_keys hK, fun H2 p s2 n2 e2 => q H2 p s2 e2⟩
abbrev s_World___len : Stmt := clsAt (topS 58) 15
theorem sc_World___len : FnScope ["self"] ["self"] (defScope s_World___len) := ⟨rfl, rfl, rfl, by decide +kernel, rfl, by decide +kernel, by decide +kernel⟩
theorem ok_World___len {f : Addr} {fd : FuncData} (F : Fun K "__len__" "World.__len__" s_World___len f fd) {C_World : Addr} (T : Txt mg) (K_World : Kl K mg "World" C_World ["_classes"]) : FnOk P w K mg base CX0 1 f fd ["self"] (spWLen C_World) := by
  refine F.ok sc_World___len (fun vs H Q E h => ?_) (fun cdv A outer s H vs Q E hr h => ?_)
  · obtain ⟨a, es, rfl, _⟩ := h
    rfl
  · obtain ⟨a, es, rfl, hW, l, q⟩ := h
    refine ⟨_, pss_one (ps_ret (pe_callB call_lenD (by rfl) T.len PySem.boot_len (pa_cons (pe_fld (pv 0) rfl) pa_nil))), ?_⟩
    obtain ⟨dx, d, e, nda, kvs, ed, hK⟩ := id hW
    have lk := kv_len hK
    refine ⟨_, rfl, a, C_World, dx, _, .ref d, rfl, e, K_World.cl, K_World.no "_classes" (by simp), rfl, d, kvs, rfl, del_back _ _ ed, ?_⟩
    rw [lk]
    exact q
abbrev s_Member___init : Stmt := clsAt (topS 59) 0
theorem sc_Member___init : FnScope ["self", "world", "label"] ["self", "world", "label"] (defScope s_Member___init) := ⟨rfl, rfl, rfl, by decide +kernel, rfl, by decide +kernel, by decide +kernel⟩
theorem ok_Member___init {f : Addr} {fd : FuncData} (F : Fun K "__init__" "Member.__init__" s_Member___init f fd) {C_Member : Addr} (T : Txt mg) (K_Member : Kl K mg "Member" C_Member ["_world", "_label"]) : FnOk P w K mg base CX0 1 f fd ["self", "world", "label"] (spMbInit C_Member) := by
  refine F.ok sc_Member___init (fun vs H Q E h => ?_) (fun cdv A outer s H vs Q E hr h => ?_)
  · obtain ⟨b, dx, a, n, rfl, _⟩ := h
    rfl
  · obtain ⟨b, dx, a, n, rfl, hb, q⟩ := h
    refine ⟨_, pss_cons (ps_fld (pv 0) (pv 1) rfl)
        (pss_one (ps_fld (pv 0) (pv 2) rfl)), ?_⟩
    refine ⟨_, rfl, _, rfl, b, C_Member, dx, [], rfl, hb, K_Member.cl, K_Member.no "_world" (by simp), (show 0 < 1000 by decide), ?_⟩
    refine ⟨_, rfl, _, rfl, b, C_Member, dx, _, rfl, upd_same, K_Member.cl, K_Member.no "_label" (by simp), (show 1 < 1000 by decide), ?_⟩
    exact q _ (same_at (same_at del_back del_at) del_at) ⟨dx, upd_same⟩
abbrev s_World_member : Stmt := clsAt (topS 58) 8
theorem sc_World_member : FnScope ["self", "name"] ["self", "name"] (defScope s_World_member) := ⟨rfl, rfl, rfl, by decide +kernel, rfl, by decide +kernel, by decide +kernel⟩
theorem ok_World_member {f : Addr} {fd : FuncData} (F : Fun K "member" "World.member" s_World_member f fd) {C_Member : Addr} {C_World : Addr} (T : Txt mg) (K_Member : Kl K mg "Member" C_Member ["_world", "_label"]) (K_World : Kl K mg "World" C_World ["_classes"]) (D_check_class : Dn P w K mg base CX0 3 "check_class" ["world", "name"] (spChkClass C_World)) (D_Member___init : Mi P w K mg base CX0 1 C_Member ["self", "world", "label"] (spMbInit C_Member)) : FnOk P w K mg base CX0 4 f fd ["self", "name"] (spMember C_World C_Member) := by
  refine F.ok sc_World_member (fun vs H Q E h => ?_) (fun cdv A outer s H vs Q E hr h => ?_)
  · obtain ⟨a, n, es, rfl, _⟩ := h
    rfl
  · obtain ⟨a, n, es, rfl, hW, nm, wd, mn, q⟩ := h
    refine ⟨_, pss_cons (ps_expr (pe_D D_check_class (hr.mono (by decide)) (by rfl) pass0 (pa_cons (pv 0) (pa_cons (pv 1) pa_nil))))
        (pss_one (ps_ret (pe_Mi D_Member___init (hr.mono (by decide)) (by rfl) K_Member.g pass0 (pa_cons (pv 0) (pa_cons (pv 1) pa_nil))))), ?_⟩
    refine ⟨_, rfl, _, rfl, a, n, es, rfl, hW, nm, wd, mn, fun H1 s1 => ?_⟩
    exact ⟨_, rfl, _, rfl, fun b dx hb hdx ne => ⟨b, dx, a, n, rfl, upd_same, fun H2 s2 mb => ⟨rfl, q H2 b (s1.trans (make_same hb hdx s2)) mb⟩⟩⟩
abbrev s_found : Stmt := topS 60
theorem sc_found : FnScope ["classes", "name"] ["classes", "name"] (defScope s_found) := ⟨rfl, rfl, rfl, by decide +kernel, rfl, by decide +kernel, by decide +kernel⟩
theorem ok_found {f : Addr} {fd : FuncData} (F : Fun K "_found" "_found" s_found f fd) (T : Txt mg) : FnOk P w K mg base CX0 1 f fd ["classes", "name"] (spFound) := by
  refine F.ok sc_found (fun vs H Q E h => ?_) (fun cdv A outer s H vs Q E hr h => ?_)
  · obtain ⟨d, n, es, rfl, _⟩ := h
    rfl
  · obtain ⟨d, n, es, rfl, hD, mn, q⟩ := h
    have hu := hu_of hr
    refine ⟨_, pss_cons (ps_if (pt_cmp (pc_dnotin hu (pv 1) (pv 0))) (pss_one ps_never) pss_nil)
        (pss_one (ps_ret (pe_dget (hu_of hr) (pv 0) (pv 1) (fun _ _ => rfl)))), ?_⟩
    obtain ⟨kvs, ed, hK⟩ := id hD
    obtain ⟨v, en, h1, h2, h3⟩ := kv_in hK mn
    have ee : enOf es n = en := by unfold enOf; rw [h1]; rfl
    rw [ee] at q
    refine ⟨_, rfl, _, rfl, d, _, rfl, .inl ⟨kvs, .inr n, .inl ed, rfl, rfl⟩, _, rfl, ?_⟩
    rw [h2]
    exact iteF ⟨_, rfl, _, rfl, d, _, rfl, .inl ⟨kvs, .inr n, .inl ed, rfl, h2.symm⟩, q v h3⟩
end
end K09

set_option Elab.async false
set_option linter.all false
set_option maxRecDepth 100000
set_option maxHeartbeats 4000000
namespace K09
open PySem Nb
open L2 hiding del del_ne del_same
open Nb.Wd
section
variable {P : Program} {w : World} {K : PySem.W.Frag} {mg : Str → Option Value} {base : Heap}
abbrev s_Member_bases : Stmt := clsAt (topS 59) 2
theorem sc_Member_bases : FnScope ["self"] ["self"] (defScope s_Member_bases) := ⟨rfl, rfl, rfl, by decide +kernel, rfl, by decide +kernel, by decide +kernel⟩
theorem ok_Member_bases {f : Addr} {fd : FuncData} (F : Fun K "bases" "Member.bases" s_Member_bases f fd) {C_Member : Addr} {C_World : Addr} (T : Txt mg) (K_Member : Kl K mg "Member" C_Member ["_world", "_label"]) (K_World : Kl K mg "World" C_World ["_classes"]) (D_found : Dn P w K mg base CX0 1 "_found" ["classes", "name"] (spFound)) {t_BASES : Tok} (m_BASES : mg "_BASES" = some (.int 0 t_BASES)) : FnOk P w K mg base CX0 2 f fd ["self"] (spMBases C_World C_Member) := by
  refine F.ok sc_Member_bases (fun vs H Q E h => ?_) (fun cdv A outer s H vs Q E hr h => ?_)
  · obtain ⟨b, a, n, es, rfl, _⟩ := h
    rfl
  · obtain ⟨b, a, n, es, rfl, hB, hW, mn, q⟩ := h
    refine ⟨_, pss_one (ps_ret (pe_ix ix_tup (pe_D D_found (hr.mono (by decide)) (by rfl) pass0 (pa_cons (pe_fld (pe_fld (pv 0) rfl) rfl) (pa_cons (pe_fld (pv 0) rfl) pa_nil))) (pe_glob (v := .int 0) (by rfl) m_BASES ⟨_, rfl⟩) (fun _ _ => rfl))), ?_⟩
    obtain ⟨dxm, eb⟩ := hB
    obtain ⟨dx, d, ea, nda, hD⟩ := id hW
    refine ⟨_, rfl, b, C_Member, dxm, _, .ref a, rfl, eb, K_Member.cl, K_Member.no "_world" (by simp), rfl, a, C_World, dx, _, .ref d, rfl, ea, K_World.cl, K_World.no "_classes" (by simp), rfl, ?_⟩
    refine ⟨_, rfl, b, C_Member, dxm, _, .str n, rfl, eb, K_Member.cl, K_Member.no "_label" (by simp), rfl, d, n, es, rfl, d_same del_back hD, mn, fun v hv => ?_⟩
    obtain ⟨t, bb, k, l, rfl, h1, h2, h3, h4, h5⟩ := hv

    exact ⟨t, _, 0, _, rfl, rfl, .inl (.inl h1), atI_nat (j := 0) rfl, q bb h2⟩
abbrev s_Member_linearization : Stmt := clsAt (topS 59) 4
theorem sc_Member_linearization : FnScope ["self"] ["self"] (defScope s_Member_linearization) := ⟨rfl, rfl, rfl, by decide +kernel, rfl, by decide +kernel, by decide +kernel⟩
theorem ok_Member_linearization {f : Addr} {fd : FuncData} (F : Fun K "linearization" "Member.linearization" s_Member_linearization f fd) {C_Member : Addr} {C_World : Addr} (T : Txt mg) (K_Member : Kl K mg "Member" C_Member ["_world", "_label"]) (K_World : Kl K mg "World" C_World ["_classes"]) (D_found : Dn P w K mg base CX0 1 "_found" ["classes", "name"] (spFound)) {t_LINE : Tok} (m_LINE : mg "_LINE" = some (.int 2 t_LINE)) : FnOk P w K mg base CX0 2 f fd ["self"] (spMLine C_World C_Member) := by
  refine F.ok sc_Member_linearization (fun vs H Q E h => ?_) (fun cdv A outer s H vs Q E hr h => ?_)
  · obtain ⟨b, a, n, es, rfl, _⟩ := h
    rfl
  · obtain ⟨b, a, n, es, rfl, hB, hW, mn, q⟩ := h
    refine ⟨_, pss_one (ps_ret (pe_ix ix_tup (pe_D D_found (hr.mono (by decide)) (by rfl) pass0 (pa_cons (pe_fld (pe_fld (pv 0) rfl) rfl) (pa_cons (pe_fld (pv 0) rfl) pa_nil))) (pe_glob (v := .int 2) (by rfl) m_LINE ⟨_, rfl⟩) (fun _ _ => rfl))), ?_⟩
    obtain ⟨dxm, eb⟩ := hB
    obtain ⟨dx, d, ea, nda, hD⟩ := id hW
    refine ⟨_, rfl, b, C_Member, dxm, _, .ref a, rfl, eb, K_Member.cl, K_Member.no "_world" (by simp), rfl, a, C_World, dx, _, .ref d, rfl, ea, K_World.cl, K_World.no "_classes" (by simp), rfl, ?_⟩
    refine ⟨_, rfl, b, C_Member, dxm, _, .str n, rfl, eb, K_Member.cl, K_Member.no "_label" (by simp), rfl, d, n, es, rfl, d_same del_back hD, mn, fun v hv => ?_⟩
    obtain ⟨t, bb, k, l, rfl, h1, h2, h3, h4, h5⟩ := hv

    exact ⟨t, _, 2, _, rfl, rfl, .inl (.inl h1), atI_nat (j := 2) rfl, q l h4⟩
abbrev s_Member_methods : Stmt := clsAt (topS 59) 5
theorem sc_Member_methods : FnScope ["self"] ["self"] (defScope s_Member_methods) := ⟨rfl, rfl, rfl, by decide +kernel, rfl, by decide +kernel, by decide +kernel⟩
theorem ok_Member_methods {f : Addr} {fd : FuncData} (F : Fun K "methods" "Member.methods" s_Member_methods f fd) {C_Member : Addr} {C_World : Addr} (T : Txt mg) (K_Member : Kl K mg "Member" C_Member ["_world", "_label"]) (K_World : Kl K mg "World" C_World ["_classes"]) (D_found : Dn P w K mg base CX0 1 "_found" ["classes", "name"] (spFound)) {t_METHODS : Tok} (m_METHODS : mg "_METHODS" = some (.int 1 t_METHODS)) : FnOk P w K mg base CX0 2 f fd ["self"] (spMMeths C_World C_Member) := by
  refine F.ok sc_Member_methods (fun vs H Q E h => ?_) (fun cdv A outer s H vs Q E hr h => ?_)
  · obtain ⟨b, a, n, es, ms, rfl, _⟩ := h
    rfl
  · obtain ⟨b, a, n, es, ms, rfl, hB, hW, mn, hk, hO, q⟩ := h
    refine ⟨_, pss_one (ps_ret (pe_callTy (call_dictT rfl) (by rfl) T.dict (by decide +kernel) (pa_cons (pe_ix ix_tup (pe_D D_found (hr.mono (by decide)) (by rfl) pass0 (pa_cons (pe_fld (pe_fld (pv 0) rfl) rfl) (pa_cons (pe_fld (pv 0) rfl) pa_nil))) (pe_glob (v := .int 1) (by rfl) m_METHODS ⟨_, rfl⟩) (fun _ _ => rfl)) pa_nil))), ?_⟩
    obtain ⟨dxm, eb⟩ := hB
    obtain ⟨dx, d, ea, nda, hD⟩ := id hW
    refine ⟨_, rfl, b, C_Member, dxm, _, .ref a, rfl, eb, K_Member.cl, K_Member.no "_world" (by simp), rfl, a, C_World, dx, _, .ref d, rfl, ea, K_World.cl, K_World.no "_classes" (by simp), rfl, ?_⟩
    refine ⟨_, rfl, b, C_Member, dxm, _, .str n, rfl, eb, K_Member.cl, K_Member.no "_label" (by simp), rfl, d, n, es, rfl, d_same del_back hD, mn, fun v hv => ?_⟩
    obtain ⟨t, bb, k, l, rfl, h1, h2, h3, h4, h5⟩ := hv

    rw [hk] at h3
    obtain ⟨ys, f, ly, tds⟩ := h3
    obtain ⟨ts, ey, kvs, pr, mk⟩ := kd_inv tds
    subst ey
    have l1 := mk_len mk
    have l2 := sms_len ms
    have l3 := hO.l3
    have lt := paired_len pr
    have nk : (kvs.map (·.1)).Nodup := by
      rw [mk_keys mk]
      exact List.pairwise_map.mpr (hO.sorted.nd.imp fun h z => h (Sum.inr.inj z))
    refine ⟨t, _, 1, _, rfl, rfl, .inl (.inl h1), atI_nat (j := 1) rfl, k, ts, kvs, rfl, f, paired_imp (fun a b h => SqT.of h) pr, by omega, fun H2 p s2 n2 e2 => q H2 p s2 n2 ⟨kvs, ?_, mk_keep (kt_same s2) mk⟩⟩
    rw [e2, merge_nil nk]
end
end K09

set_option Elab.async false
set_option linter.all false
set_option maxRecDepth 100000
set_option maxHeartbeats 4000000
namespace K09
open PySem Nb
open L2 hiding del del_ne del_same
open Nb.Wd
def partT (zs : List Str) : Str := if zs = [] then "-" else Txt.join " " zs
def thirdT : Option (List Str) → Str
  | none => "stop"
  | some ps => Txt.join " " (("+" : Str) :: ps)
def methT (k : Str) (m : Me) : Str := Txt.join " | " ["method " ++ k, partT m.takes, partT m.before, thirdT m.passes, partT m.after]
def classT (n : Str) (bs : List Str) : Str := Txt.join " " ("class" :: n :: bs)
def oneT (μ : Str → Mss) (q : Str × En) : List Str := classT q.1 q.2.bases :: (sms (μ q.1)).map fun p => methT p.1 p.2
def linesT (μ : Str → Mss) (es : Ens) : List Str := (es.map (oneT μ)).flatten
def spPart : Sp := fun vs H Q _ => ∃ (a : Addr) (zs : List Str), vs = [.ref a] ∧ Rd H a (.tup (zs.map V.str)) ∧ WdOk zs ∧ Q (.str (partT zs)) H
def spMLineT : Sp := fun vs H Q _ => ∃ (k : Str) (v : V) (m : Me), vs = [.str k, v] ∧ k.length ≤ 8 ∧ MeAt H v m ∧ MeOk m ∧ ∀ H', Same H H' → Q (.str (methT k m)) H'
theorem name8 {y : Str} (h : isNm y = true) : y.length ≤ 8 := by
  unfold isNm at h
  have := (Bool.and_eq_true_iff.mp (Bool.and_eq_true_iff.mp h).1).2
  have := of_decide_eq_true this
  omega
theorem sum_len {k : Nat} : ∀ {zs : List Str}, (∀ z ∈ zs, z.length ≤ k) → (zs.map (·.length)).sum ≤ k * zs.length
  | [], _ => Nat.zero_le _
  | z :: zs, h => by
    have a := h z (List.mem_cons_self ..)
    have b := sum_len (zs := zs) fun y m => h y (List.mem_cons_of_mem _ m)
    rw [List.map_cons, List.sum_cons, List.length_cons, Nat.mul_succ]
    omega
theorem join_len {zs : List Str} (h : ∀ z ∈ zs, z.length ≤ 8) : (Txt.join " " zs).length ≤ 9 * zs.length := by
  have a := sum_len h
  have b : (Txt.join " " zs).length = (zs.map (·.length)).sum + (zs.length - 1) * (" " : Str).length := size_glued " " zs
  have c : (" " : Str).length = 1 := by decide +kernel
  rw [b, c]
  omega
theorem part_len {zs : List Str} (h : WdOk zs) : (partT zs).length ≤ 36 := by
  have a := join_len fun z m => name8 (h.nm z m).1
  have b := h.l4
  unfold partT
  split
  · decide +kernel
  · omega
theorem empty_app (z : Str) : Str.empty ++ z = z := by
  show (⟨#[] ++ z.cps⟩ : Str) = z
  rw [Array.empty_append]
theorem big {n : Nat} (h : n ≤ 100000) : n ≤ sizeLine := by
  rw [sizeLine_eq]
  omega
theorem join_nil {zs : List Str} (h : ∀ z ∈ zs, 1 ≤ z.length) : decide ((Txt.join " " zs).length = 0) = decide (zs = []) := by
  cases zs with
  | nil => rfl
  | cons z zs =>
    rw [decide_eq_false (by
      have b : (Txt.join " " (z :: zs)).length = ((z :: zs).map (·.length)).sum + ((z :: zs).length - 1) * (" " : Str).length := size_glued " " _
      have := h z (List.mem_cons_self ..)
      rw [b, List.map_cons, List.sum_cons]
      omega), decide_eq_false (fun e => nomatch e)]
theorem name1 {y : Str} (h : isNm y = true) : 1 ≤ y.length := by
  unfold isNm at h
  have := (Bool.and_eq_true_iff.mp (Bool.and_eq_true_iff.mp h).1).1
  have := of_decide_eq_true this
  omega
section
variable {P : Program} {w : World} {K : PySem.W.Frag} {mg : Str → Option Value} {base : Heap}
end
end K09

set_option Elab.async false
set_option linter.all false
set_option maxRecDepth 100000
set_option maxHeartbeats 4000000
namespace K09
open PySem Nb
open L2 hiding del del_ne del_same
open Nb.Wd
theorem en_wk {μ : Str → Mss} {es : Ens} (B : Bt es) {q : Str × En} (h : q ∈ es) : enOf (wk μ es) q.1 = ⟨q.2.bases, kdOf (μ q.1), q.2.line⟩ := by
  have m : (q.1, (⟨q.2.bases, kdOf (μ q.1), q.2.line⟩ : En)) ∈ wk μ es := List.mem_map.mpr ⟨q, h, rfl⟩
  have nd : ((wk μ es).map (·.1)).Nodup := by
    have := (bt_wk μ B).nodup
    exact this
  unfold enOf
  rw [look_at nd m]
  rfl
theorem meth_len {k : Str} (k8 : k.length ≤ 8) {m : Me} (ok : MeOk m) : (methT k m).length ≤ 200 := by
  have pt := part_len (zs := m.takes) ⟨ok.t.nm, ok.t.l4⟩
  have pb := part_len ok.b
  have pa := part_len ok.a
  have th : (thirdT m.passes).length ≤ 45 := by
    cases hp : m.passes with
    | none => show ("stop" : Str).length ≤ 45; decide +kernel
    | some ps =>
      have okp := ok.p ps hp
      have l4 := okp.l4
      have plus : ("+" : Str).length = 1 := by decide +kernel
      have tl := join_len (zs := ("+" : Str) :: ps) fun z hz => by
        rcases List.mem_cons.mp hz with rfl | hz
        · rw [plus]; decide
        · exact name8 (okp.nm z hz).1
      rw [List.length_cons] at tl
      show (Txt.join " " (("+" : Str) :: ps)).length ≤ 45
      omega
  have three : (" | " : Str).length = 3 := by decide +kernel
  have seven : ("method " : Str).length = 7 := by decide +kernel
  unfold methT
  have b : (Txt.join " | " ["method " ++ k, partT m.takes, partT m.before, thirdT m.passes, partT m.after]).length = (["method " ++ k, partT m.takes, partT m.before, thirdT m.passes, partT m.after].map (·.length)).sum + (5 - 1) * (" | " : Str).length := size_glued " | " _
  rw [b, three]
  show ("method " ++ k).length + ((partT m.takes).length + ((partT m.before).length + ((thirdT m.passes).length + ((partT m.after).length + 0)))) + (5 - 1) * 3 ≤ 200
  rw [Str.length_append, seven]
  omega
theorem class_sum {n : Str} {bs : List Str} (n8 : n.length ≤ 8) (b8 : ∀ b ∈ bs, b.length ≤ 8) : ∀ z ∈ (("class" : Str) :: n :: bs), z.length ≤ 8 := fun z hz => by
  rcases List.mem_cons.mp hz with rfl | hz
  · decide +kernel
  rcases List.mem_cons.mp hz with rfl | hz
  · exact n8
  · exact b8 z hz
theorem lines_200 {μ : Str → Mss} {es : Ens} (B : Bt es) (hO : ∀ x, MsOk (μ x)) : ∀ z ∈ linesT μ es, z.length ≤ 200 := fun z hz => by
  obtain ⟨l, hl, mz⟩ := List.mem_flatten.mp hz
  obtain ⟨q, hq, rfl⟩ := List.mem_map.mp hl
  obtain ⟨_, _, b8, sub, mem⟩ := B.at_ q hq
  rcases List.mem_cons.mp mz with rfl | mz
  · have := join_len (class_sum (name8 (B.names q.1 mem).1) fun b hb => name8 (B.names b (sub b hb)).1)
    rw [List.length_cons, List.length_cons] at this
    unfold classT
    omega
  · obtain ⟨p, hp, rfl⟩ := List.mem_map.mp mz
    have ip := sms_in hp
    exact meth_len (name8 ((hO q.1).nm p ip).1.1) ((hO q.1).ok p ip)
theorem lines_len {μ : Str → Mss} (hO : ∀ x, MsOk (μ x)) : ∀ es : Ens, (linesT μ es).length ≤ 4 * es.length
  | [] => Nat.le_refl _
  | q :: es => by
    have a := lines_len hO es
    have b := (hO q.1).l3
    show (oneT μ q ++ linesT μ es).length ≤ _
    rw [List.length_append, List.length_cons]
    have : (oneT μ q).length = (μ q.1).length + 1 := by
      unfold oneT
      rw [List.length_cons, List.length_map, sms_len]
    omega
theorem lines_snoc (μ : Str → Mss) (es : Ens) (q : Str × En) : linesT μ (es ++ [q]) = linesT μ es ++ oneT μ q := by
  unfold linesT
  rw [List.map_append, List.flatten_append]
  show _ ++ [oneT μ q].flatten = _
  rw [List.flatten_cons, List.flatten_nil, List.append_nil]
theorem map_range_get (zs : List Str) : (List.range zs.length).map (fun i => V.str (zs.getD i "")) = zs.map V.str := by
  refine List.ext_getElem? fun i => ?_
  rw [List.getElem?_map, List.getElem?_map]
  by_cases h : i < zs.length
  · rw [List.getElem?_range h, List.getElem?_eq_getElem h]
    show some (V.str (zs.getD i "")) = _
    rw [List.getD_eq_getElem?_getD, List.getElem?_eq_getElem h]
    rfl
  · rw [List.getElem?_eq_none (by rw [List.length_range]; omega), List.getElem?_eq_none (by omega)]
    rfl
def spWLines (C : Addr) : Sp := fun vs H Q _ => ∃ (a : Addr) (es : Ens) (μ : Str → Mss), vs = [.ref a] ∧ WAt C H a (wk μ es) ∧ Bt es ∧ es.length ≤ 24 ∧ (∀ x, MsOk (μ x)) ∧ ∀ H' p, Same H H' → H p = none → H' p = some (.lst ((linesT μ es).map V.str)) → Q (.ref p) H'
def textT (μ : Str → Mss) (es : Ens) : Str := Txt.join "\n" (linesT μ es)
def spWText (C : Addr) : Sp := fun vs H Q _ => ∃ (a : Addr) (es : Ens) (μ : Str → Mss), vs = [.ref a] ∧ WAt C H a (wk μ es) ∧ Bt es ∧ es.length ≤ 24 ∧ (∀ x, MsOk (μ x)) ∧ ∀ H', Same H H' → Q (.str (textT μ es)) H'
section
variable {P : Program} {w : World} {K : PySem.W.Frag} {mg : Str → Option Value} {base : Heap}
end
end K09

set_option Elab.async false
set_option linter.all false
set_option maxRecDepth 100000
set_option maxHeartbeats 4000000
namespace K09
open PySem Nb
open L2 hiding del del_ne del_same
open Nb.Wd
def uvw : List Str := ["u", "v", "w"]
def opq : List Str := ["o", "p", "q"]
theorem uvw_ok : NmsOk uvw := by
  intro z hz
  unfold uvw at hz
  simp only [List.mem_cons, List.not_mem_nil, or_false] at hz
  rcases hz with rfl | rfl | rfl <;> exact ⟨by decide +kernel, by decide +kernel, by decide +kernel⟩
theorem opq_ok : NmsOk opq ∧ opq.Nodup := by
  refine ⟨fun z hz => ?_, by decide +kernel⟩
  unfold opq at hz
  simp only [List.mem_cons, List.not_mem_nil, or_false] at hz
  rcases hz with rfl | rfl | rfl <;> exact ⟨by decide +kernel, by decide +kernel, by decide +kernel⟩
def spWRow : Sp := fun vs H Q _ => ∃ (p : Addr) (m b : Nat), vs = [.ref p, .int m] ∧ m ≤ 3 ∧ Src H p b ∧ b ≤ 900000 ∧
  ∀ H' t zs, Same (Nb.del H p) H' → Src H' p (b + 5) → H' t = some (.tup (zs.map V.str)) → WdOk zs → Q (.ref t) H'
def spMethodL : Sp := fun vs H Q _ => ∃ (p : Addr) (b : Nat), vs = [.ref p] ∧ Src H p b ∧ b ≤ 800000 ∧ ∀ H' v m, Same (Nb.del H p) H' → Src H' p (b + 20) → MeAt H' v m → MeOk m → Q v H'
theorem strs_of : ∀ {ys : List V}, (∀ y ∈ ys, ∃ z, y = V.str z ∧ z ∈ uvw) → ∃ zs : List Str, ys = zs.map V.str ∧ ∀ z ∈ zs, z ∈ uvw
  | [], _ => ⟨[], rfl, fun z m => nomatch m⟩
  | y :: ys, h => by
    obtain ⟨z, e, m⟩ := h y (List.mem_cons_self ..)
    obtain ⟨zs, e2, m2⟩ := strs_of (ys := ys) fun x hx => h x (List.mem_cons_of_mem _ hx)
    exact ⟨z :: zs, by rw [e, e2]; rfl, fun x hx => (List.mem_cons.mp hx).elim (fun e => e ▸ m) (m2 x)⟩
section
variable {P : Program} {w : World} {K : PySem.W.Frag} {mg : Str → Option Value} {base : Heap}
abbrev s_h_pick : Stmt := topS 70
theorem sc_h_pick : FnScope ["_law_source_here", "_law_items"] ["_law_source_here", "_law_items"] (defScope s_h_pick) := ⟨rfl, rfl, rfl, by decide +kernel, rfl, by decide +kernel, by decide +kernel⟩
theorem ok_h_pick {f : Addr} {fd : FuncData} (F : Fun K "_law_pick" "_law_pick" s_h_pick f fd) (T : Txt mg) (D_h_next : Dn P w K mg base CX0 1 "_law_next" ["_law_source_here", "_law_many"] (spNext)) : FnOk P w K mg base CX0 2 f fd ["_law_source_here", "_law_items"] (spPick) := by
  refine F.ok sc_h_pick (fun vs H Q E h => ?_) (fun cdv A outer s H vs Q E hr h => ?_)
  · obtain ⟨p, l, xs, b, G, rfl, _⟩ := h
    rfl
  · obtain ⟨p, l, xs, b, G, rfl, hl, h1, h2, hS, hB, hG, hs, q⟩ := h
    refine ⟨_, pss_one (ps_ret (pe_ix ix_list (pv 1) (pe_D D_h_next (hr.mono (by decide)) (by rfl) pass0 (pa_cons (pv 0) (pa_cons (pe_callB call_len_seq (by rfl) T.len PySem.boot_len (pa_cons (pv 1) pa_nil)) pa_nil))) (fun _ _ => rfl))), ?_⟩
    refine ⟨_, rfl, _, rfl, _, rfl, l, xs, rfl, .inl (SqL.of (hs _ _ hl)), p, _, b, G, rfl, (by omega), (by omega), hS, hB, hG, hs, fun H1 k k0 k1 s1 S1 => ?_⟩
    obtain ⟨j, rfl⟩ : ∃ j : Nat, k = (j : Int) := ⟨_, (Int.toNat_of_nonneg k0).symm⟩
    have hj : j < xs.length := by omega
    exact ⟨l, _, _, xs[j], rfl, rfl, SqL.of (s1 _ _ hl), atI_nat (List.getElem?_eq_getElem hj), q H1 _ (List.getElem_mem hj) s1 S1⟩
abbrev s_h_word_row : Stmt := topS 71
theorem sc_h_word_row : FnScope ["_law_source_here", "_law_most", "_law_turn"] ["_law_source_here", "_law_most"] (defScope s_h_word_row) := ⟨rfl, rfl, rfl, by decide +kernel, rfl, by decide +kernel, by decide +kernel⟩
def sx_h_word_row_0 : Scope := { kind := .function, names := [(".0", .local), ("_law_turn", .local), ("_law_pick", .globalImplicit), ("_law_source_here", .cell)], isGenerator := false, isCoroutine := false, more := [] }
theorem ok_h_word_row {f : Addr} {fd : FuncData} (F : Fun K "_law_word_row" "_law_word_row" s_h_word_row f fd) (T : Txt mg) (D_h_next : Dn P w K mg base CX0 1 "_law_next" ["_law_source_here", "_law_many"] (spNext)) (D_h_pick : Dn P w K mg base CX0 2 "_law_pick" ["_law_source_here", "_law_items"] (spPick)) : FnOk P w K mg base CX0 3 f fd ["_law_source_here", "_law_most"] (spWRow) := by
  refine F.ok sc_h_word_row (fun vs H Q E h => ?_) (fun cdv A outer s H vs Q E hr h => ?_)
  · obtain ⟨p, m, b, rfl, _⟩ := h
    rfl
  · obtain ⟨p, m, b, rfl, hm, hS, hB, q⟩ := h
    refine ⟨_, pss_one (ps_ret (pe_callTy cr_tupleS (by rfl) T.tuple (by decide +kernel) (pa_cons (pe_lc (own := [("_law_turn", 2)]) (g := gName 2) (tt := tYes) rfl sc_h_word_row.nd (pi_range1 (by rfl) T.range (pa_cons (pe_D D_h_next (hr.mono (by decide)) (by rfl) pass0 (pa_cons (pv 0) (pa_cons (pe_op op_add (pv 1) pe_int) pa_nil))) pa_nil)) (blkOk_by (N := ["_law_source_here", "_law_most", "_law_turn"]) (sc := (defScope s_h_word_row)) (by decide +kernel)) (fun _ _ _ _ _ => (pg_name (i := 2) sc_h_word_row.nd rfl (Or.inl rfl))) (fun _ _ _ _ _ => pts_nil) (fun _ _ _ _ _ => (pe_D D_h_pick (hr.mono (by decide)) (by rfl) pass0 (pa_cons (pv 0) (pa_cons (pe_lstS (pa_cons pe_str (pa_cons pe_str (pa_cons pe_str pa_nil)))) pa_nil))))) pa_nil))), ?_⟩
    refine ⟨_, rfl, _, rfl, _, _, rfl, rfl, p, (m : Int) + 1, b, Nb.del H p, rfl, by omega, by omega, hS, by omega, del_at, del_same, fun H1 k k0 k1 s1 S1 => ?_⟩
    obtain ⟨j, rfl⟩ : ∃ j : Nat, k = (j : Int) := ⟨_, (Int.toNat_of_nonneg k0).symm⟩
    refine ⟨_, rfl, by omega, by omega, fun D hD => ?_⟩
    refine lcSrc (walk_range (lo := 0)) p _ 1 (fun _ y _ => ∃ z, y = V.str z ∧ z ∈ uvw) (fun _ _ _ _ _ h => h) (by omega) hD S1 (fun _ _ => trivial) ?_ ?_
    · rintro i x H2 H3 Nx hi s2 _ nDp S2 ⟨rfl, rfl⟩ N
      refine ⟨rfl, _, rfl, (show 3 ≤ 100000 by decide), fun H4 l4 s4 n4 e4 => ⟨p, l4, uvw.map V.str, _, Nb.del H4 p, rfl, del_keep e4 (src_away S2 n4), by decide, by decide, S2.same s4, by omega, del_at, del_same, fun H5 x hx s5 S5 => ?_⟩⟩
      obtain ⟨z, mz, rfl⟩ := List.mem_map.mp hx
      exact N _ _ ((del_mono s4).trans s5) (S5.mono (by omega)) ⟨z, rfl, mz⟩
    intro H2 ys s2 e2 S2 f2
    have ly := f2_len f2
    rw [List.length_range] at ly
    obtain ⟨zs, rfl, mz⟩ := strs_of fun y hy => by
      obtain ⟨i, hi, e⟩ := List.getElem_of_mem hy
      obtain ⟨_, _, r⟩ := f2_get f2 (List.getElem?_eq_getElem hi)
      rw [e] at r
      exact r
    rw [List.length_map] at ly
    exact ⟨D, _, rfl, .inl e2, fun H3 t s3 e3 => q H3 t zs (((same_upd s1 del_at).trans s2).trans s3) ((S2.same s3).mono (by omega)) e3 ⟨fun z m => uvw_ok z (mz z m), by omega⟩⟩
end
end K09

set_option Elab.async false
set_option linter.all false
set_option maxRecDepth 100000
set_option maxHeartbeats 4000000
namespace K09
open PySem Nb
open L2 hiding del del_ne del_same
open Nb.Wd
theorem take_ok {ys : List Str} (pm : ys.Perm opq) {k : Nat} (hk : k ≤ 2) : RwOk (ys.take k) :=
  ⟨fun z hz => opq_ok.1 z (pm.subset ((List.take_sublist _ _).subset hz)), (pm.nodup_iff.mpr opq_ok.2).sublist (List.take_sublist _ _), by rw [List.length_take]; omega⟩
section
variable {P : Program} {w : World} {K : PySem.W.Frag} {mg : Str → Option Value} {base : Heap}
abbrev s_h_method : Stmt := topS 72
theorem sc_h_method : FnScope ["_law_source_here", "_law_takes", "_law_before", "_law_passes"] ["_law_source_here"] (defScope s_h_method) := ⟨rfl, rfl, rfl, by decide +kernel, rfl, by decide +kernel, by decide +kernel⟩
theorem ok_h_method {f : Addr} {fd : FuncData} (F : Fun K "_law_method" "_law_method" s_h_method f fd) (T : Txt mg) (D_h_next : Dn P w K mg base CX0 1 "_law_next" ["_law_source_here", "_law_many"] (spNext)) (D_h_mixed : Dn P w K mg base CX0 2 "_law_mixed" ["_law_source_here", "_law_items"] (spMixed)) (D_h_pick : Dn P w K mg base CX0 2 "_law_pick" ["_law_source_here", "_law_items"] (spPick)) (D_h_word_row : Dn P w K mg base CX0 3 "_law_word_row" ["_law_source_here", "_law_most"] (spWRow)) : FnOk P w K mg base CX0 4 f fd ["_law_source_here"] (spMethodL) := by
  refine F.ok sc_h_method (fun vs H Q E h => ?_) (fun cdv A outer s H vs Q E hr h => ?_)
  · obtain ⟨p, b, rfl, _⟩ := h
    rfl
  · obtain ⟨p, b, rfl, hS, hB, q⟩ := h
    refine ⟨_, pss_cons (ps_set (i := 1) sc_h_method.nd rfl (Or.inl rfl) (pe_callTy cr_tupleS (by rfl) T.tuple (by decide +kernel) (pa_cons (pe_slice sl_list (pe_D D_h_mixed (hr.mono (by decide)) (by rfl) pass0 (pa_cons (pv 0) (pa_cons (pe_lstS (pa_cons pe_str (pa_cons pe_str (pa_cons pe_str pa_nil)))) pa_nil))) po_none (po_some (pe_D D_h_pick (hr.mono (by decide)) (by rfl) pass0 (pa_cons (pv 0) (pa_cons (pe_lstS (pa_cons pe_int (pa_cons pe_int (pa_cons pe_int (pa_cons pe_int (pa_cons pe_int (pa_cons pe_int pa_nil))))))) pa_nil))))) pa_nil)))
        (pss_cons (ps_set (i := 2) sc_h_method.nd rfl (Or.inl rfl) (pe_D D_h_word_row (hr.mono (by decide)) (by rfl) pass0 (pa_cons (pv 0) (pa_cons pe_int pa_nil))))
        (pss_cons (ps_if (pt_cmpR op_eq (pe_D D_h_next (hr.mono (by decide)) (by rfl) pass0 (pa_cons (pv 0) (pa_cons pe_int pa_nil))) pe_int (nomark _)) (pss_one (ps_ret (pe_tupS (pa_cons (pv 1) (pa_cons (pv 2) (pa_cons pe_non (pa_cons (pe_tupS pa_nil) pa_nil))))))) pss_nil)
        (pss_cons (ps_set (i := 3) sc_h_method.nd rfl (Or.inl rfl) (pe_callTy cr_tupleS (by rfl) T.tuple (by decide +kernel) (pa_cons (pe_slice sl_list (pe_D D_h_mixed (hr.mono (by decide)) (by rfl) pass0 (pa_cons (pv 0) (pa_cons (pe_lstS (pa_cons pe_str (pa_cons pe_str (pa_cons pe_str pa_nil)))) pa_nil))) po_none (po_some (pe_D D_h_pick (hr.mono (by decide)) (by rfl) pass0 (pa_cons (pv 0) (pa_cons (pe_lstS (pa_cons pe_int (pa_cons pe_int (pa_cons pe_int pa_nil)))) pa_nil))))) pa_nil)))
        (pss_one (ps_ret (pe_tupS (pa_cons (pv 1) (pa_cons (pv 2) (pa_cons (pv 3) (pa_cons (pe_D D_h_word_row (hr.mono (by decide)) (by rfl) pass0 (pa_cons (pv 0) (pa_cons pe_int pa_nil))) pa_nil)))))))))), ?_⟩
    have words : ∀ z ∈ opq, Word z := fun z hz => (opq_ok.1 z hz).2
    refine ⟨_, rfl, (show 3 ≤ 100000 by decide), fun G1 l1 s1 n1 e1 => ⟨p, l1, opq, b, Nb.del G1 p, rfl, del_keep e1 (src_away hS n1), by decide, words, hS.same s1, by omega, del_at, del_same, fun G2 l2 ysA s2 f2 n2 e2 pmA S2 => ?_⟩⟩
    have S2 : Src G2 p (b + 3) := S2
    refine ⟨_, rfl, (show 6 ≤ 100000 by decide), fun G3 l3 s3 n3 e3 => ⟨p, l3, [.int 0, .int 0, .int 0, .int 1, .int 1, .int 2], _, Nb.del G3 p, rfl, del_keep e3 (src_away S2 n3), by decide, by decide, S2.same s3, by omega, del_at, del_same, fun G4 x hx s4 S4 => ?_⟩⟩
    obtain ⟨kA, rfl, hkA⟩ : ∃ k : Nat, x = .int (k : Int) ∧ k ≤ 2 := by
      simp only [List.mem_cons, List.not_mem_nil, or_false] at hx
      rcases hx with rfl | rfl | rfl | rfl | rfl | rfl <;> first | exact ⟨0, rfl, by decide⟩ | exact ⟨1, rfl, by decide⟩ | exact ⟨2, rfl, by decide⟩
    have e4 := s4 _ _ (del_keep (s3 _ _ e2) n2)
    refine ⟨_, rfl, l2, _, rfl, SqL.of e4, fun W hW => ?_⟩
    rw [cut_take, ← List.map_take]
    refine ⟨W, _, rfl, .inl upd_same, fun G5 tA s5 eA => ?_⟩
    have SA := (S4.same (same_new hW)).same s5
    have fA : Same (Nb.del H p) G5 := (((same_upd (((del_mono s1).trans s2).trans s3) del_at).trans s4).trans (same_new hW)).trans s5

    refine ⟨_, rfl, p, 2, _, rfl, by decide, SA, by omega, fun H6 t6 bs s6 S6 e6 ok6 => ?_⟩
    have f6 : Same (Nb.del H p) H6 := (same_upd fA del_at).trans s6
    have nA : tA ≠ p := fun z => by
      obtain ⟨_, _, _, ep, _⟩ := SA
      rw [← z, eA] at ep
      cases ep
    have eA6 := s6 _ _ (del_keep eA nA)
    refine ⟨_, rfl, p, 5, _, Nb.del H6 p, rfl, by decide, by decide, S6, by omega, del_at, del_same, fun H7 k7 k70 k75 s7 S7 => ⟨rfl, _, rfl, ?_⟩⟩
    have f7 : Same (Nb.del H p) H7 := (same_upd f6 del_at).trans s7
    have n6 : t6 ≠ p := fun z => by
      obtain ⟨_, _, _, ep, _⟩ := S6
      rw [← z, e6] at ep
      cases ep
    have eA7 := s7 _ _ (del_keep eA6 nA)
    have e67 := s7 _ _ (del_keep e6 n6)
    by_cases c : k7 = 0
    · refine iteT0 (decide_eq_true (by rw [c])) ⟨_, rfl, _, rfl, (show 0 ≤ 100000 by decide), fun H8 t8 s8 n8 e8 => ⟨(show 4 ≤ 100000 by decide), fun H9 v9 s9 n9 e9 => ?_⟩⟩
      have s79 := s8.trans s9
      exact q H9 (.ref v9) ⟨ysA.take kA, bs, none, []⟩ (f7.trans s79) ((S7.same s79).mono (by omega)) ⟨v9, tA, t6, t8, .non, rfl, e9, s79 _ _ eA7, s79 _ _ e67, rfl, s9 _ _ e8⟩ ⟨take_ok pmA hkA, ok6, (fun p h => nomatch h), ⟨(fun z hz => nomatch hz), (show 0 ≤ 4 by decide)⟩, fun _ => rfl⟩
    refine iteF0 (decide_eq_false fun z => c (V.int.inj z)) ?_
    refine ⟨_, rfl, (show 3 ≤ 100000 by decide), fun J1 l1 s1 n1 e1 => ⟨p, l1, opq, (b + 3 + 1 + 5 + 1), Nb.del J1 p, rfl, del_keep e1 (src_away S7 n1), by decide, words, S7.same s1, by omega, del_at, del_same, fun J2 l2 ysB s2 f2 n2 e2 pmB S2 => ?_⟩⟩
    have S2 : Src J2 p ((b + 3 + 1 + 5 + 1) + 3) := S2
    refine ⟨_, rfl, (show 3 ≤ 100000 by decide), fun J3 l3 s3 n3 e3 => ⟨p, l3, [.int 0, .int 0, .int 1], _, Nb.del J3 p, rfl, del_keep e3 (src_away S2 n3), by decide, by decide, S2.same s3, by omega, del_at, del_same, fun J4 x hx s4 S4 => ?_⟩⟩
    obtain ⟨kB, rfl, hkB⟩ : ∃ k : Nat, x = .int (k : Int) ∧ k ≤ 2 := by
      simp only [List.mem_cons, List.not_mem_nil, or_false] at hx
      rcases hx with rfl | rfl | rfl <;> first | exact ⟨0, rfl, by decide⟩ | exact ⟨1, rfl, by decide⟩ | exact ⟨2, rfl, by decide⟩
    have e4 := s4 _ _ (del_keep (s3 _ _ e2) n2)
    refine ⟨_, rfl, l2, _, rfl, SqL.of e4, fun W hW => ?_⟩
    rw [cut_take, ← List.map_take]
    refine ⟨W, _, rfl, .inl upd_same, fun J5 tB s5 eB => ?_⟩
    have SB := (S4.same (same_new hW)).same s5
    have fB : Same (Nb.del H7 p) J5 := (((same_upd (((del_mono s1).trans s2).trans s3) del_at).trans s4).trans (same_new hW)).trans s5

    have nB : tB ≠ p := fun z => by
      obtain ⟨_, _, _, ep, _⟩ := SB
      rw [← z, eB] at ep
      cases ep
    refine ⟨_, rfl, _, rfl, _, rfl, _, rfl, p, 1, _, rfl, by decide, SB, by omega, fun K6 t8 as s8 S8 e8 ok8 => ⟨(show 4 ≤ 100000 by decide), fun K7 v9 s9 n9 e9 => ?_⟩⟩
    have f8 : Same (Nb.del H7 p) K6 := (same_upd fB del_at).trans s8
    have fK : Same (Nb.del H p) K7 := ((same_upd f7 del_at).trans f8).trans s9
    exact q K7 (.ref v9) ⟨ysA.take kA, bs, some (ysB.take kB), as⟩ fK ((S8.same s9).mono (by omega)) ⟨v9, tA, t6, t8, .ref tB, rfl, e9, s9 _ _ (f8 _ _ (del_keep eA7 nA)), s9 _ _ (f8 _ _ (del_keep e67 n6)), ⟨tB, rfl, s9 _ _ (s8 _ _ (del_keep eB nB))⟩, s9 _ _ e8⟩ ⟨take_ok pmA hkA, ok6, (fun p h => by cases h; exact take_ok pmB hkB), ok8, fun h => nomatch h⟩
end
end K09

set_option Elab.async false
set_option linter.all false
set_option maxRecDepth 100000
set_option maxHeartbeats 4000000
namespace K09
open PySem Nb
open L2 hiding del del_ne del_same
open Nb.Wd
theorem same_dd {H H' : Hp} {p D : Addr} (nDp : D ≠ p) (s : Same (Nb.del H p) H') : Same (Nb.del (Nb.del H D) p) (Nb.del (Nb.del H' D) p) := fun a u e => by
  by_cases h1 : a = p
  · rw [h1, del_at] at e
    cases e
  by_cases h2 : a = D
  · rw [h2, Nb.del_ne nDp, del_at] at e
    cases e
  rw [Nb.del_ne h1, Nb.del_ne h2] at e ⊢
  exact s _ _ (by rw [Nb.del_ne h1]; exact e)
theorem md_src {H H' : Hp} {p : Addr} {b : Nat} (S : Src H p b) (s : Same (Nb.del H p) H') {d : Addr} {ms : Mss} (h : MdAt H d ms) : MdAt H' d ms := by
  obtain ⟨kvs, e, k⟩ := h
  have nd : d ≠ p := fun z => by
    obtain ⟨_, _, _, ep, _⟩ := S
    rw [← z, e] at ep
    cases ep
  exact ⟨kvs, s _ _ (del_keep e nd), mk_keep (kt_src S s) k⟩
theorem md_off {H : Hp} {M : Addr} {u w : HO} (e : H M = some w) (n : ¬ TupO w) {d : Addr} (nd : d ≠ M) {ms : Mss} (h : MdAt H d ms) : MdAt (upd H M u) d ms :=
  let ⟨kvs, ed, k⟩ := h; ⟨kvs, (upd_ne nd).trans ed, mk_keep (kt_upd e n) k⟩
/-- the methods of all classes -/
def MmF (H : Hp) (M X : Addr) (kvs : List (Key × V)) (μ : Str → Mss) (es : Ens) : Prop := F2 (fun (kv : Key × V) (q : Str × En) => kv.1 = Sum.inr q.1 ∧ ∃ d, kv.2 = .ref d ∧ d ≠ M ∧ d ≠ X ∧ MdAt H d (μ q.1)) kvs es
theorem mmF_val {H : Hp} {M X : Addr} {μ : Str → Mss} {x : Str} : ∀ {kvs : List (Key × V)} {es : Ens}, MmF H M X kvs μ es → (x ∈ nms es → ∃ d, valV kvs (Sum.inr x) = some (.ref d) ∧ d ≠ M ∧ d ≠ X ∧ MdAt H d (μ x)) ∧ (x ∉ nms es → valV kvs (Sum.inr x) = none)
  | _, _, .nil => ⟨(fun h => nomatch h), fun _ => rfl⟩
  | (k, v) :: kvs, (n, e) :: es, .cons ⟨a, d, ev, nd, nX, md⟩ t => by
    have a : k = Sum.inr n := a
    have ev : v = .ref d := ev
    subst a ev
    obtain ⟨i1, i2⟩ := mmF_val (x := x) t
    by_cases c : x = n
    · subst c
      exact ⟨fun _ => ⟨d, by simp [valV], nd, nX, md⟩, fun h => absurd (List.mem_cons_self ..) h⟩
    · have e1 : valV ((Sum.inr n, V.ref d) :: kvs) (Sum.inr x) = valV kvs (Sum.inr x) := by simp [valV, Ne.symm c]
      rw [e1]
      exact ⟨fun h => i1 ((List.mem_cons.mp h).resolve_left c), fun h => i2 fun m => h (List.mem_cons_of_mem _ m)⟩
theorem mmF_at {H : Hp} {M X : Addr} {μ : Str → Mss} {kvs : List (Key × V)} {es : Ens} (e : H M = some (.dK kvs)) (f : MmF H M X kvs μ es) (off : ∀ x, x ∉ nms es → μ x = []) : MmAt H M μ := ⟨kvs, e, fun x => by
  by_cases m : x ∈ nms es
  · obtain ⟨d, a, _, _, b⟩ := (mmF_val f).1 m
    exact .inr ⟨d, a, b⟩
  · exact .inl ⟨(mmF_val f).2 m, off x m⟩⟩
def mnL : List Str := ["m", "n"]
theorem mn_ok : ∀ z ∈ mnL, (isNm z = true ∧ Word z) ∧ z ≠ "name" ∧ z ≠ "self" := by
  intro z hz
  unfold mnL at hz
  simp only [List.mem_cons, List.not_mem_nil, or_false] at hz
  rcases hz with rfl | rfl <;> exact ⟨⟨by decide +kernel, by decide +kernel, by decide +kernel⟩, by decide +kernel, by decide +kernel⟩
/-- the pairs of one class, as they are drawn -/
def PrI (i : Nat) (ys : List V) (H : Hp) : Prop := ∃ (ps : List Addr) (kvs : List (Key × V)) (ms : Mss), ys = ps.map V.ref ∧ Paired (fun t kv => H t = some (.tup [kV kv.1, kv.2])) ps kvs ∧ MkAt H kvs ms ∧ (ms.map (·.1)).Sublist (mnL.take i) ∧ ∀ q ∈ ms, MeOk q.2
theorem pri_same {i : Nat} {ys : List V} {H H' : Hp} (s : Same H H') : PrI i ys H → PrI i ys H' := fun ⟨ps, kvs, ms, a, b, c, d, e⟩ => ⟨ps, kvs, ms, a, paired_imp (fun t kv h => s _ _ h) b, mk_keep (kt_same s) c, d, e⟩
theorem pri_ok {ys : List V} {H : Hp} (h : PrI 2 ys H) : ∃ (ps : List Addr) (kvs : List (Key × V)) (ms : Mss), ys = ps.map V.ref ∧ Paired (fun t kv => H t = some (.tup [kV kv.1, kv.2])) ps kvs ∧ MkAt H kvs ms ∧ MsOk ms := by
  obtain ⟨ps, kvs, ms, a, b, c, d, e⟩ := h
  have d : (ms.map (·.1)).Sublist mnL := d
  have l := d.length_le
  rw [List.length_map] at l
  exact ⟨ps, kvs, ms, a, b, c, ⟨(show mnL.Nodup by decide +kernel).sublist d, Nat.le_trans l (by decide), fun q hq => mn_ok q.1 (d.subset (List.mem_map.mpr ⟨q, hq, rfl⟩)), e⟩⟩
theorem f2_imp_mem {α β : Type} {R S : α → β → Prop} : ∀ {xs : List α} {ys : List β}, F2 R xs ys → (∀ a b, b ∈ ys → R a b → S a b) → F2 S xs ys
  | _, _, .nil, _ => .nil
  | _, _, .cons h t, k => .cons (k _ _ (List.mem_cons_self ..) h) (f2_imp_mem t fun a b m => k a b (List.mem_cons_of_mem _ m))
def spMethsL : Sp := fun vs H Q _ => ∃ (p l X : Addr) (ts : List Addr) (es : Ens) (b : Nat), vs = [.ref p, .ref l] ∧ (∃ o, H X = some o) ∧ X ≠ p ∧ H l = some (.lst (ts.map V.ref)) ∧ l ≠ p ∧ RwAt H ts es ∧ (nms es).Nodup ∧ es.length ≤ 24 ∧ Src H p b ∧ b ≤ 700000 ∧
  ∀ H' M kvs μ, Same (Nb.del H p) H' → M ≠ p → M ≠ X → H' M = some (.dK kvs) → MmF H' M X kvs μ es → (∀ x, x ∉ nms es → μ x = []) → (∀ x, MsOk (μ x)) → Src H' p (b + 50 * es.length) → Q (.ref M) H'
theorem msok_nil : MsOk [] := ⟨List.nodup_nil, by decide, (fun q h => nomatch h), fun q h => nomatch h⟩
section
variable {P : Program} {w : World} {K : PySem.W.Frag} {mg : Str → Option Value} {base : Heap}
abbrev s_h_methods : Stmt := topS 73
theorem sc_h_methods : FnScope ["_law_source_here", "_law_rows_here", "_law_found", "_law_name", "_law_bases", "_law_word"] ["_law_source_here", "_law_rows_here"] (defScope s_h_methods) := ⟨rfl, rfl, rfl, by decide +kernel, rfl, by decide +kernel, by decide +kernel⟩
def sx_h_methods_0 : Scope := { kind := .function, names := [(".0", .local), ("_law_word", .local), ("_law_next", .globalImplicit), ("_law_method", .globalImplicit), ("_law_source_here", .cell)], isGenerator := false, isCoroutine := false, more := [] }
theorem ok_h_methods {f : Addr} {fd : FuncData} (F : Fun K "_law_methods" "_law_methods" s_h_methods f fd) (T : Txt mg) (D_h_next : Dn P w K mg base CX0 1 "_law_next" ["_law_source_here", "_law_many"] (spNext)) (D_h_method : Dn P w K mg base CX0 4 "_law_method" ["_law_source_here"] (spMethodL)) : FnOk P w K mg base CX0 5 f fd ["_law_source_here", "_law_rows_here"] (spMethsL) := by
  refine F.ok sc_h_methods (fun vs H Q E h => ?_) (fun cdv A outer s H vs Q E hr h => ?_)
  · obtain ⟨p, l, X, ts, es, b, rfl, _⟩ := h
    rfl
  · obtain ⟨p, l, X, ts, es, b, rfl, ⟨oX, eX⟩, nXp, hl, nlp, hR, nd, h24, hS, hB, q⟩ := h
    refine ⟨_, pss_cons (ps_set (i := 2) sc_h_methods.nd rfl (Or.inl rfl) pe_dnewS)
        (pss_cons (ps_for PassesOwn.never rfl (pi_list (pv 1)) (pg_tup rfl (pgs_cons (pg_name (i := 3) sc_h_methods.nd rfl (Or.inl rfl)) (pgs_cons (pg_name (i := 4) sc_h_methods.nd rfl (Or.inl rfl)) pgs_nil))) (pss_one (ps_dput (hu_of hr) (pv 2) (pv 3) (pe_callTy (call_dictP rfl) (by rfl) T.dict (by decide +kernel) (pa_cons (pe_lc (own := [("_law_word", 5)]) (g := gName 5) rfl sc_h_methods.nd (pi_list (pe_lstS (pa_cons pe_str (pa_cons pe_str pa_nil)))) (blkOk_by (N := ["_law_source_here", "_law_rows_here", "_law_found", "_law_name", "_law_bases", "_law_word"]) (sc := (defScope s_h_methods)) (by decide +kernel)) (fun _ _ _ _ _ => (pg_name (i := 5) sc_h_methods.nd rfl (Or.inl rfl))) (fun _ _ _ _ _ => (pts_one (pt_cmpR op_gt (pe_D D_h_next (hr.mono (by decide)) (by rfl) pass0 (pa_cons (pv 0) (pa_cons pe_int pa_nil))) pe_int (nomark _)))) (fun _ _ _ _ _ => (pe_tupS (pa_cons (pv 5) (pa_cons (pe_D D_h_method (hr.mono (by decide)) (by rfl) pass0 (pa_cons (pv 0) pa_nil)) pa_nil))))) pa_nil)) rfl)))
        (pss_one (ps_ret (pv 2)))), ?_⟩
    refine fun H1 M s1 nM eM => ?_
    have nMX : M ≠ X := fun z => by rw [z, eX] at nM; cases nM
    have nMp : M ≠ p := src_away hS nM
    have S1 := hS.same s1
    have lt := f2_len hR
    refine ⟨_, rfl, l, rfl, ⟨_, SqL.of (s1 _ _ hl)⟩, for_it (walk_list (xs := ts.map V.ref)) (fun i σ H' => ∃ v3 v4 v5 kvs μ, σ = [some (.ref p), some (.ref l), some (.ref M), v3, v4, v5] ∧ Same (Nb.del H p) H' ∧ H' M = some (.dK kvs) ∧ MmF H' M X kvs μ (es.take i) ∧ (∀ x, x ∉ nms (es.take i) → μ x = []) ∧ (∀ x, MsOk (μ x)) ∧ Src H' p (b + 50 * i))
      ⟨_, _, _, [], fun _ => [], rfl, del_same.trans s1, eM, .nil, fun _ _ => rfl, fun _ => msok_nil, S1⟩ (fun i σ H' _ ⟨_, _, _, _, _, _, s, _⟩ => SqL.of (s _ _ (del_keep hl nlp))) ?_ ?_⟩
    · rintro i x σ H2 H3 hi ⟨v3, v4, v5, kvs, μ, rfl, s2, e2, f2, off2, ok2, S2⟩ ⟨rfl, ex⟩
      rw [List.getElem?_map] at ex
      obtain ⟨t, et, rfl⟩ : ∃ t, ts[i]? = some t ∧ x = .ref t := by
        cases ez : ts[i]? with
        | none => rw [ez] at ex; cases ex
        | some z => rw [ez] at ex; exact ⟨z, rfl, (Option.some.inj ex).symm⟩
      rw [List.length_map] at hi
      obtain ⟨r, er, bb, e1, rb⟩ := f2_getl hR et
      have ntp : t ≠ p := fun z => by
        obtain ⟨_, _, _, ep, _⟩ := hS
        rw [← z, e1] at ep
        cases ep
      refine ⟨t, _, rfl, .inl (.inl (s2 _ _ (del_keep e1 ntp))), rfl, _, _, rfl, _, _, rfl, rfl, ?_⟩
      have hi24 : i < 24 := by omega
      refine ⟨(show 2 ≤ 100000 by decide), fun H4 L0 s4 n4 e4 => ⟨L0, rfl, ⟨_, SqL.of e4⟩, fun D hD => ?_⟩⟩
      have S4 := S2.same s4
      refine lcSrcG (walk_list (K := K) (a := L0) (xs := mnL.map V.str)) p _ 21 PrI (fun _ _ _ _ s h => pri_same s h) (by decide) hD S4 (fun H s => SqL.of (s _ _ (del_keep e4 (src_away S2 n4)))) (fun H => ⟨[], [], [], rfl, .nil, .nil, List.nil_sublist _, fun q h => nomatch h⟩) ?_ ?_
      · rintro j x H5 H6 ys Nx Nf hj s5 eD nDp S5 pr ⟨rfl, ex⟩ k1 k2
        have hj : j < 2 := hj
        rw [List.getElem?_map] at ex
        obtain ⟨z, ez, rfl⟩ : ∃ z, mnL[j]? = some z ∧ x = .str z := by
          cases ez : mnL[j]? with
          | none => rw [ez] at ex; cases ex
          | some z => rw [ez] at ex; exact ⟨z, rfl, (Option.some.inj ex).symm⟩
        have tk : mnL.take (j + 1) = mnL.take j ++ [z] := by rw [List.take_add_one, ez]; rfl
        refine ⟨rfl, _, rfl, p, 3, _, Nb.del H6 p, rfl, by decide, by decide, S5, by omega, del_at, del_same, fun H7 k k0 k3 s7 S7 => ⟨_, _, rfl, rfl, _, rfl, ?_⟩⟩
        by_cases c : (0 : Int) < k
        · refine iteT0 (decide_eq_true c) ⟨_, rfl, _, rfl, p, _, rfl, S7, by omega, fun H8 v m s8 S8 mv mo => ⟨(show 2 ≤ 100000 by decide), fun H9 t9 s9 n9 e9 => k1 _ _ (((same_upd s7 del_at).trans s8).trans s9) ((S8.same s9).mono (by omega)) ?_⟩⟩
          have s69 : Same (Nb.del H6 p) H9 := ((same_upd s7 del_at).trans s8).trans s9
          have eD9 : H9 D = some (.lst ys) := s69 _ _ (del_keep eD nDp)
          have eD8 : H8 D = some (.lst ys) := ((same_upd s7 del_at).trans s8) _ _ (del_keep eD nDp)
          obtain ⟨ps, kv, ms, a1, a2, a3, a4, a5⟩ := pri_same (same_dd nDp s69) pr
          have n1 : t9 ≠ D := fun y => by rw [y, eD8] at n9; cases n9
          have n2 : t9 ≠ p := src_away S8 n9
          have S9 := S8.same s9
          obtain ⟨_, _, _, ep9, _⟩ := S9
          have kG : KeepT H9 (Nb.del (Nb.del H9 D) p) := (kt_del eD9 id (Same.refl _)).trans (kt_del (by rw [Nb.del_ne (Ne.symm nDp)]; exact ep9) id (Same.refl _))
          refine ⟨ps ++ [t9], kv ++ [(Sum.inr z, v)], ms ++ [(z, m)], by rw [a1, List.map_append]; rfl, Paired.snoc a2 ?_, f2_snoc a3 ⟨rfl, me_keep kG (me_keep (kt_same s9) mv)⟩, ?_, fun q hq => ?_⟩
          · rw [Nb.del_ne n2, Nb.del_ne n1]
            exact e9
          · rw [List.map_append, tk]
            exact List.Sublist.append a4 (List.Sublist.refl _)
          · rcases List.mem_append.mp hq with h | h
            · exact a5 q h
            · rw [List.mem_singleton.mp h]
              exact mo
        · refine iteF0 (decide_eq_false c) (k2 _ s7 (S7.mono (by omega)) ?_)
          obtain ⟨ps, kv, ms, a1, a2, a3, a4, a5⟩ := pri_same (same_dd nDp s7) pr
          exact ⟨ps, kv, ms, a1, a2, a3, by rw [tk]; exact a4.trans (List.sublist_append_left _ _), a5⟩
      intro H5 ys s5 eD S5 pr
      obtain ⟨ps, kv, ms, a1, a2, a3, a4⟩ := pri_ok pr
      subst a1
      refine ⟨D, ps, kv, rfl, SqL.of eD, paired_imp (fun t kv h => SqT.of h) a2, fun d nd5 => ?_⟩
      have nk : (kv.map (·.1)).Nodup := by
        rw [mk_keys a3]
        exact List.pairwise_map.mpr (a4.nd.imp fun h z => h (Sum.inr.inj z))
      rw [merge_nil nk]
      obtain ⟨H6, e6⟩ : ∃ H6, H6 = upd H5 d (.dK kv) := ⟨_, rfl⟩
      rw [← e6]
      have s56 : Same H5 H6 := e6 ▸ same_new nd5
      have ed6 : H6 d = some (.dK kv) := e6 ▸ upd_same
      have g6 : Same (Nb.del H3 p) H6 := (((del_mono s4).trans s5)).trans s56
      have eM6 : H6 M = some (.dK kvs) := g6 _ _ (del_keep e2 nMp)
      have ndM : d ≠ M := fun z => by
        have := (((del_mono s4).trans s5)) _ _ (del_keep e2 nMp)
        rw [← z, nd5] at this
        cases this
      have ndX : d ≠ X := fun z => by
        have := (((del_mono s4).trans s5)) _ _ (del_keep (s2 _ _ (del_keep eX nXp)) nXp)
        rw [← z, nd5] at this
        cases this
      have newn : r.1 ∉ nms (es.take i) := fun m => by
        obtain ⟨k, hk, ek⟩ := List.getElem_of_mem m
        have lt2 : k < i := by
          rw [nms_len, List.length_take] at hk
          omega
        have lr := (List.getElem?_eq_some_iff.mp er).1
        have q1 : (nms es)[k]? = some r.1 := by
          have h1 : (nms (es.take i))[k]? = some r.1 := by rw [List.getElem?_eq_getElem hk, ek]
          unfold nms at h1 ⊢
          rw [List.map_take, List.getElem?_take_of_lt lt2] at h1
          exact h1
        have q2 : (nms es)[i]? = some r.1 := by
          unfold nms
          rw [List.getElem?_map, er]
          rfl
        obtain ⟨l1, h1⟩ := List.getElem?_eq_some_iff.mp q1
        obtain ⟨l2, h2⟩ := List.getElem?_eq_some_iff.mp q2
        have := (List.getElem_inj nd).mp (h1.trans h2.symm)
        omega
      have lf := f2_len f2
      rw [List.length_take] at lf
      refine ⟨_, rfl, _, rfl, M, _, rfl, DPut.k (k := (Sum.inr r.1 : Key)) eM6 (Nat.lt_of_lt_of_le (show kvs.length < 100000 by omega) (line100 (Nat.le_refl _))), ?_⟩
      rw [putK_new _ ((mmF_val f2).2 newn)]
      have S6 := S5.same s56
      have nMp2 : p ≠ M := Ne.symm nMp
      refine ⟨_, _, _, kvs ++ [((Sum.inr r.1 : Key), V.ref d)], fun x => if x = r.1 then ms else μ x, rfl, ?_, upd_same, ?_, ?_, ?_, ?_⟩
      · exact same_at ((same_upd s2 del_at).trans g6) ((Nb.del_ne nMp).trans nM)
      · rw [List.take_add_one, er]
        refine f2_snoc ?_ ⟨rfl, d, rfl, ndM, ndX, ?_⟩
        · refine f2_imp_mem f2 fun kv q hq ⟨h1, d2, h2, h3, h3X, h4⟩ => ⟨h1, d2, h2, h3, h3X, ?_⟩
          have nq : q.1 ≠ r.1 := fun z => newn (z ▸ List.mem_map.mpr ⟨q, hq, rfl⟩)
          show MdAt _ d2 (if q.1 = r.1 then ms else μ q.1)
          rw [if_neg nq]
          exact md_off eM6 id h3 (md_src S2 g6 h4)
        · show MdAt _ d (if r.1 = r.1 then ms else μ r.1)
          rw [if_pos rfl]
          exact md_off eM6 id ndM ⟨kv, ed6, mk_keep (kt_same s56) a3⟩
      · intro x hx
        rw [List.take_add_one, er] at hx
        show (if x = r.1 then ms else μ x) = []
        rw [if_neg fun z => hx (by unfold nms; rw [List.map_append, z]; exact List.mem_append_right _ (List.mem_singleton.mpr rfl))]
        exact off2 x fun m => hx (by unfold nms at m ⊢; rw [List.map_append]; exact List.mem_append_left _ m)
      · intro x
        show MsOk (if x = r.1 then ms else μ x)
        split
        · exact a4
        · exact ok2 x
      · obtain ⟨c0, n0, r0, ep, h0⟩ := S6
        exact ⟨c0, n0, r0, (upd_ne nMp2).trans ep, h0.1, by have := h0.2; have : (mnL.map V.str).length = 2 := rfl; omega⟩
    rintro σ H2 ⟨v3, v4, v5, kvs, μ, rfl, s2, e2, f2, off2, ok2, S2⟩
    rw [List.length_map, lt] at S2
    rw [List.length_map, lt, List.take_length] at f2 off2
    exact ⟨_, rfl, q H2 M kvs μ s2 nMp nMX e2 f2 off2 ok2 S2⟩
end
end K09

set_option Elab.async false
set_option linter.all false
set_option maxRecDepth 100000
set_option maxHeartbeats 4000000
namespace K09
open PySem Nb
open L2 hiding del del_ne del_same
open Nb.Wd
/-- entries looked up -/
theorem lk_val {R : V → En → Prop} {x : Str} : ∀ {kvs : List (Key × V)} {es : Ens}, F2 (fun (kv : Key × V) (p : Str × En) => kv.1 = Sum.inr p.1 ∧ R kv.2 p.2) kvs es → match es.lookup x with
    | some e => ∃ v, valV kvs (Sum.inr x) = some v ∧ R v e
    | none => valV kvs (Sum.inr x) = none
  | _, _, .nil => rfl
  | (k, v) :: kvs, (n, e) :: es, .cons ⟨a, b⟩ t => by
    have ih := lk_val (x := x) t
    have a : k = Sum.inr n := a
    subst a
    by_cases c : x = n
    · subst c
      rw [List.lookup_cons, show (x == x) = true from beq_self_eq_true x]
      exact ⟨v, by simp [valV], b⟩
    · rw [List.lookup_cons, show (x == n) = false from beq_eq_false_iff_ne.mpr c]
      have e1 : valV ((Sum.inr n, v) :: kvs) (Sum.inr x) = valV kvs (Sum.inr x) := by simp [valV, Ne.symm c]
      rw [e1]
      exact ih
/-- entries of lines whose tuples are known -/
def LnF (H : Hp) (kvs : List (Key × V)) (es : Ens) : Prop := F2 (fun (kv : Key × V) (p : Str × En) => kv.1 = Sum.inr p.1 ∧ ∃ l, kv.2 = .ref l ∧ FtA H l (p.2.line.map V.str)) kvs es
theorem fta_keep {H H' : Hp} {l : Addr} {xs : List V} (s : KeepT H H') (h : FtA H l xs) : FtA H' l xs := let ⟨o, e, t⟩ := h; ⟨o, s _ _ trivial e, t⟩
theorem lnF_keep {H H' : Hp} {kvs : List (Key × V)} {es : Ens} (s : KeepT H H') (h : LnF H kvs es) : LnF H' kvs es := f2_imp (fun _ _ ⟨a, l, b, c⟩ => ⟨a, l, b, fta_keep s c⟩) h
theorem lnF_e {H : Hp} {kvs : List (Key × V)} {es : Ens} (h : LnF H kvs es) : LnE H kvs es := f2_imp (fun _ _ ⟨a, l, b, c⟩ => ⟨a, l, b, c.rd⟩) h
def LdF (H : Hp) (d : Addr) (es : Ens) : Prop := ∃ kvs, H d = some (.dK kvs) ∧ LnF H kvs es
theorem ldf_same {H H' : Hp} {d : Addr} {es : Ens} (s : Same H H') (h : LdF H d es) : LdF H' d es := let ⟨kvs, e, f⟩ := h; ⟨kvs, s _ _ e, lnF_keep (kt_same s) f⟩
/-- the same, the dict perhaps locked -/
def LdR (H : Hp) (d : Addr) (es : Ens) : Prop := ∃ kvs, Rd H d (.dK kvs) ∧ LnF H kvs es
theorem LdF.r {H : Hp} {d : Addr} {es : Ens} (h : LdF H d es) : LdR H d es := let ⟨kvs, e, f⟩ := h; ⟨kvs, .inl e, f⟩
theorem ldr_same {H H' : Hp} {d : Addr} {es : Ens} (s : Same H H') (h : LdR H d es) : LdR H' d es := let ⟨kvs, e, f⟩ := h; ⟨kvs, rd_same s e, lnF_keep (kt_same s) f⟩
theorem ldr_get {H : Hp} {d : Addr} {es : Ens} (h : LdR H d es) {z : Str} (m : z ∈ nms es) : ∃ l, DGet H d (.str z) (some (.ref l)) ∧ FtA H l ((ln es z).map V.str) := by
  obtain ⟨kvs, e, f⟩ := h
  obtain ⟨en, a, _⟩ := look_some m
  have := lk_val (R := fun v e => ∃ l, v = .ref l ∧ FtA H l (e.line.map V.str)) (x := z) f
  rw [a] at this
  obtain ⟨v, b, l, rfl, c⟩ := this
  have el : ln es z = en.line := by
    unfold ln
    rw [a]
  exact ⟨l, b ▸ .inl ⟨kvs, Sum.inr z, e, rfl, rfl⟩, el ▸ c⟩
theorem ldr_some {H : Hp} {d : Addr} {es : Ens} (h : LdR H d es) (z : Str) : ∃ o, DGet H d (.str z) o ∧ o.isSome = decide (z ∈ nms es) := by
  obtain ⟨kvs, e, f⟩ := h
  refine ⟨_, .inl ⟨kvs, Sum.inr z, e, rfl, rfl⟩, ?_⟩
  have := lk_val (R := fun v e => ∃ l, v = .ref l ∧ FtA H l (e.line.map V.str)) (x := z) f
  by_cases m : z ∈ nms es
  · obtain ⟨en, a, _⟩ := look_some m
    rw [a] at this
    obtain ⟨v, b, _⟩ := this
    rw [b, decide_eq_true m]
    rfl
  · rw [look_none m] at this
    rw [this, decide_eq_false m]
    rfl
def spLinesL : Sp := fun vs H Q _ => ∃ (l : Addr) (ts : List Addr) (es : Ens), vs = [.ref l] ∧ H l = some (.lst (ts.map V.ref)) ∧ RwAt H ts es ∧ Bt es ∧ es.length ≤ 24 ∧ ∀ H' d, Same H H' → H d = none → LdF H' d es → Q (.ref d) H'
/-- a row stands in order in another one -/
def inRow (part whole : List Str) : Bool := decide (∀ x ∈ part, x ∈ whole) && decide ((part.map whole.idxOf).Pairwise (· < ·))
/-- a dict of the places of names -/
def PlK (kvs : List (Key × V)) (zs : List Str) : Prop := ∀ z, valV kvs (Sum.inr z) = if z ∈ zs then some (.int (zs.idxOf z : Nat)) else none
def spKept : Sp := fun vs H Q _ => ∃ (l d : Addr) (line zs : List Str) (kvs : List (Key × V)), vs = [.ref l, .ref d] ∧ Rd H l (.tup (line.map V.str)) ∧ H d = some (.dK kvs) ∧ PlK kvs zs ∧ line.Nodup ∧ line.length ≤ 1000 ∧ ∀ H', Same H H' → Q (.bl (inRow line zs)) H'
def futL (es : Ens) (zs : List Str) : Bool := zs.all fun z => decide (z ∈ nms es) && inRow (ln es z) zs
def futV (es : Ens) (H : Hp) (v : V) : Bool := match tupOf H v with
  | some xs => diffV xs && futL es (strsOf xs)
  | none => false
def spFut (K : PySem.W.Frag) (C : Addr) : Sp := fun vs H Q _ => ∃ (a : Addr) (v : V) (es : Ens), vs = [.ref a, v] ∧ WAt C H a es ∧ Bt es ∧ es.length ≤ 24 ∧ Thing1 K H v ∧ ∀ H', Same H H' → Q (.bl (futV es H v)) H'
theorem perm_sorted : ∀ {xs ys : List Int}, ys.Perm xs → ys.Pairwise (· ≤ ·) → xs.Pairwise (· ≤ ·) → xs = ys := fun {xs ys} p h1 h2 => p.symm.eq_of_pairwise (fun a b _ _ l1 l2 => Int.le_antisymm l1 l2) h2 h1
theorem inj_idx {zs : List Str} {x y : Str} (hx : x ∈ zs) (h : zs.idxOf x = zs.idxOf y) (hy : y ∈ zs) : x = y := by
  have a := Mg.at_idx hx
  have b := Mg.at_idx hy
  rw [h, b] at a
  exact (Option.some.inj a).symm
section
variable {P : Program} {w : World} {K : PySem.W.Frag} {mg : Str → Option Value} {base : Heap}
abbrev s_h_lines : Stmt := topS 69
theorem sc_h_lines : FnScope ["_law_rows_here", "_law_found", "_law_name", "_law_bases"] ["_law_rows_here"] (defScope s_h_lines) := ⟨rfl, rfl, rfl, by decide +kernel, rfl, by decide +kernel, by decide +kernel⟩
theorem ok_h_lines {f : Addr} {fd : FuncData} (F : Fun K "_law_lines" "_law_lines" s_h_lines f fd) (T : Txt mg) (D_h_line : Dn P w K mg base CX0 2 "_law_line" ["_law_lines_here", "_law_name", "_law_bases"] (spLine)) : FnOk P w K mg base CX0 3 f fd ["_law_rows_here"] (spLinesL) := by
  refine F.ok sc_h_lines (fun vs H Q E h => ?_) (fun cdv A outer s H vs Q E hr h => ?_)
  · obtain ⟨l, ts, es, rfl, _⟩ := h
    rfl
  · obtain ⟨l, ts, es, rfl, hl, hR, hB, h24, q⟩ := h
    refine ⟨_, pss_cons (ps_set (i := 1) sc_h_lines.nd rfl (Or.inl rfl) pe_dnewS)
        (pss_cons (ps_for PassesOwn.never rfl (pi_list (pv 0)) (pg_tup rfl (pgs_cons (pg_name (i := 2) sc_h_lines.nd rfl (Or.inl rfl)) (pgs_cons (pg_name (i := 3) sc_h_lines.nd rfl (Or.inl rfl)) pgs_nil))) (pss_one (ps_dput (hu_of hr) (pv 1) (pv 2) (pe_D D_h_line (hr.mono (by decide)) (by rfl) pass0 (pa_cons (pv 1) (pa_cons (pv 2) (pa_cons (pv 3) pa_nil)))) rfl)))
        (pss_one (ps_ret (pv 1)))), ?_⟩
    refine fun H1 d s1 nd ed => ?_
    refine ⟨_, rfl, l, rfl, ⟨_, SqL.of (s1 _ _ hl)⟩, for_it (walk_list (xs := ts.map V.ref)) (fun i σ H' => ∃ v2 v3 kvs, σ = [some (.ref l), some (.ref d), v2, v3] ∧ Same H H' ∧ H' d = some (.dK kvs) ∧ LnF H' kvs (es.take i)) ⟨_, _, [], rfl, s1, ed, .nil⟩ (fun i σ H' _ ⟨_, _, _, _, s, _⟩ => SqL.of (s _ _ hl)) ?_ ?_⟩
    · rintro i x σ H2 H3 hi ⟨v2, v3, kvs, rfl, s2, e2, ln2⟩ ⟨rfl, ex⟩
      rw [List.getElem?_map] at ex
      obtain ⟨t, et, rfl⟩ : ∃ t, ts[i]? = some t ∧ x = .ref t := by
        cases ez : ts[i]? with
        | none => rw [ez] at ex; cases ex
        | some z => rw [ez] at ex; exact ⟨z, rfl, (Option.some.inj ex).symm⟩
      obtain ⟨p, ep, b, e1, rb⟩ := f2_getl hR et
      obtain ⟨Bi, nw, nm, ndb, b8, sub, cov, el⟩ := bt_step hB i p ep
      have lt := (List.getElem?_eq_some_iff.mp ep).1
      have pre : Pre (es.take i) p.2.bases := ⟨Bi, by rw [List.length_take]; omega, ndb, b8, sub⟩
      refine ⟨t, _, rfl, .inl (.inl (s2 _ _ e1)), rfl, _, _, rfl, _, _, rfl, rfl, ?_⟩
      refine ⟨_, rfl, _, rfl, _, rfl, d, b, p.1, p.2.bases, es.take i, rfl, ⟨kvs, e2, lnF_e ln2⟩, rd_same s2 rb, pre, fun _ H4 r s4 er => ?_, fun nf => absurd (full_cov cov) nf⟩
      have e4 := s4 _ _ e2
      refine ⟨_, rfl, _, rfl, d, _, rfl, DPut.k (k := (Sum.inr p.1 : Key)) e4 ?_, ?_⟩
      · have := f2_len ln2
        rw [List.length_take] at this
        exact Nat.lt_of_lt_of_le (show kvs.length < 100000 by omega) (line100 (Nat.le_refl _))
      rw [putK_new _ (lnE_out (lnF_e ln2) nw)]
      have kL : KeepT H4 (upd H4 d (.dK (kvs ++ [((Sum.inr p.1 : Key), V.ref r)]))) := kt_upd e4 id
      refine ⟨_, _, kvs ++ [((Sum.inr p.1 : Key), V.ref r)], rfl, same_at (s2.trans s4) nd, upd_same, ?_⟩
      rw [List.take_add_one, ep]
      refine f2_snoc (lnF_keep ((kt_same s4).trans kL) ln2) ⟨rfl, r, rfl, fta_keep kL ?_⟩
      rw [el]
      exact er
    rintro σ H2 ⟨v2, v3, kvs, rfl, s2, e2, ln2⟩
    have lt := f2_len hR
    rw [List.length_map, lt, List.take_length] at ln2
    exact ⟨_, rfl, q H2 d s2 nd ⟨kvs, e2, ln2⟩⟩
end
end K09

set_option Elab.async false
set_option linter.all false
set_option maxRecDepth 100000
set_option maxHeartbeats 4000000
namespace K09
open PySem Nb
open L2 hiding del del_ne del_same
open Nb.Wd
theorem letter_low {c : Nat} (h : letterOk c = true) : c < 16 ^ 8 := by
  unfold letterOk at h
  have k := (Bool.and_eq_true_iff.mp h).2
  rw [Bool.not_eq_true', decide_eq_false_iff_not] at k
  refine Classical.byContradiction fun n => k ?_
  have e : lowZ = [122] := by decide +kernel
  rw [e]
  exact List.cons_lt_cons_iff.mpr (.inl (by omega))
theorem low_name {y : Str} (h : isNm y = true) : Low y := fun c m => letter_low (List.all_eq_true.mp (Bool.and_eq_true_iff.mp h).2 c m)
def lineD (es : Ens) : List (PyData × PyData) := es.map fun q => (.str q.1, rwD q.2.line)
def methD (ms : Mss) : List (PyData × PyData) := (sms ms).map fun p => (.str p.1, meD p.2)
def entD (μ : Str → Mss) (q : Str × En) : PyData := .tuple [rwD q.2.bases, .dict (methD (μ q.1))]
def stD (μ : Str → Mss) (es : Ens) : List PyData := rwD (nms es) :: .dict (lineD es) :: .int (es.length : Nat) :: es.map (entD μ)
theorem name_sw {k : Nat} {z : Str} (h : isNm z = true) : ∃ n, n ≤ 82 ∧ Sw k (.str z) n := ⟨_, by have := name8 h; omega, .str (low_name h)⟩
theorem row_sw {k c : Nat} {zs : List Str} (h : ∀ z ∈ zs, isNm z = true) (l : zs.length ≤ c) : ∃ n, n ≤ 84 * c + 3 ∧ Sw (k + 1) (rwD zs) n := by
  obtain ⟨n, l2, s⟩ := sws_many (k := k) (b := 82) (ds := zs.map PyData.str) fun d hd => by
    obtain ⟨z, hz, rfl⟩ := List.mem_map.mp hd
    exact name_sw (h z hz)
  rw [List.length_map] at l2
  exact ⟨n + 3, by omega, .tup s⟩
theorem meth_sw {k : Nat} {m : Me} (ok : MeOk m) : ∃ n, n ≤ 1500 ∧ Sw (k + 2) (meD m) n := by
  obtain ⟨n1, l1, s1⟩ := row_sw (k := k) (fun z hz => (ok.t.nm z hz).1) ok.t.l4
  obtain ⟨n2, l2, s2⟩ := row_sw (k := k) (fun z hz => (ok.b.nm z hz).1) ok.b.l4
  obtain ⟨n4, l4, s4⟩ := row_sw (k := k) (fun z hz => (ok.a.nm z hz).1) ok.a.l4
  obtain ⟨n3, l3, s3⟩ : ∃ n, n ≤ 84 * 4 + 3 ∧ Sw (k + 1) (passD m.passes) n := by
    cases hp : m.passes with
    | none => exact ⟨4, by decide, .non⟩
    | some p => exact row_sw (fun z hz => ((ok.p p hp).nm z hz).1) (ok.p p hp).l4
  exact ⟨_, by omega, .tup (.cons s1 (.cons s2 (.cons s3 (.cons s4 .nil))))⟩
theorem small_int : ∀ n : Nat, n < 100 → (PyData.int (n : Nat)).showable = true ∧ (toString ((n : Nat) : Int) : Str).length ≤ 2 := by decide +kernel
theorem meths_sw {k : Nat} {ms : Mss} (ok : MsOk ms) : ∃ n, n ≤ 6000 ∧ Sw (k + 3) (.dict (methD ms)) n := by
  have l := ok.l3
  obtain ⟨n, l2, s⟩ := swk_many (k := k + 2) (b := 82) (c := 1500) (ps := methD ms) fun p hp => by
    obtain ⟨q, hq, rfl⟩ := List.mem_map.mp hp
    exact ⟨name_sw (ok.sorted.nm q hq).1.1, meth_sw (ok.sorted.ok q hq)⟩
  have e : (methD ms).length = ms.length := by
    unfold methD
    rw [List.length_map, sms_len]
  rw [e] at l2
  exact ⟨n + 2, by omega, .dct s⟩
theorem st_sws {μ : Str → Mss} {es : Ens} (B : Bt es) (h24 : es.length ≤ 24) (ok : ∀ x, MsOk (μ x)) : ∃ n, n ≤ 10000000 ∧ Sws 5 (stD μ es) n := by
  obtain ⟨n1, l1, s1⟩ := row_sw (k := 4) (c := 24) (zs := nms es) (fun z hz => (B.names z hz).1) (by rw [nms_len]; omega)
  obtain ⟨n2, l2, s2⟩ := swk_many (k := 4) (b := 82) (c := 84 * 24 + 3) (ps := lineD es) fun p hp => by
    obtain ⟨q, hq, rfl⟩ := List.mem_map.mp hp
    obtain ⟨el, _, _, _, mem⟩ := B.at_ q hq
    have ll := B.line_len q.1
    rw [← el] at ll
    exact ⟨name_sw (B.names q.1 mem).1, row_sw (k := 3) (fun z hz => (B.names z (B.sub q.1 z (el ▸ hz))).1) (by omega)⟩
  obtain ⟨n3, l3, s3⟩ := sws_many (k := 5) (b := 8000) (ds := es.map (entD μ)) fun d hd => by
    obtain ⟨q, hq, rfl⟩ := List.mem_map.mp hd
    obtain ⟨_, _, b8, sub, _⟩ := B.at_ q hq
    obtain ⟨m1, k1, t1⟩ := row_sw (k := 3) (c := 8) (zs := q.2.bases) (fun z hz => (B.names z (sub z hz)).1) b8
    obtain ⟨m2, k2, t2⟩ := meths_sw (k := 1) (ok q.1)
    exact ⟨_, by omega, .tup (.cons t1 (.cons t2 .nil))⟩
  obtain ⟨i1, i2⟩ := small_int es.length (by omega)
  have e1 : (lineD es).length = es.length := List.length_map ..
  rw [e1] at l2
  rw [List.length_map] at l3
  exact ⟨_, by omega, .cons s1 (.cons (.dct s2) (.cons (.int i1 i2) s3))⟩
mutual
theorem dq_del {K : PySem.W.Frag} {H : Hp} {L0 : Addr} {xs : List V} (e0 : H L0 = some (.lst xs)) : ∀ {y : V} {e : PyData}, Dq K H y e → Dq K (Nb.del H L0) y e
  | _, _, .non => .non
  | _, _, .bl b => .bl b
  | _, _, .int i => .int i
  | _, _, .str z => .str z
  | _, _, .tup k r => .tup (k.imp (fun k => by
      rcases k with k | ⟨o, k⟩
      · exact .inl ((Nb.del_ne fun z => by rw [z, e0] at k; cases k).trans k)
      · exact .inr ⟨o, (Nb.del_ne fun z => by rw [z, e0] at k; cases k).trans k⟩) id) (dqs_del e0 r)
  | _, _, .dct k r => .dct ((Nb.del_ne fun z => by rw [z, e0] at k; cases k).trans k) (dqk_del e0 r)
theorem dqs_del {K : PySem.W.Frag} {H : Hp} {L0 : Addr} {xs : List V} (e0 : H L0 = some (.lst xs)) : ∀ {ys : List V} {es : List PyData}, Dqs K H ys es → Dqs K (Nb.del H L0) ys es
  | _, _, .nil => .nil
  | _, _, .cons a r => .cons (dq_del e0 a) (dqs_del e0 r)
theorem dqk_del {K : PySem.W.Frag} {H : Hp} {L0 : Addr} {xs : List V} (e0 : H L0 = some (.lst xs)) : ∀ {ps : List (Key × V)} {es : List (PyData × PyData)}, Dqk K H ps es → Dqk K (Nb.del H L0) ps es
  | _, _, .nil => .nil
  | _, _, .cons a r => .cons (dq_del e0 a) (dqk_del e0 r)
end
theorem dqs_snoc {K : PySem.W.Frag} {H : Hp} {y : V} {e : PyData} : ∀ {ys : List V} {es : List PyData}, Dqs K H ys es → Dq K H y e → Dqs K H (ys ++ [y]) (es ++ [e])
  | _, _, .nil, h => .cons h .nil
  | _, _, .cons a r, h => .cons a (dqs_snoc r h)
theorem mk_dqk {K : PySem.W.Frag} {H : Hp} : ∀ {kvs : List (Key × V)} {ms : Mss}, MkAt H kvs ms → (∀ q ∈ ms, MeOk q.2) → Dqk K H kvs (ms.map fun p => (.str p.1, meD p.2))
  | _, _, .nil, _ => .nil
  | (k, v) :: kvs, q :: ms, .cons ⟨a, b⟩ t, ok => by
    have a : k = Sum.inr q.1 := a
    subst a
    exact .cons (td_dq (me_td (n := 2) (ok q (List.mem_cons_self ..)) b) (noL_me _)) (mk_dqk t fun p hp => ok p (List.mem_cons_of_mem _ hp))
theorem md_dq {K : PySem.W.Frag} {H : Hp} {d : Addr} {ms : Mss} (h : MdAt H d (sms ms)) (ok : MsOk ms) : Dq K H (.ref d) (.dict (methD ms)) :=
  let ⟨kvs, e, k⟩ := h; .dct e (mk_dqk k fun q hq => ok.sorted.ok q hq)
theorem line_dqk {K : PySem.W.Frag} {H : Hp} : ∀ {kvs : List (Key × V)} {es : Ens}, F2 (fun (kv : Key × V) (p : Str × En) => kv.1 = Sum.inr p.1 ∧ ∃ l, kv.2 = .ref l ∧ Rd H l (.tup (p.2.line.map V.str))) kvs es → Dqk K H kvs (lineD es)
  | _, _, .nil => .nil
  | (k, v) :: kvs, q :: es, .cons ⟨a, l, b, r⟩ t => by
    have a : k = Sum.inr q.1 := a
    have b : v = .ref l := b
    subst a b
    exact .cons (dq_row (.inl r)) (line_dqk t)
theorem lineD_wk (μ : Str → Mss) (es : Ens) : lineD (wk μ es) = lineD es := by
  unfold lineD wk
  rw [List.map_map]
  rfl
def spState (C : Addr) : Sp := fun vs H Q _ => ∃ (a : Addr) (es : Ens) (μ : Str → Mss), vs = [.ref a] ∧ WAt C H a (wk μ es) ∧ Bt es ∧ es.length ≤ 24 ∧ (∀ x, MsOk (μ x)) ∧ ∀ H', Same H H' → Q (.str (PyData.list (stD μ es)).shown) H'
section
variable {P : Program} {w : World} {K : PySem.W.Frag} {mg : Str → Option Value} {base : Heap}
abbrev s_h_state : Stmt := topS 75
theorem sc_h_state : FnScope ["_law_world", "_law_found", "_law_name"] ["_law_world"] (defScope s_h_state) := ⟨rfl, rfl, rfl, by decide +kernel, rfl, by decide +kernel, by decide +kernel⟩
theorem len_h_state (vs : List V) (H : Hp) (Q : VK) (E : XK) (h : (spState C_World : Sp) vs H Q E) : vs.length = 1 := by
  obtain ⟨a, es, μ, rfl, _⟩ := h
  rfl
theorem ok_h_state {f : Addr} {fd : FuncData} (F : Fun K "_law_state" "_law_state" s_h_state f fd) {C_Member : Addr} {C_World : Addr} (T : Txt mg) (K_Member : Kl K mg "Member" C_Member ["_world", "_label"]) (K_World : Kl K mg "World" C_World ["_classes"]) (D_World_linearizations : Pr P w K mg base CX0 1 C_World "linearizations" (spLines C_World)) (D_World_names : Pr P w K mg base CX0 1 C_World "names" (spNames C_World)) (D_World___len : Mn P w K mg base CX0 1 C_World "__len__" ["self"] (spWLen C_World)) (D_World_member : Mn P w K mg base CX0 4 C_World "member" ["self", "name"] (spMember C_World C_Member)) (D_Member_bases : Pr P w K mg base CX0 2 C_Member "bases" (spMBases C_World C_Member)) (D_Member_methods : Pr P w K mg base CX0 2 C_Member "methods" (spMMeths C_World C_Member)) : RunsG P w K mg base CX0 5 f fd ["_law_world"] (spState C_World) := by
  refine okG F sc_h_state (fun vs H Q E h => ?_) (fun cdv A outer s H vs Q E gd hr h => ?_)
  · obtain ⟨a, es, μ, rfl, _⟩ := h
    rfl
  · obtain ⟨a, es, μ, rfl, hW, B, h24, hO, q⟩ := h
    have hg : (A.deeper (PyProof.Rows.envOfC "_law_state" (defScope s_h_state) s.heap.objs.size f cdv)).guards = some [] := gd
    refine ⟨_, pss_cons (ps_set (i := 1) sc_h_state.nd rfl (Or.inl rfl) (pe_lstS (pa_cons (pe_P D_World_names K_World.cl (pv 0) (hr.mono (by decide)) pass0) (pa_cons (pe_P D_World_linearizations K_World.cl (pv 0) (hr.mono (by decide)) pass0) (pa_cons (pe_callB (call_lenO D_World___len.om (hr.mono (by decide)) pass0) (by rfl) T.len PySem.boot_len (pa_cons (pv 0) pa_nil)) pa_nil)))))
        (pss_cons (ps_for PassesOwn.never rfl (pi_tup (pe_P D_World_names K_World.cl (pv 0) (hr.mono (by decide)) pass0)) (pg_name (i := 2) sc_h_state.nd rfl (Or.inl rfl)) (pss_one (ps_expr (pe_bm PySem.F.plainAttrs_list PySem.F.slot_list_append PySem.F.type_list_append mt_append (pv 1) (pa_cons (pe_tupS (pa_cons (pe_P D_Member_bases K_Member.cl (pe_M D_World_member K_World.cl (pv 0) (hr.mono (by decide)) pass0 (pa_cons (pv 2) pa_nil)) (hr.mono (by decide)) pass0) (pa_cons (pe_P D_Member_methods K_Member.cl (pe_M D_World_member K_World.cl (pv 0) (hr.mono (by decide)) pass0 (pa_cons (pv 2) pa_nil)) (hr.mono (by decide)) pass0) pa_nil))) pa_nil)))))
        (pss_one (ps_ret (pe_callB (cr_reprDL hg (un100 hr)) (by rfl) T.repr (by decide +kernel) (pa_cons (pv 1) pa_nil))))), ?_⟩
    obtain ⟨dx, d0, ea, _⟩ := id hW
    refine ⟨_, rfl, a, dx, _, rfl, ea, a, _, rfl, hW, fun H1 N s1 eN => ?_⟩
    rw [nms_wk] at eN
    have W1 := wat_same s1 hW
    obtain ⟨dx1, d1, ea1, _⟩ := id W1
    have ndw : (nms (wk μ es)).Nodup := by rw [nms_wk]; exact B.nodup
    refine ⟨_, rfl, a, dx1, _, rfl, ea1, a, _, rfl, W1, ndw, by rw [wk_len]; omega, fun H2 d kvs s2 nd ed f2 => ?_⟩
    have W2 := wat_same s2 W1
    obtain ⟨dx2, d2, ea2, _⟩ := id W2
    refine ⟨_, rfl, a, dx2, _, rfl, ea2, a, _, rfl, W2, by rw [wk_len]; omega, _, rfl, by omega, by rw [wk_len]; omega, ?_⟩
    refine ⟨(show 3 ≤ 100000 by decide), fun H3 R s3 nR eR => ?_⟩
    rw [wk_len] at eR
    have W3 := wat_same s3 W2
    obtain ⟨dx3, d3, ea3, _⟩ := id W3
    have f3 := lineD_wk μ es ▸ line_dqk (K := K) f2
    have D0 : Dqs K (Nb.del H3 R) [.ref N, .ref d, .int (es.length : Nat)] [rwD (nms es), .dict (lineD es), .int (es.length : Nat)] :=
      dqs_del eR (.cons (dq_row (.inl (.inl (s3 _ _ (s2 _ _ eN))))) (.cons (dq_same s3 (.dct (by assumption) f3)) (.cons (.int _) .nil)))
    refine ⟨_, rfl, a, dx3, _, rfl, ea3, a, _, rfl, W3, fun H4 N2 s4 eN2 => ?_⟩
    rw [nms_wk] at eN2
    refine ⟨N2, rfl, ⟨_, SqT.of eN2⟩, for_it (walk_tup (K := K) (a := N2) (xs := (nms es).map V.str)) (fun i σ H' => ∃ v2 ys, σ = [some (.ref a), some (.ref R), v2] ∧ Same H2 H' ∧ H' N2 = some (.tup ((nms es).map V.str)) ∧ H' R = some (.lst ys) ∧ ys.length = 3 + i ∧ Dqs K (Nb.del H' R) ys ([rwD (nms es), .dict (lineD es), .int (es.length : Nat)] ++ (es.take i).map (entD μ)))
      ⟨_, _, rfl, s3.trans s4, eN2, s4 _ _ eR, rfl, dqs_same (del_mono s4) D0⟩ (fun i σ H' _ ⟨_, _, _, _, e, _⟩ => SqT.of e) ?_ ?_⟩
    · rintro i x σ H5 H6 hi ⟨v2, ys, rfl, s5, eN5, eR5, ly, D5⟩ ⟨rfl, ex⟩
      obtain ⟨q1, eq, rfl⟩ : ∃ q, es[i]? = some q ∧ x = .str q.1 := by
        unfold nms at ex
        rw [List.getElem?_map, List.getElem?_map] at ex
        cases ez : es[i]? with
        | none => rw [ez] at ex; cases ex
        | some z => rw [ez] at ex; exact ⟨z, rfl, (Option.some.inj ex).symm⟩
      have mem := List.mem_of_getElem? eq
      obtain ⟨_, _, b8, sub, inN⟩ := B.at_ q1 mem
      obtain ⟨nm, wd⟩ := B.names q1.1 inN
      have inW : q1.1 ∈ nms (wk μ es) := by rw [nms_wk]; exact inN
      have W5 := wat_same s5 W2
      obtain ⟨dx5, d5, ea5, _⟩ := id W5
      have lt := (List.getElem?_eq_some_iff.mp eq).1
      refine ⟨_, rfl, .inl ⟨rfl, _, SqL.of eR5⟩, _, rfl, a, dx5, _, rfl, ea5, rfl, _, rfl, a, q1.1, _, rfl, W5, nm, wd, inW, fun H7 b s7 hb => ?_⟩
      obtain ⟨dxb, eb⟩ := id hb
      have W7 := wat_same s7 W5
      obtain ⟨dx7, d7, ea7, _⟩ := id W7
      refine ⟨b, dxb, _, rfl, eb, b, a, q1.1, _, rfl, hb, W7, inW, fun l hl => ?_⟩
      rw [en_wk B mem] at hl
      have hl : Rd H7 l (.tup (q1.2.bases.map V.str)) := hl
      refine ⟨_, rfl, a, dx7, _, rfl, ea7, rfl, _, rfl, a, q1.1, _, rfl, W7, nm, wd, inW, fun H8 b8 s8 hb8 => ?_⟩
      obtain ⟨dxb8, eb8⟩ := id hb8
      refine ⟨b8, dxb8, _, rfl, eb8, b8, a, q1.1, _, μ q1.1, rfl, hb8, wat_same s8 W7, inW, by rw [en_wk B mem], hO q1.1, fun H9 d9 s9 nd9 md => ?_⟩
      refine ⟨(show 2 ≤ 100000 by decide), fun HA t sA nA eA => ?_⟩
      have s5A := ((s7.trans s8).trans s9).trans sA
      have eRA := s5A _ _ eR5
      refine ⟨R, _, _, rfl, rfl, eRA, by rw [sizeLine_eq]; omega, ?_⟩
      have un : Nb.del (upd HA R (.lst (ys ++ [.ref t]))) R = Nb.del HA R := by
        funext c
        by_cases h : c = R
        · rw [h, del_at, del_at]
        · rw [Nb.del_ne h, Nb.del_ne h, upd_ne h]
      have HR2 : H2 R = none := nR
      have nNR : N2 ≠ R := fun z => by
        rw [z, eR5] at eN5
        cases eN5
      refine ⟨_, _, rfl, same_at (s5.trans s5A) HR2, (upd_ne nNR).trans (s5A _ _ eN5), upd_same, by rw [List.length_append, ly]; rfl, ?_⟩
      rw [un, List.take_add_one, eq, List.map_append, ← List.append_assoc]
      exact dqs_snoc (dqs_same (del_mono s5A) D5) (dq_del eRA (.tup (SqT.of eA) (.cons (dq_row (.inl (rd_same ((s8.trans s9).trans sA) hl))) (.cons (dq_same sA (md_dq md (hO q1.1))) .nil))))
    rintro σ H5 ⟨v2, ys, rfl, s5, eN5, eR5, ly, D5⟩
    rw [List.length_map, nms_len, List.take_length] at D5
    obtain ⟨n, nl, sw⟩ := st_sws B h24 hO
    obtain ⟨z1, z2, z3⟩ := sws_list sw (by decide) nl
    exact ⟨_, rfl, R, ys, stD μ es, rfl, eR5, dqs_same del_back D5, z1, z2, z3, q H5 ((s1.trans s2).trans s5)⟩
end
end K09

set_option Elab.async false
set_option linter.all false
set_option maxRecDepth 100000
set_option maxHeartbeats 4000000
namespace K09
open PySem Nb
open L2 hiding del del_ne del_same
open Nb.Wd
theorem pairs_f2 {H : Hp} : ∀ {qs : Mss} {ys : List V}, F2 (fun (q : Str × Me) (y : V) => ∃ (t : Addr) (v : V), y = .ref t ∧ H t = some (.tup [.str q.1, v]) ∧ MeAt H v q.2) qs ys → ∃ (ts : List Addr) (kvs : List (Key × V)), ys = ts.map V.ref ∧ Paired (fun t kv => H t = some (.tup [kV kv.1, kv.2])) ts kvs ∧ MkAt H kvs qs
  | _, _, .nil => ⟨[], [], rfl, .nil, .nil⟩
  | q :: qs, _ :: ys, .cons ⟨t, v, e, h, m⟩ r => by
    obtain ⟨ts, kvs, a, b, c⟩ := pairs_f2 r
    exact ⟨t :: ts, (Sum.inr q.1, v) :: kvs, by rw [e, a]; rfl, .cons h b, .cons ⟨rfl, m⟩ c⟩
def spDue : Sp := fun vs H Q _ => ∃ (l M : Addr) (ts : List Addr) (es : Ens) (μ : Str → Mss), vs = [.ref l, .ref M] ∧ H l = some (.lst (ts.map V.ref)) ∧ RwAt H ts es ∧ Bt es ∧ es.length ≤ 24 ∧ MmAt H M μ ∧ (∀ x, MsOk (μ x)) ∧ ∀ H', Same H H' → Q (.str (PyData.list (stD μ es)).shown) H'
section
variable {P : Program} {w : World} {K : PySem.W.Frag} {mg : Str → Option Value} {base : Heap}
abbrev s_h_due_state : Stmt := topS 74
theorem sc_h_due_state : FnScope ["_law_rows_here", "_law_methods_here", "_law_lines_here", "_law_name", "_law_bases", "_law_found", "_law_own", "_law_word"] ["_law_rows_here", "_law_methods_here"] (defScope s_h_due_state) := ⟨rfl, rfl, rfl, by decide +kernel, rfl, by decide +kernel, by decide +kernel⟩
def sx_h_due_state_0 : Scope := { kind := .function, names := [(".0", .local), ("_law_name", .local), ("_law_bases", .local)], isGenerator := false, isCoroutine := false, more := [] }
def sx_h_due_state_1 : Scope := { kind := .function, names := [(".0", .local), ("_law_word", .local), ("_law_own", .cell)], isGenerator := false, isCoroutine := false, more := [] }
theorem len_h_due_state (vs : List V) (H : Hp) (Q : VK) (E : XK) (h : (spDue : Sp) vs H Q E) : vs.length = 2 := by
  obtain ⟨l, M, ts, es, μ, rfl, _⟩ := h
  rfl
theorem ok_h_due_state {f : Addr} {fd : FuncData} (F : Fun K "_law_due_state" "_law_due_state" s_h_due_state f fd) (T : Txt mg) (D_h_lines : Dn P w K mg base CX0 3 "_law_lines" ["_law_rows_here"] (spLinesL)) : RunsG P w K mg base CX0 4 f fd ["_law_rows_here", "_law_methods_here"] (spDue) := by
  refine okG F sc_h_due_state (fun vs H Q E h => ?_) (fun cdv A outer s H vs Q E gd hr h => ?_)
  · obtain ⟨l, M, ts, es, μ, rfl, _⟩ := h
    rfl
  · obtain ⟨l, M, ts, es, μ, rfl, hl, hR, B, h24, hM0, hO, q⟩ := h
    have hg : (A.deeper (PyProof.Rows.envOfC "_law_due_state" (defScope s_h_due_state) s.heap.objs.size f cdv)).guards = some [] := gd
    refine ⟨_, pss_cons (ps_set (i := 2) sc_h_due_state.nd rfl (Or.inl rfl) (pe_D D_h_lines (hr.mono (by decide)) (by rfl) pass0 (pa_cons (pv 0) pa_nil)))
        (pss_cons (ps_set (i := 5) sc_h_due_state.nd rfl (Or.inl rfl) (pe_lstS (pa_cons (pe_callTy cr_tupleS (by rfl) T.tuple (by decide +kernel) (pa_cons (pe_lc (own := [("_law_name", 3), ("_law_bases", 4)]) (tt := tYes) rfl sc_h_due_state.nd (pi_list (pv 0)) (blkOk_by (N := ["_law_rows_here", "_law_methods_here", "_law_lines_here", "_law_name", "_law_bases", "_law_found", "_law_own", "_law_word"]) (sc := (defScope s_h_due_state)) (by decide +kernel)) (fun _ _ _ _ _ => (show PG _ _ (gTup K 2 (gCons (gName 3) (gCons (gName 4) gNil))) from pg_tup rfl (pgs_cons (pg_name (i := 3) sc_h_due_state.nd rfl (Or.inl rfl)) (pgs_cons (pg_name (i := 4) sc_h_due_state.nd rfl (Or.inl rfl)) pgs_nil)))) (fun _ _ _ _ _ => pts_nil) (fun _ _ _ _ _ => (pv 3))) pa_nil)) (pa_cons (pv 2) (pa_cons (pe_callB call_len_seq (by rfl) T.len PySem.boot_len (pa_cons (pv 0) pa_nil)) pa_nil)))))
        (pss_cons (ps_for PassesOwn.never rfl (pi_list (pv 0)) (pg_tup rfl (pgs_cons (pg_name (i := 3) sc_h_due_state.nd rfl (Or.inl rfl)) (pgs_cons (pg_name (i := 4) sc_h_due_state.nd rfl (Or.inl rfl)) pgs_nil))) (pss_cons (ps_set (i := 6) sc_h_due_state.nd rfl (Or.inr rfl) (pe_dget2 (hu_of hr) (pv 1) (pv 3) pe_dnewS ⟨rfl, rfl, rfl, rfl⟩))
        (pss_one (ps_expr (pe_bm PySem.F.plainAttrs_list PySem.F.slot_list_append PySem.F.type_list_append mt_append (pv 5) (pa_cons (pe_tupS (pa_cons (pv 4) (pa_cons (pe_callTy (call_dictP rfl) (by rfl) T.dict (by decide +kernel) (pa_cons (pe_lc (own := [("_law_word", 7)]) (g := gName 7) (tt := tYes) rfl sc_h_due_state.nd (pi_list (pe_callB (call_sortedD rfl) (by rfl) T.sorted (by decide +kernel) (pa_cons (pv 6) pa_nil))) (blkOk_by (N := ["_law_rows_here", "_law_methods_here", "_law_lines_here", "_law_name", "_law_bases", "_law_found", "_law_own", "_law_word"]) (sc := (defScope s_h_due_state)) (by decide +kernel)) (fun _ _ _ _ _ => (pg_name (i := 7) sc_h_due_state.nd rfl (Or.inl rfl))) (fun _ _ _ _ _ => pts_nil) (fun _ _ _ _ _ => (pe_tupS (pa_cons (pv 7) (pa_cons (pe_dget (hu_of hr) (pv 6) (pv 7) (fun _ _ => rfl)) pa_nil))))) pa_nil)) pa_nil))) pa_nil))))))
        (pss_one (ps_ret (pe_callB (cr_reprDL hg (un100 hr)) (by rfl) T.repr (by decide +kernel) (pa_cons (pv 5) pa_nil)))))), ?_⟩
    have lt := f2_len hR
    refine ⟨_, rfl, l, ts, es, rfl, hl, hR, B, h24, fun H1 dl s1 nd1 LD => ?_⟩
    refine ⟨_, rfl, l, rfl, ⟨_, SqL.of (s1 _ _ hl)⟩, fun D0 hD0 => ?_⟩
    refine lcM (walk_list (K := K) (a := l) (xs := ts.map V.ref)) (fun i => .str ((nms es).getD i "")) (by rw [List.length_map]; omega) hD0 (fun H' s => SqL.of (s _ _ (s1 _ _ hl))) ?_ ?_
    · rintro i x H2 H3 Nx hi s2 ⟨rfl, ex⟩ N
      rw [List.getElem?_map] at ex
      obtain ⟨t, et, rfl⟩ : ∃ t, ts[i]? = some t ∧ x = .ref t := by
        cases ez : ts[i]? with
        | none => rw [ez] at ex; cases ex
        | some z => rw [ez] at ex; exact ⟨z, rfl, (Option.some.inj ex).symm⟩
      obtain ⟨r, er, bb, e1, rb⟩ := f2_getl hR et
      have := N _ (Same.refl _)
      rw [nms_get er] at this
      exact ⟨t, _, rfl, .inl (.inl (s2 _ _ (s1 _ _ e1))), rfl, _, _, rfl, _, _, rfl, rfl, rfl, _, rfl, this⟩
    intro H2 s2 e2
    have e2 : H2 D0 = some (.lst ((nms es).map V.str)) := by
      rw [e2, List.length_map, lt, ← nms_len, map_range_get]
    refine ⟨D0, _, rfl, .inl e2, fun H3 N s3 eN => ?_⟩
    have s13 := s2.trans s3
    have s03 := s1.trans s13
    refine ⟨_, rfl, _, rfl, l, _, rfl, .inl (SqL.of (s03 _ _ hl)), ?_⟩
    refine ⟨(show 3 ≤ 100000 by decide), fun H4 R s4 nR eR => ?_⟩
    rw [List.length_map, lt] at eR
    have HR3 : H3 R = none := nR
    obtain ⟨lk, el, lf⟩ := id LD
    have Dq0 : Dqs K (Nb.del H4 R) [.ref N, .ref dl, .int (es.length : Nat)] [rwD (nms es), .dict (lineD es), .int (es.length : Nat)] :=
      dqs_del eR (.cons (dq_row (.inl (.inl (s4 _ _ eN)))) (.cons (dq_same (s13.trans s4) (.dct el (line_dqk (lnF_e lf)))) (.cons (.int _) .nil)))
    refine ⟨_, rfl, l, rfl, ⟨_, SqL.of (s4 _ _ (s03 _ _ hl))⟩, for_it (walk_list (K := K) (a := l) (xs := ts.map V.ref)) (fun i σ H' => ∃ v3 v4 v6 ys, σ = [some (.ref l), some (.ref M), some (.ref dl), v3, v4, some (.ref R), v6, none] ∧ Same H3 H' ∧ H' R = some (.lst ys) ∧ ys.length = 3 + i ∧ Dqs K (Nb.del H' R) ys ([rwD (nms es), .dict (lineD es), .int (es.length : Nat)] ++ (es.take i).map (entD μ)))
      ⟨_, _, _, _, rfl, s4, eR, rfl, Dq0⟩ (fun i σ H' _ ⟨_, _, _, _, _, s, _⟩ => SqL.of (s _ _ (s03 _ _ hl))) ?_ ?_⟩
    · rintro i x σ H5 H6 hi ⟨v3, v4, v6, ys, rfl, s5, eR5, ly, D5⟩ ⟨rfl, ex⟩
      rw [List.getElem?_map] at ex
      obtain ⟨t, et, rfl⟩ : ∃ t, ts[i]? = some t ∧ x = .ref t := by
        cases ez : ts[i]? with
        | none => rw [ez] at ex; cases ex
        | some z => rw [ez] at ex; exact ⟨z, rfl, (Option.some.inj ex).symm⟩
      obtain ⟨q1, er, bb, e1, rb⟩ := f2_getl hR et
      have i24 := (List.getElem?_eq_some_iff.mp er).1
      refine ⟨t, _, rfl, .inl (.inl ((s03.trans s5) _ _ e1)), rfl, _, _, rfl, _, _, rfl, rfl, ?_⟩
      obtain ⟨kvs, eM, hk⟩ := mm_same (s03.trans s5) hM0
      refine ⟨_, rfl, M, rfl, .inl ⟨kvs, .inl eM⟩, _, rfl, fun H7 D1 s7 nD1 eD1 => ?_⟩
      rcases hk q1.1 with ⟨h1, h2⟩ | ⟨d, h1, h2⟩
      · refine ⟨none, .inl ⟨kvs, .inr q1.1, .inl (s7 _ _ eM), rfl, h1.symm⟩, ?_⟩
        obtain ⟨d, rfl⟩ : ∃ d, d = D1 := ⟨_, rfl⟩
        have hmd : MdAt H7 d (μ q1.1) := ⟨[], eD1, by rw [h2]; exact .nil⟩
        have s37 := s5.trans s7
        have eR7 := s7 _ _ eR5
        refine ⟨_, rfl, .inl ⟨rfl, _, SqL.of eR7⟩, _, rfl, ?_⟩
        obtain ⟨mk, em, hM⟩ := id hmd
        have l3 := (hO q1.1).l3
        refine ⟨_, rfl, d, mk, (μ q1.1).map (·.1), rfl, .inl em, mk_keys hM, by rw [List.length_map]; omega, fun ys p py so np => ?_⟩
        have ey : ys = (sms (μ q1.1)).map (·.1) := (sort_uniq py so).trans (sms_keys (μ q1.1)).symm
        subst ey
        obtain ⟨H8, eH8⟩ : ∃ H8, H8 = upd H7 p (.lst (((sms (μ q1.1)).map (·.1)).map V.str)) := ⟨_, rfl⟩
        have s8 : Same H7 H8 := eH8 ▸ same_new np
        rw [← eH8]
        have e8 : H8 p = some (.lst (((sms (μ q1.1)).map (·.1)).map V.str)) := eH8 ▸ upd_same
        have lsm := sms_len (μ q1.1)
        refine ⟨p, rfl, ⟨_, SqL.of e8⟩, fun D hD => ?_⟩
        refine lcRM (walk_list (xs := ((sms (μ q1.1)).map (·.1)).map V.str)) (fun i y H => ∃ (q : Str × Me) (t : Addr) (v : V), (sms (μ q1.1))[i]? = some q ∧ y = .ref t ∧ H t = some (.tup [.str q.1, v]) ∧ valV mk (Sum.inr q.1) = some v) (fun i y H H' s ⟨q, t, v, e0, e, h, z⟩ => ⟨q, t, v, e0, e, s _ _ h, z⟩) (by rw [List.length_map, List.length_map]; omega) hD (fun H' s => SqL.of (s _ _ e8)) ?_ ?_
        · rintro i2 x H9 HA Nx hi2 s9 ne ⟨rfl, ex⟩ N2
          rw [List.getElem?_map, List.getElem?_map] at ex
          obtain ⟨qq, eq2, rfl⟩ : ∃ qq, (sms (μ q1.1))[i2]? = some qq ∧ x = .str qq.1 := by
            cases ez : (sms (μ q1.1))[i2]? with
            | none => rw [ez] at ex; cases ex
            | some z => rw [ez] at ex; exact ⟨z, rfl, (Option.some.inj ex).symm⟩
          obtain ⟨w, hw, _⟩ := mk_val hM (look_at (hO q1.1).nd (sms_in (List.mem_of_getElem? eq2)))
          refine ⟨rfl, _, rfl, _, rfl, _, rfl, d, _, rfl, .inl ⟨mk, Sum.inr qq.1, .inl ((s8.trans s9) _ _ em), rfl, hw.symm⟩, (show 2 ≤ 100000 by decide), fun H3' t s3' n3' e3' => N2 _ _ s3' ⟨qq, t, w, eq2, rfl, (Nb.del_ne fun z => ?_).trans e3', hw⟩⟩
          rw [z] at n3'
          exact ne n3'
        intro H9 yz s9 e9 f9
        have lys := f2_len f9
        rw [List.length_range, List.length_map, List.length_map] at lys
        have pf : F2 (fun (q : Str × Me) (y : V) => ∃ (t : Addr) (v : V), y = .ref t ∧ H9 t = some (.tup [.str q.1, v]) ∧ MeAt H9 v q.2) (sms (μ q1.1)) yz := f2_of_get lys fun i q y eq ey => by
          obtain ⟨i', ei, q', t, v, e0, e, h, z⟩ := f2_get f9 ey
          obtain ⟨rfl, _⟩ := range_at ei
          rw [eq] at e0
          cases e0
          obtain ⟨v2, h2, m2⟩ := mk_val hM (look_at (hO q1.1).nd (sms_in (List.mem_of_getElem? eq)))
          rw [z] at h2
          cases h2
          exact ⟨t, v, e, h, me_keep (kt_same (s8.trans s9)) m2⟩
        obtain ⟨tz, kz, rfl, pz, mz⟩ := pairs_f2 pf
        have nk : (kz.map (·.1)).Nodup := by
          rw [mk_keys mz]
          exact List.pairwise_map.mpr ((hO q1.1).sorted.nd.imp fun h z => h (Sum.inr.inj z))
        refine ⟨D, tz, kz, rfl, SqL.of e9, paired_imp (fun t kv h => SqT.of h) pz, fun d2 nd2 => ?_⟩
        rw [merge_nil nk]
        obtain ⟨HA, eHA⟩ : ∃ HA, HA = upd H9 d2 (.dK kz) := ⟨_, rfl⟩
        rw [← eHA]
        have sA : Same H9 HA := eHA ▸ same_new nd2
        have mdA : MdAt HA d2 (sms (μ q1.1)) := ⟨kz, eHA ▸ upd_same, mk_keep (kt_same sA) mz⟩
        refine ⟨(show 2 ≤ 100000 by decide), fun HB t2 sB nB eB => ?_⟩
        have s7B := ((s8.trans s9).trans sA).trans sB
        have s5B := s7.trans s7B
        have eRB := s5B _ _ eR5
        refine ⟨R, _, _, rfl, rfl, eRB, by rw [sizeLine_eq]; omega, ?_⟩
        have un : Nb.del (upd HB R (.lst (ys ++ [.ref t2]))) R = Nb.del HB R := by
          funext c
          by_cases h : c = R
          · rw [h, del_at, del_at]
          · rw [Nb.del_ne h, Nb.del_ne h, upd_ne h]
        refine ⟨_, _, _, _, rfl, same_at (s5.trans s5B) HR3, upd_same, by rw [List.length_append, ly]; rfl, ?_⟩
        rw [un, List.take_add_one, er, List.map_append, ← List.append_assoc]
        exact dqs_snoc (dqs_same (del_mono s5B) D5) (dq_del eRB (.tup (SqT.of eB) (.cons (dq_row (.inl (rd_same (s03.trans (s5.trans s5B)) rb))) (.cons (dq_same sB (md_dq mdA (hO q1.1))) .nil))))
      · refine ⟨some (.ref d), .inl ⟨kvs, .inr q1.1, .inl (s7 _ _ eM), rfl, h1.symm⟩, ?_⟩
        have hmd : MdAt H7 d (μ q1.1) := md_same s7 h2
        have s37 := s5.trans s7
        have eR7 := s7 _ _ eR5
        refine ⟨_, rfl, .inl ⟨rfl, _, SqL.of eR7⟩, _, rfl, ?_⟩
        obtain ⟨mk, em, hM⟩ := id hmd
        have l3 := (hO q1.1).l3
        refine ⟨_, rfl, d, mk, (μ q1.1).map (·.1), rfl, .inl em, mk_keys hM, by rw [List.length_map]; omega, fun ys p py so np => ?_⟩
        have ey : ys = (sms (μ q1.1)).map (·.1) := (sort_uniq py so).trans (sms_keys (μ q1.1)).symm
        subst ey
        obtain ⟨H8, eH8⟩ : ∃ H8, H8 = upd H7 p (.lst (((sms (μ q1.1)).map (·.1)).map V.str)) := ⟨_, rfl⟩
        have s8 : Same H7 H8 := eH8 ▸ same_new np
        rw [← eH8]
        have e8 : H8 p = some (.lst (((sms (μ q1.1)).map (·.1)).map V.str)) := eH8 ▸ upd_same
        have lsm := sms_len (μ q1.1)
        refine ⟨p, rfl, ⟨_, SqL.of e8⟩, fun D hD => ?_⟩
        refine lcRM (walk_list (xs := ((sms (μ q1.1)).map (·.1)).map V.str)) (fun i y H => ∃ (q : Str × Me) (t : Addr) (v : V), (sms (μ q1.1))[i]? = some q ∧ y = .ref t ∧ H t = some (.tup [.str q.1, v]) ∧ valV mk (Sum.inr q.1) = some v) (fun i y H H' s ⟨q, t, v, e0, e, h, z⟩ => ⟨q, t, v, e0, e, s _ _ h, z⟩) (by rw [List.length_map, List.length_map]; omega) hD (fun H' s => SqL.of (s _ _ e8)) ?_ ?_
        · rintro i2 x H9 HA Nx hi2 s9 ne ⟨rfl, ex⟩ N2
          rw [List.getElem?_map, List.getElem?_map] at ex
          obtain ⟨qq, eq2, rfl⟩ : ∃ qq, (sms (μ q1.1))[i2]? = some qq ∧ x = .str qq.1 := by
            cases ez : (sms (μ q1.1))[i2]? with
            | none => rw [ez] at ex; cases ex
            | some z => rw [ez] at ex; exact ⟨z, rfl, (Option.some.inj ex).symm⟩
          obtain ⟨w, hw, _⟩ := mk_val hM (look_at (hO q1.1).nd (sms_in (List.mem_of_getElem? eq2)))
          refine ⟨rfl, _, rfl, _, rfl, _, rfl, d, _, rfl, .inl ⟨mk, Sum.inr qq.1, .inl ((s8.trans s9) _ _ em), rfl, hw.symm⟩, (show 2 ≤ 100000 by decide), fun H3' t s3' n3' e3' => N2 _ _ s3' ⟨qq, t, w, eq2, rfl, (Nb.del_ne fun z => ?_).trans e3', hw⟩⟩
          rw [z] at n3'
          exact ne n3'
        intro H9 yz s9 e9 f9
        have lys := f2_len f9
        rw [List.length_range, List.length_map, List.length_map] at lys
        have pf : F2 (fun (q : Str × Me) (y : V) => ∃ (t : Addr) (v : V), y = .ref t ∧ H9 t = some (.tup [.str q.1, v]) ∧ MeAt H9 v q.2) (sms (μ q1.1)) yz := f2_of_get lys fun i q y eq ey => by
          obtain ⟨i', ei, q', t, v, e0, e, h, z⟩ := f2_get f9 ey
          obtain ⟨rfl, _⟩ := range_at ei
          rw [eq] at e0
          cases e0
          obtain ⟨v2, h2, m2⟩ := mk_val hM (look_at (hO q1.1).nd (sms_in (List.mem_of_getElem? eq)))
          rw [z] at h2
          cases h2
          exact ⟨t, v, e, h, me_keep (kt_same (s8.trans s9)) m2⟩
        obtain ⟨tz, kz, rfl, pz, mz⟩ := pairs_f2 pf
        have nk : (kz.map (·.1)).Nodup := by
          rw [mk_keys mz]
          exact List.pairwise_map.mpr ((hO q1.1).sorted.nd.imp fun h z => h (Sum.inr.inj z))
        refine ⟨D, tz, kz, rfl, SqL.of e9, paired_imp (fun t kv h => SqT.of h) pz, fun d2 nd2 => ?_⟩
        rw [merge_nil nk]
        obtain ⟨HA, eHA⟩ : ∃ HA, HA = upd H9 d2 (.dK kz) := ⟨_, rfl⟩
        rw [← eHA]
        have sA : Same H9 HA := eHA ▸ same_new nd2
        have mdA : MdAt HA d2 (sms (μ q1.1)) := ⟨kz, eHA ▸ upd_same, mk_keep (kt_same sA) mz⟩
        refine ⟨(show 2 ≤ 100000 by decide), fun HB t2 sB nB eB => ?_⟩
        have s7B := ((s8.trans s9).trans sA).trans sB
        have s5B := s7.trans s7B
        have eRB := s5B _ _ eR5
        refine ⟨R, _, _, rfl, rfl, eRB, by rw [sizeLine_eq]; omega, ?_⟩
        have un : Nb.del (upd HB R (.lst (ys ++ [.ref t2]))) R = Nb.del HB R := by
          funext c
          by_cases h : c = R
          · rw [h, del_at, del_at]
          · rw [Nb.del_ne h, Nb.del_ne h, upd_ne h]
        refine ⟨_, _, _, _, rfl, same_at (s5.trans s5B) HR3, upd_same, by rw [List.length_append, ly]; rfl, ?_⟩
        rw [un, List.take_add_one, er, List.map_append, ← List.append_assoc]
        exact dqs_snoc (dqs_same (del_mono s5B) D5) (dq_del eRB (.tup (SqT.of eB) (.cons (dq_row (.inl (rd_same (s03.trans (s5.trans s5B)) rb))) (.cons (dq_same sB (md_dq mdA (hO q1.1))) .nil))))
    rintro σ H5 ⟨v3, v4, v6, ys, rfl, s5, eR5, ly, D5⟩
    rw [List.length_map, lt, List.take_length] at D5
    obtain ⟨n, nl, sw⟩ := st_sws B h24 hO
    obtain ⟨z1, z2, z3⟩ := sws_list sw (by decide) nl
    exact ⟨_, rfl, R, ys, stD μ es, rfl, eR5, dqs_same del_back D5, z1, z2, z3, q H5 (s03.trans s5)⟩
end
end K09

set_option Elab.async false
set_option linter.all false
set_option maxRecDepth 100000
set_option maxHeartbeats 4000000
namespace K09
open PySem Nb
open L2 hiding del del_ne del_same
open Nb.Wd
def spLabel (C M : Addr) : Sp := fun vs H Q _ => ∃ (b a : Addr) (n : Str), vs = [.ref b] ∧ MbAt M H b a n ∧ Q (.str n) H
def spGetI (C M : Addr) : Sp := fun vs H Q _ => ∃ (a : Addr) (n : Str) (es : Ens), vs = [.ref a, .str n] ∧ WAt C H a es ∧ isNm n = true ∧ Word n ∧ n ∈ nms es ∧ ∀ H' b, Same H H' → MbAt M H' b a n → Q (.ref b) H'
def spDefd (C : Addr) : Sp := fun vs H Q _ => ∃ (p a t b d : Addr) (n : Str) (bs : List Str) (es : Ens) (ms : Mss) (k : Nat), vs = [.ref p, .ref a, .ref t, .ref d] ∧ Src H p k ∧ k ≤ 800000 ∧ WAt C H a es ∧ H t = some (.tup [.str n, .ref b]) ∧ Rd H b (.tup (bs.map V.str)) ∧ MdAt H d ms ∧ MsOk ms ∧ New es n bs ∧
  ∀ H' r, Same (Nb.del (Nb.del H p) a) H' → Src H' p (k + 1) → WAt C H' a (es ++ [(n, ⟨bs, kdOf ms, lnNew es n bs⟩)]) → Rd H' r (.tup ((lnNew es n bs).map V.str)) → Q (.ref r) H'
theorem del_del {H : Hp} {p a : Addr} {H' : Hp} (s : Same (Nb.del H a) H') : Same (Nb.del (Nb.del H p) a) H' := fun b o e => by
  by_cases h1 : b = a
  · rw [h1, del_at] at e
    cases e
  rw [Nb.del_ne h1] at e
  by_cases h2 : b = p
  · rw [h2, del_at] at e
    cases e
  rw [Nb.del_ne h2] at e
  exact s _ _ (by rw [Nb.del_ne h1]; exact e)
section
variable {P : Program} {w : World} {K : PySem.W.Frag} {mg : Str → Option Value} {base : Heap}
abbrev s_World_define : Stmt := clsAt (topS 58) 6
theorem sc_World_define : FnScope ["self", "name", "bases", "methods"] ["self", "name", "bases", "methods"] (defScope s_World_define) := ⟨rfl, rfl, rfl, by decide +kernel, rfl, by decide +kernel, by decide +kernel⟩
theorem ok_World_define {f : Addr} {fd : FuncData} (F : Fun K "define" "World.define" s_World_define f fd) {C_World : Addr} (T : Txt mg) (K_World : Kl K mg "World" C_World ["_classes"]) (D_World__define : Mn P w K mg base CX0 7 C_World "_define" ["self", "name", "bases", "methods"] (spDefine C_World)) : FnR P w K mg base CX0 8 f (spStarKw (spDefine C_World)) := by
  refine okStarKw F sc_World_define (fun _ _ _ _ _ _ _ _ => rfl) (fun _ _ _ _ _ _ _ _ _ _ => rfl) (fun cdv A outer s H vs Q E hr h => ?_)
  obtain ⟨a, b, m, n, bs, es, ms, rfl, hW, hb, hm, hO, hN, q⟩ := h
  refine ⟨_, pss_one (ps_ret (pe_M D_World__define K_World.cl (pv 0) (hr.mono (by decide)) pass0 (pa_cons (pv 1) (pa_cons (pv 2) (pa_cons (pv 3) pa_nil))))), ?_⟩
  obtain ⟨dx, d, e, _⟩ := id hW
  exact ⟨_, rfl, a, dx, _, rfl, e, rfl, _, rfl, _, rfl, _, rfl, a, b, m, n, bs, es, ms, rfl, hW, hb, hm, hO, hN, q⟩
abbrev s_World___getitem : Stmt := clsAt (topS 58) 17
theorem sc_World___getitem : FnScope ["self", "at"] ["self", "at"] (defScope s_World___getitem) := ⟨rfl, rfl, rfl, by decide +kernel, rfl, by decide +kernel, by decide +kernel⟩
theorem ok_World___getitem {f : Addr} {fd : FuncData} (F : Fun K "__getitem__" "World.__getitem__" s_World___getitem f fd) {C_Member : Addr} {C_World : Addr} (T : Txt mg) (K_World : Kl K mg "World" C_World ["_classes"]) (D_World_member : Mn P w K mg base CX0 4 C_World "member" ["self", "name"] (spMember C_World C_Member)) : FnOk P w K mg base CX0 5 f fd ["self", "at"] (spGetI C_World C_Member) := by
  refine F.ok sc_World___getitem (fun vs H Q E h => ?_) (fun cdv A outer s H vs Q E hr h => ?_)
  · obtain ⟨a, n, es, rfl, _⟩ := h
    rfl
  · obtain ⟨a, n, es, rfl, hW, nm, wd, mn, q⟩ := h
    refine ⟨_, pss_one (ps_ret (pe_M D_World_member K_World.cl (pv 0) (hr.mono (by decide)) pass0 (pa_cons (pv 1) pa_nil))), ?_⟩
    obtain ⟨dx, d, e, _⟩ := id hW
    exact ⟨_, rfl, a, dx, _, rfl, e, rfl, _, rfl, a, n, es, rfl, hW, nm, wd, mn, q⟩
abbrev s_Member_label : Stmt := clsAt (topS 59) 1
theorem sc_Member_label : FnScope ["self"] ["self"] (defScope s_Member_label) := ⟨rfl, rfl, rfl, by decide +kernel, rfl, by decide +kernel, by decide +kernel⟩
theorem ok_Member_label {f : Addr} {fd : FuncData} (F : Fun K "label" "Member.label" s_Member_label f fd) {C_Member : Addr} {C_World : Addr} (T : Txt mg) (K_Member : Kl K mg "Member" C_Member ["_world", "_label"]) : FnOk P w K mg base CX0 1 f fd ["self"] (spLabel C_World C_Member) := by
  refine F.ok sc_Member_label (fun vs H Q E h => ?_) (fun cdv A outer s H vs Q E hr h => ?_)
  · obtain ⟨b, a, n, rfl, _⟩ := h
    rfl
  · obtain ⟨b, a, n, rfl, hB, q⟩ := h
    refine ⟨_, pss_one (ps_ret (pe_fld (pv 0) rfl)), ?_⟩
    obtain ⟨dxm, eb⟩ := hB
    exact ⟨_, rfl, b, C_Member, dxm, _, .str n, rfl, eb, K_Member.cl, K_Member.no "_label" (by simp), rfl, q⟩
end
end K09

set_option Elab.async false
set_option linter.all false
set_option maxRecDepth 100000
set_option maxHeartbeats 4000000
namespace K09
open PySem Nb
open L2 hiding del del_ne del_same
open Nb.Wd
section
variable {P : Program} {w : World} {K : PySem.W.Frag} {mg : Str → Option Value} {base : Heap}
abbrev s_h_defined : Stmt := topS 76
theorem sc_h_defined : FnScope ["_law_source_here", "_law_world", "_law_row", "_law_methods_here", "_law_name", "_law_bases"] ["_law_source_here", "_law_world", "_law_row", "_law_methods_here"] (defScope s_h_defined) := ⟨rfl, rfl, rfl, by decide +kernel, rfl, by decide +kernel, by decide +kernel⟩
theorem ok_h_defined {f : Addr} {fd : FuncData} (F : Fun K "_law_defined" "_law_defined" s_h_defined f fd) {C_World : Addr} (T : Txt mg) (K_World : Kl K mg "World" C_World ["_classes"]) (D_h_next : Dn P w K mg base CX0 1 "_law_next" ["_law_source_here", "_law_many"] (spNext)) (D_World_perform : Ms P w K mg base CX0 9 C_World "perform" (spStar1 (spPerform C_World))) (D_World_define : Ms P w K mg base CX0 8 C_World "define" (spStarKw (spDefine C_World))) : FnOk P w K mg base CX0 10 f fd ["_law_source_here", "_law_world", "_law_row", "_law_methods_here"] (spDefd C_World) := by
  refine F.ok sc_h_defined (fun vs H Q E h => ?_) (fun cdv A outer s H vs Q E hr h => ?_)
  · obtain ⟨p, a, t, b, d, n, bs, es, ms, k, rfl, _⟩ := h
    rfl
  · obtain ⟨p, a, t, b, d, n, bs, es, ms, k, rfl, hS, hk, hW, ht, hb, hm, hO, hN, q⟩ := h
    refine ⟨_, pss_cons (ps_asg (pv 2) (pg_tup rfl (pgs_cons (pg_name (i := 4) sc_h_defined.nd rfl (Or.inl rfl)) (pgs_cons (pg_name (i := 5) sc_h_defined.nd rfl (Or.inl rfl)) pgs_nil))))
        (pss_cons (ps_if (PW.pt (pw_or (pt_cmpR (op_ne_dict0 hr.units0) (pv 3) pe_dnewS (nomark _)) (pw_or (pt_cmpR op_gt (pe_callB call_len_seq (by rfl) T.len PySem.boot_len (pa_cons (pv 5) pa_nil)) pe_int (nomark _)) (pw_or1 (pt_cmpR op_eq (pe_D D_h_next (hr.mono (by decide)) (by rfl) pass0 (pa_cons (pv 0) (pa_cons pe_int pa_nil))) pe_int (nomark _)))))) (pss_one (ps_ret (pe_ix ix_list (pe_Ms D_World_perform K_World.cl (pv 1) (hr.mono (by decide)) pass0 (pa_cons (pe_tupS (pa_cons pe_str (pa_cons (pv 4) (pa_cons (pv 5) (pa_cons (pv 3) pa_nil))))) pa_nil)) pe_int (fun _ _ => rfl)))) pss_nil)
        (pss_cons (ps_if (pt_cmpR op_eq (pe_callB call_len_seq (by rfl) T.len PySem.boot_len (pa_cons (pv 5) pa_nil)) pe_int (nomark _)) (pss_one (ps_ret (pe_Ms D_World_define K_World.cl (pv 1) (hr.mono (by decide)) pass0 (pa_cons (pv 4) pa_nil)))) pss_nil)
        (pss_cons (ps_if (pt_cmpR op_eq (pe_callB call_len_seq (by rfl) T.len PySem.boot_len (pa_cons (pv 5) pa_nil)) pe_int (nomark _)) (pss_one (ps_ret (pe_Ms D_World_define K_World.cl (pv 1) (hr.mono (by decide)) pass0 (pa_cons (pv 4) (pa_cons (pe_ix ix_tup (pv 5) pe_int (fun _ _ => rfl)) pa_nil))))) pss_nil)
        (pss_cons (ps_if (pt_cmpR op_eq (pe_callB call_len_seq (by rfl) T.len PySem.boot_len (pa_cons (pv 5) pa_nil)) pe_int (nomark _)) (pss_one (ps_ret (pe_Ms D_World_define K_World.cl (pv 1) (hr.mono (by decide)) pass0 (pa_cons (pv 4) (pa_cons (pe_ix ix_tup (pv 5) pe_int (fun _ _ => rfl)) (pa_cons (pe_ix ix_tup (pv 5) pe_int (fun _ _ => rfl)) pa_nil)))))) pss_nil)
        (pss_one (ps_ret (pe_Ms D_World_define K_World.cl (pv 1) (hr.mono (by decide)) pass0 (pa_cons (pv 4) (pa_cons (pe_ix ix_tup (pv 5) pe_int (fun _ _ => rfl)) (pa_cons (pe_ix ix_tup (pv 5) pe_int (fun _ _ => rfl)) (pa_cons (pe_ix ix_tup (pv 5) pe_int (fun _ _ => rfl)) pa_nil))))))))))), ?_⟩
    obtain ⟨mk, em, hM⟩ := id hm
    have lmk := mk_len hM
    obtain ⟨dx, d0, ea, _⟩ := id hW
    have npa : p ≠ a := fun z => by
      obtain ⟨_, _, _, ep, _⟩ := hS
      rw [z, ea] at ep
      cases ep
    have fin2 : ∀ {G G2 : Hp}, Same (Nb.del H p) G → Same (Nb.del G a) G2 → Same (Nb.del (Nb.del H p) a) G2 := fun s u => (del_mono s).trans u
    have src2 : ∀ {G G2 : Hp} {j : Nat}, Src G p j → Same (Nb.del G a) G2 → j ≤ k + 1 → Src G2 p (k + 1) := fun S u l => ((src_del S npa).same u).mono l
    refine ⟨_, rfl, t, _, rfl, .inl (.inl ht), rfl, _, _, rfl, _, _, rfl, rfl, ?_⟩
    refine ⟨_, rfl, fun H1 z1 s1 n1 e1 => ⟨d, z1, mk, rfl, rfl, s1 _ _ em, e1, _, rfl, ?_⟩⟩
    have W1 := wat_same s1 hW
    obtain ⟨dx1, d1, ea1, _⟩ := id W1
    have S1 := hS.same s1
    have hb1 := rd_same s1 hb
    have f1 : Same (Nb.del H p) H1 := del_same.trans s1
    by_cases c : mk = []
    · have ems : ms = [] := List.length_eq_zero_iff.mp (by rw [← lmk, c]; rfl)
      subst ems
      refine iteF0 (by rw [c]; rfl) ?_
      refine ⟨_, rfl, b, _, rfl, .inr (.inl hb1), _, _, rfl, rfl, _, rfl, ?_⟩
      by_cases c3 : 3 < bs.length
      · refine iteT0 (decide_eq_true (by rw [List.length_map]; omega)) ?_
        refine ⟨_, rfl, a, dx1, _, rfl, ea1, rfl, _, rfl, _, rfl, _, rfl, (show 4 ≤ 100000 by decide), fun G1 t5 u1 m1 c1 => ⟨.ref a, [.ref t5], rfl, (show 1 ≤ 100000 by decide), fun p0 np0 => ?_⟩⟩
        have u01 := u1.trans (same_new (o := .tup [.ref t5]) np0)
        refine ⟨a, p0, t5, b, d, n, bs, es, [], rfl, upd_same, (same_new np0) _ _ c1, wat_same u01 W1, rd_same u01 hb1, md_same u01 (md_same s1 hm), msok_nil, hN, fun G2 l6 r6 u2 W6 e6 R6 => ⟨l6, _, _, _, rfl, rfl, SqL.of e6, atI_nat (j := 0) rfl, q G2 r6 ?_ ?_ W6 R6⟩⟩
        · exact fin2 ((f1).trans u01) u2
        · exact src2 ((S1).same u01) u2 (by omega)
      have hb3 : bs.length ≤ 3 := by omega
      refine iteF0 (decide_eq_false (by rw [List.length_map]; omega)) ?_
      refine ⟨_, rfl, p, 2, k, Nb.del H1 p, rfl, by decide, by decide, S1, by omega, del_at, del_same, fun H2 j j0 j2 s2 S2 => ⟨rfl, _, rfl, ?_⟩⟩
      have f2 : Same (Nb.del H p) H2 := (same_upd f1 del_at).trans s2
      have k2 : ∀ {x : Addr} {o : HO}, x ≠ p → H1 x = some o → H2 x = some o := fun n e => s2 _ _ (del_keep e n)
      have W2 := wat_src S1 s2 W1
      obtain ⟨dx2, d2, ea2, _⟩ := id W2
      have hb2 := (kt_src S1 s2).rd hb1
      have md2 := md_src S1 s2 (md_same s1 hm)
      by_cases cj : j = 0
      · refine iteT0 (decide_eq_true (by rw [cj])) ?_
        refine ⟨_, rfl, a, dx2, _, rfl, ea2, rfl, _, rfl, _, rfl, _, rfl, (show 4 ≤ 100000 by decide), fun G1 t5 u1 m1 c1 => ⟨.ref a, [.ref t5], rfl, (show 1 ≤ 100000 by decide), fun p0 np0 => ?_⟩⟩
        have u01 := u1.trans (same_new (o := .tup [.ref t5]) np0)
        refine ⟨a, p0, t5, b, d, n, bs, es, [], rfl, upd_same, (same_new np0) _ _ c1, wat_same u01 W2, rd_same u01 hb2, md_same u01 md2, msok_nil, hN, fun G2 l6 r6 u2 W6 e6 R6 => ⟨l6, _, _, _, rfl, rfl, SqL.of e6, atI_nat (j := 0) rfl, q G2 r6 ?_ ?_ W6 R6⟩⟩
        · exact fin2 ((f2).trans u01) u2
        · exact src2 ((S2).same u01) u2 (by omega)

      · refine iteF0 (decide_eq_false fun z => cj (V.int.inj z)) ?_
        match bs, hb3, hb, hb1, hb2, hN, q with
        | [], _, hb, hb1, hb2, hN, q =>
          refine ⟨_, rfl, b, _, rfl, .inr (.inl hb2), rfl, _, rfl, iteT0 (decide_eq_true rfl) ?_⟩
          refine ⟨_, rfl, a, dx2, _, rfl, ea2, rfl, _, rfl, .ref a, .str n, [], rfl, (show 0 ≤ 100000 by decide), fun p0 dd np nd ne => ?_⟩
          have u01 : Same H2 (upd (upd H2 p0 (.tup [])) dd (.dK [])) := (same_new np).trans (same_new ((upd_ne ne).trans nd))
          refine ⟨a, p0, dd, n, [], es, [], rfl, wat_same u01 W2, .inl ((upd_ne (Ne.symm ne)).trans upd_same), ⟨[], upd_same, .nil⟩, msok_nil, hN, fun G2 r6 u2 W6 R6 => q G2 r6 (fin2 (f2.trans u01) u2) (src2 (S2.same u01) u2 (by omega)) W6 R6⟩
        | [x0], _, hb, hb1, hb2, hN, q =>
          refine ⟨_, rfl, b, _, rfl, .inr (.inl hb2), rfl, _, rfl, iteF0 (decide_eq_false fun z => absurd (V.int.inj z) (show ¬ ((1 : Nat) : Int) = 0 by decide)) ?_⟩
          refine ⟨_, rfl, b, _, rfl, .inr (.inl hb2), rfl, _, rfl, iteT0 (decide_eq_true rfl) ?_⟩
          refine ⟨_, rfl, a, dx2, _, rfl, ea2, rfl, _, rfl, _, rfl, b, _, 0, _, rfl, rfl, .inl hb2, atI_nat (j := 0) rfl, .ref a, .str n, [.str x0], rfl, (show 1 ≤ 100000 by decide), fun p0 dd np nd ne => ?_⟩
          have u01 : Same H2 (upd (upd H2 p0 (.tup [.str x0])) dd (.dK [])) := (same_new np).trans (same_new ((upd_ne ne).trans nd))
          refine ⟨a, p0, dd, n, [x0], es, [], rfl, wat_same u01 W2, .inl ((upd_ne (Ne.symm ne)).trans upd_same), ⟨[], upd_same, .nil⟩, msok_nil, hN, fun G2 r6 u2 W6 R6 => q G2 r6 (fin2 (f2.trans u01) u2) (src2 (S2.same u01) u2 (by omega)) W6 R6⟩
        | [x0, x1], _, hb, hb1, hb2, hN, q =>
          refine ⟨_, rfl, b, _, rfl, .inr (.inl hb2), rfl, _, rfl, iteF0 (decide_eq_false fun z => absurd (V.int.inj z) (show ¬ ((2 : Nat) : Int) = 0 by decide)) ?_⟩
          refine ⟨_, rfl, b, _, rfl, .inr (.inl hb2), rfl, _, rfl, iteF0 (decide_eq_false fun z => absurd (V.int.inj z) (show ¬ ((2 : Nat) : Int) = 1 by decide)) ?_⟩
          refine ⟨_, rfl, b, _, rfl, .inr (.inl hb2), rfl, _, rfl, iteT0 (decide_eq_true rfl) ?_⟩
          refine ⟨_, rfl, a, dx2, _, rfl, ea2, rfl, _, rfl, _, rfl, b, _, 0, _, rfl, rfl, .inl hb2, atI_nat (j := 0) rfl, _, rfl, b, _, 1, _, rfl, rfl, .inl hb2, atI_nat (j := 1) rfl, .ref a, .str n, [.str x0, .str x1], rfl, (show 2 ≤ 100000 by decide), fun p0 dd np nd ne => ?_⟩
          have u01 : Same H2 (upd (upd H2 p0 (.tup [.str x0, .str x1])) dd (.dK [])) := (same_new np).trans (same_new ((upd_ne ne).trans nd))
          refine ⟨a, p0, dd, n, [x0, x1], es, [], rfl, wat_same u01 W2, .inl ((upd_ne (Ne.symm ne)).trans upd_same), ⟨[], upd_same, .nil⟩, msok_nil, hN, fun G2 r6 u2 W6 R6 => q G2 r6 (fin2 (f2.trans u01) u2) (src2 (S2.same u01) u2 (by omega)) W6 R6⟩
        | [x0, x1, x2], _, hb, hb1, hb2, hN, q =>
          refine ⟨_, rfl, b, _, rfl, .inr (.inl hb2), rfl, _, rfl, iteF0 (decide_eq_false fun z => absurd (V.int.inj z) (show ¬ ((3 : Nat) : Int) = 0 by decide)) ?_⟩
          refine ⟨_, rfl, b, _, rfl, .inr (.inl hb2), rfl, _, rfl, iteF0 (decide_eq_false fun z => absurd (V.int.inj z) (show ¬ ((3 : Nat) : Int) = 1 by decide)) ?_⟩
          refine ⟨_, rfl, b, _, rfl, .inr (.inl hb2), rfl, _, rfl, iteF0 (decide_eq_false fun z => absurd (V.int.inj z) (show ¬ ((3 : Nat) : Int) = 2 by decide)) ?_⟩
          refine ⟨_, rfl, a, dx2, _, rfl, ea2, rfl, _, rfl, _, rfl, b, _, 0, _, rfl, rfl, .inl hb2, atI_nat (j := 0) rfl, _, rfl, b, _, 1, _, rfl, rfl, .inl hb2, atI_nat (j := 1) rfl, _, rfl, b, _, 2, _, rfl, rfl, .inl hb2, atI_nat (j := 2) rfl, .ref a, .str n, [.str x0, .str x1, .str x2], rfl, (show 3 ≤ 100000 by decide), fun p0 dd np nd ne => ?_⟩
          have u01 : Same H2 (upd (upd H2 p0 (.tup [.str x0, .str x1, .str x2])) dd (.dK [])) := (same_new np).trans (same_new ((upd_ne ne).trans nd))
          refine ⟨a, p0, dd, n, [x0, x1, x2], es, [], rfl, wat_same u01 W2, .inl ((upd_ne (Ne.symm ne)).trans upd_same), ⟨[], upd_same, .nil⟩, msok_nil, hN, fun G2 r6 u2 W6 R6 => q G2 r6 (fin2 (f2.trans u01) u2) (src2 (S2.same u01) u2 (by omega)) W6 R6⟩
        | _ :: _ :: _ :: _ :: _, h, _, _, _, _, _ => exact absurd h (by simp)

    · refine iteT0 (by cases mk with | nil => exact absurd rfl c | cons z zs => rfl) ?_
      refine ⟨_, rfl, a, dx1, _, rfl, ea1, rfl, _, rfl, _, rfl, _, rfl, (show 4 ≤ 100000 by decide), fun G1 t5 u1 m1 c1 => ⟨.ref a, [.ref t5], rfl, (show 1 ≤ 100000 by decide), fun p0 np0 => ?_⟩⟩
      have u01 := u1.trans (same_new (o := .tup [.ref t5]) np0)
      refine ⟨a, p0, t5, b, d, n, bs, es, ms, rfl, upd_same, (same_new np0) _ _ c1, wat_same u01 W1, rd_same u01 hb1, md_same u01 (md_same s1 hm), hO, hN, fun G2 l6 r6 u2 W6 e6 R6 => ⟨l6, _, _, _, rfl, rfl, SqL.of e6, atI_nat (j := 0) rfl, q G2 r6 ?_ ?_ W6 R6⟩⟩
      · exact fin2 ((f1).trans u01) u2
      · exact src2 ((S1).same u01) u2 (by omega)
end
end K09

set_option Elab.async false
set_option linter.all false
set_option maxRecDepth 100000
set_option maxHeartbeats 4000000
namespace K09
open PySem Nb
open L2 hiding del del_ne del_same
open Nb.Wd
/-- what stands off these addresses is kept -/
def Off (S : List Addr) (G H : Hp) : Prop := ∀ a o, a ∉ S → G a = some o → H a = some o
theorem Off.trans {S : List Addr} {G H H' : Hp} (s : Off S G H) (t : Off S H H') : Off S G H' := fun a o n e => t a o n (s a o n e)
theorem off_same {S : List Addr} {H H' : Hp} (s : Same H H') : Off S H H' := fun a o _ e => s a o e
theorem off_del {S : List Addr} {p : Addr} {H H' : Hp} (m : p ∈ S) (s : Same (Nb.del H p) H') : Off S H H' := fun a o n e => s a o (del_keep e fun z => n (z ▸ m))
theorem off_del2 {S : List Addr} {p q : Addr} {H H' : Hp} (m : p ∈ S) (k : q ∈ S) (s : Same (Nb.del (Nb.del H p) q) H') : Off S H H' := fun a o n e => by
  have n1 : a ≠ p := fun z => n (z ▸ m)
  have n2 : a ≠ q := fun z => n (z ▸ k)
  exact s a o (del_keep (del_keep e n1) n2)
theorem off_upd {S : List Addr} {p : Addr} {H : Hp} {u : HO} (m : p ∈ S) : Off S H (upd H p u) := fun a o n e => by
  have n1 : a ≠ p := fun z => n (z ▸ m)
  exact (upd_ne n1).trans e
/-- the world does not lie at the dict of the lines -/
theorem wat_lines {C W L : Addr} {H : Hp} {kv : List (Key × V)} {es fs : Ens} {u : HO} (h : WAt C H W fs) (e : H L = some (.dK kv)) (f : LnF H kv es) (c : fs ≠ []) : WAt C (upd H L u) W fs := by
  obtain ⟨dx, d, ea, nd, kvs, ed, hK⟩ := id h
  have ed' := (Nb.del_ne nd).symm.trans ed
  have ne : d ≠ L := fun z => by
    rw [z, e] at ed'
    cases ed'
    cases hK with
    | nil => exact c rfl
    | cons a t =>
      cases f with
      | cons b t2 =>
        obtain ⟨_, tt, _, _, _, e1, e2, _⟩ := a
        obtain ⟨_, l, e3, o, e4, _⟩ := b
        rw [e1] at e3
        cases e3
        rw [del_back _ _ e2] at e4
        cases e4
  have nw : W ≠ L := fun z => by rw [z, e] at ea; cases ea
  have s : Same (Nb.del H L) (upd H L u) := fun b o e1 => by
    have n : b ≠ L := fun z => by rw [z, del_at] at e1; cases e1
    rw [Nb.del_ne n] at e1
    exact (upd_ne n).trans e1
  refine wat_same s ?_
  refine ⟨dx, d, (Nb.del_ne nw).trans ea, nd, kvs, ?_, ?_⟩
  · rw [Nb.del_ne nd, Nb.del_ne ne]
    exact ed'
  · refine f2_imp (fun _ _ ⟨x, y⟩ => ⟨x, en_keep (fun b o k e1 => ?_) y⟩) hK
    have e0 := del_back _ _ e1
    have nL : b ≠ L := fun z => by
      rw [z, e] at e0
      cases e0
      exact k
    have nW : b ≠ W := fun z => by rw [z, del_at] at e1; cases e1
    rw [Nb.del_ne nW, Nb.del_ne nL]
    exact e0
theorem wat_empty {C W L : Addr} {H : Hp} {u : HO} {fs : Ens} (h : WAt C (Nb.del H L) W fs) : WAt C (upd H L u) W fs := wat_same (fun b o e1 => by
  have n : b ≠ L := fun z => by rw [z, del_at] at e1; cases e1
  rw [Nb.del_ne n] at e1
  exact (upd_ne n).trans e1) h
theorem wk_ne {μ : Str → Mss} {es : Ens} {i : Nat} (l : i < es.length) (n : i ≠ 0) : wk μ (es.take i) ≠ [] := fun z => by
  have h := congrArg List.length z
  rw [wk_len, List.length_take] at h
  have h : min i es.length = 0 := h
  omega
theorem off_keep {S : List Addr} {G H : Hp} (no : ∀ s ∈ S, ∃ u, G s = some u ∧ ¬ TupO u) (f : Off S G H) : KeepT G H := fun a u k e => f a u (fun m => by
  obtain ⟨v, e2, n⟩ := no a m
  rw [e] at e2
  cases e2
  exact n k) e
theorem off_md {S : List Addr} {G H : Hp} (kp : KeepT G H) (f : Off S G H) {d : Addr} {ms : Mss} (n : d ∉ S) (h : MdAt G d ms) : MdAt H d ms := let ⟨kvs, e, k⟩ := h; ⟨kvs, f d _ n e, mk_keep kp k⟩
theorem bt_take {es : Ens} (B : Bt es) (i : Nat) : Bt (es.take i) := by
  by_cases h : i < es.length
  · exact (bt_step B i _ (List.getElem?_eq_getElem h)).1
  · rw [List.take_of_length_le (by omega)]
    exact B
theorem f2_take {α β : Type} {R : α → β → Prop} : ∀ {xs : List α} {ys : List β}, F2 R xs ys → ∀ i, F2 R (xs.take i) (ys.take i)
  | _, _, _, 0 => by rw [List.take_zero, List.take_zero]; exact .nil
  | _, _, .nil, i + 1 => .nil
  | _, _, .cons h t, i + 1 => by rw [List.take_succ_cons, List.take_succ_cons]; exact .cons h (f2_take t i)
theorem cut_upto (xs : List V) (e : Nat) : cutV xs none (some (e : Int)) = xs.take e := by
  unfold cutV
  rw [HT.sIx_none, HT.sIx_nat]
  simp
theorem neSelf (x : V) : (!decide (x = x)) = false := by
  rw [decide_eq_true rfl]
  rfl
theorem three_sws {es : Ens} {n : Str} {bs line : List Str} (hn : isNm n = true) (hb : ∀ z ∈ bs, isNm z = true) (b8 : bs.length ≤ 8) (hl : ∀ z ∈ line, isNm z = true) (l : line.length ≤ 24) : PyData.showableAll [.str n, rwD line, rwD bs] = true ∧ (PyData.list [.str n, rwD line, rwD bs]).depth ≤ 60 ∧ (PyData.list [.str n, rwD line, rwD bs]).shown.length ≤ sizeLine := by
  obtain ⟨n1, l1, s1⟩ := name_sw (k := 1) hn
  obtain ⟨n2, l2, s2⟩ := row_sw (k := 0) hl l
  obtain ⟨n3, l3, s3⟩ := row_sw (k := 0) hb b8
  exact sws_list (k := 1) (.cons s1 (.cons s2 (.cons s3 .nil))) (by decide) (by omega)
theorem row_show {zs : List Str} (h : ∀ z ∈ zs, isNm z = true) (l : zs.length ≤ 24) : (rwD zs).showable = true ∧ (rwD zs).depth ≤ 60 ∧ (rwD zs).shown.length ≤ sizeLine := by
  obtain ⟨n, l1, s⟩ := row_sw (k := 0) h l
  exact sw_one s (by decide) (by omega)
def spRight09 : Sp := fun vs H Q _ => ∃ (p : Addr) (b : Nat), vs = [.ref p] ∧ Src H p b ∧ b ≤ 600000 ∧ ∀ H', Same (Nb.del H p) H' → Q (.bl true) H'
section
variable {P : Program} {w : World} {K : PySem.W.Frag} {mg : Str → Option Value} {base : Heap}
abbrev s_h_right : Stmt := topS 77
theorem sc_h_right : FnScope ["_law_source_here", "_law_rows_here", "_law_world", "_law_lines_here", "_law_methods_here", "_law_spot", "_law_row", "_law_name", "_law_bases", "_law_told"] ["_law_source_here"] (defScope s_h_right) := ⟨rfl, rfl, rfl, by decide +kernel, rfl, by decide +kernel, by decide +kernel⟩
theorem len_h_right (vs : List V) (H : Hp) (Q : VK) (E : XK) (h : (spRight09 : Sp) vs H Q E) : vs.length = 1 := by
  obtain ⟨p, b, rfl, _⟩ := h
  rfl
theorem ok_h_right {f : Addr} {fd : FuncData} (F : Fun K "_law_right" "_law_right" s_h_right f fd) {C_Member : Addr} {C_World : Addr} (T : Txt mg) (K_Member : Kl K mg "Member" C_Member ["_world", "_label"]) (K_World : Kl K mg "World" C_World ["_classes"]) (D_h_next : Dn P w K mg base CX0 1 "_law_next" ["_law_source_here", "_law_many"] (spNext)) (D_World___init : Mi P w K mg base CX0 1 C_World ["self"] (spWInit C_World)) (D_h_line : Dn P w K mg base CX0 2 "_law_line" ["_law_lines_here", "_law_name", "_law_bases"] (spLine)) (D_h_rows : Dn P w K mg base CX0 3 "_law_rows" ["_law_source_here", "_law_many", "_law_most"] (spRowsK)) (D_World___len : Mn P w K mg base CX0 1 C_World "__len__" ["self"] (spWLen C_World)) (D_World_member : Mn P w K mg base CX0 4 C_World "member" ["self", "name"] (spMember C_World C_Member)) (D_Member_bases : Pr P w K mg base CX0 2 C_Member "bases" (spMBases C_World C_Member)) (D_Member_linearization : Pr P w K mg base CX0 2 C_Member "linearization" (spMLine C_World C_Member)) (D_h_methods : Dn P w K mg base CX0 5 "_law_methods" ["_law_source_here", "_law_rows_here"] (spMethsL)) (D_h_state : DnG P w K mg base CX0 5 "_law_state" ["_law_world"] (spState C_World)) (D_h_due_state : DnG P w K mg base CX0 4 "_law_due_state" ["_law_rows_here", "_law_methods_here"] (spDue)) (D_Member_label : Pr P w K mg base CX0 1 C_Member "label" (spLabel C_World C_Member)) (D_h_defined : Dn P w K mg base CX0 10 "_law_defined" ["_law_source_here", "_law_world", "_law_row", "_law_methods_here"] (spDefd C_World)) {g_World___getitem : Addr} (B_World___getitem : Mb P w K mg base CX0 5 C_World "__getitem__" g_World___getitem (spGetI C_World C_Member)) : RunsG P w K mg base CX0 11 f fd ["_law_source_here"] (spRight09) := by
  refine okG F sc_h_right (fun vs H Q E h => ?_) (fun cdv A outer s H vs Q E gd hr h => ?_)
  · obtain ⟨p, b, rfl, _⟩ := h
    rfl
  · obtain ⟨p, b, rfl, hS, hB, q⟩ := h
    have hg : (A.deeper (PyProof.Rows.envOfC "_law_right" (defScope s_h_right) s.heap.objs.size f cdv)).guards = some [] := gd
    refine ⟨_, pss_cons (ps_par3 (i := 1) (j := 2) (l := 3) rfl sc_h_right.nd rfl rfl rfl (by decide) (by decide) (by decide) rfl rfl rfl (pa_cons (pe_D D_h_rows (hr.mono (by decide)) (by rfl) pass0 (pa_cons (pv 0) (pa_cons (pe_op op_add pe_int (pe_D D_h_next (hr.mono (by decide)) (by rfl) pass0 (pa_cons (pv 0) (pa_cons pe_int pa_nil)))) (pa_cons pe_int pa_nil)))) (pa_cons (pe_Mi0 D_World___init (hr.mono (by decide)) (by rfl) K_World.g pass0) (pa_cons pe_dnewS pa_nil))) rfl)
        (pss_cons (ps_set (i := 4) sc_h_right.nd rfl (Or.inl rfl) (pe_D D_h_methods (hr.mono (by decide)) (by rfl) pass0 (pa_cons (pv 0) (pa_cons (pv 1) pa_nil))))
        (pss_cons (ps_for PassesOwn.never rfl (pi_enum (by rfl) T.enumerate (pa_cons (pv 1) pa_nil)) (pg_tup rfl (pgs_cons (pg_name (i := 5) sc_h_right.nd rfl (Or.inl rfl)) (pgs_cons (pg_name (i := 6) sc_h_right.nd rfl (Or.inl rfl)) pgs_nil))) (pss_cons (ps_asg (pv 6) (pg_tup rfl (pgs_cons (pg_name (i := 7) sc_h_right.nd rfl (Or.inl rfl)) (pgs_cons (pg_name (i := 8) sc_h_right.nd rfl (Or.inl rfl)) pgs_nil))))
        (pss_cons (ps_dput (hu_of hr) (pv 3) (pv 7) (pe_D D_h_line (hr.mono (by decide)) (by rfl) pass0 (pa_cons (pv 3) (pa_cons (pv 7) (pa_cons (pv 8) pa_nil)))) rfl)
        (pss_cons (ps_if (pt_cmpR op_ne (pe_callB (cr_reprDQ hg (un100 hr)) (by rfl) T.repr (by decide +kernel) (pa_cons (pe_D D_h_defined (hr.mono (by decide)) (by rfl) pass0 (pa_cons (pv 0) (pa_cons (pv 2) (pa_cons (pv 6) (pa_cons (pe_dget (hu_of hr) (pv 4) (pv 7) (fun _ _ => rfl)) pa_nil))))) pa_nil)) (pe_callB (cr_reprDQ hg (un100 hr)) (by rfl) T.repr (by decide +kernel) (pa_cons (pe_dget (hu_of hr) (pv 3) (pv 7) (fun _ _ => rfl)) pa_nil)) (nomark _)) (pss_one (ps_ret pe_bl)) pss_nil)
        (pss_cons (ps_if (pt_cmpR op_ne (pe_DG D_h_state hg (hr.mono (by decide)) (by rfl) pass0 (pa_cons (pv 2) pa_nil)) (pe_DG D_h_due_state hg (hr.mono (by decide)) (by rfl) pass0 (pa_cons (pe_slice sl_list (pv 1) po_none (po_some (pe_op op_add (pv 5) pe_int))) (pa_cons (pv 4) pa_nil))) (nomark _)) (pss_one (ps_ret pe_bl)) pss_nil)
        (pss_cons (ps_set (i := 9) sc_h_right.nd rfl (Or.inl rfl) (pe_M D_World_member K_World.cl (pv 2) (hr.mono (by decide)) pass0 (pa_cons (pv 7) pa_nil)))
        (pss_one (ps_if (pt_cmpR op_ne (pe_callB (cr_reprDL hg (un100 hr)) (by rfl) T.repr (by decide +kernel) (pa_cons (pe_lstS (pa_cons (pe_P D_Member_label K_Member.cl (pv 9) (hr.mono (by decide)) pass0) (pa_cons (pe_P D_Member_linearization K_Member.cl (pv 9) (hr.mono (by decide)) pass0) (pa_cons (pe_P D_Member_bases K_Member.cl (pe_ixO B_World___getitem (hr.mono (by decide)) pass0 (pv 2) (pv 7)) (hr.mono (by decide)) pass0) pa_nil)))) pa_nil)) (pe_callB (cr_reprDL hg (un100 hr)) (by rfl) T.repr (by decide +kernel) (pa_cons (pe_lstS (pa_cons (pv 7) (pa_cons (pe_dget (hu_of hr) (pv 3) (pv 7) (fun _ _ => rfl)) (pa_cons (pv 8) pa_nil)))) pa_nil)) (nomark _)) (pss_one (ps_ret pe_bl)) pss_nil))))))))
        (pss_one (ps_ret pe_bl)))), ?_⟩
    refine ⟨_, rfl, _, rfl, p, 8, b, Nb.del H p, rfl, by decide, by decide, hS, by omega, del_at, del_same, fun H1 k k0 k9 s1 S1 => ?_⟩
    obtain ⟨j, rfl⟩ : ∃ j : Nat, k = (j : Int) := ⟨_, (Int.toNat_of_nonneg k0).symm⟩
    refine ⟨_, _, rfl, rfl, p, 1 + j, 3, b + 1, rfl, by omega, by decide, S1, by omega, fun H2 l ts es s2 nl nlp el rw2 B kp les S2 => ?_⟩
    have f2 : Same (Nb.del H p) H2 := (same_upd s1 del_at).trans s2
    have les9 : es.length ≤ 8 := by omega
    have lt := f2_len rw2
    refine fun W dx hW0 hdx ne => ⟨W, dx, rfl, upd_same, fun H3 s3 W3 => ⟨rfl, ?_⟩⟩
    have s23 : Same H2 H3 := make_same hW0 hdx s3
    refine fun H4 Ld s4 nL eL => ⟨_, _, _, rfl, ?_⟩
    have s24 := s23.trans s4
    have nLp : Ld ≠ p := src_away (S2.same s23) nL
    have el4 := s24 _ _ el
    have rw4 := rw_keep (kt_same s24) rw2
    have S4 := S2.same s24
    have W4 := wat_same s4 W3
    refine ⟨_, rfl, _, rfl, p, l, Ld, ts, es, _, rfl, ⟨_, eL⟩, nLp, el4, nlp, rw4, B.nodup, by omega, S4, by omega, fun G M kvs μ s5 nMp nML eM fM off ok S5 => ?_⟩
    have f4 : Same (Nb.del H p) H4 := f2.trans s24
    have fG : Same (Nb.del H p) G := (same_upd f4 del_at).trans s5
    have WG := wat_src S4 s5 W4
    obtain ⟨dxW, dW, eWG, _⟩ := id WG
    have WG0 : WAt C_World (Nb.del G Ld) W [] := by
      have W40 : WAt C_World (Nb.del H4 Ld) W [] := wat_same (same_del s4 nL) W3
      refine wat_src (src_del S4 (Ne.symm nLp)) (fun a o e => ?_) W40
      have n2 : a ≠ p := fun z => by rw [z, del_at] at e; cases e
      rw [Nb.del_ne n2] at e
      have n1 : a ≠ Ld := fun z => by rw [z, del_at] at e; cases e
      rw [Nb.del_ne n1] at e
      exact (Nb.del_ne n1).trans (s5 _ _ (del_keep e n2))
    have eLG := s5 _ _ (del_keep eL nLp)
    have elG := s5 _ _ (del_keep el4 nlp)
    have rwG := rw_keep (kt_src S4 s5) rw4
    have npW : p ≠ W := fun z => by
      obtain ⟨_, _, _, ep, _⟩ := S5
      rw [z, eWG] at ep
      cases ep
    have nLW : Ld ≠ W := fun z => by rw [z, eWG] at eLG; cases eLG
    have nlS : l ∉ [p, W, Ld] := fun m => by
      simp only [List.mem_cons, List.not_mem_nil, or_false] at m
      rcases m with m | m | m
      · exact nlp m
      · rw [m, eWG] at elG; cases elG
      · rw [m, eLG] at elG; cases elG
    have nMS : M ∉ [p, W, Ld] := fun m => by
      simp only [List.mem_cons, List.not_mem_nil, or_false] at m
      rcases m with m | m | m
      · exact nMp m
      · rw [m, eWG] at eM; cases eM
      · exact nML m
    have ndS : ∀ {d : Addr} {kv : List (Key × V)}, G d = some (.dK kv) → d ≠ Ld → d ∉ [p, W, Ld] := fun {d kv} e n m => by
      simp only [List.mem_cons, List.not_mem_nil, or_false] at m
      rcases m with m | m | m
      · obtain ⟨_, _, _, ep, _⟩ := S5
        rw [m, ep] at e; cases e
      · rw [m, eWG] at e; cases e
      · exact n m
    have noT : ∀ s ∈ [p, W, Ld], ∃ u, G s = some u ∧ ¬ TupO u := fun s m => by
      simp only [List.mem_cons, List.not_mem_nil, or_false] at m
      rcases m with rfl | rfl | rfl
      · obtain ⟨_, _, _, ep, _⟩ := S5
        exact ⟨_, ep, id⟩
      · exact ⟨_, eWG, id⟩
      · exact ⟨_, eLG, id⟩
    have pS : p ∈ [p, W, Ld] := List.mem_cons_self ..
    have wS : W ∈ [p, W, Ld] := List.mem_cons_of_mem _ (List.mem_cons_self ..)
    have lS : Ld ∈ [p, W, Ld] := List.mem_cons_of_mem _ (List.mem_cons_of_mem _ (List.mem_cons_self ..))
    have wdn : ∀ z ∈ nms es, isNm z = true := fun z hz => (B.names z hz).1
    refine ⟨_, rfl, l, ts.map V.ref, rfl, SqL.of elG, for_it walk_enum (fun i σ H' => ∃ v5 v6 v7 v8 v9 kv, σ = [some (.ref p), some (.ref l), some (.ref W), some (.ref Ld), some (.ref M), v5, v6, v7, v8, v9] ∧ Off [p, W, Ld] G H' ∧ WAt C_World H' W (wk μ (es.take i)) ∧ H' Ld = some (.dK kv) ∧ LnF H' kv (es.take i) ∧ (i = 0 → WAt C_World (Nb.del H' Ld) W []) ∧ Src H' p (b + 1 + 10 + 12 * (1 + j) + 50 * es.length + 1 * i))
      ⟨_, _, _, _, _, [], rfl, fun a o _ e => e, WG, eLG, .nil, fun _ => WG0, S5⟩ (fun i σ H' _ ⟨_, _, _, _, _, _, _, o, _⟩ => SqL.of (o _ _ nlS elG)) ?_ ?_⟩
    · rintro i x σ H6 H7 hi ⟨v5, v6, v7, v8, v9, kv, rfl, o6, W6, eL6, ln6, z6, S6⟩ ⟨tt, x1, x2, rfl, new, rfl, e1, e2⟩
      have ex1 : x1 = .int ((i : Nat) : Int) := (Option.some.inj e1).symm
      subst ex1
      have e2 : (ts.map V.ref)[i]? = some x2 := e2
      rw [List.getElem?_map] at e2
      obtain ⟨t, et, rfl⟩ : ∃ t, ts[i]? = some t ∧ x2 = .ref t := by
        cases ez : ts[i]? with
        | none => rw [ez] at e2; cases e2
        | some z => rw [ez] at e2; exact ⟨z, rfl, (Option.some.inj e2).symm⟩
      obtain ⟨r, er, bb, e1, rb⟩ := f2_getl rwG et
      have mem := List.mem_of_getElem? er
      have lte := (List.getElem?_eq_some_iff.mp er).1
      obtain ⟨Bi, nw, nm, ndb, b8, sub, cov, eline⟩ := bt_step B i r er
      have tk : es.take (i + 1) = es.take i ++ [r] := by rw [List.take_add_one, er]; rfl
      obtain ⟨H7, eH7⟩ : ∃ H7, H7 = upd H6 tt (.tup [.int ((i : Nat) : Int), .ref t]) := ⟨_, rfl⟩
      rw [← eH7]
      have s67 : Same H6 H7 := eH7 ▸ same_new new
      have o7 := o6.trans (off_same s67)
      have k7 := off_keep noT o7
      have et7 := k7 t (.tup [.str r.1, .ref bb]) trivial e1
      refine ⟨tt, _, rfl, .inl (.inl (eH7 ▸ upd_same)), rfl, _, _, rfl, _, _, rfl, rfl, ?_⟩
      refine ⟨_, rfl, t, _, rfl, .inl (.inl et7), rfl, _, _, rfl, _, _, rfl, rfl, ?_⟩
      have pre : Pre (es.take i) r.2.bases := ⟨Bi, by rw [List.length_take]; omega, ndb, b8, sub⟩
      have eL7 := s67 _ _ eL6
      have ln7 := lnF_keep (kt_same s67) ln6
      refine ⟨_, rfl, _, rfl, _, rfl, Ld, bb, r.1, r.2.bases, es.take i, rfl, ⟨kv, eL7, lnF_e ln7⟩, k7.rd rb, pre, fun _ H8 r8 s8 er8 => ?_, fun nf => absurd (full_cov cov) nf⟩
      have eL8 := s8 _ _ eL7
      have lkv := f2_len ln6
      rw [List.length_take] at lkv
      refine ⟨_, rfl, _, rfl, Ld, _, rfl, DPut.k (k := (Sum.inr r.1 : Key)) eL8 (Nat.lt_of_lt_of_le (show kv.length < 100000 by omega) (line100 (Nat.le_refl _))), ?_⟩
      rw [putK_new _ (lnE_out (lnF_e ln7) nw)]
      obtain ⟨H9, eH9⟩ : ∃ H9, H9 = upd H8 Ld (.dK (kv ++ [((Sum.inr r.1 : Key), V.ref r8)])) := ⟨_, rfl⟩
      rw [← eH9]
      have k89 : KeepT H8 H9 := eH9 ▸ kt_upd eL8 id
      have o79 : Off [p, W, Ld] H7 H9 := (off_same s8).trans (eH9 ▸ off_upd lS)
      have o9 := o7.trans o79
      have k9 := off_keep noT o9
      have fl9 : FtA H9 r8 (r.2.line.map V.str) := by rw [eline]; exact fta_keep k89 er8
      have ln9 : LnF H9 (kv ++ [((Sum.inr r.1 : Key), V.ref r8)]) (es.take (i + 1)) := by
        rw [tk]
        exact f2_snoc (lnF_keep ((kt_same s8).trans k89) ln7) ⟨rfl, r8, rfl, fl9⟩
      have eL9 : H9 Ld = some (.dK (kv ++ [((Sum.inr r.1 : Key), V.ref r8)])) := eH9 ▸ upd_same
      have W8 := wat_same (s67.trans s8) W6
      have W9 : WAt C_World H9 W (wk μ (es.take i)) := by
        rw [eH9]
        by_cases c0 : i = 0
        · subst c0
          exact wat_empty (wat_same (del_mono (s67.trans s8)) (z6 rfl))
        · exact wat_lines W8 eL8 (lnF_keep (kt_same s8) ln7) (wk_ne lte c0)
      have S8 := S6.same (s67.trans s8)
      have S9 : Src H9 p (b + 1 + 10 + 12 * (1 + j) + 50 * es.length + 1 * i) := by
        obtain ⟨c0, n0, r0, ep, h0⟩ := S8
        exact ⟨c0, n0, r0, by rw [eH9]; exact (upd_ne (Ne.symm nLp)).trans ep, h0⟩
      have mn : r.1 ∈ nms es := List.mem_map.mpr ⟨r, mem, rfl⟩
      obtain ⟨d, hd, ndM, ndL, md⟩ := (mmF_val fM).1 mn
      obtain ⟨kvd, ekd, hkd⟩ := id md
      have ndO := ndS ekd ndL
      have md9 := off_md k9 o9 ndO md
      have eM9 := o9 _ _ nMS eM
      have et9 := k9 t (.tup [.str r.1, .ref bb]) trivial e1
      have rb9 := k9.rd rb
      have N : New (wk μ (es.take i)) r.1 r.2.bases := ⟨bt_wk μ Bi, by rw [wk_len, List.length_take]; omega, by rw [nms_wk]; exact nw, nm.1, nm.2, ndb, b8, fun z hz => by rw [nms_wk]; exact sub z hz, by rw [rws_wk]; exact full_cov cov⟩
      have el2 : lnNew (wk μ (es.take i)) r.1 r.2.bases = r.2.line := by
        rw [eline]
        show r.1 :: Mg.drawn (rws (wk μ (es.take i)) r.2.bases) = _
        rw [rws_wk]
      have nx : wk μ (es.take i) ++ [(r.1, ⟨r.2.bases, kdOf (μ r.1), lnNew (wk μ (es.take i)) r.1 r.2.bases⟩)] = wk μ (es.take (i + 1)) := by
        rw [el2, tk]
        unfold wk
        rw [List.map_append]
        rfl
      have B1 := bt_take B (i + 1)
      have m1 : r.1 ∈ nms (es.take (i + 1)) := by
        rw [tk]
        unfold nms
        rw [List.map_append]
        exact List.mem_append_right _ (List.mem_singleton.mpr rfl)
      have lnn : ln (es.take (i + 1)) r.1 = r.2.line := by rw [tk]; exact ln_new nw
      have ll : r.2.line.length ≤ 24 := by
        have z := B1.line_len r.1
        rw [lnn, List.length_take] at z
        omega
      have lnm : ∀ z ∈ r.2.line, isNm z = true := fun z hz => (B1.names z (B1.sub r.1 z (lnn.symm ▸ hz))).1
      have sb : ∀ z ∈ r.2.bases, isNm z = true := fun z hz => (Bi.names z (sub z hz)).1
      obtain ⟨w1, w2, w3⟩ := row_show lnm ll
      refine ⟨_, rfl, _, rfl, _, rfl, _, rfl, _, rfl, M, .ref d, rfl, hd ▸ DGet.k (k := (Sum.inr r.1 : Key)) eM9, p, W, t, bb, d, r.1, r.2.bases, wk μ (es.take i), μ r.1, b + 1 + 10 + 12 * (1 + j) + 50 * es.length + 1 * i, rfl, S9, by omega, W9, et9, rb9, md9, ok r.1, N, fun H10 rr s10 S10 W10 R10 => ?_⟩
      rw [nx] at W10
      rw [el2] at R10
      have o10 := o9.trans (off_del2 pS wS s10)
      have k10 := off_keep noT o10
      have eL10 : H10 Ld = some (.dK (kv ++ [((Sum.inr r.1 : Key), V.ref r8)])) := s10 _ _ (del_keep (del_keep eL9 nLp) nLW)
      have noT9 : ∀ s ∈ [p, W, Ld], ∃ u, H9 s = some u ∧ ¬ TupO u := fun s m => by
        simp only [List.mem_cons, List.not_mem_nil, or_false] at m
        rcases m with rfl | rfl | rfl
        · obtain ⟨_, _, _, ep, _⟩ := S9
          exact ⟨_, ep, id⟩
        · obtain ⟨_, _, e, _⟩ := W9
          exact ⟨_, e, id⟩
        · exact ⟨_, eL9, id⟩
      have kt9 : KeepT H9 H10 := off_keep noT9 (off_del2 pS wS s10)
      have ln10 := lnF_keep kt9 ln9
      obtain ⟨l5, dg, fl⟩ := ldr_get ⟨_, .inl eL10, ln10⟩ m1
      rw [lnn] at fl
      refine ⟨rr, _, rfl, dq_row (.inl R10), w1, w2, w3, ?_⟩
      refine ⟨_, rfl, _, rfl, Ld, _, rfl, dg, l5, _, rfl, dq_row (.inl fl.rd), w1, w2, w3, ?_⟩
      refine ⟨rfl, _, rfl, iteF0 (neSelf _) ?_⟩
      have l24 : (es.take (i + 1)).length ≤ 24 := by rw [List.length_take]; omega
      refine ⟨_, rfl, W, es.take (i + 1), μ, rfl, W10, B1, l24, ok, fun H11 s11 => ?_⟩
      have o11 := o10.trans (off_same s11)
      have k11 := off_keep noT o11
      have el11 := o11 _ _ nlS elG
      have eM11 := o11 _ _ nMS eM
      have fM11 : MmF H11 M Ld kvs μ es := f2_imp (fun _ _ ⟨x1, d, x2, x3, x4, x5⟩ => ⟨x1, d, x2, x3, x4, by
        obtain ⟨kvd, ekd, hkd⟩ := id x5
        exact off_md k11 o11 (ndS ekd x4) x5⟩) fM
      refine ⟨_, rfl, _, rfl, _, _, rfl, rfl, _, rfl, l, _, rfl, SqL.of el11, fun p9 n9 => ?_⟩
      have s12 : Same H11 (upd H11 p9 (.lst (cutV (ts.map V.ref) none (some (((i : Nat) : Int) + 1))))) := same_new n9
      have cut : cutV (ts.map V.ref) none (some (((i : Nat) : Int) + 1)) = (ts.take (i + 1)).map V.ref := by
        rw [List.map_take]
        exact cut_upto _ (i + 1)
      rw [cut] at s12 ⊢
      have rw12 := f2_take (rw_keep (kt_same s12) (rw_keep k11 rwG)) (i + 1)
      refine ⟨_, rfl, p9, M, ts.take (i + 1), es.take (i + 1), μ, rfl, upd_same, rw12, B1, l24, mm_same s12 (mmF_at eM11 fM11 off), ok, fun H13 s13 => ?_⟩
      refine ⟨rfl, _, rfl, iteF0 (neSelf _) ?_⟩
      have o13 := o11.trans (off_same (s12.trans s13))
      have W13 := wat_same ((s11.trans s12).trans s13) W10
      obtain ⟨dx13, _, eW13, _⟩ := id W13
      have mw : r.1 ∈ nms (wk μ (es.take (i + 1))) := by rw [nms_wk]; exact m1
      refine ⟨_, rfl, W, dx13, _, rfl, eW13, rfl, _, rfl, W, r.1, _, rfl, W13, nm.1, nm.2, mw, fun H14 b14 s14 mb => ?_⟩
      obtain ⟨dxm, emb⟩ := id mb
      have W14 := wat_same s14 W13
      obtain ⟨_, _, eW14, _⟩ := id W14
      refine ⟨_, rfl, b14, dxm, _, rfl, emb, b14, W, r.1, rfl, mb, ?_⟩
      refine ⟨_, rfl, b14, dxm, _, rfl, emb, b14, W, r.1, _, rfl, mb, W14, mw, fun l6 R6 => ?_⟩
      refine ⟨_, rfl, _, rfl, W, _, _, rfl, eW14, W, r.1, _, rfl, W14, nm.1, nm.2, mw, fun H15 b15 s15 mb15 => ?_⟩
      obtain ⟨dx15, eb15⟩ := id mb15
      have W15 := wat_same s15 W14
      refine ⟨b15, dx15, _, rfl, eb15, b15, W, r.1, _, rfl, mb15, W15, mw, fun l7 R7 => ?_⟩
      have en : enOf (wk μ (es.take (i + 1))) r.1 = ⟨r.2.bases, kdOf (μ r.1), r.2.line⟩ := by
        rw [← nx, el2]
        unfold enOf
        rw [look_new (by rw [nms_wk]; exact nw)]
        rfl
      rw [en] at R6 R7
      have three := three_sws (es := es) nm.1 sb b8 lnm ll
      obtain ⟨g1, g2, g3⟩ := three
      refine ⟨show 3 ≤ 100000 by decide, fun H16 l16 s16 n16 e16 => ⟨l16, _, [.str r.1, rwD r.2.line, rwD r.2.bases], rfl, e16, .cons (.str _) (.cons (dq_row (.inl (rd_same (s15.trans s16) R6))) (.cons (dq_row (.inl (rd_same s16 R7))) .nil)), g1, g2, g3, ?_⟩⟩
      have s1016 : Same H10 H16 := s11.trans (s12.trans (s13.trans (s14.trans (s15.trans s16))))
      obtain ⟨l8, dg8, fl8⟩ := ldr_get ⟨_, .inl (s1016 _ _ eL10), lnF_keep (kt_same s1016) ln10⟩ m1
      rw [lnn] at fl8
      have rb16 := (kt_same s1016).rd (k10.rd rb)
      refine ⟨_, rfl, _, rfl, _, rfl, Ld, _, rfl, dg8, _, rfl, show 3 ≤ 100000 by decide, fun H17 l17 s17 n17 e17 => ⟨l17, _, [.str r.1, rwD r.2.line, rwD r.2.bases], rfl, e17, .cons (.str _) (.cons (dq_row (.inl (rd_same s17 fl8.rd))) (.cons (dq_row (.inl (rd_same s17 rb16))) .nil)), g1, g2, g3, ?_⟩⟩
      refine ⟨rfl, _, rfl, iteF0 (neSelf _) ?_⟩
      have s1017 := s1016.trans s17
      exact ⟨_, _, _, _, _, _, rfl, o10.trans (off_same s1017), wat_same s1017 W10, s1017 _ _ eL10, lnF_keep (kt_same s1017) ln10, fun z => absurd z (Nat.succ_ne_zero i), (S10.same s1017).mono (by omega)⟩
    rintro σ H6 ⟨v5, v6, v7, v8, v9, kv, rfl, o6, W6, eL6, ln6, z6, S6⟩
    have fin : Same (Nb.del H p) H6 := fun a o e => by
      have np : a ≠ p := fun z => by rw [z, del_at] at e; cases e
      have eG := fG a o e
      refine o6 a o (fun m => ?_) eG
      simp only [List.mem_cons, List.not_mem_nil, or_false] at m
      have e0 := del_back _ _ e
      have e2 := f2 _ _ e
      rcases m with m | m | m
      · exact np m
      · rw [m, hW0] at e2; cases e2
      · have e3 := s23 _ _ e2
        rw [m, nL] at e3; cases e3
    exact q H6 fin
end
end K09

set_option Elab.async false
set_option linter.all false
set_option maxRecDepth 100000
set_option maxHeartbeats 4000000
namespace K09
open PySem Nb
open L2 hiding del del_ne del_same
open Nb.Wd
section
variable {P : Program} {w : World} {K : PySem.W.Frag} {mg : Str → Option Value} {base : Heap}
abbrev s_law : Stmt := topS 78
theorem sc_law : FnScope ["_law_script", "_law_k"] ["_law_script"] (defScope s_law) := ⟨rfl, rfl, rfl, by decide +kernel, rfl, by decide +kernel, by decide +kernel⟩
theorem len_law (vs : List V) (H : Hp) (Q : VK) (E : XK) (h : (spLaw0 K : Sp) vs H Q E) : vs.length = 1 := by
  obtain ⟨a, ns, rfl, _⟩ := h
  rfl
theorem ok_law {f : Addr} {fd : FuncData} (F : Fun K "law" "law" s_law f fd) {C_World : Addr} (T : Txt mg) (K_World : Kl K mg "World" C_World ["_classes"]) (D_h_source : Dn P w K mg base CX0 1 "_law_source" ["_law_script", "_law_k"] (spSource K)) (D_World___init : Mi P w K mg base CX0 1 C_World ["self"] (spWInit C_World)) (D_h_state : DnG P w K mg base CX0 5 "_law_state" ["_law_world"] (spState C_World)) (D_h_due_state : DnG P w K mg base CX0 4 "_law_due_state" ["_law_rows_here", "_law_methods_here"] (spDue)) (D_h_right : DnG P w K mg base CX0 11 "_law_right" ["_law_source_here"] (spRight09)) : RunsG P w K mg base CX0 12 f fd ["_law_script"] (spLaw0 K) := by
  refine okG F sc_law (fun vs H Q E h => ?_) (fun cdv A outer s H vs Q E gd hr h => ?_)
  · obtain ⟨a, ns, rfl, _⟩ := h
    rfl
  · obtain ⟨a, ns, rfl, hS, hlen, q⟩ := h
    have hg : (A.deeper (PyProof.Rows.envOfC "law" (defScope s_law) s.heap.objs.size f cdv)).guards = some [] := gd
    refine ⟨_, pss_cons (ps_for PassesOwn.never rfl (pi_range1 (by rfl) T.range (pa_cons (pe_callB (call_max2 rfl) (by rfl) T.max (by decide +kernel) (pa_cons pe_int (pa_cons (pe_callB (call_min2 rfl) (by rfl) T.min (by decide +kernel) (pa_cons pe_int (pa_cons (pe_callB call_len_seq (by rfl) T.len PySem.boot_len (pa_cons (pv 0) pa_nil)) pa_nil))) pa_nil))) pa_nil)) (pg_name (i := 1) sc_law.nd rfl (Or.inl rfl)) (pss_one (ps_if (pt_not (pt_val (pe_DG D_h_right hg (hr.mono (by decide)) (by rfl) pass0 (pa_cons (pe_D D_h_source (hr.mono (by decide)) (by rfl) pass0 (pa_cons (pv 0) (pa_cons (pv 1) pa_nil))) pa_nil)))) (pss_one (ps_ret pe_bl)) pss_nil)))
        (pss_one (ps_ret (pe_cmpR op_eq (pe_DG D_h_state hg (hr.mono (by decide)) (by rfl) pass0 (pa_cons (pe_Mi0 D_World___init (hr.mono (by decide)) (by rfl) K_World.g pass0) pa_nil)) (pe_DG D_h_due_state hg (hr.mono (by decide)) (by rfl) pass0 (pa_cons (pe_lstS pa_nil) (pa_cons pe_dnewS pa_nil))) (nomark _)))), ?_⟩
    refine ⟨_, rfl, a, _, rfl, .inl hS, _, _, rfl, _, _, rfl, ?_⟩
    refine ⟨_, rfl, Int.le_trans (by decide) (turns3 _).1, Int.lt_of_le_of_lt (turns3 _).2 (by decide), for_range (lo := 0) (fun i σ H' => ∃ v1, σ = [some (.ref a), v1] ∧ Same H H') ⟨_, rfl, Same.refl _⟩ ?_ ?_⟩
    · rintro i σ H1 hi ⟨v1, rfl, s1⟩
      have i3 : i < 3 := by
        have := (turns3 (ns.map V.int).length).2
        omega
      refine ⟨_, rfl, _, rfl, a, ns, i, (by show [V.ref a, V.int (0 + (i : Int))] ++ [] = _; rw [Int.zero_add]; rfl), s1.seq hS, hlen, by omega, fun H2 p s2 np S2 => ?_⟩
      refine ⟨p, 3 * i, rfl, S2, by omega, fun H5 s5 => ⟨_, rfl, iteF0 rfl ⟨_, rfl, ?_⟩⟩⟩
      intro b o e
      have e2 := s1 _ _ e
      have nb : b ≠ p := fun z => by rw [z, np] at e2; cases e2
      exact s5 _ _ (del_keep (s2 _ _ e2) nb)
    rintro σ H1 ⟨v1, rfl, s1⟩
    have ok0 : ∀ x, MsOk ((fun _ => [] : Str → Mss) x) := fun _ => msok_nil
    refine fun w dx hw hdx ne => ⟨w, dx, rfl, upd_same, fun K1 k1 W1 => ⟨rfl, w, [], fun _ => [], rfl, W1, .nil, by decide, ok0, fun K2 k2 => ?_⟩⟩
    refine ⟨(show 0 ≤ 100000 by decide), fun K3 l3 k3 m3 c3 => fun K4 D k4 m4 c4 => ⟨l3, D, [], [], fun _ => [], rfl, k4 _ _ c3, .nil, .nil, by decide, ⟨[], c4, fun x => .inl ⟨rfl, rfl⟩⟩, ok0, fun K5 k5 => ?_⟩⟩
    refine ⟨rfl, ?_⟩
    rw [decide_eq_true rfl]
    exact q K5
end
end K09

set_option Elab.async false
set_option maxRecDepth 100000
set_option maxHeartbeats 8000000
namespace K09
open PySem Nb
open L2 hiding del del_ne del_same
theorem all_mk {l : PySem.W.OpenLaw} {w : World} {K : PySem.W.Frag} {h : Heap} {mg : Str → Option Value} {fa f_law p_parts p_barred p_World_linearizations p_World_names p_Member_bases p_Member_linearization p_Member_methods p_Member_label f_h_source f_h_next f_is_name f_are_names f_are_different_names f_Merge__prepare f_Merge__advance f_Merge_drop f_Merge_draw f_places f_Merge___init f_check_tuples f_merged f_h_mixed f_h_merged f_check_name f_World___init f_World___contains f_check_class f_has_words f_is_change f_World_copy f_World_linearizations f_is_row f_are_words f_is_method f_World__check_bases f_World__check_methods f_linearized f_World__define f_World__carry_out f_World_perform f_h_line f_h_rows f_World_names f_World___len f_Member___init f_World_member f_found f_Member_bases f_Member_linearization f_Member_methods f_h_pick f_h_word_row f_h_method f_h_methods f_h_lines f_h_state f_h_due_state f_World_define f_World___getitem f_Member_label f_h_defined f_h_right C_Clash i_Clash C_Merge C_World C_Member : Addr} (X : K.In h) (G : h.Ns mainGlobals mg) (hfa : mg "law" = some (.ref fa))
    {odh_source anh_source odh_next anh_next odis_name anis_name odare_names anare_names odare_different_names anare_different_names odMerge__prepare anMerge__prepare odMerge__advance anMerge__advance odMerge_drop anMerge_drop odMerge_draw anMerge_draw odplaces anplaces odMerge___init anMerge___init odcheck_tuples ancheck_tuples odmerged anmerged odh_mixed anh_mixed odh_merged anh_merged odcheck_name ancheck_name odWorld___init anWorld___init odWorld___contains anWorld___contains odcheck_class ancheck_class odhas_words anhas_words odis_change anis_change odWorld_copy anWorld_copy odWorld_linearizations anWorld_linearizations odis_row anis_row odare_words anare_words odis_method anis_method odWorld__check_bases anWorld__check_bases odWorld__check_methods anWorld__check_methods odlinearized anlinearized odWorld__define anWorld__define odWorld__carry_out anWorld__carry_out odWorld_perform anWorld_perform odh_line anh_line odh_rows anh_rows odWorld_names anWorld_names odWorld___len anWorld___len odMember___init anMember___init odWorld_member anWorld_member odfound anfound odMember_bases anMember_bases odMember_linearization anMember_linearization odMember_methods anMember_methods odh_pick anh_pick odh_word_row anh_word_row odh_method anh_method odh_methods anh_methods odh_lines anh_lines odh_state anh_state odh_due_state anh_due_state odWorld_define anWorld_define odWorld___getitem anWorld___getitem odMember_label anMember_label odh_defined anh_defined odh_right anh_right odlaw anlaw odIClash anIClash : Option Addr}
    {slh_source slh_next slis_name slare_names slare_different_names slMerge__prepare slMerge__advance slMerge_drop slMerge_draw slplaces slMerge___init slcheck_tuples slmerged slh_mixed slh_merged slcheck_name slWorld___init slWorld___contains slcheck_class slhas_words slis_change slWorld_copy slWorld_linearizations slis_row slare_words slis_method slWorld__check_bases slWorld__check_methods sllinearized slWorld__define slWorld__carry_out slWorld_perform slh_line slh_rows slWorld_names slWorld___len slMember___init slWorld_member slfound slMember_bases slMember_linearization slMember_methods slh_pick slh_word_row slh_method slh_methods slh_lines slh_state slh_due_state slWorld_define slWorld___getitem slMember_label slh_defined slh_right sllaw slIClash : Array (Option Value)}
    {och_source kVh_source dch_source pmh_source cdh_source cth_source och_next kVh_next dch_next pmh_next cdh_next cth_next ocis_name kVis_name dcis_name pmis_name cdis_name ctis_name ocare_names kVare_names dcare_names pmare_names cdare_names ctare_names ocare_different_names kVare_different_names dcare_different_names pmare_different_names cdare_different_names ctare_different_names ocMerge__prepare kVMerge__prepare dcMerge__prepare pmMerge__prepare cdMerge__prepare ctMerge__prepare ocMerge__advance kVMerge__advance dcMerge__advance pmMerge__advance cdMerge__advance ctMerge__advance ocMerge_drop kVMerge_drop dcMerge_drop pmMerge_drop cdMerge_drop ctMerge_drop ocMerge_draw kVMerge_draw dcMerge_draw pmMerge_draw cdMerge_draw ctMerge_draw ocplaces kVplaces dcplaces pmplaces cdplaces ctplaces ocMerge___init kVMerge___init dcMerge___init pmMerge___init cdMerge___init ctMerge___init occheck_tuples kVcheck_tuples dccheck_tuples pmcheck_tuples cdcheck_tuples ctcheck_tuples ocmerged kVmerged dcmerged pmmerged cdmerged ctmerged och_mixed kVh_mixed dch_mixed pmh_mixed cdh_mixed cth_mixed och_merged kVh_merged dch_merged pmh_merged cdh_merged cth_merged occheck_name kVcheck_name dccheck_name pmcheck_name cdcheck_name ctcheck_name ocWorld___init kVWorld___init dcWorld___init pmWorld___init cdWorld___init ctWorld___init ocWorld___contains kVWorld___contains dcWorld___contains pmWorld___contains cdWorld___contains ctWorld___contains occheck_class kVcheck_class dccheck_class pmcheck_class cdcheck_class ctcheck_class ochas_words kVhas_words dchas_words pmhas_words cdhas_words cthas_words ocis_change kVis_change dcis_change pmis_change cdis_change ctis_change ocWorld_copy kVWorld_copy dcWorld_copy pmWorld_copy cdWorld_copy ctWorld_copy ocWorld_linearizations kVWorld_linearizations dcWorld_linearizations pmWorld_linearizations cdWorld_linearizations ctWorld_linearizations ocis_row kVis_row dcis_row pmis_row cdis_row ctis_row ocare_words kVare_words dcare_words pmare_words cdare_words ctare_words ocis_method kVis_method dcis_method pmis_method cdis_method ctis_method ocWorld__check_bases kVWorld__check_bases dcWorld__check_bases pmWorld__check_bases cdWorld__check_bases ctWorld__check_bases ocWorld__check_methods kVWorld__check_methods dcWorld__check_methods pmWorld__check_methods cdWorld__check_methods ctWorld__check_methods oclinearized kVlinearized dclinearized pmlinearized cdlinearized ctlinearized ocWorld__define kVWorld__define dcWorld__define pmWorld__define cdWorld__define ctWorld__define ocWorld__carry_out kVWorld__carry_out dcWorld__carry_out pmWorld__carry_out cdWorld__carry_out ctWorld__carry_out ocWorld_perform kVWorld_perform dcWorld_perform pmWorld_perform cdWorld_perform ctWorld_perform och_line kVh_line dch_line pmh_line cdh_line cth_line och_rows kVh_rows dch_rows pmh_rows cdh_rows cth_rows ocWorld_names kVWorld_names dcWorld_names pmWorld_names cdWorld_names ctWorld_names ocWorld___len kVWorld___len dcWorld___len pmWorld___len cdWorld___len ctWorld___len ocMember___init kVMember___init dcMember___init pmMember___init cdMember___init ctMember___init ocWorld_member kVWorld_member dcWorld_member pmWorld_member cdWorld_member ctWorld_member ocfound kVfound dcfound pmfound cdfound ctfound ocMember_bases kVMember_bases dcMember_bases pmMember_bases cdMember_bases ctMember_bases ocMember_linearization kVMember_linearization dcMember_linearization pmMember_linearization cdMember_linearization ctMember_linearization ocMember_methods kVMember_methods dcMember_methods pmMember_methods cdMember_methods ctMember_methods och_pick kVh_pick dch_pick pmh_pick cdh_pick cth_pick och_word_row kVh_word_row dch_word_row pmh_word_row cdh_word_row cth_word_row och_method kVh_method dch_method pmh_method cdh_method cth_method och_methods kVh_methods dch_methods pmh_methods cdh_methods cth_methods och_lines kVh_lines dch_lines pmh_lines cdh_lines cth_lines och_state kVh_state dch_state pmh_state cdh_state cth_state och_due_state kVh_due_state dch_due_state pmh_due_state cdh_due_state cth_due_state ocWorld_define kVWorld_define dcWorld_define pmWorld_define cdWorld_define ctWorld_define ocWorld___getitem kVWorld___getitem dcWorld___getitem pmWorld___getitem cdWorld___getitem ctWorld___getitem ocMember_label kVMember_label dcMember_label pmMember_label cdMember_label ctMember_label och_defined kVh_defined dch_defined pmh_defined cdh_defined cth_defined och_right kVh_right dch_right pmh_right cdh_right cth_right oclaw kVlaw dclaw pmlaw cdlaw ctlaw ocIClash kVIClash dcIClash pmIClash cdIClash ctIClash : Value}
    {t_MAX_BASES t_MAX_CLASSES t_MAX_METHODS : Tok}
    {rest_World_linearizations rest_World_names rest_Member_bases rest_Member_linearization rest_Member_methods rest_Member_label : List Value}
    {t_LONGEST_NAME t_LONGEST_ROW t_PARTS_methods t_MOST_WORDS t_BASES t_METHODS t_LINE : Tok}
    (a_Merge : PySem.W.nsIn K mainGlobals "Merge" = some (some (.ref C_Merge)))
    (pg_Merge : PySem.W.plainGet K C_Merge Str.empty = true)
    (hd_Merge : PySem.W.hasDictIn K C_Merge = true)
    (po_Merge : PySem.W.plainOver K C_Merge = true)
    (sa_Merge : PySem.W.findIn K (.ref C_Merge) "__setattr__" = some (some (.builtin "object.__setattr__")))
    (nf_Merge_rows : PySem.W.findIn K (.ref C_Merge) "rows" = some none)
    (nf_Merge_places : PySem.W.findIn K (.ref C_Merge) "places" = some none)
    (nf_Merge_gone : PySem.W.findIn K (.ref C_Merge) "gone" = some none)
    (nf_Merge_heads : PySem.W.findIn K (.ref C_Merge) "heads" = some none)
    (nf_Merge_behind : PySem.W.findIn K (.ref C_Merge) "behind" = some none)
    (nf_Merge_ready : PySem.W.findIn K (.ref C_Merge) "ready" = some none)
    (mk_Merge : PySem.W.makesIn K C_Merge = true)
    (kc_Merge : PySem.W.keepIn K (.ref C_Merge) = true)
    (a_World : PySem.W.nsIn K mainGlobals "World" = some (some (.ref C_World)))
    (pg_World : PySem.W.plainGet K C_World Str.empty = true)
    (hd_World : PySem.W.hasDictIn K C_World = true)
    (po_World : PySem.W.plainOver K C_World = true)
    (sa_World : PySem.W.findIn K (.ref C_World) "__setattr__" = some (some (.builtin "object.__setattr__")))
    (nf_World__classes : PySem.W.findIn K (.ref C_World) "_classes" = some none)
    (mk_World : PySem.W.makesIn K C_World = true)
    (kc_World : PySem.W.keepIn K (.ref C_World) = true)
    (a_Member : PySem.W.nsIn K mainGlobals "Member" = some (some (.ref C_Member)))
    (pg_Member : PySem.W.plainGet K C_Member Str.empty = true)
    (hd_Member : PySem.W.hasDictIn K C_Member = true)
    (po_Member : PySem.W.plainOver K C_Member = true)
    (sa_Member : PySem.W.findIn K (.ref C_Member) "__setattr__" = some (some (.builtin "object.__setattr__")))
    (nf_Member__world : PySem.W.findIn K (.ref C_Member) "_world" = some none)
    (nf_Member__label : PySem.W.findIn K (.ref C_Member) "_label" = some none)
    (mk_Member : PySem.W.makesIn K C_Member = true)
    (kc_Member : PySem.W.keepIn K (.ref C_Member) = true)
    (a_h_source : PySem.W.nsIn K mainGlobals "_law_source" = some (some (.ref f_h_source)))
    (l_h_source : K.lookup f_h_source = some ⟨och_source, odh_source, .func (PySem.W.fnOf "_law_source" "_law_source" (defArgs s_h_source) (defBody s_h_source) (defScope s_h_source) .none kVh_source dch_source pmh_source anh_source cdh_source cth_source), slh_source⟩)
    (c_h_source : PySem.W.codeIn K cdh_source "_law_source" = true)
    (k_h_source : PySem.W.keepIn K (.ref f_h_source) = true)
    (a_h_next : PySem.W.nsIn K mainGlobals "_law_next" = some (some (.ref f_h_next)))
    (l_h_next : K.lookup f_h_next = some ⟨och_next, odh_next, .func (PySem.W.fnOf "_law_next" "_law_next" (defArgs s_h_next) (defBody s_h_next) (defScope s_h_next) .none kVh_next dch_next pmh_next anh_next cdh_next cth_next), slh_next⟩)
    (c_h_next : PySem.W.codeIn K cdh_next "_law_next" = true)
    (k_h_next : PySem.W.keepIn K (.ref f_h_next) = true)
    (a_is_name : PySem.W.nsIn K mainGlobals "is_name" = some (some (.ref f_is_name)))
    (l_is_name : K.lookup f_is_name = some ⟨ocis_name, odis_name, .func (PySem.W.fnOf "is_name" "is_name" (defArgs s_is_name) (defBody s_is_name) (defScope s_is_name) .none kVis_name dcis_name pmis_name anis_name cdis_name ctis_name), slis_name⟩)
    (c_is_name : PySem.W.codeIn K cdis_name "is_name" = true)
    (k_is_name : PySem.W.keepIn K (.ref f_is_name) = true)
    (a_are_names : PySem.W.nsIn K mainGlobals "are_names" = some (some (.ref f_are_names)))
    (l_are_names : K.lookup f_are_names = some ⟨ocare_names, odare_names, .func (PySem.W.fnOf "are_names" "are_names" (defArgs s_are_names) (defBody s_are_names) (defScope s_are_names) .none kVare_names dcare_names pmare_names anare_names cdare_names ctare_names), slare_names⟩)
    (c_are_names : PySem.W.codeIn K cdare_names "are_names" = true)
    (k_are_names : PySem.W.keepIn K (.ref f_are_names) = true)
    (a_are_different_names : PySem.W.nsIn K mainGlobals "are_different_names" = some (some (.ref f_are_different_names)))
    (l_are_different_names : K.lookup f_are_different_names = some ⟨ocare_different_names, odare_different_names, .func (PySem.W.fnOf "are_different_names" "are_different_names" (defArgs s_are_different_names) (defBody s_are_different_names) (defScope s_are_different_names) .none kVare_different_names dcare_different_names pmare_different_names anare_different_names cdare_different_names ctare_different_names), slare_different_names⟩)
    (c_are_different_names : PySem.W.codeIn K cdare_different_names "are_different_names" = true)
    (k_are_different_names : PySem.W.keepIn K (.ref f_are_different_names) = true)
    (a_Merge__prepare : PySem.W.findIn K (.ref C_Merge) "_prepare" = some (some (.ref f_Merge__prepare)))
    (if_Merge__prepare : PySem.W.isFn K (.ref f_Merge__prepare) = true)
    (l_Merge__prepare : K.lookup f_Merge__prepare = some ⟨ocMerge__prepare, odMerge__prepare, .func (PySem.W.fnOf "_prepare" "Merge._prepare" (defArgs s_Merge__prepare) (defBody s_Merge__prepare) (defScope s_Merge__prepare) .none kVMerge__prepare dcMerge__prepare pmMerge__prepare anMerge__prepare cdMerge__prepare ctMerge__prepare), slMerge__prepare⟩)
    (c_Merge__prepare : PySem.W.codeIn K cdMerge__prepare "Merge._prepare" = true)
    (k_Merge__prepare : PySem.W.keepIn K (.ref f_Merge__prepare) = true)
    (a_Merge__advance : PySem.W.findIn K (.ref C_Merge) "_advance" = some (some (.ref f_Merge__advance)))
    (if_Merge__advance : PySem.W.isFn K (.ref f_Merge__advance) = true)
    (l_Merge__advance : K.lookup f_Merge__advance = some ⟨ocMerge__advance, odMerge__advance, .func (PySem.W.fnOf "_advance" "Merge._advance" (defArgs s_Merge__advance) (defBody s_Merge__advance) (defScope s_Merge__advance) .none kVMerge__advance dcMerge__advance pmMerge__advance anMerge__advance cdMerge__advance ctMerge__advance), slMerge__advance⟩)
    (c_Merge__advance : PySem.W.codeIn K cdMerge__advance "Merge._advance" = true)
    (k_Merge__advance : PySem.W.keepIn K (.ref f_Merge__advance) = true)
    (a_Merge_drop : PySem.W.findIn K (.ref C_Merge) "drop" = some (some (.ref f_Merge_drop)))
    (if_Merge_drop : PySem.W.isFn K (.ref f_Merge_drop) = true)
    (l_Merge_drop : K.lookup f_Merge_drop = some ⟨ocMerge_drop, odMerge_drop, .func (PySem.W.fnOf "drop" "Merge.drop" (defArgs s_Merge_drop) (defBody s_Merge_drop) (defScope s_Merge_drop) .none kVMerge_drop dcMerge_drop pmMerge_drop anMerge_drop cdMerge_drop ctMerge_drop), slMerge_drop⟩)
    (c_Merge_drop : PySem.W.codeIn K cdMerge_drop "Merge.drop" = true)
    (k_Merge_drop : PySem.W.keepIn K (.ref f_Merge_drop) = true)
    (a_Merge_draw : PySem.W.findIn K (.ref C_Merge) "draw" = some (some (.ref f_Merge_draw)))
    (if_Merge_draw : PySem.W.isFn K (.ref f_Merge_draw) = true)
    (l_Merge_draw : K.lookup f_Merge_draw = some ⟨ocMerge_draw, odMerge_draw, .func (PySem.W.fnOf "draw" "Merge.draw" (defArgs s_Merge_draw) (defBody s_Merge_draw) (defScope s_Merge_draw) .none kVMerge_draw dcMerge_draw pmMerge_draw anMerge_draw cdMerge_draw ctMerge_draw), slMerge_draw⟩)
    (c_Merge_draw : PySem.W.codeIn K cdMerge_draw "Merge.draw" = true)
    (k_Merge_draw : PySem.W.keepIn K (.ref f_Merge_draw) = true)
    (a_places : PySem.W.nsIn K mainGlobals "_places" = some (some (.ref f_places)))
    (l_places : K.lookup f_places = some ⟨ocplaces, odplaces, .func (PySem.W.fnOf "_places" "_places" (defArgs s_places) (defBody s_places) (defScope s_places) .none kVplaces dcplaces pmplaces anplaces cdplaces ctplaces), slplaces⟩)
    (c_places : PySem.W.codeIn K cdplaces "_places" = true)
    (k_places : PySem.W.keepIn K (.ref f_places) = true)
    (a_Merge___init : PySem.W.findIn K (.ref C_Merge) "__init__" = some (some (.ref f_Merge___init)))
    (if_Merge___init : PySem.W.isFn K (.ref f_Merge___init) = true)
    (l_Merge___init : K.lookup f_Merge___init = some ⟨ocMerge___init, odMerge___init, .func (PySem.W.fnOf "__init__" "Merge.__init__" (defArgs s_Merge___init) (defBody s_Merge___init) (defScope s_Merge___init) .none kVMerge___init dcMerge___init pmMerge___init anMerge___init cdMerge___init ctMerge___init), slMerge___init⟩)
    (c_Merge___init : PySem.W.codeIn K cdMerge___init "Merge.__init__" = true)
    (k_Merge___init : PySem.W.keepIn K (.ref f_Merge___init) = true)
    (a_check_tuples : PySem.W.nsIn K mainGlobals "_check_tuples" = some (some (.ref f_check_tuples)))
    (l_check_tuples : K.lookup f_check_tuples = some ⟨occheck_tuples, odcheck_tuples, .func (PySem.W.fnOf "_check_tuples" "_check_tuples" (defArgs s_check_tuples) (defBody s_check_tuples) (defScope s_check_tuples) .none kVcheck_tuples dccheck_tuples pmcheck_tuples ancheck_tuples cdcheck_tuples ctcheck_tuples), slcheck_tuples⟩)
    (c_check_tuples : PySem.W.codeIn K cdcheck_tuples "_check_tuples" = true)
    (k_check_tuples : PySem.W.keepIn K (.ref f_check_tuples) = true)
    (a_merged : PySem.W.nsIn K mainGlobals "merged" = some (some (.ref f_merged)))
    (l_merged : K.lookup f_merged = some ⟨ocmerged, odmerged, .func (PySem.W.fnOf "merged" "merged" (defArgs s_merged) (defBody s_merged) (defScope s_merged) .none kVmerged dcmerged pmmerged anmerged cdmerged ctmerged), slmerged⟩)
    (c_merged : PySem.W.codeIn K cdmerged "merged" = true)
    (k_merged : PySem.W.keepIn K (.ref f_merged) = true)
    (a_h_mixed : PySem.W.nsIn K mainGlobals "_law_mixed" = some (some (.ref f_h_mixed)))
    (l_h_mixed : K.lookup f_h_mixed = some ⟨och_mixed, odh_mixed, .func (PySem.W.fnOf "_law_mixed" "_law_mixed" (defArgs s_h_mixed) (defBody s_h_mixed) (defScope s_h_mixed) .none kVh_mixed dch_mixed pmh_mixed anh_mixed cdh_mixed cth_mixed), slh_mixed⟩)
    (c_h_mixed : PySem.W.codeIn K cdh_mixed "_law_mixed" = true)
    (k_h_mixed : PySem.W.keepIn K (.ref f_h_mixed) = true)
    (a_h_merged : PySem.W.nsIn K mainGlobals "_law_merged" = some (some (.ref f_h_merged)))
    (l_h_merged : K.lookup f_h_merged = some ⟨och_merged, odh_merged, .func (PySem.W.fnOf "_law_merged" "_law_merged" (defArgs s_h_merged) (defBody s_h_merged) (defScope s_h_merged) .none kVh_merged dch_merged pmh_merged anh_merged cdh_merged cth_merged), slh_merged⟩)
    (c_h_merged : PySem.W.codeIn K cdh_merged "_law_merged" = true)
    (k_h_merged : PySem.W.keepIn K (.ref f_h_merged) = true)
    (a_check_name : PySem.W.nsIn K mainGlobals "check_name" = some (some (.ref f_check_name)))
    (l_check_name : K.lookup f_check_name = some ⟨occheck_name, odcheck_name, .func (PySem.W.fnOf "check_name" "check_name" (defArgs s_check_name) (defBody s_check_name) (defScope s_check_name) .none kVcheck_name dccheck_name pmcheck_name ancheck_name cdcheck_name ctcheck_name), slcheck_name⟩)
    (c_check_name : PySem.W.codeIn K cdcheck_name "check_name" = true)
    (k_check_name : PySem.W.keepIn K (.ref f_check_name) = true)
    (a_World___init : PySem.W.findIn K (.ref C_World) "__init__" = some (some (.ref f_World___init)))
    (if_World___init : PySem.W.isFn K (.ref f_World___init) = true)
    (l_World___init : K.lookup f_World___init = some ⟨ocWorld___init, odWorld___init, .func (PySem.W.fnOf "__init__" "World.__init__" (defArgs s_World___init) (defBody s_World___init) (defScope s_World___init) .none kVWorld___init dcWorld___init pmWorld___init anWorld___init cdWorld___init ctWorld___init), slWorld___init⟩)
    (c_World___init : PySem.W.codeIn K cdWorld___init "World.__init__" = true)
    (k_World___init : PySem.W.keepIn K (.ref f_World___init) = true)
    (a_World___contains : PySem.W.findIn K (.ref C_World) "__contains__" = some (some (.ref f_World___contains)))
    (if_World___contains : PySem.W.isFn K (.ref f_World___contains) = true)
    (l_World___contains : K.lookup f_World___contains = some ⟨ocWorld___contains, odWorld___contains, .func (PySem.W.fnOf "__contains__" "World.__contains__" (defArgs s_World___contains) (defBody s_World___contains) (defScope s_World___contains) .none kVWorld___contains dcWorld___contains pmWorld___contains anWorld___contains cdWorld___contains ctWorld___contains), slWorld___contains⟩)
    (c_World___contains : PySem.W.codeIn K cdWorld___contains "World.__contains__" = true)
    (k_World___contains : PySem.W.keepIn K (.ref f_World___contains) = true)
    (a_check_class : PySem.W.nsIn K mainGlobals "check_class" = some (some (.ref f_check_class)))
    (l_check_class : K.lookup f_check_class = some ⟨occheck_class, odcheck_class, .func (PySem.W.fnOf "check_class" "check_class" (defArgs s_check_class) (defBody s_check_class) (defScope s_check_class) .none kVcheck_class dccheck_class pmcheck_class ancheck_class cdcheck_class ctcheck_class), slcheck_class⟩)
    (c_check_class : PySem.W.codeIn K cdcheck_class "check_class" = true)
    (k_check_class : PySem.W.keepIn K (.ref f_check_class) = true)
    (a_has_words : PySem.W.nsIn K mainGlobals "_has_words" = some (some (.ref f_has_words)))
    (l_has_words : K.lookup f_has_words = some ⟨ochas_words, odhas_words, .func (PySem.W.fnOf "_has_words" "_has_words" (defArgs s_has_words) (defBody s_has_words) (defScope s_has_words) .none kVhas_words dchas_words pmhas_words anhas_words cdhas_words cthas_words), slhas_words⟩)
    (c_has_words : PySem.W.codeIn K cdhas_words "_has_words" = true)
    (k_has_words : PySem.W.keepIn K (.ref f_has_words) = true)
    (a_is_change : PySem.W.nsIn K mainGlobals "is_change" = some (some (.ref f_is_change)))
    (l_is_change : K.lookup f_is_change = some ⟨ocis_change, odis_change, .func (PySem.W.fnOf "is_change" "is_change" (defArgs s_is_change) (defBody s_is_change) (defScope s_is_change) .none kVis_change dcis_change pmis_change anis_change cdis_change ctis_change), slis_change⟩)
    (c_is_change : PySem.W.codeIn K cdis_change "is_change" = true)
    (k_is_change : PySem.W.keepIn K (.ref f_is_change) = true)
    (a_World_copy : PySem.W.findIn K (.ref C_World) "copy" = some (some (.ref f_World_copy)))
    (if_World_copy : PySem.W.isFn K (.ref f_World_copy) = true)
    (l_World_copy : K.lookup f_World_copy = some ⟨ocWorld_copy, odWorld_copy, .func (PySem.W.fnOf "copy" "World.copy" (defArgs s_World_copy) (defBody s_World_copy) (defScope s_World_copy) .none kVWorld_copy dcWorld_copy pmWorld_copy anWorld_copy cdWorld_copy ctWorld_copy), slWorld_copy⟩)
    (c_World_copy : PySem.W.codeIn K cdWorld_copy "World.copy" = true)
    (k_World_copy : PySem.W.keepIn K (.ref f_World_copy) = true)
    (a_World_linearizations : PySem.W.findIn K (.ref C_World) "linearizations" = some (some (.ref p_World_linearizations)))
    (pr_World_linearizations : PySem.W.recIn K p_World_linearizations "property" = some (.ref f_World_linearizations :: rest_World_linearizations))
    (pg_World_linearizations : PySem.W.specialIn K (.ref p_World_linearizations) "__get__" = some (some (.builtin "property.__get__")))
    (pt_World_linearizations : PySem.W.takesIn K (.ref p_World_linearizations) = some true)
    (l_World_linearizations : K.lookup f_World_linearizations = some ⟨ocWorld_linearizations, odWorld_linearizations, .func (PySem.W.fnOf "linearizations" "World.linearizations" (defArgs s_World_linearizations) (defBody s_World_linearizations) (defScope s_World_linearizations) .none kVWorld_linearizations dcWorld_linearizations pmWorld_linearizations anWorld_linearizations cdWorld_linearizations ctWorld_linearizations), slWorld_linearizations⟩)
    (c_World_linearizations : PySem.W.codeIn K cdWorld_linearizations "World.linearizations" = true)
    (k_World_linearizations : PySem.W.keepIn K (.ref f_World_linearizations) = true)
    (a_is_row : PySem.W.nsIn K mainGlobals "is_row" = some (some (.ref f_is_row)))
    (l_is_row : K.lookup f_is_row = some ⟨ocis_row, odis_row, .func (PySem.W.fnOf "is_row" "is_row" (defArgs s_is_row) (defBody s_is_row) (defScope s_is_row) .none kVis_row dcis_row pmis_row anis_row cdis_row ctis_row), slis_row⟩)
    (c_is_row : PySem.W.codeIn K cdis_row "is_row" = true)
    (k_is_row : PySem.W.keepIn K (.ref f_is_row) = true)
    (a_are_words : PySem.W.nsIn K mainGlobals "_are_words" = some (some (.ref f_are_words)))
    (l_are_words : K.lookup f_are_words = some ⟨ocare_words, odare_words, .func (PySem.W.fnOf "_are_words" "_are_words" (defArgs s_are_words) (defBody s_are_words) (defScope s_are_words) .none kVare_words dcare_words pmare_words anare_words cdare_words ctare_words), slare_words⟩)
    (c_are_words : PySem.W.codeIn K cdare_words "_are_words" = true)
    (k_are_words : PySem.W.keepIn K (.ref f_are_words) = true)
    (a_is_method : PySem.W.nsIn K mainGlobals "is_method" = some (some (.ref f_is_method)))
    (l_is_method : K.lookup f_is_method = some ⟨ocis_method, odis_method, .func (PySem.W.fnOf "is_method" "is_method" (defArgs s_is_method) (defBody s_is_method) (defScope s_is_method) .none kVis_method dcis_method pmis_method anis_method cdis_method ctis_method), slis_method⟩)
    (c_is_method : PySem.W.codeIn K cdis_method "is_method" = true)
    (k_is_method : PySem.W.keepIn K (.ref f_is_method) = true)
    (a_World__check_bases : PySem.W.findIn K (.ref C_World) "_check_bases" = some (some (.ref f_World__check_bases)))
    (if_World__check_bases : PySem.W.isFn K (.ref f_World__check_bases) = true)
    (l_World__check_bases : K.lookup f_World__check_bases = some ⟨ocWorld__check_bases, odWorld__check_bases, .func (PySem.W.fnOf "_check_bases" "World._check_bases" (defArgs s_World__check_bases) (defBody s_World__check_bases) (defScope s_World__check_bases) .none kVWorld__check_bases dcWorld__check_bases pmWorld__check_bases anWorld__check_bases cdWorld__check_bases ctWorld__check_bases), slWorld__check_bases⟩)
    (c_World__check_bases : PySem.W.codeIn K cdWorld__check_bases "World._check_bases" = true)
    (k_World__check_bases : PySem.W.keepIn K (.ref f_World__check_bases) = true)
    (a_World__check_methods : PySem.W.findIn K (.ref C_World) "_check_methods" = some (some (.ref f_World__check_methods)))
    (if_World__check_methods : PySem.W.isFn K (.ref f_World__check_methods) = true)
    (l_World__check_methods : K.lookup f_World__check_methods = some ⟨ocWorld__check_methods, odWorld__check_methods, .func (PySem.W.fnOf "_check_methods" "World._check_methods" (defArgs s_World__check_methods) (defBody s_World__check_methods) (defScope s_World__check_methods) .none kVWorld__check_methods dcWorld__check_methods pmWorld__check_methods anWorld__check_methods cdWorld__check_methods ctWorld__check_methods), slWorld__check_methods⟩)
    (c_World__check_methods : PySem.W.codeIn K cdWorld__check_methods "World._check_methods" = true)
    (k_World__check_methods : PySem.W.keepIn K (.ref f_World__check_methods) = true)
    (a_linearized : PySem.W.nsIn K mainGlobals "_linearized" = some (some (.ref f_linearized)))
    (l_linearized : K.lookup f_linearized = some ⟨oclinearized, odlinearized, .func (PySem.W.fnOf "_linearized" "_linearized" (defArgs s_linearized) (defBody s_linearized) (defScope s_linearized) .none kVlinearized dclinearized pmlinearized anlinearized cdlinearized ctlinearized), sllinearized⟩)
    (c_linearized : PySem.W.codeIn K cdlinearized "_linearized" = true)
    (k_linearized : PySem.W.keepIn K (.ref f_linearized) = true)
    (a_World__define : PySem.W.findIn K (.ref C_World) "_define" = some (some (.ref f_World__define)))
    (gf_World__define : PySem.W.specialIn K (.ref f_World__define) "__get__" = some (some (.builtin "function.__get__")))
    (tk_World__define : PySem.W.takesIn K (.ref f_World__define) = some false)
    (fi_World__define : PySem.W.fnIn K f_World__define = true)
    (if_World__define : PySem.W.isFn K (.ref f_World__define) = true)
    (l_World__define : K.lookup f_World__define = some ⟨ocWorld__define, odWorld__define, .func (PySem.W.fnOf "_define" "World._define" (defArgs s_World__define) (defBody s_World__define) (defScope s_World__define) .none kVWorld__define dcWorld__define pmWorld__define anWorld__define cdWorld__define ctWorld__define), slWorld__define⟩)
    (c_World__define : PySem.W.codeIn K cdWorld__define "World._define" = true)
    (k_World__define : PySem.W.keepIn K (.ref f_World__define) = true)
    (a_World__carry_out : PySem.W.findIn K (.ref C_World) "_carry_out" = some (some (.ref f_World__carry_out)))
    (if_World__carry_out : PySem.W.isFn K (.ref f_World__carry_out) = true)
    (l_World__carry_out : K.lookup f_World__carry_out = some ⟨ocWorld__carry_out, odWorld__carry_out, .func (PySem.W.fnOf "_carry_out" "World._carry_out" (defArgs s_World__carry_out) (defBody s_World__carry_out) (defScope s_World__carry_out) .none kVWorld__carry_out dcWorld__carry_out pmWorld__carry_out anWorld__carry_out cdWorld__carry_out ctWorld__carry_out), slWorld__carry_out⟩)
    (c_World__carry_out : PySem.W.codeIn K cdWorld__carry_out "World._carry_out" = true)
    (k_World__carry_out : PySem.W.keepIn K (.ref f_World__carry_out) = true)
    (a_World_perform : PySem.W.findIn K (.ref C_World) "perform" = some (some (.ref f_World_perform)))
    (if_World_perform : PySem.W.isFn K (.ref f_World_perform) = true)
    (l_World_perform : K.lookup f_World_perform = some ⟨ocWorld_perform, odWorld_perform, .func (PySem.W.fnOf "perform" "World.perform" (defArgs s_World_perform) (defBody s_World_perform) (defScope s_World_perform) .none kVWorld_perform dcWorld_perform pmWorld_perform anWorld_perform cdWorld_perform ctWorld_perform), slWorld_perform⟩)
    (c_World_perform : PySem.W.codeIn K cdWorld_perform "World.perform" = true)
    (k_World_perform : PySem.W.keepIn K (.ref f_World_perform) = true)
    (a_h_line : PySem.W.nsIn K mainGlobals "_law_line" = some (some (.ref f_h_line)))
    (l_h_line : K.lookup f_h_line = some ⟨och_line, odh_line, .func (PySem.W.fnOf "_law_line" "_law_line" (defArgs s_h_line) (defBody s_h_line) (defScope s_h_line) .none kVh_line dch_line pmh_line anh_line cdh_line cth_line), slh_line⟩)
    (c_h_line : PySem.W.codeIn K cdh_line "_law_line" = true)
    (k_h_line : PySem.W.keepIn K (.ref f_h_line) = true)
    (a_h_rows : PySem.W.nsIn K mainGlobals "_law_rows" = some (some (.ref f_h_rows)))
    (l_h_rows : K.lookup f_h_rows = some ⟨och_rows, odh_rows, .func (PySem.W.fnOf "_law_rows" "_law_rows" (defArgs s_h_rows) (defBody s_h_rows) (defScope s_h_rows) .none kVh_rows dch_rows pmh_rows anh_rows cdh_rows cth_rows), slh_rows⟩)
    (c_h_rows : PySem.W.codeIn K cdh_rows "_law_rows" = true)
    (k_h_rows : PySem.W.keepIn K (.ref f_h_rows) = true)
    (a_World_names : PySem.W.findIn K (.ref C_World) "names" = some (some (.ref p_World_names)))
    (pr_World_names : PySem.W.recIn K p_World_names "property" = some (.ref f_World_names :: rest_World_names))
    (pg_World_names : PySem.W.specialIn K (.ref p_World_names) "__get__" = some (some (.builtin "property.__get__")))
    (pt_World_names : PySem.W.takesIn K (.ref p_World_names) = some true)
    (l_World_names : K.lookup f_World_names = some ⟨ocWorld_names, odWorld_names, .func (PySem.W.fnOf "names" "World.names" (defArgs s_World_names) (defBody s_World_names) (defScope s_World_names) .none kVWorld_names dcWorld_names pmWorld_names anWorld_names cdWorld_names ctWorld_names), slWorld_names⟩)
    (c_World_names : PySem.W.codeIn K cdWorld_names "World.names" = true)
    (k_World_names : PySem.W.keepIn K (.ref f_World_names) = true)
    (a_World___len : PySem.W.findIn K (.ref C_World) "__len__" = some (some (.ref f_World___len)))
    (if_World___len : PySem.W.isFn K (.ref f_World___len) = true)
    (l_World___len : K.lookup f_World___len = some ⟨ocWorld___len, odWorld___len, .func (PySem.W.fnOf "__len__" "World.__len__" (defArgs s_World___len) (defBody s_World___len) (defScope s_World___len) .none kVWorld___len dcWorld___len pmWorld___len anWorld___len cdWorld___len ctWorld___len), slWorld___len⟩)
    (c_World___len : PySem.W.codeIn K cdWorld___len "World.__len__" = true)
    (k_World___len : PySem.W.keepIn K (.ref f_World___len) = true)
    (a_Member___init : PySem.W.findIn K (.ref C_Member) "__init__" = some (some (.ref f_Member___init)))
    (if_Member___init : PySem.W.isFn K (.ref f_Member___init) = true)
    (l_Member___init : K.lookup f_Member___init = some ⟨ocMember___init, odMember___init, .func (PySem.W.fnOf "__init__" "Member.__init__" (defArgs s_Member___init) (defBody s_Member___init) (defScope s_Member___init) .none kVMember___init dcMember___init pmMember___init anMember___init cdMember___init ctMember___init), slMember___init⟩)
    (c_Member___init : PySem.W.codeIn K cdMember___init "Member.__init__" = true)
    (k_Member___init : PySem.W.keepIn K (.ref f_Member___init) = true)
    (a_World_member : PySem.W.findIn K (.ref C_World) "member" = some (some (.ref f_World_member)))
    (if_World_member : PySem.W.isFn K (.ref f_World_member) = true)
    (l_World_member : K.lookup f_World_member = some ⟨ocWorld_member, odWorld_member, .func (PySem.W.fnOf "member" "World.member" (defArgs s_World_member) (defBody s_World_member) (defScope s_World_member) .none kVWorld_member dcWorld_member pmWorld_member anWorld_member cdWorld_member ctWorld_member), slWorld_member⟩)
    (c_World_member : PySem.W.codeIn K cdWorld_member "World.member" = true)
    (k_World_member : PySem.W.keepIn K (.ref f_World_member) = true)
    (a_found : PySem.W.nsIn K mainGlobals "_found" = some (some (.ref f_found)))
    (l_found : K.lookup f_found = some ⟨ocfound, odfound, .func (PySem.W.fnOf "_found" "_found" (defArgs s_found) (defBody s_found) (defScope s_found) .none kVfound dcfound pmfound anfound cdfound ctfound), slfound⟩)
    (c_found : PySem.W.codeIn K cdfound "_found" = true)
    (k_found : PySem.W.keepIn K (.ref f_found) = true)
    (a_Member_bases : PySem.W.findIn K (.ref C_Member) "bases" = some (some (.ref p_Member_bases)))
    (pr_Member_bases : PySem.W.recIn K p_Member_bases "property" = some (.ref f_Member_bases :: rest_Member_bases))
    (pg_Member_bases : PySem.W.specialIn K (.ref p_Member_bases) "__get__" = some (some (.builtin "property.__get__")))
    (pt_Member_bases : PySem.W.takesIn K (.ref p_Member_bases) = some true)
    (l_Member_bases : K.lookup f_Member_bases = some ⟨ocMember_bases, odMember_bases, .func (PySem.W.fnOf "bases" "Member.bases" (defArgs s_Member_bases) (defBody s_Member_bases) (defScope s_Member_bases) .none kVMember_bases dcMember_bases pmMember_bases anMember_bases cdMember_bases ctMember_bases), slMember_bases⟩)
    (c_Member_bases : PySem.W.codeIn K cdMember_bases "Member.bases" = true)
    (k_Member_bases : PySem.W.keepIn K (.ref f_Member_bases) = true)
    (a_Member_linearization : PySem.W.findIn K (.ref C_Member) "linearization" = some (some (.ref p_Member_linearization)))
    (pr_Member_linearization : PySem.W.recIn K p_Member_linearization "property" = some (.ref f_Member_linearization :: rest_Member_linearization))
    (pg_Member_linearization : PySem.W.specialIn K (.ref p_Member_linearization) "__get__" = some (some (.builtin "property.__get__")))
    (pt_Member_linearization : PySem.W.takesIn K (.ref p_Member_linearization) = some true)
    (l_Member_linearization : K.lookup f_Member_linearization = some ⟨ocMember_linearization, odMember_linearization, .func (PySem.W.fnOf "linearization" "Member.linearization" (defArgs s_Member_linearization) (defBody s_Member_linearization) (defScope s_Member_linearization) .none kVMember_linearization dcMember_linearization pmMember_linearization anMember_linearization cdMember_linearization ctMember_linearization), slMember_linearization⟩)
    (c_Member_linearization : PySem.W.codeIn K cdMember_linearization "Member.linearization" = true)
    (k_Member_linearization : PySem.W.keepIn K (.ref f_Member_linearization) = true)
    (a_Member_methods : PySem.W.findIn K (.ref C_Member) "methods" = some (some (.ref p_Member_methods)))
    (pr_Member_methods : PySem.W.recIn K p_Member_methods "property" = some (.ref f_Member_methods :: rest_Member_methods))
    (pg_Member_methods : PySem.W.specialIn K (.ref p_Member_methods) "__get__" = some (some (.builtin "property.__get__")))
    (pt_Member_methods : PySem.W.takesIn K (.ref p_Member_methods) = some true)
    (l_Member_methods : K.lookup f_Member_methods = some ⟨ocMember_methods, odMember_methods, .func (PySem.W.fnOf "methods" "Member.methods" (defArgs s_Member_methods) (defBody s_Member_methods) (defScope s_Member_methods) .none kVMember_methods dcMember_methods pmMember_methods anMember_methods cdMember_methods ctMember_methods), slMember_methods⟩)
    (c_Member_methods : PySem.W.codeIn K cdMember_methods "Member.methods" = true)
    (k_Member_methods : PySem.W.keepIn K (.ref f_Member_methods) = true)
    (a_h_pick : PySem.W.nsIn K mainGlobals "_law_pick" = some (some (.ref f_h_pick)))
    (l_h_pick : K.lookup f_h_pick = some ⟨och_pick, odh_pick, .func (PySem.W.fnOf "_law_pick" "_law_pick" (defArgs s_h_pick) (defBody s_h_pick) (defScope s_h_pick) .none kVh_pick dch_pick pmh_pick anh_pick cdh_pick cth_pick), slh_pick⟩)
    (c_h_pick : PySem.W.codeIn K cdh_pick "_law_pick" = true)
    (k_h_pick : PySem.W.keepIn K (.ref f_h_pick) = true)
    (a_h_word_row : PySem.W.nsIn K mainGlobals "_law_word_row" = some (some (.ref f_h_word_row)))
    (l_h_word_row : K.lookup f_h_word_row = some ⟨och_word_row, odh_word_row, .func (PySem.W.fnOf "_law_word_row" "_law_word_row" (defArgs s_h_word_row) (defBody s_h_word_row) (defScope s_h_word_row) .none kVh_word_row dch_word_row pmh_word_row anh_word_row cdh_word_row cth_word_row), slh_word_row⟩)
    (c_h_word_row : PySem.W.codeIn K cdh_word_row "_law_word_row" = true)
    (k_h_word_row : PySem.W.keepIn K (.ref f_h_word_row) = true)
    (a_h_method : PySem.W.nsIn K mainGlobals "_law_method" = some (some (.ref f_h_method)))
    (l_h_method : K.lookup f_h_method = some ⟨och_method, odh_method, .func (PySem.W.fnOf "_law_method" "_law_method" (defArgs s_h_method) (defBody s_h_method) (defScope s_h_method) .none kVh_method dch_method pmh_method anh_method cdh_method cth_method), slh_method⟩)
    (c_h_method : PySem.W.codeIn K cdh_method "_law_method" = true)
    (k_h_method : PySem.W.keepIn K (.ref f_h_method) = true)
    (a_h_methods : PySem.W.nsIn K mainGlobals "_law_methods" = some (some (.ref f_h_methods)))
    (l_h_methods : K.lookup f_h_methods = some ⟨och_methods, odh_methods, .func (PySem.W.fnOf "_law_methods" "_law_methods" (defArgs s_h_methods) (defBody s_h_methods) (defScope s_h_methods) .none kVh_methods dch_methods pmh_methods anh_methods cdh_methods cth_methods), slh_methods⟩)
    (c_h_methods : PySem.W.codeIn K cdh_methods "_law_methods" = true)
    (k_h_methods : PySem.W.keepIn K (.ref f_h_methods) = true)
    (a_h_lines : PySem.W.nsIn K mainGlobals "_law_lines" = some (some (.ref f_h_lines)))
    (l_h_lines : K.lookup f_h_lines = some ⟨och_lines, odh_lines, .func (PySem.W.fnOf "_law_lines" "_law_lines" (defArgs s_h_lines) (defBody s_h_lines) (defScope s_h_lines) .none kVh_lines dch_lines pmh_lines anh_lines cdh_lines cth_lines), slh_lines⟩)
    (c_h_lines : PySem.W.codeIn K cdh_lines "_law_lines" = true)
    (k_h_lines : PySem.W.keepIn K (.ref f_h_lines) = true)
    (a_h_state : PySem.W.nsIn K mainGlobals "_law_state" = some (some (.ref f_h_state)))
    (l_h_state : K.lookup f_h_state = some ⟨och_state, odh_state, .func (PySem.W.fnOf "_law_state" "_law_state" (defArgs s_h_state) (defBody s_h_state) (defScope s_h_state) .none kVh_state dch_state pmh_state anh_state cdh_state cth_state), slh_state⟩)
    (c_h_state : PySem.W.codeIn K cdh_state "_law_state" = true)
    (k_h_state : PySem.W.keepIn K (.ref f_h_state) = true)
    (a_h_due_state : PySem.W.nsIn K mainGlobals "_law_due_state" = some (some (.ref f_h_due_state)))
    (l_h_due_state : K.lookup f_h_due_state = some ⟨och_due_state, odh_due_state, .func (PySem.W.fnOf "_law_due_state" "_law_due_state" (defArgs s_h_due_state) (defBody s_h_due_state) (defScope s_h_due_state) .none kVh_due_state dch_due_state pmh_due_state anh_due_state cdh_due_state cth_due_state), slh_due_state⟩)
    (c_h_due_state : PySem.W.codeIn K cdh_due_state "_law_due_state" = true)
    (k_h_due_state : PySem.W.keepIn K (.ref f_h_due_state) = true)
    (a_World_define : PySem.W.findIn K (.ref C_World) "define" = some (some (.ref f_World_define)))
    (if_World_define : PySem.W.isFn K (.ref f_World_define) = true)
    (l_World_define : K.lookup f_World_define = some ⟨ocWorld_define, odWorld_define, .func (PySem.W.fnOf "define" "World.define" (defArgs s_World_define) (defBody s_World_define) (defScope s_World_define) .none kVWorld_define dcWorld_define pmWorld_define anWorld_define cdWorld_define ctWorld_define), slWorld_define⟩)
    (c_World_define : PySem.W.codeIn K cdWorld_define "World.define" = true)
    (k_World_define : PySem.W.keepIn K (.ref f_World_define) = true)
    (a_World___getitem : PySem.W.findIn K (.ref C_World) "__getitem__" = some (some (.ref f_World___getitem)))
    (gf_World___getitem : PySem.W.specialIn K (.ref f_World___getitem) "__get__" = some (some (.builtin "function.__get__")))
    (tk_World___getitem : PySem.W.takesIn K (.ref f_World___getitem) = some false)
    (fi_World___getitem : PySem.W.fnIn K f_World___getitem = true)
    (if_World___getitem : PySem.W.isFn K (.ref f_World___getitem) = true)
    (l_World___getitem : K.lookup f_World___getitem = some ⟨ocWorld___getitem, odWorld___getitem, .func (PySem.W.fnOf "__getitem__" "World.__getitem__" (defArgs s_World___getitem) (defBody s_World___getitem) (defScope s_World___getitem) .none kVWorld___getitem dcWorld___getitem pmWorld___getitem anWorld___getitem cdWorld___getitem ctWorld___getitem), slWorld___getitem⟩)
    (c_World___getitem : PySem.W.codeIn K cdWorld___getitem "World.__getitem__" = true)
    (k_World___getitem : PySem.W.keepIn K (.ref f_World___getitem) = true)
    (a_Member_label : PySem.W.findIn K (.ref C_Member) "label" = some (some (.ref p_Member_label)))
    (pr_Member_label : PySem.W.recIn K p_Member_label "property" = some (.ref f_Member_label :: rest_Member_label))
    (pg_Member_label : PySem.W.specialIn K (.ref p_Member_label) "__get__" = some (some (.builtin "property.__get__")))
    (pt_Member_label : PySem.W.takesIn K (.ref p_Member_label) = some true)
    (l_Member_label : K.lookup f_Member_label = some ⟨ocMember_label, odMember_label, .func (PySem.W.fnOf "label" "Member.label" (defArgs s_Member_label) (defBody s_Member_label) (defScope s_Member_label) .none kVMember_label dcMember_label pmMember_label anMember_label cdMember_label ctMember_label), slMember_label⟩)
    (c_Member_label : PySem.W.codeIn K cdMember_label "Member.label" = true)
    (k_Member_label : PySem.W.keepIn K (.ref f_Member_label) = true)
    (a_h_defined : PySem.W.nsIn K mainGlobals "_law_defined" = some (some (.ref f_h_defined)))
    (l_h_defined : K.lookup f_h_defined = some ⟨och_defined, odh_defined, .func (PySem.W.fnOf "_law_defined" "_law_defined" (defArgs s_h_defined) (defBody s_h_defined) (defScope s_h_defined) .none kVh_defined dch_defined pmh_defined anh_defined cdh_defined cth_defined), slh_defined⟩)
    (c_h_defined : PySem.W.codeIn K cdh_defined "_law_defined" = true)
    (k_h_defined : PySem.W.keepIn K (.ref f_h_defined) = true)
    (a_h_right : PySem.W.nsIn K mainGlobals "_law_right" = some (some (.ref f_h_right)))
    (l_h_right : K.lookup f_h_right = some ⟨och_right, odh_right, .func (PySem.W.fnOf "_law_right" "_law_right" (defArgs s_h_right) (defBody s_h_right) (defScope s_h_right) .none kVh_right dch_right pmh_right anh_right cdh_right cth_right), slh_right⟩)
    (c_h_right : PySem.W.codeIn K cdh_right "_law_right" = true)
    (k_h_right : PySem.W.keepIn K (.ref f_h_right) = true)
    (a_law : PySem.W.nsIn K mainGlobals "law" = some (some (.ref f_law)))
    (l_law : K.lookup f_law = some ⟨oclaw, odlaw, .func (PySem.W.fnOf "law" "law" (defArgs s_law) (defBody s_law) (defScope s_law) .none kVlaw dclaw pmlaw anlaw cdlaw ctlaw), sllaw⟩)
    (c_law : PySem.W.codeIn K cdlaw "law" = true)
    (k_law : PySem.W.keepIn K (.ref f_law) = true)
    (a_Clash : PySem.W.nsIn K mainGlobals "Clash" = some (some (.ref C_Clash)))
    (e_Clash : errB K C_Clash [.type "ArithmeticError", .type "Exception", .type "BaseException", .type "object"] "ArithmeticError.__new__" ["name", "tuples", "steps"] = true)
    (n_Clash : PySem.W.findIn K (.ref C_Clash) "__init__" = some (some (.ref i_Clash)))
    (t_Clash : PySem.W.typeIn K (.ref i_Clash) = some (.type "function"))
    (l_IClash : K.lookup i_Clash = some ⟨ocIClash, odIClash, .func (PySem.W.fnOf "__init__" "Clash.__init__" (defArgs sI_Clash) (defBody sI_Clash) (defScope sI_Clash) .none kVIClash dcIClash pmIClash anIClash cdIClash ctIClash), slIClash⟩)
    (c_IClash : PySem.W.codeIn K cdIClash "Clash.__init__" = true)
    (k_IClash : PySem.W.keepIn K (.ref i_Clash) = true)
    (z_len : PySem.W.nsIn K mainGlobals "len" = some none)
    (z_isinstance : PySem.W.nsIn K mainGlobals "isinstance" = some none)
    (z_str : PySem.W.nsIn K mainGlobals "str" = some none)
    (z_tuple : PySem.W.nsIn K mainGlobals "tuple" = some none)
    (z_all : PySem.W.nsIn K mainGlobals "all" = some none)
    (z_set : PySem.W.nsIn K mainGlobals "set" = some none)
    (z_list : PySem.W.nsIn K mainGlobals "list" = some none)
    (z_range : PySem.W.nsIn K mainGlobals "range" = some none)
    (z_enumerate : PySem.W.nsIn K mainGlobals "enumerate" = some none)
    (z_repr : PySem.W.nsIn K mainGlobals "repr" = some none)
    (z_max : PySem.W.nsIn K mainGlobals "max" = some none)
    (z_min : PySem.W.nsIn K mainGlobals "min" = some none)
    (z_sorted : PySem.W.nsIn K mainGlobals "sorted" = some none)
    (z_dict : PySem.W.nsIn K mainGlobals "dict" = some none)
    (mm_LONGEST_NAME : PySem.W.nsIn K mainGlobals "_LONGEST_NAME" = some (some (.int 8 t_LONGEST_NAME)))
    (mm_LONGEST_ROW : PySem.W.nsIn K mainGlobals "_LONGEST_ROW" = some (some (.int 4 t_LONGEST_ROW)))
    (mm_PARTS_methods : PySem.W.nsIn K mainGlobals "PARTS_methods" = some (some (.int 4 t_PARTS_methods)))
    (mm_MOST_WORDS : PySem.W.nsIn K mainGlobals "_MOST_WORDS" = some (some (.int 4 t_MOST_WORDS)))
    (mm_BASES : PySem.W.nsIn K mainGlobals "_BASES" = some (some (.int 0 t_BASES)))
    (mm_METHODS : PySem.W.nsIn K mainGlobals "_METHODS" = some (some (.int 1 t_METHODS)))
    (mm_LINE : PySem.W.nsIn K mainGlobals "_LINE" = some (some (.int 2 t_LINE)))
    (ca_MAX_BASES : PySem.W.findIn K (.ref C_World) "MAX_BASES" = some (some (.int 8 t_MAX_BASES)))
    (cg_MAX_BASES : PySem.W.specialIn K (.int 8 t_MAX_BASES) "__get__" = some none)
    (ca_MAX_CLASSES : PySem.W.findIn K (.ref C_World) "MAX_CLASSES" = some (some (.int 24 t_MAX_CLASSES)))
    (cg_MAX_CLASSES : PySem.W.specialIn K (.int 24 t_MAX_CLASSES) "__get__" = some none)
    (ca_MAX_METHODS : PySem.W.findIn K (.ref C_World) "MAX_METHODS" = some (some (.int 3 t_MAX_METHODS)))
    (cg_MAX_METHODS : PySem.W.specialIn K (.int 3 t_MAX_METHODS) "__get__" = some none)
    (a_parts : PySem.W.nsIn K mainGlobals "PARTS_changes" = some (some (.ref p_parts)))
    (kd1 : He.dicW K p_parts = some (He.keysIn w.params ["define", "remove", "rebase"]))
    (kd2 : valsI K p_parts = some [some 4, some 2, some 3])
    (a_barred : PySem.W.nsIn K mainGlobals "_BARRED" = some (some (.ref p_barred)))
    (kb : textsIn K p_barred ["name", "self"] = true) :
    ∃ fd : FuncData, (∀ (s : Shared) (v : Value), BindsTo s fd ⟨[v], []⟩ [("_law_script", v)]) ∧ ∀ base : Heap, K.In base → base.Ns mainGlobals mg → RunsG l.prog w K mg base CX0 12 fa fd ["_law_script"] (spLaw0 K) := by
  have e := hfa.symm.trans (PySem.W.mg_of X G a_law)
  cases e
  have F_h_source := fun_mk (st := s_h_source) l_h_source c_h_source k_h_source
  have b_h_source := F_h_source.binds (ps := ["_law_script", "_law_k"]) fun _ _ _ _ _ _ us hl => match us, hl with | [_, _], _ => rfl
  have F_h_next := fun_mk (st := s_h_next) l_h_next c_h_next k_h_next
  have b_h_next := F_h_next.binds (ps := ["_law_source_here", "_law_many"]) fun _ _ _ _ _ _ us hl => match us, hl with | [_, _], _ => rfl
  have F_is_name := fun_mk (st := s_is_name) l_is_name c_is_name k_is_name
  have b_is_name := F_is_name.binds (ps := ["thing"]) fun _ _ _ _ _ _ us hl => match us, hl with | [_], _ => rfl
  have F_are_names := fun_mk (st := s_are_names) l_are_names c_are_names k_are_names
  have b_are_names := F_are_names.binds (ps := ["thing"]) fun _ _ _ _ _ _ us hl => match us, hl with | [_], _ => rfl
  have F_are_different_names := fun_mk (st := s_are_different_names) l_are_different_names c_are_different_names k_are_different_names
  have b_are_different_names := F_are_different_names.binds (ps := ["thing"]) fun _ _ _ _ _ _ us hl => match us, hl with | [_], _ => rfl
  have F_Merge__prepare := fun_mk (st := s_Merge__prepare) l_Merge__prepare c_Merge__prepare k_Merge__prepare
  have b_Merge__prepare := F_Merge__prepare.binds (ps := ["self", "name"]) fun _ _ _ _ _ _ us hl => match us, hl with | [_, _], _ => rfl
  have F_Merge__advance := fun_mk (st := s_Merge__advance) l_Merge__advance c_Merge__advance k_Merge__advance
  have b_Merge__advance := F_Merge__advance.binds (ps := ["self", "index"]) fun _ _ _ _ _ _ us hl => match us, hl with | [_, _], _ => rfl
  have F_Merge_drop := fun_mk (st := s_Merge_drop) l_Merge_drop c_Merge_drop k_Merge_drop
  have b_Merge_drop := F_Merge_drop.binds (ps := ["self", "name"]) fun _ _ _ _ _ _ us hl => match us, hl with | [_, _], _ => rfl
  have F_Merge_draw := fun_mk (st := s_Merge_draw) l_Merge_draw c_Merge_draw k_Merge_draw
  have b_Merge_draw := F_Merge_draw.binds (ps := ["self"]) fun _ _ _ _ _ _ us hl => match us, hl with | [_], _ => rfl
  have F_places := fun_mk (st := s_places) l_places c_places k_places
  have b_places := F_places.binds (ps := ["rows"]) fun _ _ _ _ _ _ us hl => match us, hl with | [_], _ => rfl
  have F_Merge___init := fun_mk (st := s_Merge___init) l_Merge___init c_Merge___init k_Merge___init
  have b_Merge___init := F_Merge___init.binds (ps := ["self", "rows"]) fun _ _ _ _ _ _ us hl => match us, hl with | [_, _], _ => rfl
  have F_check_tuples := fun_mk (st := s_check_tuples) l_check_tuples c_check_tuples k_check_tuples
  have b_check_tuples := F_check_tuples.binds (ps := ["tuples"]) fun _ _ _ _ _ _ us hl => match us, hl with | [_], _ => rfl
  have F_merged := fun_mk (st := s_merged) l_merged c_merged k_merged
  have F_h_mixed := fun_mk (st := s_h_mixed) l_h_mixed c_h_mixed k_h_mixed
  have b_h_mixed := F_h_mixed.binds (ps := ["_law_source_here", "_law_items"]) fun _ _ _ _ _ _ us hl => match us, hl with | [_, _], _ => rfl
  have F_h_merged := fun_mk (st := s_h_merged) l_h_merged c_h_merged k_h_merged
  have b_h_merged := F_h_merged.binds (ps := ["_law_lists"]) fun _ _ _ _ _ _ us hl => match us, hl with | [_], _ => rfl
  have F_check_name := fun_mk (st := s_check_name) l_check_name c_check_name k_check_name
  have b_check_name := F_check_name.binds (ps := ["thing"]) fun _ _ _ _ _ _ us hl => match us, hl with | [_], _ => rfl
  have F_World___init := fun_mk (st := s_World___init) l_World___init c_World___init k_World___init
  have b_World___init := F_World___init.binds (ps := ["self"]) fun _ _ _ _ _ _ us hl => match us, hl with | [_], _ => rfl
  have F_World___contains := fun_mk (st := s_World___contains) l_World___contains c_World___contains k_World___contains
  have b_World___contains := F_World___contains.binds (ps := ["self", "x"]) fun _ _ _ _ _ _ us hl => match us, hl with | [_, _], _ => rfl
  have F_check_class := fun_mk (st := s_check_class) l_check_class c_check_class k_check_class
  have b_check_class := F_check_class.binds (ps := ["world", "name"]) fun _ _ _ _ _ _ us hl => match us, hl with | [_, _], _ => rfl
  have F_has_words := fun_mk (st := s_has_words) l_has_words c_has_words k_has_words
  have b_has_words := F_has_words.binds (ps := ["thing"]) fun _ _ _ _ _ _ us hl => match us, hl with | [_], _ => rfl
  have F_is_change := fun_mk (st := s_is_change) l_is_change c_is_change k_is_change
  have b_is_change := F_is_change.binds (ps := ["thing"]) fun _ _ _ _ _ _ us hl => match us, hl with | [_], _ => rfl
  have F_World_copy := fun_mk (st := s_World_copy) l_World_copy c_World_copy k_World_copy
  have b_World_copy := F_World_copy.binds (ps := ["self"]) fun _ _ _ _ _ _ us hl => match us, hl with | [_], _ => rfl
  have F_World_linearizations := fun_mk (st := s_World_linearizations) l_World_linearizations c_World_linearizations k_World_linearizations
  have b_World_linearizations := F_World_linearizations.binds (ps := ["self"]) fun _ _ _ _ _ _ us hl => match us, hl with | [_], _ => rfl
  have F_is_row := fun_mk (st := s_is_row) l_is_row c_is_row k_is_row
  have b_is_row := F_is_row.binds (ps := ["thing"]) fun _ _ _ _ _ _ us hl => match us, hl with | [_], _ => rfl
  have F_are_words := fun_mk (st := s_are_words) l_are_words c_are_words k_are_words
  have b_are_words := F_are_words.binds (ps := ["thing"]) fun _ _ _ _ _ _ us hl => match us, hl with | [_], _ => rfl
  have F_is_method := fun_mk (st := s_is_method) l_is_method c_is_method k_is_method
  have b_is_method := F_is_method.binds (ps := ["thing"]) fun _ _ _ _ _ _ us hl => match us, hl with | [_], _ => rfl
  have F_World__check_bases := fun_mk (st := s_World__check_bases) l_World__check_bases c_World__check_bases k_World__check_bases
  have b_World__check_bases := F_World__check_bases.binds (ps := ["self", "bases"]) fun _ _ _ _ _ _ us hl => match us, hl with | [_, _], _ => rfl
  have F_World__check_methods := fun_mk (st := s_World__check_methods) l_World__check_methods c_World__check_methods k_World__check_methods
  have b_World__check_methods := F_World__check_methods.binds (ps := ["self", "methods"]) fun _ _ _ _ _ _ us hl => match us, hl with | [_, _], _ => rfl
  have F_linearized := fun_mk (st := s_linearized) l_linearized c_linearized k_linearized
  have b_linearized := F_linearized.binds (ps := ["classes", "name", "bases"]) fun _ _ _ _ _ _ us hl => match us, hl with | [_, _, _], _ => rfl
  have F_World__define := fun_mk (st := s_World__define) l_World__define c_World__define k_World__define
  have b_World__define := F_World__define.binds (ps := ["self", "name", "bases", "methods"]) fun _ _ _ _ _ _ us hl => match us, hl with | [_, _, _, _], _ => rfl
  have F_World__carry_out := fun_mk (st := s_World__carry_out) l_World__carry_out c_World__carry_out k_World__carry_out
  have b_World__carry_out := F_World__carry_out.binds (ps := ["self", "change"]) fun _ _ _ _ _ _ us hl => match us, hl with | [_, _], _ => rfl
  have F_World_perform := fun_mk (st := s_World_perform) l_World_perform c_World_perform k_World_perform
  have F_h_line := fun_mk (st := s_h_line) l_h_line c_h_line k_h_line
  have b_h_line := F_h_line.binds (ps := ["_law_lines_here", "_law_name", "_law_bases"]) fun _ _ _ _ _ _ us hl => match us, hl with | [_, _, _], _ => rfl
  have F_h_rows := fun_mk (st := s_h_rows) l_h_rows c_h_rows k_h_rows
  have b_h_rows := F_h_rows.binds (ps := ["_law_source_here", "_law_many", "_law_most"]) fun _ _ _ _ _ _ us hl => match us, hl with | [_, _, _], _ => rfl
  have F_World_names := fun_mk (st := s_World_names) l_World_names c_World_names k_World_names
  have b_World_names := F_World_names.binds (ps := ["self"]) fun _ _ _ _ _ _ us hl => match us, hl with | [_], _ => rfl
  have F_World___len := fun_mk (st := s_World___len) l_World___len c_World___len k_World___len
  have b_World___len := F_World___len.binds (ps := ["self"]) fun _ _ _ _ _ _ us hl => match us, hl with | [_], _ => rfl
  have F_Member___init := fun_mk (st := s_Member___init) l_Member___init c_Member___init k_Member___init
  have b_Member___init := F_Member___init.binds (ps := ["self", "world", "label"]) fun _ _ _ _ _ _ us hl => match us, hl with | [_, _, _], _ => rfl
  have F_World_member := fun_mk (st := s_World_member) l_World_member c_World_member k_World_member
  have b_World_member := F_World_member.binds (ps := ["self", "name"]) fun _ _ _ _ _ _ us hl => match us, hl with | [_, _], _ => rfl
  have F_found := fun_mk (st := s_found) l_found c_found k_found
  have b_found := F_found.binds (ps := ["classes", "name"]) fun _ _ _ _ _ _ us hl => match us, hl with | [_, _], _ => rfl
  have F_Member_bases := fun_mk (st := s_Member_bases) l_Member_bases c_Member_bases k_Member_bases
  have b_Member_bases := F_Member_bases.binds (ps := ["self"]) fun _ _ _ _ _ _ us hl => match us, hl with | [_], _ => rfl
  have F_Member_linearization := fun_mk (st := s_Member_linearization) l_Member_linearization c_Member_linearization k_Member_linearization
  have b_Member_linearization := F_Member_linearization.binds (ps := ["self"]) fun _ _ _ _ _ _ us hl => match us, hl with | [_], _ => rfl
  have F_Member_methods := fun_mk (st := s_Member_methods) l_Member_methods c_Member_methods k_Member_methods
  have b_Member_methods := F_Member_methods.binds (ps := ["self"]) fun _ _ _ _ _ _ us hl => match us, hl with | [_], _ => rfl
  have F_h_pick := fun_mk (st := s_h_pick) l_h_pick c_h_pick k_h_pick
  have b_h_pick := F_h_pick.binds (ps := ["_law_source_here", "_law_items"]) fun _ _ _ _ _ _ us hl => match us, hl with | [_, _], _ => rfl
  have F_h_word_row := fun_mk (st := s_h_word_row) l_h_word_row c_h_word_row k_h_word_row
  have b_h_word_row := F_h_word_row.binds (ps := ["_law_source_here", "_law_most"]) fun _ _ _ _ _ _ us hl => match us, hl with | [_, _], _ => rfl
  have F_h_method := fun_mk (st := s_h_method) l_h_method c_h_method k_h_method
  have b_h_method := F_h_method.binds (ps := ["_law_source_here"]) fun _ _ _ _ _ _ us hl => match us, hl with | [_], _ => rfl
  have F_h_methods := fun_mk (st := s_h_methods) l_h_methods c_h_methods k_h_methods
  have b_h_methods := F_h_methods.binds (ps := ["_law_source_here", "_law_rows_here"]) fun _ _ _ _ _ _ us hl => match us, hl with | [_, _], _ => rfl
  have F_h_lines := fun_mk (st := s_h_lines) l_h_lines c_h_lines k_h_lines
  have b_h_lines := F_h_lines.binds (ps := ["_law_rows_here"]) fun _ _ _ _ _ _ us hl => match us, hl with | [_], _ => rfl
  have F_h_state := fun_mk (st := s_h_state) l_h_state c_h_state k_h_state
  have b_h_state := F_h_state.binds (ps := ["_law_world"]) fun _ _ _ _ _ _ us hl => match us, hl with | [_], _ => rfl
  have F_h_due_state := fun_mk (st := s_h_due_state) l_h_due_state c_h_due_state k_h_due_state
  have b_h_due_state := F_h_due_state.binds (ps := ["_law_rows_here", "_law_methods_here"]) fun _ _ _ _ _ _ us hl => match us, hl with | [_, _], _ => rfl
  have F_World_define := fun_mk (st := s_World_define) l_World_define c_World_define k_World_define
  have F_World___getitem := fun_mk (st := s_World___getitem) l_World___getitem c_World___getitem k_World___getitem
  have b_World___getitem := F_World___getitem.binds (ps := ["self", "at"]) fun _ _ _ _ _ _ us hl => match us, hl with | [_, _], _ => rfl
  have F_Member_label := fun_mk (st := s_Member_label) l_Member_label c_Member_label k_Member_label
  have b_Member_label := F_Member_label.binds (ps := ["self"]) fun _ _ _ _ _ _ us hl => match us, hl with | [_], _ => rfl
  have F_h_defined := fun_mk (st := s_h_defined) l_h_defined c_h_defined k_h_defined
  have b_h_defined := F_h_defined.binds (ps := ["_law_source_here", "_law_world", "_law_row", "_law_methods_here"]) fun _ _ _ _ _ _ us hl => match us, hl with | [_, _, _, _], _ => rfl
  have F_h_right := fun_mk (st := s_h_right) l_h_right c_h_right k_h_right
  have b_h_right := F_h_right.binds (ps := ["_law_source_here"]) fun _ _ _ _ _ _ us hl => match us, hl with | [_], _ => rfl
  have F_law := fun_mk (st := s_law) l_law c_law k_law
  have F_IClash := fun_mk (st := sI_Clash) l_IClash c_IClash k_IClash
  have b_IClash := F_IClash.binds (ps := ["self", "name", "tuples", "steps"]) fun _ _ _ _ _ _ us hl => match us, hl with | [_, _, _, _], _ => rfl
  have T : Txt mg := ⟨PySem.W.mg_none_of X G z_len, PySem.W.mg_none_of X G z_isinstance, PySem.W.mg_none_of X G z_str, PySem.W.mg_none_of X G z_tuple, PySem.W.mg_none_of X G z_all, PySem.W.mg_none_of X G z_set, PySem.W.mg_none_of X G z_list, PySem.W.mg_none_of X G z_range, PySem.W.mg_none_of X G z_enumerate, PySem.W.mg_none_of X G z_repr, PySem.W.mg_none_of X G z_max, PySem.W.mg_none_of X G z_min, PySem.W.mg_none_of X G z_sorted, PySem.W.mg_none_of X G z_dict⟩
  have m_LONGEST_NAME := PySem.W.mg_of X G mm_LONGEST_NAME
  have m_LONGEST_ROW := PySem.W.mg_of X G mm_LONGEST_ROW
  have m_PARTS_methods := PySem.W.mg_of X G mm_PARTS_methods
  have m_MOST_WORDS := PySem.W.mg_of X G mm_MOST_WORDS
  have m_BASES := PySem.W.mg_of X G mm_BASES
  have m_METHODS := PySem.W.mg_of X G mm_METHODS
  have m_LINE := PySem.W.mg_of X G mm_LINE
  refine ⟨PySem.W.fnOf "law" "law" (defArgs s_law) (defBody s_law) (defScope s_law) .none kVlaw dclaw pmlaw anlaw cdlaw ctlaw, fun s v => .of_eq rfl, fun base _ _ => ?_⟩
  have E_Clash : Er l.prog w K mg base "Clash" C_Clash ["name", "tuples", "steps"] := er_mk overA (PySem.W.mg_of X G a_Clash) e_Clash n_Clash t_Clash b_IClash (okI_Clash F_IClash) (by decide) (by decide)
  have K_Merge : Kl K mg "Merge" C_Merge ["rows", "places", "gone", "heads", "behind", "ready"] := ⟨⟨pg_Merge, hd_Merge, po_Merge, sa_Merge⟩, PySem.W.mg_of X G a_Merge, (List.forall_mem_cons.mpr ⟨nf_Merge_rows, (List.forall_mem_cons.mpr ⟨nf_Merge_places, (List.forall_mem_cons.mpr ⟨nf_Merge_gone, (List.forall_mem_cons.mpr ⟨nf_Merge_heads, (List.forall_mem_cons.mpr ⟨nf_Merge_behind, (List.forall_mem_cons.mpr ⟨nf_Merge_ready, (fun _ h => nomatch h)⟩)⟩)⟩)⟩)⟩)⟩)⟩
  have K_World : Kl K mg "World" C_World ["_classes"] := ⟨⟨pg_World, hd_World, po_World, sa_World⟩, PySem.W.mg_of X G a_World, (List.forall_mem_cons.mpr ⟨nf_World__classes, (fun _ h => nomatch h)⟩)⟩
  have K_Member : Kl K mg "Member" C_Member ["_world", "_label"] := ⟨⟨pg_Member, hd_Member, po_Member, sa_Member⟩, PySem.W.mg_of X G a_Member, (List.forall_mem_cons.mpr ⟨nf_Member__world, (List.forall_mem_cons.mpr ⟨nf_Member__label, (fun _ h => nomatch h)⟩)⟩)⟩
  have k_MAX_BASES : Con K C_World "MAX_BASES" (.int 8) (.int 8 t_MAX_BASES) := ⟨ca_MAX_BASES, ⟨_, rfl⟩, cg_MAX_BASES, by decide⟩
  have k_MAX_CLASSES : Con K C_World "MAX_CLASSES" (.int 24) (.int 24 t_MAX_CLASSES) := ⟨ca_MAX_CLASSES, ⟨_, rfl⟩, cg_MAX_CLASSES, by decide⟩
  have k_MAX_METHODS : Con K C_World "MAX_METHODS" (.int 3) (.int 3 t_MAX_METHODS) := ⟨ca_MAX_METHODS, ⟨_, rfl⟩, cg_MAX_METHODS, by decide⟩
  have g_parts := PySem.W.mg_of X G a_parts
  have k_parts : KInts K w p_parts [("define", 4), ("remove", 2), ("rebase", 3)] := ⟨kd1, kd2⟩
  have g_barred := PySem.W.mg_of X G a_barred
  have k_barred := kb
  have D_h_source : Dn l.prog w K mg base CX0 1 "_law_source" ["_law_script", "_law_k"] (spSource K) := ⟨f_h_source, _, k_h_source, b_h_source, PySem.W.mg_of X G a_h_source, ok_h_source F_h_source T⟩
  have D_h_next : Dn l.prog w K mg base CX0 1 "_law_next" ["_law_source_here", "_law_many"] (spNext) := ⟨f_h_next, _, k_h_next, b_h_next, PySem.W.mg_of X G a_h_next, ok_h_next F_h_next T⟩
  have D_is_name : Dn l.prog w K mg base CX0 1 "is_name" ["thing"] (spName K) := ⟨f_is_name, _, k_is_name, b_is_name, PySem.W.mg_of X G a_is_name, ok_is_name F_is_name T m_LONGEST_NAME⟩
  have D_are_names : Dn l.prog w K mg base CX0 2 "are_names" ["thing"] (spOf1 K namesV) := ⟨f_are_names, _, k_are_names, b_are_names, PySem.W.mg_of X G a_are_names, ok_are_names F_are_names T D_is_name⟩
  have D_are_different_names : Dn l.prog w K mg base CX0 3 "are_different_names" ["thing"] (spOf1 K diffOf) := ⟨f_are_different_names, _, k_are_different_names, b_are_different_names, PySem.W.mg_of X G a_are_different_names, ok_are_different_names F_are_different_names T D_are_names⟩
  have D_Merge__prepare : Mn l.prog w K mg base CX0 1 C_Merge "_prepare" ["self", "name"] (spPrepare C_Merge) := ⟨f_Merge__prepare, _, ⟨a_Merge__prepare, if_Merge__prepare, k_Merge__prepare⟩, b_Merge__prepare, ok_Merge__prepare F_Merge__prepare T K_Merge⟩
  have D_Merge__advance : Mn l.prog w K mg base CX0 2 C_Merge "_advance" ["self", "index"] (spAdvance C_Merge) := ⟨f_Merge__advance, _, ⟨a_Merge__advance, if_Merge__advance, k_Merge__advance⟩, b_Merge__advance, ok_Merge__advance F_Merge__advance T K_Merge D_Merge__prepare⟩
  have D_Merge_drop : Mn l.prog w K mg base CX0 3 C_Merge "drop" ["self", "name"] (spDrop C_Merge) := ⟨f_Merge_drop, _, ⟨a_Merge_drop, if_Merge_drop, k_Merge_drop⟩, b_Merge_drop, ok_Merge_drop F_Merge_drop T K_Merge D_Merge__advance⟩
  have D_Merge_draw : Mn l.prog w K mg base CX0 4 C_Merge "draw" ["self"] (spDraw C_Merge) := ⟨f_Merge_draw, _, ⟨a_Merge_draw, if_Merge_draw, k_Merge_draw⟩, b_Merge_draw, ok_Merge_draw F_Merge_draw T K_Merge D_Merge_drop⟩
  have D_places : Dn l.prog w K mg base CX0 1 "_places" ["rows"] (spPlaces) := ⟨f_places, _, k_places, b_places, PySem.W.mg_of X G a_places, ok_places F_places T⟩
  have D_Merge___init : Mi l.prog w K mg base CX0 2 C_Merge ["self", "rows"] (spMInit C_Merge) := ⟨f_Merge___init, _, ⟨mk_Merge, a_Merge___init, if_Merge___init, kc_Merge⟩, b_Merge___init, ok_Merge___init F_Merge___init T K_Merge D_Merge__prepare D_places⟩
  have D_check_tuples : Dn l.prog w K mg base CX0 4 "_check_tuples" ["tuples"] (spCheck) := ⟨f_check_tuples, _, k_check_tuples, b_check_tuples, PySem.W.mg_of X G a_check_tuples, ok_check_tuples F_check_tuples T D_are_different_names⟩
  have D_merged : Dr l.prog w K mg base CX0 5 "merged" (spStar (spMerged)) := ⟨f_merged, k_merged, PySem.W.mg_of X G a_merged, ok_merged F_merged T K_Merge D_Merge_draw D_Merge___init D_check_tuples⟩
  have D_h_mixed : Dn l.prog w K mg base CX0 2 "_law_mixed" ["_law_source_here", "_law_items"] (spMixed) := ⟨f_h_mixed, _, k_h_mixed, b_h_mixed, PySem.W.mg_of X G a_h_mixed, ok_h_mixed F_h_mixed T D_h_next⟩
  have D_h_merged : Dn l.prog w K mg base CX0 1 "_law_merged" ["_law_lists"] (spLMerged) := ⟨f_h_merged, _, k_h_merged, b_h_merged, PySem.W.mg_of X G a_h_merged, ok_h_merged F_h_merged T⟩
  have D_check_name : Dn l.prog w K mg base CX0 2 "check_name" ["thing"] (spChkName) := ⟨f_check_name, _, k_check_name, b_check_name, PySem.W.mg_of X G a_check_name, ok_check_name F_check_name T D_is_name⟩
  have D_World___init : Mi l.prog w K mg base CX0 1 C_World ["self"] (spWInit C_World) := ⟨f_World___init, _, ⟨mk_World, a_World___init, if_World___init, kc_World⟩, b_World___init, ok_World___init F_World___init T K_World⟩
  have D_World___contains : Mn l.prog w K mg base CX0 2 C_World "__contains__" ["self", "x"] (spWHas C_World) := ⟨f_World___contains, _, ⟨a_World___contains, if_World___contains, k_World___contains⟩, b_World___contains, ok_World___contains F_World___contains T K_World D_is_name⟩
  have D_check_class : Dn l.prog w K mg base CX0 3 "check_class" ["world", "name"] (spChkClass C_World) := ⟨f_check_class, _, k_check_class, b_check_class, PySem.W.mg_of X G a_check_class, ok_check_class F_check_class T K_World D_check_name D_World___contains⟩
  have D_has_words : Dn l.prog w K mg base CX0 1 "_has_words" ["thing"] (spHasWords) := ⟨f_has_words, _, k_has_words, b_has_words, PySem.W.mg_of X G a_has_words, ok_has_words F_has_words T⟩
  have D_is_change : Dn l.prog w K mg base CX0 2 "is_change" ["thing"] (spDefChange) := ⟨f_is_change, _, k_is_change, b_is_change, PySem.W.mg_of X G a_is_change, ok_is_change F_is_change T D_has_words g_parts k_parts⟩
  have D_World_copy : Mn l.prog w K mg base CX0 3 C_World "copy" ["self"] (spCopy C_World) := ⟨f_World_copy, _, ⟨a_World_copy, if_World_copy, k_World_copy⟩, b_World_copy, ok_World_copy F_World_copy T K_World D_World___init⟩
  have D_World_linearizations : Pr l.prog w K mg base CX0 1 C_World "linearizations" (spLines C_World) := ⟨p_World_linearizations, f_World_linearizations, _, ⟨a_World_linearizations, pg_World_linearizations, pt_World_linearizations, rest_World_linearizations, pr_World_linearizations⟩, b_World_linearizations, ok_World_linearizations F_World_linearizations T K_World m_LINE⟩
  have D_is_row : Dn l.prog w K mg base CX0 4 "is_row" ["thing"] (spRow) := ⟨f_is_row, _, k_is_row, b_is_row, PySem.W.mg_of X G a_is_row, ok_is_row F_is_row T D_are_different_names m_LONGEST_ROW⟩
  have D_are_words : Dn l.prog w K mg base CX0 3 "_are_words" ["thing"] (spWds) := ⟨f_are_words, _, k_are_words, b_are_words, PySem.W.mg_of X G a_are_words, ok_are_words F_are_words T D_are_names m_MOST_WORDS⟩
  have D_is_method : Dn l.prog w K mg base CX0 5 "is_method" ["thing"] (spMeth) := ⟨f_is_method, _, k_is_method, b_is_method, PySem.W.mg_of X G a_is_method, ok_is_method F_is_method T D_is_row D_are_words m_PARTS_methods⟩
  have D_World__check_bases : Mn l.prog w K mg base CX0 4 C_World "_check_bases" ["self", "bases"] (spChkBases C_World) := ⟨f_World__check_bases, _, ⟨a_World__check_bases, if_World__check_bases, k_World__check_bases⟩, b_World__check_bases, ok_World__check_bases F_World__check_bases T K_World D_are_different_names k_MAX_BASES⟩
  have D_World__check_methods : Mn l.prog w K mg base CX0 6 C_World "_check_methods" ["self", "methods"] (spChkMeths C_World) := ⟨f_World__check_methods, _, ⟨a_World__check_methods, if_World__check_methods, k_World__check_methods⟩, b_World__check_methods, ok_World__check_methods F_World__check_methods T K_World D_is_name D_is_method k_MAX_METHODS g_barred k_barred⟩
  have D_linearized : Dn l.prog w K mg base CX0 6 "_linearized" ["classes", "name", "bases"] (spLin) := ⟨f_linearized, _, k_linearized, b_linearized, PySem.W.mg_of X G a_linearized, ok_linearized F_linearized T D_merged E_Clash m_LINE⟩
  have D_World__define : Mn l.prog w K mg base CX0 7 C_World "_define" ["self", "name", "bases", "methods"] (spDefine C_World) := ⟨f_World__define, _, ⟨a_World__define, if_World__define, k_World__define⟩, b_World__define, ok_World__define F_World__define T K_World D_check_name D_World__check_bases D_World__check_methods D_linearized k_MAX_CLASSES⟩
  have B_World__define : Mb l.prog w K mg base CX0 7 C_World "_define" f_World__define (spDefine C_World) := ⟨⟨⟨a_World__define, if_World__define, k_World__define⟩, gf_World__define, tk_World__define, by decide, fi_World__define⟩, ((ok_World__define F_World__define T K_World D_check_name D_World__check_bases D_World__check_methods D_linearized k_MAX_CLASSES).raw b_World__define .nil).imp fun vs H Q E h => (List.append_nil vs).symm ▸ h⟩
  have D_World__carry_out : Mn l.prog w K mg base CX0 8 C_World "_carry_out" ["self", "change"] (spCarry C_World) := ⟨f_World__carry_out, _, ⟨a_World__carry_out, if_World__carry_out, k_World__carry_out⟩, b_World__carry_out, ok_World__carry_out F_World__carry_out T K_World B_World__define⟩
  have D_World_perform : Ms l.prog w K mg base CX0 9 C_World "perform" (spStar1 (spPerform C_World)) := ⟨f_World_perform, ⟨a_World_perform, if_World_perform, k_World_perform⟩, ok_World_perform F_World_perform T K_World D_is_change D_World_copy D_World__carry_out⟩
  have D_h_line : Dn l.prog w K mg base CX0 2 "_law_line" ["_law_lines_here", "_law_name", "_law_bases"] (spLine) := ⟨f_h_line, _, k_h_line, b_h_line, PySem.W.mg_of X G a_h_line, ok_h_line F_h_line T D_h_merged⟩
  have D_h_rows : Dn l.prog w K mg base CX0 3 "_law_rows" ["_law_source_here", "_law_many", "_law_most"] (spRowsK) := ⟨f_h_rows, _, k_h_rows, b_h_rows, PySem.W.mg_of X G a_h_rows, ok_h_rows F_h_rows T D_h_next D_h_mixed D_h_line⟩
  have D_World_names : Pr l.prog w K mg base CX0 1 C_World "names" (spNames C_World) := ⟨p_World_names, f_World_names, _, ⟨a_World_names, pg_World_names, pt_World_names, rest_World_names, pr_World_names⟩, b_World_names, ok_World_names F_World_names T K_World⟩
  have D_World___len : Mn l.prog w K mg base CX0 1 C_World "__len__" ["self"] (spWLen C_World) := ⟨f_World___len, _, ⟨a_World___len, if_World___len, k_World___len⟩, b_World___len, ok_World___len F_World___len T K_World⟩
  have D_Member___init : Mi l.prog w K mg base CX0 1 C_Member ["self", "world", "label"] (spMbInit C_Member) := ⟨f_Member___init, _, ⟨mk_Member, a_Member___init, if_Member___init, kc_Member⟩, b_Member___init, ok_Member___init F_Member___init T K_Member⟩
  have D_World_member : Mn l.prog w K mg base CX0 4 C_World "member" ["self", "name"] (spMember C_World C_Member) := ⟨f_World_member, _, ⟨a_World_member, if_World_member, k_World_member⟩, b_World_member, ok_World_member F_World_member T K_Member K_World D_check_class D_Member___init⟩
  have D_found : Dn l.prog w K mg base CX0 1 "_found" ["classes", "name"] (spFound) := ⟨f_found, _, k_found, b_found, PySem.W.mg_of X G a_found, ok_found F_found T⟩
  have D_Member_bases : Pr l.prog w K mg base CX0 2 C_Member "bases" (spMBases C_World C_Member) := ⟨p_Member_bases, f_Member_bases, _, ⟨a_Member_bases, pg_Member_bases, pt_Member_bases, rest_Member_bases, pr_Member_bases⟩, b_Member_bases, ok_Member_bases F_Member_bases T K_Member K_World D_found m_BASES⟩
  have D_Member_linearization : Pr l.prog w K mg base CX0 2 C_Member "linearization" (spMLine C_World C_Member) := ⟨p_Member_linearization, f_Member_linearization, _, ⟨a_Member_linearization, pg_Member_linearization, pt_Member_linearization, rest_Member_linearization, pr_Member_linearization⟩, b_Member_linearization, ok_Member_linearization F_Member_linearization T K_Member K_World D_found m_LINE⟩
  have D_Member_methods : Pr l.prog w K mg base CX0 2 C_Member "methods" (spMMeths C_World C_Member) := ⟨p_Member_methods, f_Member_methods, _, ⟨a_Member_methods, pg_Member_methods, pt_Member_methods, rest_Member_methods, pr_Member_methods⟩, b_Member_methods, ok_Member_methods F_Member_methods T K_Member K_World D_found m_METHODS⟩
  have D_h_pick : Dn l.prog w K mg base CX0 2 "_law_pick" ["_law_source_here", "_law_items"] (spPick) := ⟨f_h_pick, _, k_h_pick, b_h_pick, PySem.W.mg_of X G a_h_pick, ok_h_pick F_h_pick T D_h_next⟩
  have D_h_word_row : Dn l.prog w K mg base CX0 3 "_law_word_row" ["_law_source_here", "_law_most"] (spWRow) := ⟨f_h_word_row, _, k_h_word_row, b_h_word_row, PySem.W.mg_of X G a_h_word_row, ok_h_word_row F_h_word_row T D_h_next D_h_pick⟩
  have D_h_method : Dn l.prog w K mg base CX0 4 "_law_method" ["_law_source_here"] (spMethodL) := ⟨f_h_method, _, k_h_method, b_h_method, PySem.W.mg_of X G a_h_method, ok_h_method F_h_method T D_h_next D_h_mixed D_h_pick D_h_word_row⟩
  have D_h_methods : Dn l.prog w K mg base CX0 5 "_law_methods" ["_law_source_here", "_law_rows_here"] (spMethsL) := ⟨f_h_methods, _, k_h_methods, b_h_methods, PySem.W.mg_of X G a_h_methods, ok_h_methods F_h_methods T D_h_next D_h_method⟩
  have D_h_lines : Dn l.prog w K mg base CX0 3 "_law_lines" ["_law_rows_here"] (spLinesL) := ⟨f_h_lines, _, k_h_lines, b_h_lines, PySem.W.mg_of X G a_h_lines, ok_h_lines F_h_lines T D_h_line⟩
  have D_h_state : DnG l.prog w K mg base CX0 5 "_law_state" ["_law_world"] (spState C_World) := ⟨f_h_state, _, k_h_state, b_h_state, PySem.W.mg_of X G a_h_state, len_h_state, ok_h_state F_h_state T K_Member K_World D_World_linearizations D_World_names D_World___len D_World_member D_Member_bases D_Member_methods⟩
  have D_h_due_state : DnG l.prog w K mg base CX0 4 "_law_due_state" ["_law_rows_here", "_law_methods_here"] (spDue) := ⟨f_h_due_state, _, k_h_due_state, b_h_due_state, PySem.W.mg_of X G a_h_due_state, len_h_due_state, ok_h_due_state F_h_due_state T D_h_lines⟩
  have D_World_define : Ms l.prog w K mg base CX0 8 C_World "define" (spStarKw (spDefine C_World)) := ⟨f_World_define, ⟨a_World_define, if_World_define, k_World_define⟩, ok_World_define F_World_define T K_World D_World__define⟩
  have D_World___getitem : Mn l.prog w K mg base CX0 5 C_World "__getitem__" ["self", "at"] (spGetI C_World C_Member) := ⟨f_World___getitem, _, ⟨a_World___getitem, if_World___getitem, k_World___getitem⟩, b_World___getitem, ok_World___getitem F_World___getitem T K_World D_World_member⟩
  have B_World___getitem : Mb l.prog w K mg base CX0 5 C_World "__getitem__" f_World___getitem (spGetI C_World C_Member) := ⟨⟨⟨a_World___getitem, if_World___getitem, k_World___getitem⟩, gf_World___getitem, tk_World___getitem, by decide, fi_World___getitem⟩, ((ok_World___getitem F_World___getitem T K_World D_World_member).raw b_World___getitem .nil).imp fun vs H Q E h => (List.append_nil vs).symm ▸ h⟩
  have D_Member_label : Pr l.prog w K mg base CX0 1 C_Member "label" (spLabel C_World C_Member) := ⟨p_Member_label, f_Member_label, _, ⟨a_Member_label, pg_Member_label, pt_Member_label, rest_Member_label, pr_Member_label⟩, b_Member_label, ok_Member_label F_Member_label T K_Member⟩
  have D_h_defined : Dn l.prog w K mg base CX0 10 "_law_defined" ["_law_source_here", "_law_world", "_law_row", "_law_methods_here"] (spDefd C_World) := ⟨f_h_defined, _, k_h_defined, b_h_defined, PySem.W.mg_of X G a_h_defined, ok_h_defined F_h_defined T K_World D_h_next D_World_perform D_World_define⟩
  have D_h_right : DnG l.prog w K mg base CX0 11 "_law_right" ["_law_source_here"] (spRight09) := ⟨f_h_right, _, k_h_right, b_h_right, PySem.W.mg_of X G a_h_right, len_h_right, ok_h_right F_h_right T K_Member K_World D_h_next D_World___init D_h_line D_h_rows D_World___len D_World_member D_Member_bases D_Member_linearization D_h_methods D_h_state D_h_due_state D_Member_label D_h_defined B_World___getitem⟩
  exact ok_law F_law T K_World D_h_source D_World___init D_h_state D_h_due_state D_h_right
end K09
namespace K09
abbrev Rw : PySem.W.OpenRow := PySem.W.OpenLaw.row PySem.Challenge.rw_nextbehind_k09_worlds_defined
abbrev vw : PySem.Program := PySem.W.view Rw.prog [78]
def topNames0 : List PySem.Str := ["_wall", "PARTS_changes", "is_change", "_has_words", "WorldError", "LimitError", "MissingError", "BadName", "BadBases", "BadMethod", "BadTuple", "BadChange", "BadText", "TooMany", "Clash", "Taken", "InUse", "NoClass", "_LONGEST_NAME", "_LONGEST_ROW", "is_name", "are_names", "are_different_names", "is_row", "check_name", "check_class", "_FEWEST_STEPS", "Merge", "merged", "_check_tuples"]
def topNames1 : List PySem.Str := ["_places", "_fewest_clash", "_steps_to", "PARTS_methods", "_MOST_WORDS", "is_method", "_are_words", "_METHOD_PARTS", "world_lines", "read_into", "_class_changes", "_method_changes", "_read_method", "_read_part", "_method_line", "_part", "_BARRED", "_BASES", "_METHODS", "_LINE", "World", "Member", "_found", "_linearized", "_law_source", "_law_next", "_law_mixed", "_law_merged", "_law_line", "_law_rows"]
def topNames2 : List PySem.Str := ["_law_lines", "_law_pick", "_law_word_row", "_law_method", "_law_methods", "_law_due_state", "_law_state", "_law_defined", "_law_right"]
def topNames : List PySem.Str := topNames0 ++ topNames1 ++ topNames2
end K09
local macro_rules
  | `(tactic| o_headL ($_:ident $_:term $_:term $_:term)) => `(tactic| assumption)
section
open PySem PySem.W PyProof.Rows
set_option maxRecDepth 100000 in
set_option maxHeartbeats 0 in
theorem K09.top (hf : K09.Rw.Holds) : K09.Rw.Holds := by k_headL
end
namespace K09
def asK : List Nat := [2, 3, 15, 17, 18, 20, 21, 22, 23, 25, 26, 28, 29, 30, 33, 34, 35, 42, 43, 44, 45, 48, 55, 56, 57, 58, 61, 68, 69, 70, 71, 74, 81, 83, 84, 86, 87, 88, 89, 90, 93, 100, 102, 103, 105, 106, 107, 108, 109, 112, 119, 121, 122, 124, 125, 126, 127, 128, 131, 138, 140, 141, 143, 144, 145, 146, 147, 150, 157, 159, 160, 162, 163, 164, 165, 166, 169, 176, 178, 179, 181, 182, 183, 184, 185, 188, 195, 197, 198, 200, 201, 202, 203, 204, 207, 214, 216, 217, 219, 220, 221, 222, 223, 226, 233, 235, 236, 238, 239, 240, 241, 242, 245, 252, 254, 255, 257, 258, 259, 260, 261, 264, 271, 273, 274, 276, 277, 278, 279, 280, 283, 286, 287, 288, 291, 292, 293, 295, 296, 298, 299, 300, 302, 303, 305, 306, 307, 309, 310, 312, 313, 314, 316, 317, 319, 320, 328, 331, 332, 333, 335, 336, 338, 339, 340, 342, 343, 345, 346, 347, 349, 350, 352, 353, 354, 356, 357, 359, 360, 361, 364, 365, 366, 367, 368, 369, 370, 373, 375, 376, 378, 379, 380, 382, 383, 385, 386, 387, 389, 390, 392, 393, 394, 396, 397, 399, 400, 401, 403, 404, 406, 407, 408, 410, 411, 413, 414, 415, 417, 418, 420, 421, 422, 425, 426, 427, 429, 430, 432, 433, 434, 436, 437, 439, 440, 441, 444, 445, 446, 448, 449, 451, 452, 453, 455, 456, 458, 459, 460, 462, 463, 465, 466, 467, 469, 470, 472, 473, 474, 482, 484, 485, 487, 488, 489, 491, 492, 494, 495, 496, 497, 498, 499, 501, 502, 504, 505, 506, 507, 508, 509, 511, 512, 514, 515, 516, 519, 520, 521, 523, 524, 526, 527, 528, 530, 531, 533, 534, 535, 537, 538, 540, 541, 542, 544, 545, 547, 548, 549, 551, 552, 554, 555, 556, 557, 560, 561, 562, 563, 565, 566, 568, 569, 570, 572, 573, 575, 576, 577, 579, 580, 582, 583, 584, 586, 587, 589, 590, 591, 593, 594, 596, 597, 598, 600, 601, 603, 604, 605, 607, 608, 610, 611, 612, 615, 616, 617, 620, 621, 622, 624, 625, 627, 628, 629, 631, 632, 634, 635, 636, 638, 639, 641, 642, 643, 644, 645, 646, 647, 657, 659, 660, 662, 663, 664, 666, 667, 669, 670, 671, 672, 674, 675, 677, 678, 681, 683, 684, 686, 687, 688, 689, 691, 692, 694, 695, 696, 697, 699, 700, 702, 703, 704, 705, 706, 707, 708, 709, 712, 714, 715, 717, 718, 719, 722, 723, 724, 726, 727, 729, 730, 731, 733, 734, 736, 737, 738, 740, 741, 743, 744, 745, 748, 749, 750, 753, 754, 755, 757, 758, 760, 761, 762, 764, 765, 767, 768, 769, 771, 772, 774, 775, 776, 779, 780, 781, 783, 784, 786, 787, 788, 791, 792, 793, 796, 797, 798, 800, 801, 803, 804, 805, 807, 808, 810, 811, 812, 814, 815, 817, 818, 819, 821, 822, 824, 825]
theorem ekK : ∀ P, asK = (K09.top.heap_1 P).map (·.1) := fun _ => by kernel_rfl
noncomputable abbrev HK : PySem.W.Hook := PySem.W.kHook K09.top.heap_1 asK ekK
abbrev obK : PySem.W.SharedT → List (Option PySem.Obj) := fun s => List.map (HandSHeadRun.getT s) asK
set_option maxRecDepth 100000 in
set_option maxHeartbeats 0 in
theorem run0 (w : PySem.World) : HandSHeadRun.RunEq Rw vw HK obK 25000 topNames (w.withFollow "special-get-raises" false) := by intro os; kernel_rfl
set_option maxRecDepth 100000 in
set_option maxHeartbeats 0 in
theorem run1 (w : PySem.World) : HandSHeadRun.RunEq Rw vw HK obK 25000 topNames (w.withFollow "special-get-raises" true) := by intro os; kernel_rfl
end K09
open PySem PySem.W PyProof.Rows
set_option maxRecDepth 100000 in
set_option maxHeartbeats 0 in
theorem PySem.Challenge.cw_nextbehind_k09_worlds_defined_holds : PySem.Challenge.rw_nextbehind_k09_worlds_defined.Holds := by
  w_on; o_law
  refine HandSHeadRun.head_any (r := K09.Rw) (q := K09.vw) (H := K09.HK) (ob := K09.obK) (M := 25000) (loose := K09.topNames) (d := HandSHeadRun.topDef K09.Rw.prog 78) (kwd := []) (fun s => List.map_congr_left fun b _ => HandSHeadRun.getT_eq s b) (by kernel_rfl) (fun s => by kernel_rfl) (fun w => PySem.W.byRow2 "special-get-raises" K09.run0 K09.run1 w) (by kernel_rfl) (by kernel_rfl) (by kernel_rfl) (by rfl) (by first | assumption | decide +kernel) (by decide +kernel) ⟨rfl, rfl, rfl, rfl, rfl, by decide +kernel⟩ ?hw ?hc
  (case hw => w_witness2)
  k_fill
  refine Nb.walk_ofG (l := PySem.Challenge.rw_nextbehind_k09_worlds_defined) (n := 63) (k := 12) (x := "_law_script") (CX := fun _ => L2.CX0) (sp := fun w => Nb.spLaw0 _) rfl (by decide) rfl ⟨rfl, by decide, by decide⟩ (fun w h Y => PySem.W.kIn_of Y) ?F (fun _ _ a ns hl _ hS => ⟨a, ns, rfl, hS, hl, fun _ => rfl⟩) (fun _ _ _ _ _ h => h)
  case F =>
    intro w mg fa h KX G hmg
    refine' K09.all_mk KX G hmg ?a_Merge ?pg_Merge ?hd_Merge ?po_Merge ?sa_Merge ?nf_Merge_rows ?nf_Merge_places ?nf_Merge_gone ?nf_Merge_heads ?nf_Merge_behind ?nf_Merge_ready ?mk_Merge ?kc_Merge ?a_World ?pg_World ?hd_World ?po_World ?sa_World ?nf_World__classes ?mk_World ?kc_World ?a_Member ?pg_Member ?hd_Member ?po_Member ?sa_Member ?nf_Member__world ?nf_Member__label ?mk_Member ?kc_Member ?a_h_source ?l_h_source ?c_h_source ?k_h_source ?a_h_next ?l_h_next ?c_h_next ?k_h_next ?a_is_name ?l_is_name ?c_is_name ?k_is_name ?a_are_names ?l_are_names ?c_are_names ?k_are_names ?a_are_different_names ?l_are_different_names ?c_are_different_names ?k_are_different_names ?a_Merge__prepare ?if_Merge__prepare ?l_Merge__prepare ?c_Merge__prepare ?k_Merge__prepare ?a_Merge__advance ?if_Merge__advance ?l_Merge__advance ?c_Merge__advance ?k_Merge__advance ?a_Merge_drop ?if_Merge_drop ?l_Merge_drop ?c_Merge_drop ?k_Merge_drop ?a_Merge_draw ?if_Merge_draw ?l_Merge_draw ?c_Merge_draw ?k_Merge_draw ?a_places ?l_places ?c_places ?k_places ?a_Merge___init ?if_Merge___init ?l_Merge___init ?c_Merge___init ?k_Merge___init ?a_check_tuples ?l_check_tuples ?c_check_tuples ?k_check_tuples ?a_merged ?l_merged ?c_merged ?k_merged ?a_h_mixed ?l_h_mixed ?c_h_mixed ?k_h_mixed ?a_h_merged ?l_h_merged ?c_h_merged ?k_h_merged ?a_check_name ?l_check_name ?c_check_name ?k_check_name ?a_World___init ?if_World___init ?l_World___init ?c_World___init ?k_World___init ?a_World___contains ?if_World___contains ?l_World___contains ?c_World___contains ?k_World___contains ?a_check_class ?l_check_class ?c_check_class ?k_check_class ?a_has_words ?l_has_words ?c_has_words ?k_has_words ?a_is_change ?l_is_change ?c_is_change ?k_is_change ?a_World_copy ?if_World_copy ?l_World_copy ?c_World_copy ?k_World_copy ?a_World_linearizations ?pr_World_linearizations ?pg_World_linearizations ?pt_World_linearizations ?l_World_linearizations ?c_World_linearizations ?k_World_linearizations ?a_is_row ?l_is_row ?c_is_row ?k_is_row ?a_are_words ?l_are_words ?c_are_words ?k_are_words ?a_is_method ?l_is_method ?c_is_method ?k_is_method ?a_World__check_bases ?if_World__check_bases ?l_World__check_bases ?c_World__check_bases ?k_World__check_bases ?a_World__check_methods ?if_World__check_methods ?l_World__check_methods ?c_World__check_methods ?k_World__check_methods ?a_linearized ?l_linearized ?c_linearized ?k_linearized ?a_World__define ?gf_World__define ?tk_World__define ?fi_World__define ?if_World__define ?l_World__define ?c_World__define ?k_World__define ?a_World__carry_out ?if_World__carry_out ?l_World__carry_out ?c_World__carry_out ?k_World__carry_out ?a_World_perform ?if_World_perform ?l_World_perform ?c_World_perform ?k_World_perform ?a_h_line ?l_h_line ?c_h_line ?k_h_line ?a_h_rows ?l_h_rows ?c_h_rows ?k_h_rows ?a_World_names ?pr_World_names ?pg_World_names ?pt_World_names ?l_World_names ?c_World_names ?k_World_names ?a_World___len ?if_World___len ?l_World___len ?c_World___len ?k_World___len ?a_Member___init ?if_Member___init ?l_Member___init ?c_Member___init ?k_Member___init ?a_World_member ?if_World_member ?l_World_member ?c_World_member ?k_World_member ?a_found ?l_found ?c_found ?k_found ?a_Member_bases ?pr_Member_bases ?pg_Member_bases ?pt_Member_bases ?l_Member_bases ?c_Member_bases ?k_Member_bases ?a_Member_linearization ?pr_Member_linearization ?pg_Member_linearization ?pt_Member_linearization ?l_Member_linearization ?c_Member_linearization ?k_Member_linearization ?a_Member_methods ?pr_Member_methods ?pg_Member_methods ?pt_Member_methods ?l_Member_methods ?c_Member_methods ?k_Member_methods ?a_h_pick ?l_h_pick ?c_h_pick ?k_h_pick ?a_h_word_row ?l_h_word_row ?c_h_word_row ?k_h_word_row ?a_h_method ?l_h_method ?c_h_method ?k_h_method ?a_h_methods ?l_h_methods ?c_h_methods ?k_h_methods ?a_h_lines ?l_h_lines ?c_h_lines ?k_h_lines ?a_h_state ?l_h_state ?c_h_state ?k_h_state ?a_h_due_state ?l_h_due_state ?c_h_due_state ?k_h_due_state ?a_World_define ?if_World_define ?l_World_define ?c_World_define ?k_World_define ?a_World___getitem ?gf_World___getitem ?tk_World___getitem ?fi_World___getitem ?if_World___getitem ?l_World___getitem ?c_World___getitem ?k_World___getitem ?a_Member_label ?pr_Member_label ?pg_Member_label ?pt_Member_label ?l_Member_label ?c_Member_label ?k_Member_label ?a_h_defined ?l_h_defined ?c_h_defined ?k_h_defined ?a_h_right ?l_h_right ?c_h_right ?k_h_right ?a_law ?l_law ?c_law ?k_law ?a_Clash ?e_Clash ?n_Clash ?t_Clash ?l_IClash ?c_IClash ?k_IClash ?z_len ?z_isinstance ?z_str ?z_tuple ?z_all ?z_set ?z_list ?z_range ?z_enumerate ?z_repr ?z_max ?z_min ?z_sorted ?z_dict ?mm_LONGEST_NAME ?mm_LONGEST_ROW ?mm_PARTS_methods ?mm_MOST_WORDS ?mm_BASES ?mm_METHODS ?mm_LINE ?ca_MAX_BASES ?cg_MAX_BASES ?ca_MAX_CLASSES ?cg_MAX_CLASSES ?ca_MAX_METHODS ?cg_MAX_METHODS ?a_parts ?kd1 ?kd2 ?a_barred ?kb
    (case a_Merge => k_is)
    (case pg_Merge => kernel_rfl)
    (case hd_Merge => kernel_rfl)
    (case po_Merge => kernel_rfl)
    (case sa_Merge => k_is)
    (case nf_Merge_rows => k_is)
    (case nf_Merge_places => k_is)
    (case nf_Merge_gone => k_is)
    (case nf_Merge_heads => k_is)
    (case nf_Merge_behind => k_is)
    (case nf_Merge_ready => k_is)
    (case mk_Merge => kernel_rfl)
    (case kc_Merge => k_is)
    (case a_World => k_is)
    (case pg_World => kernel_rfl)
    (case hd_World => kernel_rfl)
    (case po_World => kernel_rfl)
    (case sa_World => k_is)
    (case nf_World__classes => k_is)
    (case mk_World => kernel_rfl)
    (case kc_World => k_is)
    (case a_Member => k_is)
    (case pg_Member => kernel_rfl)
    (case hd_Member => kernel_rfl)
    (case po_Member => kernel_rfl)
    (case sa_Member => k_is)
    (case nf_Member__world => k_is)
    (case nf_Member__label => k_is)
    (case mk_Member => kernel_rfl)
    (case kc_Member => k_is)
    (case a_h_source => k_is)
    (case l_h_source => k_is)
    (case c_h_source => k_is)
    (case k_h_source => k_is)
    (case a_h_next => k_is)
    (case l_h_next => k_is)
    (case c_h_next => k_is)
    (case k_h_next => k_is)
    (case a_is_name => k_is)
    (case l_is_name => k_is)
    (case c_is_name => k_is)
    (case k_is_name => k_is)
    (case a_are_names => k_is)
    (case l_are_names => k_is)
    (case c_are_names => k_is)
    (case k_are_names => k_is)
    (case a_are_different_names => k_is)
    (case l_are_different_names => k_is)
    (case c_are_different_names => k_is)
    (case k_are_different_names => k_is)
    (case a_Merge__prepare => k_is)
    (case if_Merge__prepare => kernel_rfl)
    (case l_Merge__prepare => k_is)
    (case c_Merge__prepare => k_is)
    (case k_Merge__prepare => k_is)
    (case a_Merge__advance => k_is)
    (case if_Merge__advance => kernel_rfl)
    (case l_Merge__advance => k_is)
    (case c_Merge__advance => k_is)
    (case k_Merge__advance => k_is)
    (case a_Merge_drop => k_is)
    (case if_Merge_drop => kernel_rfl)
    (case l_Merge_drop => k_is)
    (case c_Merge_drop => k_is)
    (case k_Merge_drop => k_is)
    (case a_Merge_draw => k_is)
    (case if_Merge_draw => kernel_rfl)
    (case l_Merge_draw => k_is)
    (case c_Merge_draw => k_is)
    (case k_Merge_draw => k_is)
    (case a_places => k_is)
    (case l_places => k_is)
    (case c_places => k_is)
    (case k_places => k_is)
    (case a_Merge___init => k_is)
    (case if_Merge___init => kernel_rfl)
    (case l_Merge___init => k_is)
    (case c_Merge___init => k_is)
    (case k_Merge___init => k_is)
    (case a_check_tuples => k_is)
    (case l_check_tuples => k_is)
    (case c_check_tuples => k_is)
    (case k_check_tuples => k_is)
    (case a_merged => k_is)
    (case l_merged => k_is)
    (case c_merged => k_is)
    (case k_merged => k_is)
    (case a_h_mixed => k_is)
    (case l_h_mixed => k_is)
    (case c_h_mixed => k_is)
    (case k_h_mixed => k_is)
    (case a_h_merged => k_is)
    (case l_h_merged => k_is)
    (case c_h_merged => k_is)
    (case k_h_merged => k_is)
    (case a_check_name => k_is)
    (case l_check_name => k_is)
    (case c_check_name => k_is)
    (case k_check_name => k_is)
    (case a_World___init => k_is)
    (case if_World___init => kernel_rfl)
    (case l_World___init => k_is)
    (case c_World___init => k_is)
    (case k_World___init => k_is)
    (case a_World___contains => k_is)
    (case if_World___contains => kernel_rfl)
    (case l_World___contains => k_is)
    (case c_World___contains => k_is)
    (case k_World___contains => k_is)
    (case a_check_class => k_is)
    (case l_check_class => k_is)
    (case c_check_class => k_is)
    (case k_check_class => k_is)
    (case a_has_words => k_is)
    (case l_has_words => k_is)
    (case c_has_words => k_is)
    (case k_has_words => k_is)
    (case a_is_change => k_is)
    (case l_is_change => k_is)
    (case c_is_change => k_is)
    (case k_is_change => k_is)
    (case a_World_copy => k_is)
    (case if_World_copy => kernel_rfl)
    (case l_World_copy => k_is)
    (case c_World_copy => k_is)
    (case k_World_copy => k_is)
    (case a_World_linearizations => k_is)
    (case pr_World_linearizations => k_is)
    (case pg_World_linearizations => k_is)
    (case pt_World_linearizations => k_is)
    (case l_World_linearizations => k_is)
    (case c_World_linearizations => k_is)
    (case k_World_linearizations => k_is)
    (case a_is_row => k_is)
    (case l_is_row => k_is)
    (case c_is_row => k_is)
    (case k_is_row => k_is)
    (case a_are_words => k_is)
    (case l_are_words => k_is)
    (case c_are_words => k_is)
    (case k_are_words => k_is)
    (case a_is_method => k_is)
    (case l_is_method => k_is)
    (case c_is_method => k_is)
    (case k_is_method => k_is)
    (case a_World__check_bases => k_is)
    (case if_World__check_bases => kernel_rfl)
    (case l_World__check_bases => k_is)
    (case c_World__check_bases => k_is)
    (case k_World__check_bases => k_is)
    (case a_World__check_methods => k_is)
    (case if_World__check_methods => kernel_rfl)
    (case l_World__check_methods => k_is)
    (case c_World__check_methods => k_is)
    (case k_World__check_methods => k_is)
    (case a_linearized => k_is)
    (case l_linearized => k_is)
    (case c_linearized => k_is)
    (case k_linearized => k_is)
    (case a_World__define => k_is)
    (case gf_World__define => k_is)
    (case tk_World__define => k_is)
    (case fi_World__define => kernel_rfl)
    (case if_World__define => kernel_rfl)
    (case l_World__define => k_is)
    (case c_World__define => k_is)
    (case k_World__define => k_is)
    (case a_World__carry_out => k_is)
    (case if_World__carry_out => kernel_rfl)
    (case l_World__carry_out => k_is)
    (case c_World__carry_out => k_is)
    (case k_World__carry_out => k_is)
    (case a_World_perform => k_is)
    (case if_World_perform => kernel_rfl)
    (case l_World_perform => k_is)
    (case c_World_perform => k_is)
    (case k_World_perform => k_is)
    (case a_h_line => k_is)
    (case l_h_line => k_is)
    (case c_h_line => k_is)
    (case k_h_line => k_is)
    (case a_h_rows => k_is)
    (case l_h_rows => k_is)
    (case c_h_rows => k_is)
    (case k_h_rows => k_is)
    (case a_World_names => k_is)
    (case pr_World_names => k_is)
    (case pg_World_names => k_is)
    (case pt_World_names => k_is)
    (case l_World_names => k_is)
    (case c_World_names => k_is)
    (case k_World_names => k_is)
    (case a_World___len => k_is)
    (case if_World___len => kernel_rfl)
    (case l_World___len => k_is)
    (case c_World___len => k_is)
    (case k_World___len => k_is)
    (case a_Member___init => k_is)
    (case if_Member___init => kernel_rfl)
    (case l_Member___init => k_is)
    (case c_Member___init => k_is)
    (case k_Member___init => k_is)
    (case a_World_member => k_is)
    (case if_World_member => kernel_rfl)
    (case l_World_member => k_is)
    (case c_World_member => k_is)
    (case k_World_member => k_is)
    (case a_found => k_is)
    (case l_found => k_is)
    (case c_found => k_is)
    (case k_found => k_is)
    (case a_Member_bases => k_is)
    (case pr_Member_bases => k_is)
    (case pg_Member_bases => k_is)
    (case pt_Member_bases => k_is)
    (case l_Member_bases => k_is)
    (case c_Member_bases => k_is)
    (case k_Member_bases => k_is)
    (case a_Member_linearization => k_is)
    (case pr_Member_linearization => k_is)
    (case pg_Member_linearization => k_is)
    (case pt_Member_linearization => k_is)
    (case l_Member_linearization => k_is)
    (case c_Member_linearization => k_is)
    (case k_Member_linearization => k_is)
    (case a_Member_methods => k_is)
    (case pr_Member_methods => k_is)
    (case pg_Member_methods => k_is)
    (case pt_Member_methods => k_is)
    (case l_Member_methods => k_is)
    (case c_Member_methods => k_is)
    (case k_Member_methods => k_is)
    (case a_h_pick => k_is)
    (case l_h_pick => k_is)
    (case c_h_pick => k_is)
    (case k_h_pick => k_is)
    (case a_h_word_row => k_is)
    (case l_h_word_row => k_is)
    (case c_h_word_row => k_is)
    (case k_h_word_row => k_is)
    (case a_h_method => k_is)
    (case l_h_method => k_is)
    (case c_h_method => k_is)
    (case k_h_method => k_is)
    (case a_h_methods => k_is)
    (case l_h_methods => k_is)
    (case c_h_methods => k_is)
    (case k_h_methods => k_is)
    (case a_h_lines => k_is)
    (case l_h_lines => k_is)
    (case c_h_lines => k_is)
    (case k_h_lines => k_is)
    (case a_h_state => k_is)
    (case l_h_state => k_is)
    (case c_h_state => k_is)
    (case k_h_state => k_is)
    (case a_h_due_state => k_is)
    (case l_h_due_state => k_is)
    (case c_h_due_state => k_is)
    (case k_h_due_state => k_is)
    (case a_World_define => k_is)
    (case if_World_define => kernel_rfl)
    (case l_World_define => k_is)
    (case c_World_define => k_is)
    (case k_World_define => k_is)
    (case a_World___getitem => k_is)
    (case gf_World___getitem => k_is)
    (case tk_World___getitem => k_is)
    (case fi_World___getitem => kernel_rfl)
    (case if_World___getitem => kernel_rfl)
    (case l_World___getitem => k_is)
    (case c_World___getitem => k_is)
    (case k_World___getitem => k_is)
    (case a_Member_label => k_is)
    (case pr_Member_label => k_is)
    (case pg_Member_label => k_is)
    (case pt_Member_label => k_is)
    (case l_Member_label => k_is)
    (case c_Member_label => k_is)
    (case k_Member_label => k_is)
    (case a_h_defined => k_is)
    (case l_h_defined => k_is)
    (case c_h_defined => k_is)
    (case k_h_defined => k_is)
    (case a_h_right => k_is)
    (case l_h_right => k_is)
    (case c_h_right => k_is)
    (case k_h_right => k_is)
    (case a_law => k_is)
    (case l_law => k_is)
    (case c_law => k_is)
    (case k_law => k_is)
    (case a_Clash => k_is)
    (case e_Clash => kernel_rfl)
    (case n_Clash => k_is)
    (case t_Clash => k_is)
    (case l_IClash => k_is)
    (case c_IClash => k_is)
    (case k_IClash => k_is)
    (case z_len => k_is)
    (case z_isinstance => k_is)
    (case z_str => k_is)
    (case z_tuple => k_is)
    (case z_all => k_is)
    (case z_set => k_is)
    (case z_list => k_is)
    (case z_range => k_is)
    (case z_enumerate => k_is)
    (case z_repr => k_is)
    (case z_max => k_is)
    (case z_min => k_is)
    (case z_sorted => k_is)
    (case z_dict => k_is)
    (case mm_LONGEST_NAME => k_is)
    (case mm_LONGEST_ROW => k_is)
    (case mm_PARTS_methods => k_is)
    (case mm_MOST_WORDS => k_is)
    (case mm_BASES => k_is)
    (case mm_METHODS => k_is)
    (case mm_LINE => k_is)
    (case ca_MAX_BASES => k_is)
    (case cg_MAX_BASES => k_is)
    (case ca_MAX_CLASSES => k_is)
    (case cg_MAX_CLASSES => k_is)
    (case ca_MAX_METHODS => k_is)
    (case cg_MAX_METHODS => k_is)
    (case a_parts => k_is)
    (case kd1 => kernel_rfl)
    (case kd2 => kernel_rfl)
    (case a_barred => k_is)
    (case kb => kernel_rfl)
