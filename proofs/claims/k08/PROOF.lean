import PyProof.Rows.All
import Wide.All
import OpenK.AllK
import Wide.FinOn
import HandS.ForMost
import HandS.IsInst
import HandS.Wide
import HandS.Exc
import HandS.ExcField
import HandS.ExcIs
import HandS.ExcInit
import KE.KExcIs
import KE.KTryMore
import PyProof.Rows.TupMod
import HandS.Ends
import HandS.Strs
import HandS.Walk
import KE.GoesEnum
import KE.GoesMore
import HandS.TupAny
import HandS.DictComp
import HandS.Deep
import HandS.ExcOwn
import PyProof.Rows.RegFStrParts
import HandS.More
import HandS.Star
import HandS.SetKeys
import HandS.WideBits
import KE.KBits
import KE.OsArith
import PyProof.Rows.RuleB_and
import PyProof.Rows.RuleB_or
import HandS.Style
import HandS.OwnEq
import HandS.MethStar
import HandS.Property
import HandS.IterVal
import PyProof.ReprRoads
import PyProof.Rows.TmSorted
import PyProof.Rows.StrMeet
import HandS.Lambda
import HandS.EndTab
import HandS.NestedK
import KE.KExcInit
import PyProof.AttrMiss
import PyProof.InstEq
import HandS.SlotsOwn
import HandS.Set
import HandS.Comp
import PyProof.DictUpdate
import HandS.Dict
import HandS.List
import HandS.WordsExc
import HandS.TupLe
import KE.OsRunLaw
import HandS.Head0
import HandS.Head1
import HandS.Head2
import PySem.Challenge.RW_nextbehind_k08_merging_errors
set_option Elab.async false
set_option maxRecDepth 100000
set_option maxHeartbeats 4000000
/-! Heaps, and the numbers that the laws draw: what is common to all of them. -/
namespace Nb
open PySem L2
/-! ### heaps -/
theorem same_new {H : Hp} {p : Addr} {o : HO} (h : H p = none) : Same H (upd H p o) := fun b x e => by
  rw [upd_ne (ne_of_none e h)]
  exact e
/-- F says nothing of p: so what is stored at p leaves F as it is -/
theorem same_at {F H : Hp} {p : Addr} {o : HO} (s : Same F H) (h : F p = none) : Same F (upd H p o) := fun b x e => by
  rw [upd_ne (ne_of_none e h)]
  exact s _ _ e
theorem same_in {F H : Hp} {p : Addr} {o : HO} (s : Same F H) (h : H p = none) : Same F (upd H p o) := s.trans (same_new h)
/-- the heap without p -/
def del (H : Hp) (p : Addr) : Hp := fun b => if b = p then none else H b
theorem del_at {H : Hp} {p : Addr} : del H p p = none := if_pos rfl
theorem del_ne {H : Hp} {p b : Addr} (h : b ≠ p) : del H p b = H b := if_neg h
theorem del_same {H : Hp} {p : Addr} : Same (del H p) H := fun b o e => by
  by_cases h : b = p
  · subst h
    rw [del_at] at e
    cases e
  · rw [del_ne h] at e
    exact e
theorem same_del {F H : Hp} {p : Addr} (s : Same F H) (h : F p = none) : Same F (del H p) := fun b o e => by
  rw [del_ne (ne_of_none e h)]
  exact s _ _ e
theorem Same.tup {K : PySem.W.Frag} {H H' : Hp} {a : Addr} {xs : List V} (e : Same H H') (h : SqT K H a xs) : SqT K H' a xs := by
  rcases h with (h | ⟨o, h⟩) | h
  · exact .inl (.inl (e _ _ h))
  · exact .inl (.inr ⟨o, e _ _ h⟩)
  · exact .inr h
/-! ### data under more objects -/
section
variable {K : PySem.W.Frag} {H H' : Hp} (s : Same H H')
include s
mutual
theorem dp_same : ∀ (d : PyData) (v : V), Dp K H v d → Dp K H' v d
  | .none, _, .non => .non
  | .bool b, _, .bl _ => .bl b
  | .int i, _, .int _ => .int i
  | .str x, _, .str _ => .str x
  | .list ds, _, .lst h1 h2 => .lst (s.seq h1) (dp_sames ds _ h2)
  | .tuple ds, _, .tup h1 h2 => .tup (Nb.Same.tup s h1) (dp_sames ds _ h2)
theorem dp_sames : ∀ (ds : List PyData) (vs : List V), DpAll K H vs ds → DpAll K H' vs ds
  | [], _, .nil => .nil
  | d :: ds, _, .cons h1 h2 => .cons (dp_same d _ h1) (dp_sames ds _ h2)
end
end
theorem dp_ints {K : PySem.W.Frag} {H : Hp} : ∀ ns : List Int, DpAll K H (ns.map V.int) (ns.map PyData.int)
  | [] => .nil
  | n :: ns => .cons (.int n) (dp_ints ns)
/-- data without dicts, whose texts are texts, not deeper than n -/
def Fine (n : Nat) (d : PyData) : Prop := d.canLay0 = true ∧ d.depth ≤ n
theorem Fine.mono {n m : Nat} {d : PyData} (h : Fine n d) (l : n ≤ m) : Fine m d := ⟨h.1, Nat.le_trans h.2 l⟩
theorem Fine.shaped {n : Nat} {d : PyData} (h : Fine n d) (l : n ≤ 64) : SeqAt.shaped d = true := by
  unfold SeqAt.shaped
  rw [h.1, Bool.true_and]
  exact decide_eq_true (Nat.le_trans h.2 l)
theorem fine_all : ∀ {n : Nat} {ds : List PyData}, (∀ d ∈ ds, Fine n d) → PyData.canLayAll0 ds = true ∧ PyData.depthAll ds ≤ n
  | n, [], _ => by simp [PyData.canLayAll0, PyData.depthAll]
  | n, d :: ds, h => by
    have h1 := h d (List.mem_cons_self ..)
    have h2 := fine_all (n := n) (ds := ds) fun e he => h e (List.mem_cons_of_mem _ he)
    refine ⟨by simp [PyData.canLayAll0, h1.1, h2.1], ?_⟩
    simp only [PyData.depthAll]
    exact Nat.max_le.mpr ⟨h1.2, h2.2⟩
theorem fine_list {n : Nat} {ds : List PyData} (h : ∀ d ∈ ds, Fine n d) : Fine (n + 1) (.list ds) := by
  have k := fine_all h
  exact ⟨by simpa [PyData.canLay0] using k.1, by simpa [PyData.depth] using k.2⟩
theorem fine_tup {n : Nat} {ds : List PyData} (h : ∀ d ∈ ds, Fine n d) : Fine (n + 1) (.tuple ds) := by
  have k := fine_all h
  exact ⟨by simpa [PyData.canLay0] using k.1, by simpa [PyData.depth] using k.2⟩
theorem fine_int (i : Int) : Fine 0 (.int i) := ⟨by simp [PyData.canLay0], by simp [PyData.depth]⟩
theorem fine_non : Fine 0 .none := ⟨by simp [PyData.canLay0], by simp [PyData.depth]⟩
theorem fine_bl (b : Bool) : Fine 0 (.bool b) := ⟨by simp [PyData.canLay0], by simp [PyData.depth]⟩
theorem fine_str {x : Str} (h : PyData.strOk x = true) : Fine 0 (.str x) := ⟨by simpa [PyData.canLay0] using h, by simp [PyData.depth]⟩
theorem fine_ints (ns : List Int) : Fine 1 (.list (ns.map PyData.int)) := fine_list fun d hd => by
  obtain ⟨i, _, rfl⟩ := List.mem_map.mp hd
  exact fine_int i
theorem eqv_nil (ds : List PyData) : PyData.eqv (.list ds) (.list []) = ds.isEmpty := by
  cases ds <;> simp [PyData.eqv, PyData.eqvAll]
/-! ### the source of numbers: a list of three ints -/
def Src (H : Hp) (p : Addr) (b : Nat) : Prop := ∃ c n r : Int, H p = some (.lst [.int c, .int n, .int r]) ∧ 0 ≤ n ∧ n ≤ b
theorem Src.mono {H : Hp} {p : Addr} {b c : Nat} (h : Src H p b) (l : b ≤ c) : Src H p c := by
  obtain ⟨x, n, r, h1, h2, h3⟩ := h
  exact ⟨x, n, r, h1, h2, by omega⟩
theorem Src.some {H : Hp} {p : Addr} {b : Nat} (h : Src H p b) : ∃ o, H p = some o := let ⟨_, _, _, e, _⟩ := h; ⟨_, e⟩
theorem Src.same {F H : Hp} {p : Addr} {b : Nat} (h : Src F p b) (s : Same F H) : Src H p b :=
  let ⟨c, n, r, e, k⟩ := h; ⟨c, n, r, s _ _ e, k⟩
/-- _law_source's promise -/
def spSource (K : PySem.W.Frag) : Sp := fun vs H Q _ => ∃ (a : Addr) (ns : List Int) (k : Nat), vs = [.ref a, .int k] ∧ SqL K H a (ns.map V.int) ∧ ns.length ≤ 63 ∧ k ≤ 1000 ∧
  ∀ H' p, Same H H' → H p = none → Src H' p (3 * k) → Q (.ref p) H'
/-- _law_next's: a number below the second argument; nothing but the source is changed -/
def spNext : Sp := fun vs H Q _ => ∃ (p : Addr) (m : Int) (b : Nat) (F : Hp), vs = [.ref p, .int m] ∧ 1 ≤ m ∧ m < 1000000 ∧ Src H p b ∧ b ≤ 1000000 ∧ F p = none ∧ Same F H ∧
  ∀ H' k, 0 ≤ k → k < m → Same F H' → Src H' p (b + 1) → Q (.int k) H'
/-- _law_pick's: an item of the list -/
def spPick : Sp := fun vs H Q _ => ∃ (p l : Addr) (xs : List V) (b : Nat) (F : Hp), vs = [.ref p, .ref l] ∧ F l = some (.lst xs) ∧ 1 ≤ xs.length ∧ xs.length ≤ 1000 ∧ Src H p b ∧ b ≤ 1000000 ∧ F p = none ∧ Same F H ∧
  ∀ H' x, x ∈ xs → Same F H' → Src H' p (b + 1) → Q x H'
/-! ### frames: what stands beside the source -/
theorem grow_same {F H : Hp} {l : Addr} {o : HO} (s : Same F H) (h : H l = none) : Same F (upd F l o) := same_new (s.free h)
theorem grow_up {F H : Hp} {l : Addr} {o : HO} (s : Same F H) : Same (upd F l o) (upd H l o) := fun b x e => by
  by_cases hb : b = l
  · subst hb
    rw [upd_same] at e ⊢
    exact e
  · rw [upd_ne hb] at e ⊢
    exact s _ _ e
theorem grow_at {F H : Hp} {p l : Addr} {o : HO} {b : Nat} (hF : F p = none) (S : Src H p b) (h : H l = none) : (upd F l o) p = none := by
  obtain ⟨u, e⟩ := S.some
  rw [upd_ne (ne_of_none e h)]
  exact hF
theorem src_new {H : Hp} {p l : Addr} {o : HO} {b : Nat} (S : Src H p b) (h : H l = none) : Src (upd H l o) p b := S.same (same_new h)
/-- what stood at b, not the source, stands there behind a call that was framed by the heap without the source -/
theorem del_get {H H' : Hp} {p b : Addr} {o : HO} (s : Same (del H p) H') (n : b ≠ p) (e : H b = some o) : H' b = some o := s _ _ (by rw [del_ne n]; exact e)
theorem src_ne {H : Hp} {p b : Addr} {n : Nat} {o : HO} (S : Src H p n) (e : H b = some o) (d : ∀ xs, o ≠ .lst xs) : b ≠ p := by
  obtain ⟨c, m, r, e2, _⟩ := S
  exact ne_of e e2 (d _)
/-- the primes -/
def primes : List Int := [2147483647, 2147483629, 2147483587, 2147483579, 2147483563, 2147483549, 2147483543, 2147483497, 2147483489, 2147483477, 2147483423]
theorem prime_at (k : Int) (h0 : 0 ≤ k) (h : k < 11) : ∃ q : Int, atI (primes.map V.int) k = some (.int q) ∧ 2 ≤ q ∧ q < 2 ^ 31 := by
  have hk : k = 0 ∨ k = 1 ∨ k = 2 ∨ k = 3 ∨ k = 4 ∨ k = 5 ∨ k = 6 ∨ k = 7 ∨ k = 8 ∨ k = 9 ∨ k = 10 := by omega
  rcases hk with rfl | rfl | rfl | rfl | rfl | rfl | rfl | rfl | rfl | rfl | rfl
  all_goals exact ⟨_, rfl, by decide, by decide⟩
theorem fmod_pos (x : Int) {m : Int} (h : 1 ≤ m) : 0 ≤ x.fmod m ∧ x.fmod m < m := by
  rw [Int.fmod_eq_emod_of_nonneg x (by omega)]
  exact ⟨Int.emod_nonneg _ (by omega), Int.emod_lt_of_pos _ (by omega)⟩
end Nb

set_option Elab.async false
set_option maxRecDepth 100000
set_option maxHeartbeats 4000000
/-! A caught error that is asked behind its handler: it is told in the heap from then on. -/
namespace Nb
open PySem PySem.Spec PyProof.Rows L2
/-- an error of the class cls, its dict at d, that flies no more -/
def Ke (cls : Value) (d : Option Addr) (a : Addr) : HO := .ext fun h => ∃ (oe : Obj) (vs : Array Value), h.get? a = some oe ∧ Zc cls d oe ∧ oe.data = .fields vs
theorem ke_ok {P : Program} {w : World} {H : Hp} {h : Heap} {a : Addr} {cls : Value} {d : Option Addr} {oe : Obj} {vs : Array Value} (e : h.get? a = some oe) (z : Zc cls d oe) (f : oe.data = .fields vs) : ObjOk P w H h a (Ke cls d a) :=
  ⟨⟨oe, vs, e, z, f⟩, ⟨oe, e⟩, fun _ _ ⟨o, ws, e1, z1, f1⟩ k => ⟨o, ws, k o e1, z1, f1⟩⟩
theorem ke_at {P : Program} {w : World} {H : Hp} {h : Heap} {a : Addr} {cls : Value} {d : Option Addr} (hok : HOk P w H h) (e : H a = some (Ke cls d a)) : ∃ (oe : Obj) (vs : Array Value), h.get? a = some oe ∧ Zc cls d oe ∧ oe.data = .fields vs := (show ObjOk P w H h a (Ke cls d a) from hok a _ e).1
section
variable {X : Cx} {pins : List (Addr × Obj)} {σ : L2.St} {H : Hp} {s : Shared} {a : Addr}
/-- what is new since the def began, and stands nowhere, may be told -/
theorem inv_tell {o : HO} (I : Inv X pins σ H s) (na : H a = none) (n0 : X.s_0.heap.get? a = none) (nL : a ≠ X.env.locals) (nC : ∀ v, ¬ s.heap.IsCell a v) (nP : ∀ p ∈ X.pn ++ pins, p.1 ≠ a) (ho : ObjOk X.prog X.w (upd H a o) s.heap a o) :
    Inv X pins σ (upd H a o) s := by
  have ne : ∀ {b : Addr} {u : HO}, H b = some u → b ≠ a := fun e => ne_of_none e na
  refine ⟨I.ok, I.os, I.bare, ?_, I.loc, I.cell, ?_, ?_, ?_, ?_, I.len⟩
  · refine ⟨I.base.keep, I.base.slot, fun b ob e n hx => ?_, I.base.there, fun b xs e => ?_, fun b ob u e => ?_, fun b ps e => ?_⟩
    · have nb : b ≠ a := fun z => by
        rw [z, n0] at e
        cases e
      rw [upd_ne nb]
      exact I.base.free b ob e n hx
    · have t := I.base.tups b xs e
      rw [upd_ne (ne t)]
      exact t
    · have t := I.base.frzs b ob u e
      rw [upd_ne (ne t)]
      exact t
    · obtain ⟨m, t⟩ := I.base.tbls b ps e
      exact ⟨m, by rw [upd_ne (ne t)]; exact t⟩
  · rw [upd_ne (Ne.symm nL)]
    exact I.free
  · intro y c hc
    have nc : c ≠ a := fun z => by
      obtain ⟨v, hv⟩ := I.cell y c hc
      exact nC v (z ▸ hv)
    rw [upd_ne nc]
    exact I.freeC y c hc
  · intro p hp
    obtain ⟨p1, p2, p3⟩ := I.pin p hp
    exact ⟨p1, by rw [upd_ne (nP p hp)]; exact p2, p3⟩
  · intro b u e
    by_cases hb : b = a
    · subst hb
      rw [upd_same] at e
      cases e
      exact ho
    · rw [upd_ne hb] at e
      exact (I.hok b u e).stay (fun c v _ q => q) (fun c q => by rw [upd_ne (ne q)]; exact q) fun c xs q => by rw [upd_ne (ne q)]; exact q
end
/-- what such a clause wishes of an error of the body: slot i is the name of the clause -/
def wKept (K : PySem.W.Frag) (c : Value) (i : Nat) (ts : Addr → Value → Option Addr → TS) (D : Ends) : WX := fun cls d σ H =>
  PySem.W.exmOne K cls c = some true ∧ ∀ a, H a = none → ts a cls d { nx := fun σ' H' => D.nx (σ'.set i none) (upd H' a (Ke cls d a)), rt := fun v H' => D.rt v (upd H' a (Ke cls d a)), bk := fun σ' H' => D.bk (σ'.set i none) (upd H' a (Ke cls d a)), ct := fun σ' H' => D.ct (σ'.set i none) (upd H' a (Ke cls d a)) } (σ.set i (some (.ref a))) H
section
variable {X : Cx} {nm : Str} {c : Value} {i : Nat} {x : Str} {body su : List Stmt} {b1 : Stmt} {px p1 p2 : Pos} {tb : WX → TS} {ts : Addr → Value → Option Addr → TS}
/-- try: .. except C as n: .., where the body lets out nothing but errors of C: what is caught is told in the heap behind the clause -/
theorem ps_try_kept (st : X.stack = X.env :: X.outer) (fl : X.env.frame = some X.env.locals) (x0 : X.ex = []) (nd : X.N.Nodup) (at_ : X.N[i]? = some nm) (lc : X.env.kindOf nm = some .local) (cn : Names X x c)
    (tbd : ∀ (W : WX) (pn : List (Addr × Obj)) (xe : Value → Shared → Prop), Takes (X.tr pn xe) W → PassesOwn (model X.prog X.w) X.A X.env xe → PSs (X.tr pn xe) body (tb W))
    (tsu : ∀ (a : Addr) (oe : Obj) (cls : Value) (d : Option Addr) (pn : List (Addr × Obj)), Zc cls d oe → (∃ vs, oe.data = .fields vs) → PSs (X.suite a ((a, oe) :: pn)) (b1 :: su) (ts a cls d)) :
    PS X (.Try body [.ExceptHandler (some (.Name x px)) (some nm) (b1 :: su) p1] [] [] p2) (fun D σ H => tb (wKept X.K c i ts D) D σ H) := by
  refine ⟨fun pins s σ H D I h => wpAny_Try_except ?_⟩
  have ok := I.ok
  have fr : X.A.frames = some (X.env :: X.outer) := by rw [ok.frames, st]
  refine wpAny_mono ((tbd (wKept X.K c i ts D) (X.pn ++ pins) _ ?take PassesOwn.looking).run [] s σ H D (I.toTry _) h) (fun f s1 r => ?done) (fun e s1 r => r)
  case done =>
    cases f with
    | next =>
      obtain ⟨σ1, H1, J, r⟩ := r
      exact wpAny_execs_nil ⟨σ1, H1, J.ofTry ok, r⟩
    | ret u =>
      obtain ⟨v, σ1, H1, J, e, r⟩ := r
      exact ⟨v, σ1, H1, J.ofTry ok, e, r⟩
    | brk =>
      obtain ⟨σ1, H1, J, r⟩ := r
      exact ⟨σ1, H1, J.ofTry ok, r⟩
    | cont =>
      obtain ⟨σ1, H1, J, r⟩ := r
      exact ⟨σ1, H1, J.ofTry ok, r⟩
  case take =>
    rintro u s1 ⟨a, B, s0, ps, σ1, H1, cls, d, rfl, J0, inB, up, sky, na, os, ag, mt, yes⟩
    have J := J0.ofTry (pn' := ps) ok
    have sky1 : Sky B (X.env :: X.outer) a (Zc cls d) X.env.locals s1.heap := st ▸ sky
    have notB : B.get? a = none := by
      rcases sky1 with k | k | k
      · exact k.2.1
      · exact k.2.1
      · exact k.2.1
    refine Sky.land Zc.steady fr fl sky1 fun h2 f2 up2 => ?_
    have J2 : Inv X pins σ1 H1 { s1 with heap := h2 } := J.landed inB f2.1 (up.trans up2) os ag
    obtain ⟨o2, w2, e2, z2, d2⟩ := f2.there
    have out : a ∉ frs (X.env :: X.outer) := fun hm => by
      obtain ⟨_, o, eo, no⟩ := f2.2.2.1.mem hm
      rw [e2] at eo
      cases eo
      exact no _ d2
    have nL : a ≠ X.env.locals := fun z => out (List.mem_filterMap.mpr ⟨X.env, List.mem_cons_self, by rw [fl, z]⟩)
    have nF : a ∉ X.fs := fun hm => by
      obtain ⟨e, he, q⟩ := List.mem_filterMap.mp hm
      exact out (List.mem_filterMap.mpr ⟨e, List.mem_cons_of_mem _ he, q⟩)
    have gone : ∀ {b : Addr} {o : Obj}, s0.heap.get? b = some o → b ∉ frs X.stack → b ≠ a := fun e n z => by
      have q := inB _ _ e n
      rw [z, notB] at q
      cases q
    have outS : a ∉ frs X.stack := st ▸ out
    have new0 : X.s_0.heap.get? a = none := by
      cases e : X.s_0.heap.get? a with
      | none => rfl
      | some o =>
        obtain ⟨o', e'⟩ := J.base.there a o e (by rw [x0]; exact fun z => nomatch z)
        exact absurd rfl (gone e' outS)
    have nP : ∀ p ∈ X.pn ++ pins, p.1 ≠ a := fun p hp => by
      obtain ⟨g1, _, g3, g4, _⟩ := J.pin p hp
      refine gone g1 fun hm => ?_
      rw [st] at hm
      obtain ⟨e, he, q⟩ := List.mem_filterMap.mp hm
      rcases List.mem_cons.mp he with rfl | he
      · rw [fl] at q
        exact g3 (Option.some.inj q).symm
      · exact g4 (List.mem_filterMap.mpr ⟨e, he, q⟩)
    have S2 := J2.suite e2 d2 na nL nF
    have isC : PySem.W.Looks (model X.prog X.w) h2 (typeOf (.ref a)) cls := fun A Q E s k q => wpAny_typeOf_ref (k _ _ e2) (by rw [z2.1]; exact q)
    have asks := PySem.W.exm_one (M := model X.prog X.w) J2.kIn isC mt
    have named : ∀ {Q : Value → Shared → Prop} {E : Value → Shared → Prop}, Q c { s1 with heap := h2 } → wpAny (model X.prog X.w) (X.A.mark (some (.ref a))) (eval (.Name x px) X.env) Q E { s1 with heap := h2 } := fun q => by
      rcases cn with ⟨g1, g2, g3 | ⟨g3, g4, g5⟩⟩
      · exact ld_glob (X := X.suite a ((a, o2) :: (X.pn ++ pins))) S2 g1 g3 q g2
      · exact ld_blt (X := X.suite a ((a, o2) :: (X.pn ++ pins))) S2 g1 g3 g4 q g5 g2
    refine wpAny_handleBy_cons (codeAny_handlers_test (named (asks.here ?_))) fun q => nomatch q
    refine codeAny_handlers_suite_as (HandSPX.lands_againZ f2 fun h3 f3 up3 => ?_)
    have J3 : Inv X pins σ1 H1 { s1 with heap := h3 } := J.landed inB f3.1 ((up.trans up2).trans up3) os ag
    obtain ⟨o3, w3, e3, z3, d3⟩ := f3.there
    refine store_ok (X := X.suite a ((a, o3) :: (X.pn ++ pins))) (v := .ref a) (J3.suite e3 d3 na nL nF) nd at_ (.inl lc) rfl (fun s4 S4 => ?_) (.inr lc)
    refine wpAny_mono ((tsu a o3 cls d (X.pn ++ pins) z3 ⟨_, d3⟩).run [] s4 _ H1 _ S4 (yes a na)) (fun f s5 r => ?_) (fun _ _ z => False.elim z)
    have close : ∀ {σ5 : L2.St} {H5 : Hp} {Q : Shared → Prop}, Inv (X.suite a ((a, o3) :: (X.pn ++ pins))) [] σ5 H5 s5 → (∀ s6, Inv X pins (σ5.set i none) (upd H5 a (Ke cls d a)) s6 → Q s6) →
        wpAny (model X.prog X.w) X.A (do bindName X.env nm .none; unbindBehindTheSuite X.env nm p1) (fun _ s6 => Q s6) X.xe s5 := fun {σ5 H5 Q} S5 q => by
      obtain ⟨g1, g2, _⟩ := S5.pin (a, o3) (List.mem_append_left _ List.mem_cons_self)
      have g1 : s5.heap.get? a = some o3 := g1
      refine gone_ok (inv_tell (S5.unsuite ok) g2 new0 nL (fun v hv => ?_) nP (ke_ok g1 z3 d3)) nd at_ lc q
      obtain ⟨o, ho, hd⟩ := hv
      rw [g1] at ho
      cases ho
      rw [d3] at hd
      cases hd
    cases f with
    | next =>
      obtain ⟨σ5, H5, S5, r⟩ := r
      exact close S5 fun s6 J6 => ⟨_, _, J6, r⟩
    | ret u =>
      obtain ⟨v, σ5, H5, S5, e, r⟩ := r
      exact close S5 fun s6 J6 => ⟨_, _, _, J6, e, r⟩
    | brk =>
      obtain ⟨σ5, H5, S5, r⟩ := r
      exact close S5 fun s6 J6 => ⟨_, _, J6, r⟩
    | cont =>
      obtain ⟨σ5, H5, S5, r⟩ := r
      exact close S5 fun s6 J6 => ⟨_, _, J6, r⟩
end
/-- an error that is told, with its fields -/
def KeptAt (H : Hp) (a D dd : Addr) (fs : List (Str × V)) : Prop := H a = some (Ke (.ref D) (some dd) a) ∧ H dd = some (.xd fs)
theorem kept_same {H H' : Hp} {a D dd : Addr} {fs : List (Str × V)} (s : Same H H') (h : KeptAt H a D dd fs) : KeptAt H' a D dd fs := ⟨s _ _ h.1, s _ _ h.2⟩
theorem kept_inst {P : Program} {w : World} {H : Hp} {h : Heap} {a D dd : Addr} {fs : List (Str × V)} (hok : HOk P w H h) (k : KeptAt H a D dd fs) :
    ∃ (oe od : Obj) (mA : Str → Option Value), PySem.W.InstAt h a oe D (some od) ∧ h.Ns1 dd mA ∧ (∀ f, RelO (fs.lookup f) (mA f)) ∧ ∀ f, PySem.W.lookIn f od = some (mA f) := by
  obtain ⟨oe, vs, e1, z1, f1⟩ := ke_at hok k.1
  have x : ObjOk P w H h dd (.xd fs) := hok dd _ k.2
  obtain ⟨mA, hns, hr⟩ := x
  obtain ⟨od, ho, hl⟩ := lookIn_ns hns
  refine ⟨oe, od, mA, ⟨e1, z1.1, ?_, ?_⟩, hns, hr, fun f => ?_⟩
  · unfold PySem.W.notCls
    rw [f1] <;> rfl
  · rw [z1.2]
    exact ho
  · exact hl f
/-- e.f of such an error -/
def tKf (K : PySem.W.Frag) (f : Str) (te : TE) : TE := fun σ H Q => te σ H fun x H1 => ∃ (a D dd : Addr) (fs : List (Str × V)) (v : V), x = .ref a ∧ XfC K D ∧ PySem.W.findIn K (.ref D) f = some none ∧ KeptAt H1 a D dd fs ∧ fs.lookup f = some v ∧ Q v H1
theorem pe_kf {X : Cx} {e : Expr} {te : TE} {pos : Pos} {f : Str} (he : PE X e te) (hb : attributeBase e f X.env (eval e X.env) = eval e X.env := by rfl) : PE X (.Attribute e f pos) (tKf X.K f te) := by
  refine ⟨fun pins s σ H Q I h => attr_of hb (thn (he.run pins s σ H _ I h) fun u s1 k => ?_)⟩
  obtain ⟨x, H1, I1, rx, a, D, dd, fs, v, rfl, T, no, ka, l, q⟩ := k
  cases rx
  obtain ⟨oe, od, mA, J, hns, hr, hl⟩ := kept_inst I1.hok ka
  obtain ⟨u, hu, ru⟩ := RelO.some_of (v := v) (o := mA f) (by rw [← l]; exact hr f)
  exact HandSPX.exc_get I1.kIn J T.ga T.gg T.exC (PySem.W.findObj_own T.hdC no rfl (by rw [hl, hu])) (handed_of ru) ⟨v, H1, I1.tok _, ru, q⟩
/-- isinstance(e, c) of such an error -/
def rIsK (K : PySem.W.Frag) : List V → Hp → VK → Prop := fun xs H Q => ∃ (a D dd : Addr) (fs : List (Str × V)) (c : V) (cv : Value) (b : Bool), xs = [.ref a, c] ∧ ExcC K D ∧ KeptAt H a D dd fs ∧ (∀ u, RelV c u → u = cv) ∧ PySem.W.kitOne K (.ref D) cv = some b ∧ Q (.bl b) H
theorem call_isK {X : Cx} : CallR X (.builtin "isinstance") (rIsK X.K) := by
  intro pins s σ H xs us Q I r h
  obtain ⟨a, D, dd, fs, c, cv, b, rfl, C, ka, hcv, e, q⟩ := h
  obtain ⟨oe, od, mA, J, _⟩ := kept_inst I.hok ka
  cases r with
  | cons rx rr => cases rr with
    | cons rt rr =>
      cases rr
      cases rx
      cases hcv _ rt
      obtain ⟨cd, hc, _⟩ := PySem.W.any_some C.hd
      exact PySem.W.kia_one (PySem.W.kitx_exc (by rw [hc]; rfl) C.hg C.hk C.hs C.ha C.hn C.ht C.hm) I.kIn J e (fun z => nomatch z) fun tk => ⟨.bl b, H, I.kept (t' := tk) fun _ _ z => z, rfl, q⟩
end Nb

set_option Elab.async false
set_option maxRecDepth 100000
set_option maxHeartbeats 4000000
/-! try: .. except (A, B) as n: .., the caught error told in the heap from the end of the clause on. -/
namespace Nb
open PySem PySem.Spec PyProof.Rows L2
theorem fly_keep {B h h' : Heap} {l : List Env} {a : Addr} {Z : Obj → Prop} (f : HandSPX.FlyingZ B l a Z h) (k : ∀ b o, h.get? b = some o → h'.get? b = some o) : HandSPX.FlyingZ B l a Z h' := by
  obtain ⟨f1, f2, f3, oe, vs, T, oT, ts, e1, e2, e3, e4, e5, e6, e7, e8, e9⟩ := f
  exact ⟨fun b o e => k _ _ (f1 b o e), f2, f3.of_keeps fun b o e _ => ⟨o, k _ _ e, rfl⟩, oe, vs, T, oT, ts, k _ _ e1, e2, e3, e4, e5, e6, k _ _ e7, e8, e9⟩
/-- what such a clause wishes of an error of the body: slot i is the name of the clause -/
def wKept2 (K : PySem.W.Frag) (c1 c2 : Value) (i : Nat) (ts : Addr → Value → Option Addr → TS) (D : Ends) : WX := fun cls d σ H =>
  PySem.W.exmAny K cls [c1, c2] = some true ∧ ∀ a, H a = none → ts a cls d { nx := fun σ' H' => D.nx (σ'.set i none) (upd H' a (Ke cls d a)), rt := fun v H' => D.rt v (upd H' a (Ke cls d a)), bk := fun σ' H' => D.bk (σ'.set i none) (upd H' a (Ke cls d a)), ct := fun σ' H' => D.ct (σ'.set i none) (upd H' a (Ke cls d a)) } (σ.set i (some (.ref a))) H
section
variable {X : Cx} {nm : Str} {c1 c2 : Value} {i : Nat} {x1 x2 : Str} {body su : List Stmt} {b1 : Stmt} {px1 px2 pt p1 p2 : Pos} {kk : Nat} {tb : WX → TS} {ts : Addr → Value → Option Addr → TS}
/-- try: .. except C as n: .., where the body lets out nothing but errors of C: what is caught is told in the heap behind the clause -/
theorem ps_try_kept2 (st : X.stack = X.env :: X.outer) (fl : X.env.frame = some X.env.locals) (x0 : X.ex = []) (nd : X.N.Nodup) (at_ : X.N[i]? = some nm) (lc : X.env.kindOf nm = some .local) (cn1 : Names X x1 c1) (cn2 : Names X x2 c2)
    (tbd : ∀ (W : WX) (pn : List (Addr × Obj)) (xe : Value → Shared → Prop), Takes (X.tr pn xe) W → PassesOwn (model X.prog X.w) X.A X.env xe → PSs (X.tr pn xe) body (tb W))
    (tsu : ∀ (a : Addr) (oe : Obj) (cls : Value) (d : Option Addr) (pn : List (Addr × Obj)), Zc cls d oe → (∃ vs, oe.data = .fields vs) → PSs (X.suite a ((a, oe) :: pn)) (b1 :: su) (ts a cls d)) :
    PS X (.Try body [.ExceptHandler (some (.Tuple [.Name x1 px1, .Name x2 px2] kk pt)) (some nm) (b1 :: su) p1] [] [] p2) (fun D σ H => tb (wKept2 X.K c1 c2 i ts D) D σ H) := by
  refine ⟨fun pins s σ H D I h => wpAny_Try_except ?_⟩
  have ok := I.ok
  have fr : X.A.frames = some (X.env :: X.outer) := by rw [ok.frames, st]
  refine wpAny_mono ((tbd (wKept2 X.K c1 c2 i ts D) (X.pn ++ pins) _ ?take PassesOwn.looking).run [] s σ H D (I.toTry _) h) (fun f s1 r => ?done) (fun e s1 r => r)
  case done =>
    cases f with
    | next =>
      obtain ⟨σ1, H1, J, r⟩ := r
      exact wpAny_execs_nil ⟨σ1, H1, J.ofTry ok, r⟩
    | ret u =>
      obtain ⟨v, σ1, H1, J, e, r⟩ := r
      exact ⟨v, σ1, H1, J.ofTry ok, e, r⟩
    | brk =>
      obtain ⟨σ1, H1, J, r⟩ := r
      exact ⟨σ1, H1, J.ofTry ok, r⟩
    | cont =>
      obtain ⟨σ1, H1, J, r⟩ := r
      exact ⟨σ1, H1, J.ofTry ok, r⟩
  case take =>
    rintro u s1 ⟨a, B, s0, ps, σ1, H1, cls, d, rfl, J0, inB, up, sky, na, os, ag, mt, yes⟩
    have J := J0.ofTry (pn' := ps) ok
    have sky1 : Sky B (X.env :: X.outer) a (Zc cls d) X.env.locals s1.heap := st ▸ sky
    have notB : B.get? a = none := by
      rcases sky1 with k | k | k
      · exact k.2.1
      · exact k.2.1
      · exact k.2.1
    refine Sky.land Zc.steady fr fl sky1 fun h2 f2 up2 => ?_
    have J2 : Inv X pins σ1 H1 { s1 with heap := h2 } := J.landed inB f2.1 (up.trans up2) os ag
    obtain ⟨o2, w2, e2, z2, d2⟩ := f2.there
    have out : a ∉ frs (X.env :: X.outer) := fun hm => by
      obtain ⟨_, o, eo, no⟩ := f2.2.2.1.mem hm
      rw [e2] at eo
      cases eo
      exact no _ d2
    have nL : a ≠ X.env.locals := fun z => out (List.mem_filterMap.mpr ⟨X.env, List.mem_cons_self, by rw [fl, z]⟩)
    have nF : a ∉ X.fs := fun hm => by
      obtain ⟨e, he, q⟩ := List.mem_filterMap.mp hm
      exact out (List.mem_filterMap.mpr ⟨e, List.mem_cons_of_mem _ he, q⟩)
    have gone : ∀ {b : Addr} {o : Obj}, s0.heap.get? b = some o → b ∉ frs X.stack → b ≠ a := fun e n z => by
      have q := inB _ _ e n
      rw [z, notB] at q
      cases q
    have outS : a ∉ frs X.stack := st ▸ out
    have new0 : X.s_0.heap.get? a = none := by
      cases e : X.s_0.heap.get? a with
      | none => rfl
      | some o =>
        obtain ⟨o', e'⟩ := J.base.there a o e (by rw [x0]; exact fun z => nomatch z)
        exact absurd rfl (gone e' outS)
    have nP : ∀ p ∈ X.pn ++ pins, p.1 ≠ a := fun p hp => by
      obtain ⟨g1, _, g3, g4, _⟩ := J.pin p hp
      refine gone g1 fun hm => ?_
      rw [st] at hm
      obtain ⟨e, he, q⟩ := List.mem_filterMap.mp hm
      rcases List.mem_cons.mp he with rfl | he
      · rw [fl] at q
        exact g3 (Option.some.inj q).symm
      · exact g4 (List.mem_filterMap.mpr ⟨e, he, q⟩)
    have S2 := J2.suite e2 d2 na nL nF
    have isC : PySem.W.Looks (model X.prog X.w) h2 (typeOf (.ref a)) cls := fun A Q E s k q => wpAny_typeOf_ref (k _ _ e2) (by rw [z2.1]; exact q)
    have named : ∀ {x : Str} {c : Value} {px : Pos} {Q : Value → Shared → Prop} {E : Value → Shared → Prop}, Names X x c → Q c { s1 with heap := h2 } → wpAny (model X.prog X.w) (X.A.mark (some (.ref a))) (eval (.Name x px) X.env) Q E { s1 with heap := h2 } := fun cn q => by
      rcases cn with ⟨g1, g2, g3 | ⟨g3, g4, g5⟩⟩
      · exact ld_glob (X := X.suite a ((a, o2) :: (X.pn ++ pins))) S2 g1 g3 q g2
      · exact ld_blt (X := X.suite a ((a, o2) :: (X.pn ++ pins))) S2 g1 g3 g4 q g5 g2
    refine wpAny_handleBy_cons (codeAny_handlers_test (Tuple_ (spliced_more (named cn1 (spliced_more (named cn2 (spliced_none ?_))))))) fun q => nomatch q
    refine wpAny_newObj_type ?_ (by show 2 ≤ PySem.sizeLine; decide)
    have kp : ∀ b o, h2.get? b = some o → (h2.push ({ cls := .type "tuple", data := .seq [c1, c2].toArray } : Obj)).get? b = some o := fun b o e => Heap.get?_push_of_some _ e
    have f2' : HandSPX.FlyingZ B (X.env :: X.outer) a (Zc cls d) (h2.push ({ cls := .type "tuple", data := .seq [c1, c2].toArray } : Obj)) := fly_keep f2 kp
    have up2' := up2.trans (Heap.UpToSlots.of_keeps kp)
    have J2' : Inv X pins σ1 H1 { s1 with heap := h2.push ({ cls := .type "tuple", data := .seq [c1, c2].toArray } : Obj) } := J.landed inB f2'.1 (up.trans up2') os ag
    refine (PySem.W.exm_tup2 (M := model X.prog X.w) J2'.kIn (isC.keeps kp) (Heap.get?_push_size _ rfl) mt).here ?_
    refine codeAny_handlers_suite_as (HandSPX.lands_againZ f2' fun h3 f3 up3 => ?_)
    have J3 : Inv X pins σ1 H1 { s1 with heap := h3 } := J.landed inB f3.1 ((up.trans up2').trans up3) os ag
    obtain ⟨o3, w3, e3, z3, d3⟩ := f3.there
    refine store_ok (X := X.suite a ((a, o3) :: (X.pn ++ pins))) (v := .ref a) (J3.suite e3 d3 na nL nF) nd at_ (.inl lc) rfl (fun s4 S4 => ?_) (.inr lc)
    refine wpAny_mono ((tsu a o3 cls d (X.pn ++ pins) z3 ⟨_, d3⟩).run [] s4 _ H1 _ S4 (yes a na)) (fun f s5 r => ?_) (fun _ _ z => False.elim z)
    have close : ∀ {σ5 : L2.St} {H5 : Hp} {Q : Shared → Prop}, Inv (X.suite a ((a, o3) :: (X.pn ++ pins))) [] σ5 H5 s5 → (∀ s6, Inv X pins (σ5.set i none) (upd H5 a (Ke cls d a)) s6 → Q s6) →
        wpAny (model X.prog X.w) X.A (do bindName X.env nm .none; unbindBehindTheSuite X.env nm p1) (fun _ s6 => Q s6) X.xe s5 := fun {σ5 H5 Q} S5 q => by
      obtain ⟨g1, g2, _⟩ := S5.pin (a, o3) (List.mem_append_left _ List.mem_cons_self)
      have g1 : s5.heap.get? a = some o3 := g1
      refine gone_ok (inv_tell (S5.unsuite ok) g2 new0 nL (fun v hv => ?_) nP (ke_ok g1 z3 d3)) nd at_ lc q
      obtain ⟨o, ho, hd⟩ := hv
      rw [g1] at ho
      cases ho
      rw [d3] at hd
      cases hd
    cases f with
    | next =>
      obtain ⟨σ5, H5, S5, r⟩ := r
      exact close S5 fun s6 J6 => ⟨_, _, J6, r⟩
    | ret u =>
      obtain ⟨v, σ5, H5, S5, e, r⟩ := r
      exact close S5 fun s6 J6 => ⟨_, _, _, J6, e, r⟩
    | brk =>
      obtain ⟨σ5, H5, S5, r⟩ := r
      exact close S5 fun s6 J6 => ⟨_, _, J6, r⟩
    | cont =>
      obtain ⟨σ5, H5, S5, r⟩ := r
      exact close S5 fun s6 J6 => ⟨_, _, J6, r⟩
end
/-- what such a clause wishes of an error of the body: slot i is the name of the clause -/
def wKept3 (K : PySem.W.Frag) (c1 c2 c3 : Value) (i : Nat) (ts : Addr → Value → Option Addr → TS) (D : Ends) : WX := fun cls d σ H =>
  PySem.W.exmAny K cls [c1, c2, c3] = some true ∧ ∀ a, H a = none → ts a cls d { nx := fun σ' H' => D.nx (σ'.set i none) (upd H' a (Ke cls d a)), rt := fun v H' => D.rt v (upd H' a (Ke cls d a)), bk := fun σ' H' => D.bk (σ'.set i none) (upd H' a (Ke cls d a)), ct := fun σ' H' => D.ct (σ'.set i none) (upd H' a (Ke cls d a)) } (σ.set i (some (.ref a))) H
section
variable {X : Cx} {nm : Str} {c1 c2 c3 : Value} {i : Nat} {x1 x2 x3 : Str} {body su : List Stmt} {b1 : Stmt} {px1 px2 px3 pt p1 p2 : Pos} {kk : Nat} {tb : WX → TS} {ts : Addr → Value → Option Addr → TS}
/-- try: .. except C as n: .., where the body lets out nothing but errors of C: what is caught is told in the heap behind the clause -/
theorem ps_try_kept3 (st : X.stack = X.env :: X.outer) (fl : X.env.frame = some X.env.locals) (x0 : X.ex = []) (nd : X.N.Nodup) (at_ : X.N[i]? = some nm) (lc : X.env.kindOf nm = some .local) (cn1 : Names X x1 c1) (cn2 : Names X x2 c2) (cn3 : Names X x3 c3)
    (tbd : ∀ (W : WX) (pn : List (Addr × Obj)) (xe : Value → Shared → Prop), Takes (X.tr pn xe) W → PassesOwn (model X.prog X.w) X.A X.env xe → PSs (X.tr pn xe) body (tb W))
    (tsu : ∀ (a : Addr) (oe : Obj) (cls : Value) (d : Option Addr) (pn : List (Addr × Obj)), Zc cls d oe → (∃ vs, oe.data = .fields vs) → PSs (X.suite a ((a, oe) :: pn)) (b1 :: su) (ts a cls d)) :
    PS X (.Try body [.ExceptHandler (some (.Tuple [.Name x1 px1, .Name x2 px2, .Name x3 px3] kk pt)) (some nm) (b1 :: su) p1] [] [] p2) (fun D σ H => tb (wKept3 X.K c1 c2 c3 i ts D) D σ H) := by
  refine ⟨fun pins s σ H D I h => wpAny_Try_except ?_⟩
  have ok := I.ok
  have fr : X.A.frames = some (X.env :: X.outer) := by rw [ok.frames, st]
  refine wpAny_mono ((tbd (wKept3 X.K c1 c2 c3 i ts D) (X.pn ++ pins) _ ?take PassesOwn.looking).run [] s σ H D (I.toTry _) h) (fun f s1 r => ?done) (fun e s1 r => r)
  case done =>
    cases f with
    | next =>
      obtain ⟨σ1, H1, J, r⟩ := r
      exact wpAny_execs_nil ⟨σ1, H1, J.ofTry ok, r⟩
    | ret u =>
      obtain ⟨v, σ1, H1, J, e, r⟩ := r
      exact ⟨v, σ1, H1, J.ofTry ok, e, r⟩
    | brk =>
      obtain ⟨σ1, H1, J, r⟩ := r
      exact ⟨σ1, H1, J.ofTry ok, r⟩
    | cont =>
      obtain ⟨σ1, H1, J, r⟩ := r
      exact ⟨σ1, H1, J.ofTry ok, r⟩
  case take =>
    rintro u s1 ⟨a, B, s0, ps, σ1, H1, cls, d, rfl, J0, inB, up, sky, na, os, ag, mt, yes⟩
    have J := J0.ofTry (pn' := ps) ok
    have sky1 : Sky B (X.env :: X.outer) a (Zc cls d) X.env.locals s1.heap := st ▸ sky
    have notB : B.get? a = none := by
      rcases sky1 with k | k | k
      · exact k.2.1
      · exact k.2.1
      · exact k.2.1
    refine Sky.land Zc.steady fr fl sky1 fun h2 f2 up2 => ?_
    have J2 : Inv X pins σ1 H1 { s1 with heap := h2 } := J.landed inB f2.1 (up.trans up2) os ag
    obtain ⟨o2, w2, e2, z2, d2⟩ := f2.there
    have out : a ∉ frs (X.env :: X.outer) := fun hm => by
      obtain ⟨_, o, eo, no⟩ := f2.2.2.1.mem hm
      rw [e2] at eo
      cases eo
      exact no _ d2
    have nL : a ≠ X.env.locals := fun z => out (List.mem_filterMap.mpr ⟨X.env, List.mem_cons_self, by rw [fl, z]⟩)
    have nF : a ∉ X.fs := fun hm => by
      obtain ⟨e, he, q⟩ := List.mem_filterMap.mp hm
      exact out (List.mem_filterMap.mpr ⟨e, List.mem_cons_of_mem _ he, q⟩)
    have gone : ∀ {b : Addr} {o : Obj}, s0.heap.get? b = some o → b ∉ frs X.stack → b ≠ a := fun e n z => by
      have q := inB _ _ e n
      rw [z, notB] at q
      cases q
    have outS : a ∉ frs X.stack := st ▸ out
    have new0 : X.s_0.heap.get? a = none := by
      cases e : X.s_0.heap.get? a with
      | none => rfl
      | some o =>
        obtain ⟨o', e'⟩ := J.base.there a o e (by rw [x0]; exact fun z => nomatch z)
        exact absurd rfl (gone e' outS)
    have nP : ∀ p ∈ X.pn ++ pins, p.1 ≠ a := fun p hp => by
      obtain ⟨g1, _, g3, g4, _⟩ := J.pin p hp
      refine gone g1 fun hm => ?_
      rw [st] at hm
      obtain ⟨e, he, q⟩ := List.mem_filterMap.mp hm
      rcases List.mem_cons.mp he with rfl | he
      · rw [fl] at q
        exact g3 (Option.some.inj q).symm
      · exact g4 (List.mem_filterMap.mpr ⟨e, he, q⟩)
    have S2 := J2.suite e2 d2 na nL nF
    have isC : PySem.W.Looks (model X.prog X.w) h2 (typeOf (.ref a)) cls := fun A Q E s k q => wpAny_typeOf_ref (k _ _ e2) (by rw [z2.1]; exact q)
    have named : ∀ {x : Str} {c : Value} {px : Pos} {Q : Value → Shared → Prop} {E : Value → Shared → Prop}, Names X x c → Q c { s1 with heap := h2 } → wpAny (model X.prog X.w) (X.A.mark (some (.ref a))) (eval (.Name x px) X.env) Q E { s1 with heap := h2 } := fun cn q => by
      rcases cn with ⟨g1, g2, g3 | ⟨g3, g4, g5⟩⟩
      · exact ld_glob (X := X.suite a ((a, o2) :: (X.pn ++ pins))) S2 g1 g3 q g2
      · exact ld_blt (X := X.suite a ((a, o2) :: (X.pn ++ pins))) S2 g1 g3 g4 q g5 g2
    refine wpAny_handleBy_cons (codeAny_handlers_test (Tuple_ (spliced_more (named cn1 (spliced_more (named cn2 (spliced_more (named cn3 (spliced_none ?_))))))))) fun q => nomatch q
    refine wpAny_newObj_type ?_ (by show 3 ≤ PySem.sizeLine; decide)
    have kp : ∀ b o, h2.get? b = some o → (h2.push ({ cls := .type "tuple", data := .seq [c1, c2, c3].toArray } : Obj)).get? b = some o := fun b o e => Heap.get?_push_of_some _ e
    have f2' : HandSPX.FlyingZ B (X.env :: X.outer) a (Zc cls d) (h2.push ({ cls := .type "tuple", data := .seq [c1, c2, c3].toArray } : Obj)) := fly_keep f2 kp
    have up2' := up2.trans (Heap.UpToSlots.of_keeps kp)
    have J2' : Inv X pins σ1 H1 { s1 with heap := h2.push ({ cls := .type "tuple", data := .seq [c1, c2, c3].toArray } : Obj) } := J.landed inB f2'.1 (up.trans up2') os ag
    refine (PySem.W.exm_tup3 (M := model X.prog X.w) J2'.kIn (isC.keeps kp) (Heap.get?_push_size _ rfl) mt).here ?_
    refine codeAny_handlers_suite_as (HandSPX.lands_againZ f2' fun h3 f3 up3 => ?_)
    have J3 : Inv X pins σ1 H1 { s1 with heap := h3 } := J.landed inB f3.1 ((up.trans up2').trans up3) os ag
    obtain ⟨o3, w3, e3, z3, d3⟩ := f3.there
    refine store_ok (X := X.suite a ((a, o3) :: (X.pn ++ pins))) (v := .ref a) (J3.suite e3 d3 na nL nF) nd at_ (.inl lc) rfl (fun s4 S4 => ?_) (.inr lc)
    refine wpAny_mono ((tsu a o3 cls d (X.pn ++ pins) z3 ⟨_, d3⟩).run [] s4 _ H1 _ S4 (yes a na)) (fun f s5 r => ?_) (fun _ _ z => False.elim z)
    have close : ∀ {σ5 : L2.St} {H5 : Hp} {Q : Shared → Prop}, Inv (X.suite a ((a, o3) :: (X.pn ++ pins))) [] σ5 H5 s5 → (∀ s6, Inv X pins (σ5.set i none) (upd H5 a (Ke cls d a)) s6 → Q s6) →
        wpAny (model X.prog X.w) X.A (do bindName X.env nm .none; unbindBehindTheSuite X.env nm p1) (fun _ s6 => Q s6) X.xe s5 := fun {σ5 H5 Q} S5 q => by
      obtain ⟨g1, g2, _⟩ := S5.pin (a, o3) (List.mem_append_left _ List.mem_cons_self)
      have g1 : s5.heap.get? a = some o3 := g1
      refine gone_ok (inv_tell (S5.unsuite ok) g2 new0 nL (fun v hv => ?_) nP (ke_ok g1 z3 d3)) nd at_ lc q
      obtain ⟨o, ho, hd⟩ := hv
      rw [g1] at ho
      cases ho
      rw [d3] at hd
      cases hd
    cases f with
    | next =>
      obtain ⟨σ5, H5, S5, r⟩ := r
      exact close S5 fun s6 J6 => ⟨_, _, J6, r⟩
    | ret u =>
      obtain ⟨v, σ5, H5, S5, e, r⟩ := r
      exact close S5 fun s6 J6 => ⟨_, _, _, J6, e, r⟩
    | brk =>
      obtain ⟨σ5, H5, S5, r⟩ := r
      exact close S5 fun s6 J6 => ⟨_, _, J6, r⟩
    | cont =>
      obtain ⟨σ5, H5, S5, r⟩ := r
      exact close S5 fun s6 J6 => ⟨_, _, J6, r⟩
end
end Nb

set_option Elab.async false
set_option maxRecDepth 100000
set_option maxHeartbeats 4000000
/-! A law whose own body asks for repr of nested data: its def is run where no repr is under way. -/
namespace Nb
open PySem PySem.Spec L2
/-- what the def promises, where no repr is under way -/
def RunsG (P : Program) (w : World) (K : PySem.W.Frag) (mg : Str → Option Value) (base : Heap) (CX : CXT) (k : Nat) (f : Addr) (fd : FuncData) (ps : List Str) (sp : Sp) : Prop :=
  ∀ (A : Around) (outer : List Env) (s : Shared) (H : Hp) (args : Args) (us : List Value) (vs : List V) (Q : VK) (E : XK), A.guards = some [] → Room k A → Env0 P w K mg base A outer s H → BindsTo s fd args (ps.zip us) → Vals vs us → sp vs H Q E →
    codeAny (model P w) A (.call (.ref f) args) (CR CX outer P w H s Q E) s
section
variable {P : Program} {w : World} {K : PySem.W.Frag} {mg : Str → Option Value} {base : Heap}
theorem okG {x qual : Str} {st : Stmt} {f : Addr} {fd : FuncData} {N ps : List Str} {k : Nat} {sp : Sp} (F : Fun K x qual st f fd) (S : FnScope N ps (defScope st)) (len : ∀ vs H Q E, sp vs H Q E → vs.length = ps.length)
    (bd : ∀ (cdv : Value) (A : Around) (outer : List Env) (s : Shared) (H : Hp) (vs : List V) (Q : VK) (E : XK), A.guards = some [] → Room k (A.deeper (PyProof.Rows.envOfC qual (defScope st) s.heap.objs.size f cdv)) → sp vs H Q E →
      ∃ t, PSs (cxOf CX0 P w K mg base N qual (defScope st) f cdv A outer s H E).nox (defBody st) t ∧ t { nx := fun _ H' => Q .non H', rt := Q } (start N vs) H) : RunsG P w K mg base CX0 (k + 1) f fd ps sp := by
  obtain ⟨oc, od, kV, doc, pm, an, cdv, ct, osl, rfl, lk, hcd⟩ := F.ex
  intro A outer s H args us vs Q E gd hr e0 hb rv hs
  have inK : K.In s.heap := e0.mod.kin.keeps fun b o e => (e0.bs b o e).1
  have nl : s.heap.NoLimit := e0.mod.nolimit.keeps fun b o e => (e0.bs b o e).1
  have kinds : ∀ y ∈ ps.zip us, (defScope st).names.lookup y.1 = some .local ∨ ((defScope st).names.lookup y.1 = some .cell ∧ ((PySem.cellsFrom (s.heap.objs.size + 1) (defScope st).names []).lookup y.1).isSome = true) := by
    rintro ⟨n, v⟩ hy
    exact (S.par n (List.of_mem_zip hy).1).imp id fun q => ⟨q, PySem.W.cellsFrom_some _ _ _ (.inl q)⟩
  refine codeAny_call_function hr.depth (inK _ _ lk) rfl S.co S.gen rfl (PySem.W.codeRec_of inK hcd) (hb _ _ _ _ ?_)
  refine wpAny_newFunctionEnv_cells S.kind kinds fun env he s1 x1 => ?_
  subst he
  obtain ⟨t, ht, q⟩ := bd cdv A outer s H vs Q E gd (hr.deeper _) hs
  have I : Inv (cxOf CX0 P w K mg base N qual (defScope st) f cdv A outer s H E) [] (start N vs) H s1 := inv_start S hr.hd e0 (len _ _ _ _ hs) rv x1
  refine ⟨nl.keeps x1.toInCall.keep, codeAny_func (wpAny_mono (ht.nox.run [] s1 (start N vs) H _ I q) (fun fl s2 r => ?_) fun _ _ r => r)⟩
  cases fl with
  | ret u =>
    obtain ⟨v, σ, H2, J, e, r⟩ := r
    exact ⟨v, H2, J.os, J.bare, J.base, J.hok, e, r⟩
  | next =>
    obtain ⟨σ, H2, J, r⟩ := r
    exact ⟨.non, H2, J.os, J.bare, J.base, J.hok, rfl, r⟩
  | brk => exact False.elim r.choose_spec.choose_spec.2
  | cont => exact False.elim r.choose_spec.choose_spec.2
end
open PyProof.Rows (IntsAre AllBare)
/-- the heap at the law's call: nothing is told but the script, if it is no object of the module -/
theorem script_heap {P : Program} {w : World} {K : PySem.W.Frag} {h : Heap} {a : Addr} {vs : List Value} {ns : List Int} (inK : K.In h) (ea : h.get? a = some { cls := .type "list", data := .seq vs.toArray }) (hi : IntsAre vs ns) (hl : ns.length ≤ sizeLine) :
    ∃ H : Hp, Only H ∧ SqL K H a (ns.map V.int) ∧ HOk P w H h ∧ ∀ b, H b ≠ none → b = a ∧ K.lookup b = none := by
  have rv := vals_ints hi
  cases hk : K.lookup a with
  | none =>
    obtain ⟨H, eH⟩ : ∃ H : Hp, H = upd (fun _ => none) a (.frz { cls := .type "list", data := .seq vs.toArray } (.lst (ns.map V.int))) := ⟨_, rfl⟩
    have at_a : H a = some (.frz { cls := .type "list", data := .seq vs.toArray } (.lst (ns.map V.int))) := by
      rw [eH]
      exact upd_same
    have off : ∀ b, b ≠ a → H b = none := fun b hb => by
      rw [eH, upd_ne hb]
    refine ⟨H, fun b => ?_, .inl (.inr ⟨_, at_a⟩), fun b o e => ?_, fun b e => ?_⟩
    · by_cases hb : b = a
      · exact .inr ⟨_, _, hb ▸ at_a⟩
      · exact .inl (off b hb)
    · by_cases hb : b = a
      · subst hb
        rw [at_a] at e
        cases e
        exact ⟨ea, by rw [List.length_map]; exact hl, vs, _, rv, ea⟩
      · rw [off b hb] at e
        cases e
    · by_cases hb : b = a
      · exact ⟨hb, hb ▸ hk⟩
      · exact absurd (off b hb) e
  | some o =>
    have e := inK a o hk
    rw [ea] at e
    cases e
    exact ⟨fun _ => none, fun _ => .inl rfl, .inr ⟨_, vs.toArray, _, hk, rfl, rfl, rfl, by rw [List.size_toArray, hi.length]; exact hl, by simpa using rv⟩, fun b u z => (nomatch (show (none : Option HO) = some u from z)), fun b z => absurd rfl z⟩
theorem law_runs {P : Program} {w : World} {K : PySem.W.Frag} {mg mb : Str → Option Value} {CX : CXT} {k : Nat} {fa a : Addr} {fd : FuncData} {x : Str} {sp : Sp} {s1 : Shared} {vs : List Value} {ns : List Int}
    (inK : K.In s1.heap) (n1 : s1.heap.Ns mainGlobals mg) (n2 : s1.heap.Ns builtinsNs mb) (n3 : ∀ x : Str, x ≠ "__name__" → mb x = bootBuiltins x) (n4 : s1.heap.NoLimit) (hg : s1.gens = #[])
    (ea : s1.heap.get? a = some { cls := .type "list", data := .seq vs.toArray }) (hi : IntsAre vs ns) (hl : ns.length ≤ sizeLine) (hr : Room k callerA)
    (F : ∀ base : Heap, K.In base → base.Ns mainGlobals mg → RunsG P w K mg base CX k fa fd [x] sp) (bd : ∀ (s : Shared) (u : Value), BindsTo s fd ⟨[u], []⟩ [(x, u)])
    (hs : ∀ H : Hp, Only H → SqL K H a (ns.map V.int) → sp [.ref a] H (fun v _ => v = .bl true) fun _ _ _ => False) (hx : ∀ H e s', CX [] H s1 (fun _ _ _ => False) e s' → False) :
    codeAny (model P w) callerA (.call (.ref fa) ⟨[.ref a], []⟩) (fun r s' => r = .ok (.ret (.bool true)) ∧ OldK s1.heap s'.heap ∧ s'.os = s1.os ∧ AllBare s'.gens) s1 := by
  obtain ⟨H, hO, hS, hok, hA⟩ := script_heap (P := P) (w := w) inK ea hi hl
  have notDict : ∀ {b : Addr} {o : Obj} {es : Array DictEntry} {ep : Nat}, s1.heap.get? b = some o → o.data = .dict es ep → H b = none := fun {b o es ep} e d => by
    cases q : H b with
    | none => rfl
    | some u =>
      obtain ⟨rfl, _⟩ := hA b (by rw [q]; exact fun z => nomatch z)
      rw [ea] at e
      cases e
      cases (show Data.seq vs.toArray _ = Data.dict es ep from d)
  have names : ∀ {b : Addr} {m : Str → Option Value}, s1.heap.Ns b m → (hidT s1.heap H).Ns b m := fun ⟨o, es, ep, e, d, r⟩ => ⟨o, es, ep, hidT_get e (notDict e d), d, r⟩
  have inB : K.In (hidT s1.heap H) := fun b o e => hidT_get (inK b o e) (by
    cases q : H b with
    | none => rfl
    | some u =>
      have z := (hA b (by rw [q]; exact fun z => nomatch z)).2
      rw [z] at e
      cases e)
  obtain ⟨mc, c1, c2⟩ := n4
  have e0 : Env0 P w K mg (hidT s1.heap H) callerA [] s1 H := ⟨rfl, ⟨inB, names n1, ⟨mb, names n2, n3⟩, ⟨mc, names c1, c2⟩⟩, fun b o e => of_hidT e, Nat.le_of_eq (hidT_size _ _), trivial, fun b hb => (nomatch hb), hok, .of_eq hg⟩
  refine codeAny_mono (F _ inB (names n1) callerA [] s1 H ⟨[.ref a], []⟩ [.ref a] [.ref a] _ _ rfl hr e0 (bd s1 (.ref a)) (.cons rfl .nil) (hs H hO hS)) fun r s2 q => ?_
  cases r with
  | error e => exact (hx H e s2 q).elim
  | ok fl =>
    cases fl with
    | ret u =>
      obtain ⟨v, H2, os, bare, un, hok2, r1, r2⟩ := q
      cases (show v = .bl true from r2)
      cases (show u = Value.bool true from r1)
      refine ⟨rfl, OldK.of_keep fun b o e => ?_, os, bare⟩
      rcases hO b with z | ⟨ob, xs, z⟩
      · exact un.keep b o e z (fun z => nomatch z) (fun z => nomatch z)
      · obtain ⟨g1, _⟩ := hok b _ z
        obtain ⟨g2, _⟩ := hok2 b _ (un.frzs b ob _ z)
        rw [e] at g1
        cases g1
        exact g2
    | next => exact False.elim q
    | brk => exact False.elim q
    | cont => exact False.elim q
/-- the head, where the law's own def is run with no repr under way -/
theorem walk_ofG {l : PySem.W.OpenLaw} {n k : Nat} {q : Program} {loose : List Str} {XP : (Str → Option Value) → Heap → Prop} {YP : World → Heap → Prop} {d : DefRec} {K : Params → PySem.W.Frag} {CX : World → CXT} {sp : World → Sp} {x : Str}
    (hn : l.most = some n) (hm : n ≤ sizeLine) (hd : d.params.defaults = []) (hr : Room k callerA) (hY : ∀ (w : World) (h : Heap), YP w h → (K w.params).In h)
    (F : ∀ (w : World) (mg : Str → Option Value) (fa : Addr) (h : Heap), (K w.params).In h → h.Ns mainGlobals mg → mg d.name = some (.ref fa) → ∃ fd : FuncData, (∀ (s : Shared) (u : Value), BindsTo s fd ⟨[u], []⟩ [(x, u)]) ∧
      ∀ base : Heap, (K w.params).In base → base.Ns mainGlobals mg → RunsG l.prog w (K w.params) mg base (CX w) k fa fd [x] (sp w))
    (hs : ∀ (w : World) (H : Hp) (a : Addr) (ns : List Int), ns.length ≤ n → Only H → SqL (K w.params) H a (ns.map V.int) → sp w [.ref a] H (fun v _ => v = .bl true) fun _ _ _ => False)
    (hx : ∀ (w : World) (H : Hp) (s : Shared) (e : Value) (s' : Shared), CX w [] H s (fun _ _ _ => False) e s' → False) : PySem.W.WalkO q loose XP YP l.row.toRowW d [] (fun f vs => PySem.call f vs) := by
  refine Att.attach_call hn hd fun w s0 s1 mg mb fa o pm cd doc a vs ns G Y e1 e2 e3 e4 ea hi hl hg => ?_
  obtain ⟨fd, bd, R⟩ := F w mg fa _ (hY w _ Y) G.T.g e4
  exact law_runs (hY w _ Y) G.T.g G.T.b G.T.builtins G.T.nolimit hg ea hi (Nat.le_trans hl hm) hr R bd (fun H hO hS => hs w H a ns hl hO hS) fun H e s' => hx w H s1 e s'
end Nb

set_option linter.all false
set_option maxRecDepth 100000
/-! Merges of rows, and a merge that is made with a head in each row. No Python here. -/
namespace Nb.Mg
variable {α : Type} [DecidableEq α]
def alive (gone : List α) (rows : List (List α)) : List (List α) := rows.map fun r => r.filter fun x => decide (x ∉ gone)
def good (rows : List (List α)) (x : α) : Bool := rows.all fun r => decide (x ∉ r.tail)
def pick (rows : List (List α)) : Option α := (rows.filterMap List.head?).find? (good rows)
def without (x : α) (rows : List (List α)) : List (List α) := rows.map fun r => r.filter fun y => decide (y ≠ x)
/-- the names that a merge takes until it is done or stuck -/
def greedy : Nat → List (List α) → List α
  | 0, _ => []
  | n + 1, rows => match pick rows with
    | none => []
    | some x => x :: greedy n (without x rows)
theorem without_alive (gone : List α) (rows : List (List α)) (x : α) : without x (alive gone rows) = alive (gone ++ [x]) rows := by
  unfold without alive
  rw [List.map_map]
  refine List.map_congr_left fun r _ => ?_
  show (r.filter _).filter _ = _
  rw [List.filter_filter]
  refine List.filter_congr fun y _ => ?_
  simp
  exact Bool.and_comm _ _
theorem alive_nil (rows : List (List α)) : alive [] rows = rows := by
  unfold alive
  conv => rhs; rw [← List.map_id rows]
  refine List.map_congr_left fun r _ => ?_
  exact List.filter_eq_self.mpr fun _ _ => by simp
theorem pick_at {l1 l2 : List (List α)} {r : List α} {x : α} {all : List (List α)} (h : r.head? = some x) (g : good all x = true) (no : ∀ r' ∈ l1, ∀ y, r'.head? = some y → good all y = false) : ((l1 ++ r :: l2).filterMap List.head?).find? (good all) = some x := by
  induction l1 with
  | nil =>
    rw [List.nil_append, List.filterMap_cons, h]
    simp [g]
  | cons a l ih =>
    rw [List.cons_append, List.filterMap_cons]
    have ih := ih fun r' hr => no r' (List.mem_cons_of_mem _ hr)
    cases e : a.head? with
    | none => exact ih
    | some y =>
      have := no a (List.mem_cons_self ..) y e
      simp only [List.find?_cons, this]
      exact ih
theorem pick_none {rows all : List (List α)} (no : ∀ r' ∈ rows, ∀ y, r'.head? = some y → good all y = false) : (rows.filterMap List.head?).find? (good all) = none := by
  rw [List.find?_eq_none]
  intro y hy
  obtain ⟨r, hr, e⟩ := List.mem_filterMap.mp hy
  rw [no r hr y e]
  exact Bool.false_ne_true
/-! ### heads -/
/-- in how many rows x stands behind the head -/
def behN : List (List α) → List Nat → α → Nat
  | r :: rs, h :: hs, x => (if x ∈ r ∧ h < r.idxOf x then 1 else 0) + behN rs hs x
  | _, _, _ => 0
theorem behN_set (x : α) (h2 : Nat) : ∀ (rows : List (List α)) (hs : List Nat) (i : Nat) (r : List α) (h : Nat), rows[i]? = some r → hs[i]? = some h →
    behN rows (hs.set i h2) x + (if x ∈ r ∧ h < r.idxOf x then 1 else 0) = behN rows hs x + (if x ∈ r ∧ h2 < r.idxOf x then 1 else 0)
  | r0 :: rs, h0 :: hs, 0, r, h, e1, e2 => by
    cases e1
    cases e2
    simp only [List.set_cons_zero, behN]
    omega
  | r0 :: rs, h0 :: hs, i + 1, r, h, e1, e2 => by
    have := behN_set x h2 rs hs i r h e1 e2
    simp only [List.set_cons_succ, behN]
    omega
  | [], _, i, r, h, e1, _ => by simp at e1
  | _ :: _, [], i, r, h, _, e2 => by simp at e2
theorem behN_zero (x : α) : ∀ (rows : List (List α)) (hs : List Nat), hs.length = rows.length → (behN rows hs x = 0 ↔ ∀ (i : Nat) (r : List α) (h : Nat), rows[i]? = some r → hs[i]? = some h → ¬ (x ∈ r ∧ h < r.idxOf x))
  | [], hs, _ => ⟨fun _ i r h e => by simp at e, fun _ => by cases hs <;> rfl⟩
  | r0 :: rs, [], l => by simp at l
  | r0 :: rs, h0 :: hs, l => by
    have ih := behN_zero x rs hs (by simpa using l)
    simp only [behN]
    constructor
    · intro z i r h e1 e2
      cases i with
      | zero =>
        cases e1
        cases e2
        intro k
        rw [if_pos k] at z
        omega
      | succ i => exact ih.mp (by omega) i r h e1 e2
    · intro k
      have k0 := k 0 r0 h0 (by rfl) (by rfl)
      rw [if_neg k0, Nat.zero_add]
      exact ih.mpr fun i r h e1 e2 => k (i + 1) r h e1 e2
/-- the first row that has x -/
def first (rows : List (List α)) (x : α) : Nat := rows.findIdx fun r => decide (x ∈ r)
theorem first_le {rows : List (List α)} {x : α} {i : Nat} {r : List α} (e : rows[i]? = some r) (h : x ∈ r) : first rows x ≤ i := by
  unfold first
  obtain ⟨hi, e⟩ := List.getElem?_eq_some_iff.mp e
  apply Nat.le_of_not_lt
  intro k
  have := List.not_of_lt_findIdx k
  rw [e] at this
  simp [h] at this
theorem first_at {rows : List (List α)} {x : α} (h : x ∈ rows.flatten) : ∃ r, rows[first rows x]? = some r ∧ x ∈ r := by
  obtain ⟨r, hr, hx⟩ := List.mem_flatten.mp h
  have lt : first rows x < rows.length := List.findIdx_lt_length_of_exists ⟨r, hr, by simpa using hx⟩
  refine ⟨rows[first rows x], List.getElem?_eq_getElem lt, ?_⟩
  have := List.findIdx_getElem (w := lt)
  exact of_decide_eq_true this
/-- a merge under way: nm's rows in pend are not yet moved on -/
structure Inv (rows : List (List α)) (gone : List α) (hs : List Nat) (rdy : Nat) (nm : Option α) (pend : Nat → Prop) : Prop where
  len : hs.length = rows.length
  nd : ∀ r ∈ rows, r.Nodup
  le : ∀ (i : Nat) (r : List α) (h : Nat), rows[i]? = some r → hs[i]? = some h → h ≤ r.length
  past : ∀ (i : Nat) (r : List α) (h : Nat), rows[i]? = some r → hs[i]? = some h → ∀ (j : Nat) (y : α), j < h → r[j]? = some y → y ∈ gone
  hd : ∀ (i : Nat) (r : List α) (h : Nat), rows[i]? = some r → hs[i]? = some h → ∀ y, r[h]? = some y → y ∈ gone → nm = some y ∧ pend i
  rd : ∀ j, rdy.testBit j = true ↔ ∃ x, x ∉ gone ∧ x ∈ rows.flatten ∧ behN rows hs x = 0 ∧ first rows x = j
theorem idx_of {r : List α} (nd : r.Nodup) {i : Nat} {x : α} (e : r[i]? = some x) : r.idxOf x = i := by
  obtain ⟨hi, e⟩ := List.getElem?_eq_some_iff.mp e
  rw [← e]
  exact nd.idxOf_getElem i hi
theorem at_idx {r : List α} {x : α} (h : x ∈ r) : r[r.idxOf x]? = some x := by
  have lt := List.idxOf_lt_length_of_mem h
  rw [List.getElem?_eq_getElem lt, List.getElem_idxOf]
/-- what is alive of a row: its head, and behind it what stands behind the head -/
theorem alive_row {gone r : List α} {h : Nat} (nd : r.Nodup) (past : ∀ (j : Nat) (y : α), j < h → r[j]? = some y → y ∈ gone) (hd : ∀ y, r[h]? = some y → y ∉ gone) :
    (r.filter fun x => decide (x ∉ gone)).head? = r[h]? ∧ ∀ y, y ∈ (r.filter fun x => decide (x ∉ gone)).tail ↔ y ∈ r ∧ y ∉ gone ∧ h < r.idxOf y := by
  have e : r.filter (fun x => decide (x ∉ gone)) = (r.drop h).filter fun x => decide (x ∉ gone) := by
    conv => lhs; rw [← List.take_append_drop h r]
    rw [List.filter_append]
    have : (r.take h).filter (fun x => decide (x ∉ gone)) = [] := by
      rw [List.filter_eq_nil_iff]
      intro y hy
      obtain ⟨j, hj⟩ := List.getElem?_of_mem hy
      rw [List.getElem?_take] at hj
      split at hj
      · rename_i lt
        simp [past j y lt hj]
      · cases hj
    rw [this, List.nil_append]
  rw [e]
  cases k : r[h]? with
  | none =>
    have hl : r.length ≤ h := List.getElem?_eq_none_iff.mp k
    rw [List.drop_eq_nil_of_le hl]
    refine ⟨rfl, fun y => ⟨fun z => (nomatch z), fun ⟨z, _, l⟩ => ?_⟩⟩
    have := List.idxOf_lt_length_of_mem z
    omega
  | some x =>
    have hx := hd x k
    obtain ⟨hl, ex⟩ := List.getElem?_eq_some_iff.mp k
    rw [List.drop_eq_getElem_cons hl, ex, List.filter_cons]
    simp only [hx, not_false_eq_true, decide_true, if_true, List.head?_cons, List.tail_cons, true_and]
    intro y
    rw [List.mem_filter]
    constructor
    · rintro ⟨m, g⟩
      obtain ⟨j, hj⟩ := List.getElem?_of_mem m
      rw [List.getElem?_drop] at hj
      have := idx_of nd hj
      exact ⟨List.mem_of_getElem? hj, by simpa using g, by omega⟩
    · rintro ⟨m, g, l⟩
      refine ⟨?_, by simpa using g⟩
      have a := at_idx m
      refine List.mem_of_getElem? (i := r.idxOf y - (h + 1)) ?_
      rw [List.getElem?_drop, show h + 1 + (r.idxOf y - (h + 1)) = r.idxOf y by omega]
      exact a
section
variable {rows : List (List α)} {gone : List α} {hs : List Nat} {rdy : Nat} {nm : Option α}
theorem Inv.row (I : Inv rows gone hs rdy nm fun _ => False) {i : Nat} {r : List α} {h : Nat} (e1 : rows[i]? = some r) (e2 : hs[i]? = some h) :
    (r.filter fun x => decide (x ∉ gone)).head? = r[h]? ∧ ∀ y, y ∈ (r.filter fun x => decide (x ∉ gone)).tail ↔ y ∈ r ∧ y ∉ gone ∧ h < r.idxOf y :=
  alive_row (I.nd r (List.mem_of_getElem? e1)) (I.past i r h e1 e2) fun y k g => (I.hd i r h e1 e2 y k g).2.elim
theorem Inv.hs_at {pd : Nat → Prop} (I : Inv rows gone hs rdy nm pd) {i : Nat} {r : List α} (e1 : rows[i]? = some r) : ∃ h, hs[i]? = some h := by
  have := (List.getElem?_eq_some_iff.mp e1).1
  exact ⟨_, List.getElem?_eq_getElem (by rw [I.len]; exact this)⟩
/-- a name that is left is good if it stands behind no head -/
theorem Inv.good_iff (I : Inv rows gone hs rdy nm fun _ => False) {x : α} (hx : x ∉ gone) : good (alive gone rows) x = true ↔ behN rows hs x = 0 := by
  unfold good alive
  rw [List.all_map, List.all_eq_true, behN_zero x rows hs I.len]
  constructor
  · intro k i r h e1 e2 ⟨m, l⟩
    have := k r (List.mem_of_getElem? e1)
    simp only [Function.comp, decide_eq_true_eq] at this
    exact this (((I.row e1 e2).2 x).mpr ⟨m, hx, l⟩)
  · intro k r hr
    obtain ⟨i, e1⟩ := List.getElem?_of_mem hr
    obtain ⟨h, e2⟩ := I.hs_at e1
    simp only [Function.comp, decide_eq_true_eq]
    intro m
    obtain ⟨m1, _, m2⟩ := ((I.row e1 e2).2 x).mp m
    exact k i r h e1 e2 ⟨m1, m2⟩
theorem Inv.pick_none (I : Inv rows gone hs rdy nm fun _ => False) (z : rdy = 0) : pick (alive gone rows) = none := by
  refine Mg.pick_none fun r' hr y e => ?_
  obtain ⟨r, hr2, rfl⟩ := List.mem_map.mp hr
  obtain ⟨i, e1⟩ := List.getElem?_of_mem hr2
  obtain ⟨h, e2⟩ := I.hs_at e1
  rw [(I.row e1 e2).1] at e
  have hy : y ∉ gone := fun g => (I.hd i r h e1 e2 y e g).2
  cases k : good (alive gone rows) y with
  | false => rfl
  | true =>
    have := (I.rd (first rows y)).mpr ⟨y, hy, List.mem_flatten.mpr ⟨r, hr2, List.mem_of_getElem? e⟩, (I.good_iff hy).mp k, rfl⟩
    rw [z] at this
    simp at this
/-- the lowest bit tells the name that is taken -/
theorem Inv.pick_low (I : Inv rows gone hs rdy nm fun _ => False) {k : Nat} (b : rdy.testBit k = true) (low : ∀ j, j < k → rdy.testBit j = false) :
    ∃ x r h, pick (alive gone rows) = some x ∧ rows[k]? = some r ∧ hs[k]? = some h ∧ r[h]? = some x ∧ x ∉ gone ∧ x ∈ rows.flatten ∧ behN rows hs x = 0 := by
  obtain ⟨x, hx, mx, zx, fx⟩ := (I.rd k).mp b
  obtain ⟨r, er, mr⟩ := first_at mx
  rw [fx] at er
  obtain ⟨h, eh⟩ := I.hs_at er
  have n1 := (behN_zero x rows hs I.len).mp zx k r h er eh
  have ix := at_idx mr
  have le : r.idxOf x ≤ h := Nat.le_of_not_lt fun l => n1 ⟨mr, l⟩
  have ge : ¬ r.idxOf x < h := fun l => hx (I.past k r h er eh _ _ l ix)
  have eq : r.idxOf x = h := by omega
  rw [eq] at ix
  refine ⟨x, r, h, ?_, er, eh, ix, hx, mx, zx⟩
  unfold pick
  have sp : alive gone rows = alive gone (rows.take k) ++ (r.filter fun x => decide (x ∉ gone)) :: alive gone (rows.drop (k + 1)) := by
    obtain ⟨hl, e⟩ := List.getElem?_eq_some_iff.mp er
    unfold alive
    rw [← List.map_cons (f := fun r : List α => r.filter fun x => decide (x ∉ gone)), ← List.map_append, ← e, ← List.drop_eq_getElem_cons hl, List.take_append_drop]
  conv => lhs; arg 2; rw [sp]
  refine pick_at (by rw [(I.row er eh).1]; exact ix) ((I.good_iff hx).mpr zx) fun r' hr y e => ?_
  obtain ⟨r2, hr2, rfl⟩ := List.mem_map.mp hr
  obtain ⟨i, e1⟩ := List.getElem?_of_mem hr2
  have ik : i < k := by
    have := (List.getElem?_eq_some_iff.mp e1).1
    rw [List.length_take] at this
    omega
  rw [List.getElem?_take, if_pos ik] at e1
  obtain ⟨h2, e2⟩ := I.hs_at e1
  rw [(I.row e1 e2).1] at e
  have hy : y ∉ gone := fun g => (I.hd i r2 h2 e1 e2 y e g).2
  cases q : good (alive gone rows) y with
  | false => rfl
  | true =>
    have my := List.mem_of_getElem? e
    have := (I.rd (first rows y)).mpr ⟨y, hy, List.mem_flatten.mpr ⟨r2, List.mem_of_getElem? e1, my⟩, (I.good_iff hy).mp q, rfl⟩
    rw [low _ (Nat.lt_of_le_of_lt (first_le e1 my) ik)] at this
    cases this
end

/-! ### a head is moved on -/
section
variable {rows : List (List α)} {gone : List α} {hs : List Nat} {rdy : Nat} {x : α} {pd pd' : Nat → Prop} {i h h2 : Nat} {r : List α}
/-- the bits that a moved head leaves -/
def bits (rows : List (List α)) (hs : List Nat) (rdy : Nat) : Option α → Nat
  | none => rdy
  | some y => if behN rows hs y = 0 then rdy ||| 2 ^ first rows y else rdy
theorem Inv.beh_move (I : Inv rows gone hs rdy nm pd) (e1 : rows[i]? = some r) (e2 : hs[i]? = some h) (l1 : h < h2) (skip : ∀ (j : Nat) (y : α), h ≤ j → j < h2 → r[j]? = some y → y ∈ gone) : ∀ y, y ∉ gone → behN rows (hs.set i h2) y + (if r[h2]? = some y then 1 else 0) = behN rows hs y := by
  have nr := I.nd r (List.mem_of_getElem? e1)
  intro y gy
  have z := behN_set y h2 rows hs i r h e1 e2
  by_cases m : y ∈ r
  · have a := at_idx m
    by_cases q : h < r.idxOf y
    · rw [if_pos ⟨m, q⟩] at z
      by_cases q2 : h2 < r.idxOf y
      · rw [if_pos ⟨m, q2⟩] at z
        have : ¬ r[h2]? = some y := fun e => by
          have := idx_of nr e
          omega
        rw [if_neg this]
        omega
      · rw [if_neg (fun k => q2 k.2)] at z
        have : r.idxOf y = h2 := by
          apply Nat.le_antisymm (Nat.le_of_not_lt q2)
          apply Nat.le_of_not_lt
          intro k
          exact gy (skip _ y (Nat.le_of_lt q) k a)
        rw [this] at a
        rw [if_pos a]
        omega
    · rw [if_neg (fun k => q k.2)] at z
      have q2 : ¬ h2 < r.idxOf y := by omega
      rw [if_neg (fun k => q2 k.2)] at z
      have : ¬ r[h2]? = some y := fun e => by
        have := idx_of nr e
        omega
      rw [if_neg this]
      omega
  · rw [if_neg (fun k => m k.1), if_neg (fun k => m k.1)] at z
    have : ¬ r[h2]? = some y := fun e => m (List.mem_of_getElem? e)
    rw [if_neg this]
    omega
theorem Inv.move (I : Inv rows gone hs rdy (some x) pd) (e1 : rows[i]? = some r) (e2 : hs[i]? = some h) (ex : r[h]? = some x) (gx : x ∈ gone) (l1 : h < h2) (l2 : h2 ≤ r.length) (skip : ∀ (j : Nat) (y : α), h ≤ j → j < h2 → r[j]? = some y → y ∈ gone) (stop : ∀ y, r[h2]? = some y → y ∉ gone)
    (hp : ∀ k, pd k → k ≠ i → pd' k) : Inv rows gone (hs.set i h2) (bits rows (hs.set i h2) rdy r[h2]?) (some x) pd' := by
  have hil : i < hs.length := (List.getElem?_eq_some_iff.mp e2).1
  have at_i : (hs.set i h2)[i]? = some h2 := by rw [List.getElem?_set_self hil]
  have off : ∀ k, k ≠ i → (hs.set i h2)[k]? = hs[k]? := fun k n => List.getElem?_set_ne (Ne.symm n)
  have nr := I.nd r (List.mem_of_getElem? e1)
  have beh : ∀ y, y ∉ gone → behN rows (hs.set i h2) y + (if r[h2]? = some y then 1 else 0) = behN rows hs y := fun y gy => by
    have z := behN_set y h2 rows hs i r h e1 e2
    by_cases m : y ∈ r
    · have a := at_idx m
      by_cases q : h < r.idxOf y
      · rw [if_pos ⟨m, q⟩] at z
        by_cases q2 : h2 < r.idxOf y
        · rw [if_pos ⟨m, q2⟩] at z
          have : ¬ r[h2]? = some y := fun e => by
            have := idx_of nr e
            omega
          rw [if_neg this]
          omega
        · rw [if_neg (fun k => q2 k.2)] at z
          have : r.idxOf y = h2 := by
            apply Nat.le_antisymm (Nat.le_of_not_lt q2)
            apply Nat.le_of_not_lt
            intro k
            exact gy (skip _ y (Nat.le_of_lt q) k a)
          rw [this] at a
          rw [if_pos a]
          omega
      · rw [if_neg (fun k => q k.2)] at z
        have q2 : ¬ h2 < r.idxOf y := by omega
        rw [if_neg (fun k => q2 k.2)] at z
        have : ¬ r[h2]? = some y := fun e => by
          have := idx_of nr e
          omega
        rw [if_neg this]
        omega
    · rw [if_neg (fun k => m k.1), if_neg (fun k => m k.1)] at z
      have : ¬ r[h2]? = some y := fun e => m (List.mem_of_getElem? e)
      rw [if_neg this]
      omega
  refine ⟨by rw [List.length_set]; exact I.len, I.nd, fun k r' h' f1 f2 => ?_, fun k r' h' f1 f2 => ?_, fun k r' h' f1 f2 => ?_, fun j => ?_⟩
  · by_cases n : k = i
    · subst n
      rw [at_i] at f2
      rw [e1] at f1
      cases f1
      cases f2
      exact l2
    · rw [off k n] at f2
      exact I.le k r' h' f1 f2
  · by_cases n : k = i
    · subst n
      rw [at_i] at f2
      rw [e1] at f1
      cases f1
      cases f2
      intro j y lj ey
      by_cases q : j < h
      · exact I.past k r h e1 e2 j y q ey
      · exact skip j y (Nat.le_of_not_lt q) lj ey
    · rw [off k n] at f2
      exact I.past k r' h' f1 f2
  · intro y ey gy
    by_cases n : k = i
    · subst n
      rw [at_i] at f2
      rw [e1] at f1
      cases f1
      cases f2
      exact absurd gy (stop y ey)
    · rw [off k n] at f2
      obtain ⟨a, b⟩ := I.hd k r' h' f1 f2 y ey gy
      exact ⟨a, hp k b n⟩
  · have old : (∃ y, y ∉ gone ∧ y ∈ rows.flatten ∧ behN rows (hs.set i h2) y = 0 ∧ first rows y = j) ↔ rdy.testBit j = true ∨ ∃ y, r[h2]? = some y ∧ behN rows (hs.set i h2) y = 0 ∧ first rows y = j := by
      constructor
      · rintro ⟨y, gy, my, zy, fy⟩
        by_cases q : r[h2]? = some y
        · exact .inr ⟨y, q, zy, fy⟩
        · have b := beh y gy
          rw [if_neg q, zy] at b
          exact .inl ((I.rd j).mpr ⟨y, gy, my, b.symm, fy⟩)
      · rintro (b | ⟨y, q, zy, fy⟩)
        · obtain ⟨y, gy, my, zy, fy⟩ := (I.rd j).mp b
          have b := beh y gy
          exact ⟨y, gy, my, by omega, fy⟩
        · exact ⟨y, stop y q, List.mem_flatten.mpr ⟨r, List.mem_of_getElem? e1, List.mem_of_getElem? q⟩, zy, fy⟩
    rw [old]
    cases q : r[h2]? with
    | none => simp [bits]
    | some y =>
      simp only [bits]
      by_cases z : behN rows (hs.set i h2) y = 0
      · rw [if_pos z, Nat.testBit_or, Nat.testBit_two_pow]
        simp only [Bool.or_eq_true, decide_eq_true_eq, Option.some.injEq]
        constructor
        · rintro (b | b)
          · exact .inl b
          · exact .inr ⟨y, rfl, z, b⟩
        · rintro (b | ⟨y', rfl, _, b⟩)
          · exact .inl b
          · exact .inr b
      · rw [if_neg z]
        constructor
        · exact .inl
        · rintro (b | ⟨y', e, z', _⟩)
          · exact b
          · cases e
            exact absurd z' z
/-- nothing is left to move -/
theorem Inv.done (I : Inv rows gone hs rdy nm pd) (no : ∀ k, ¬ pd k) : Inv rows gone hs rdy nm' fun _ => False := ⟨I.len, I.nd, I.le, I.past, fun i r h e1 e2 y ey gy => (no i (I.hd i r h e1 e2 y ey gy).2).elim, I.rd⟩
/-- one more name is gone: the rows whose head it is are to be moved on; its bit was taken away, or it had none -/
theorem Inv.drop (I : Inv rows gone hs rdy nm fun _ => False) (rdy' : Nat) (b : ∀ j, rdy'.testBit j = true ↔ ∃ y, y ∉ gone ++ [x] ∧ y ∈ rows.flatten ∧ behN rows hs y = 0 ∧ first rows y = j) :
    Inv rows (gone ++ [x]) hs rdy' (some x) fun i => ∃ r h, rows[i]? = some r ∧ hs[i]? = some h ∧ r[h]? = some x := by
  refine ⟨I.len, I.nd, I.le, fun i r h e1 e2 j y l ey => List.mem_append_left _ (I.past i r h e1 e2 j y l ey), fun i r h e1 e2 y ey gy => ?_, b⟩
  rcases List.mem_append.mp gy with g | g
  · exact (I.hd i r h e1 e2 y ey g).2.elim
  · have : y = x := by simpa using g
    subst this
    exact ⟨rfl, r, h, e1, e2, ey⟩
end

/-! ### all that is taken -/
theorem pick_mem {rows : List (List α)} {x : α} (h : pick rows = some x) : x ∈ rows.flatten := by
  have := List.mem_of_find?_eq_some h
  obtain ⟨r, hr, e⟩ := List.mem_filterMap.mp this
  exact List.mem_flatten.mpr ⟨r, hr, List.mem_of_mem_head? (by rw [e]; rfl)⟩
theorem without_len {rows : List (List α)} {x : α} (h : x ∈ rows.flatten) : (without x rows).flatten.length < rows.flatten.length := by
  have e : (without x rows).flatten = rows.flatten.filter fun y => decide (y ≠ x) := by
    unfold without
    induction rows with
    | nil => rfl
    | cons r rs ih =>
      simp only [List.map_cons, List.flatten_cons, List.filter_append]
      by_cases k : x ∈ rs.flatten
      · rw [ih k]
      · have : ∀ rs : List (List α), (rs.map fun r => r.filter fun y => decide (y ≠ x)).flatten = rs.flatten.filter fun y => decide (y ≠ x) := by
          intro rs
          induction rs with
          | nil => rfl
          | cons a as ih => simp only [List.map_cons, List.flatten_cons, List.filter_append, ih]
        rw [this rs]
  rw [e]
  obtain ⟨a, b, e2⟩ := List.append_of_mem h
  rw [e2, List.filter_append, List.filter_cons, if_neg (by simp), List.length_append, List.length_append, List.length_cons]
  have h1 := List.length_filter_le (fun y => decide (y ≠ x)) a
  have h2 := List.length_filter_le (fun y => decide (y ≠ x)) b
  omega
theorem greedy_more : ∀ (n : Nat) (rows : List (List α)), rows.flatten.length ≤ n → greedy n rows = greedy rows.flatten.length rows := by
  intro n
  induction n using Nat.strongRecOn with
  | ind n ih =>
    intro rows hn
    cases h : pick rows with
    | none =>
      have z : ∀ m, greedy m rows = [] := fun m => by cases m <;> simp [greedy, h]
      rw [z, z]
    | some x =>
      have l := without_len (pick_mem h)
      obtain ⟨L, eL⟩ : ∃ L, rows.flatten.length = L + 1 := ⟨rows.flatten.length - 1, by omega⟩
      obtain ⟨m, em⟩ : ∃ m, n = m + 1 := ⟨n - 1, by omega⟩
      rw [eL, em]
      simp only [greedy, h]
      rw [ih m (by omega) _ (by omega)]
      by_cases q : L < n
      · rw [ih L q _ (by omega)]
      · omega
/-- the names that a merge takes -/
def drawn (rows : List (List α)) : List α := greedy rows.flatten.length rows
theorem drawn_none {rows : List (List α)} (h : pick rows = none) : drawn rows = [] := by
  unfold drawn
  cases rows.flatten.length <;> simp [greedy, h]
theorem drawn_some {rows : List (List α)} {x : α} (h : pick rows = some x) : drawn rows = x :: drawn (without x rows) := by
  have l := without_len (pick_mem h)
  unfold drawn
  obtain ⟨L, eL⟩ : ∃ L, rows.flatten.length = L + 1 := ⟨rows.flatten.length - 1, by omega⟩
  rw [eL]
  simp only [greedy, h]
  rw [greedy_more L _ (by omega)]
/-- a ready name loses its bit -/
theorem Inv.lose {rows : List (List α)} {gone : List α} {hs : List Nat} {rdy rdy' k : Nat} {nm : Option α} {x : α} (I : Inv rows gone hs rdy nm fun _ => False) {r : List α} {h : Nat} (er : rows[k]? = some r) (eh : hs[k]? = some h) (ex : r[h]? = some x) (hx : x ∉ gone) (zx : behN rows hs x = 0) (fx : rdy.testBit k = true)
    (b : ∀ j, rdy'.testBit j = (decide (j ≠ k) && rdy.testBit j)) : ∀ j, rdy'.testBit j = true ↔ ∃ y, y ∉ gone ++ [x] ∧ y ∈ rows.flatten ∧ behN rows hs y = 0 ∧ first rows y = j := by
  have uniq : ∀ y, y ∉ gone → y ∈ rows.flatten → behN rows hs y = 0 → first rows y = k → y = x := fun y gy my zy fy => by
    obtain ⟨r2, e2, m2⟩ := first_at my
    rw [fy, er] at e2
    cases e2
    have a := at_idx m2
    have n1 := (behN_zero y rows hs I.len).mp zy k r h er eh
    have le : r.idxOf y ≤ h := Nat.le_of_not_lt fun l => n1 ⟨m2, l⟩
    have ge : ¬ r.idxOf y < h := fun l => gy (I.past k r h er eh _ _ l a)
    have : r.idxOf y = h := by omega
    rw [this, ex] at a
    exact (Option.some.inj a).symm
  obtain ⟨x', gx', mx', zx', fx'⟩ := (I.rd k).mp fx
  have e0 := uniq x' gx' mx' zx' fx'
  subst e0
  intro j
  rw [b j, Bool.and_eq_true, decide_eq_true_eq, I.rd j]
  constructor
  · rintro ⟨n, y, gy, my, zy, fy⟩
    refine ⟨y, fun m => ?_, my, zy, fy⟩
    rcases List.mem_append.mp m with m | m
    · exact gy m
    · have : y = x' := by simpa using m
      subst this
      exact n (fy.symm.trans fx')
  · rintro ⟨y, gy, my, zy, fy⟩
    refine ⟨fun e => ?_, y, fun m => gy (List.mem_append_left _ m), my, zy, fy⟩
    have := uniq y (fun m => gy (List.mem_append_left _ m)) my zy (fy.trans e)
    subst this
    exact gy (List.mem_append_right _ (by simp))
end Nb.Mg

set_option linter.all false
set_option maxRecDepth 100000
/-! How merges of related rows are related. No Python here. -/
namespace Nb.Mg
variable {α : Type} [DecidableEq α]
theorem drop_self {x : α} {t : List α} (h : x ∉ t) : (t.filter fun y => decide (y ≠ x)) = t := List.filter_eq_self.mpr fun z hz => decide_eq_true fun e => h (e ▸ hz)
theorem drop_head {x : α} {t : List α} (h : x ∉ t) : ((x :: t).filter fun y => decide (y ≠ x)) = t := by
  rw [List.filter_cons_of_neg (by simp)]
  exact drop_self h
theorem good_not {rows : List (List α)} {x : α} : good rows x = true ↔ ∀ r ∈ rows, x ∉ r.tail := by
  unfold good
  rw [List.all_eq_true]
  exact ⟨fun h r hr => of_decide_eq_true (h r hr), fun h r hr => decide_eq_true (h r hr)⟩
theorem split_heads {p : α → Bool} : ∀ {rows : List (List α)} {x : α}, (rows.filterMap List.head?).find? p = some x → ∃ l1 r l2, rows = l1 ++ r :: l2 ∧ r.head? = some x ∧ p x = true ∧ ∀ r' ∈ l1, ∀ y, r'.head? = some y → p y = false
  | [], x, h => by cases h
  | [] :: rows, x, h => by
    obtain ⟨l1, r, l2, e, h1, h2, h3⟩ := split_heads (rows := rows) h
    refine ⟨[] :: l1, r, l2, by rw [e]; rfl, h1, h2, fun r' hr y hy => ?_⟩
    rcases List.mem_cons.mp hr with rfl | hr
    · cases hy
    · exact h3 r' hr y hy
  | (z :: w) :: rows, x, h => by
    rw [List.filterMap_cons_some (by rfl), List.find?_cons] at h
    by_cases q : p z = true
    · rw [q] at h
      cases h
      exact ⟨[], z :: w, rows, rfl, rfl, q, fun _ h => nomatch h⟩
    · rw [eq_false_of_ne_true q] at h
      obtain ⟨l1, r, l2, e, h1, h2, h3⟩ := split_heads (rows := rows) h
      refine ⟨(z :: w) :: l1, r, l2, by rw [e]; rfl, h1, h2, fun r' hr y hy => ?_⟩
      rcases List.mem_cons.mp hr with rfl | hr
      · cases hy
        exact eq_false_of_ne_true q
      · exact h3 r' hr y hy
theorem pick_good {rows : List (List α)} {x : α} (h : pick rows = some x) : ∀ r ∈ rows, x ∉ r.tail := good_not.mp (List.find?_some h)
theorem none_heads {rows : List (List α)} (h : pick rows = none) {r : List α} (hr : r ∈ rows) {y : α} (e : r.head? = some y) : good rows y = false := by
  have := List.find?_eq_none.mp h y (List.mem_filterMap.mpr ⟨r, hr, e⟩)
  exact eq_false_of_ne_true this
theorem pick_only {rows : List (List α)} {x : α} (h : ∃ r ∈ rows, r.head? = some x) (g : good rows x = true) (u : ∀ r ∈ rows, ∀ y, r.head? = some y → good rows y = true → y = x) : pick rows = some x := by
  cases e : pick rows with
  | none =>
    obtain ⟨r, hr, e2⟩ := h
    rw [none_heads e hr e2] at g
    cases g
  | some y =>
    obtain ⟨l1, r, l2, e1, e2, e3, _⟩ := split_heads (rows := rows) e
    rw [u r (by rw [e1]; simp) y e2 e3]
theorem mem_without {x y : α} {rows : List (List α)} : y ∈ (without x rows).flatten ↔ y ∈ rows.flatten ∧ y ≠ x := by
  constructor
  · intro h
    obtain ⟨a, ha, hy⟩ := List.mem_flatten.mp h
    obtain ⟨r, hr, rfl⟩ := List.mem_map.mp ha
    obtain ⟨h1, h2⟩ := List.mem_filter.mp hy
    exact ⟨List.mem_flatten.mpr ⟨r, hr, h1⟩, of_decide_eq_true h2⟩
  · rintro ⟨h, n⟩
    obtain ⟨r, hr, hy⟩ := List.mem_flatten.mp h
    exact List.mem_flatten.mpr ⟨_, List.mem_map.mpr ⟨r, hr, rfl⟩, List.mem_filter.mpr ⟨hy, decide_eq_true n⟩⟩
/-- induction over what is drawn -/
theorem draw_ind {P : List (List α) → Prop} (h0 : ∀ rows, pick rows = none → P rows) (h1 : ∀ rows x, pick rows = some x → P (without x rows) → P rows) : ∀ rows, P rows := by
  have key : ∀ (n : Nat) (rows : List (List α)), rows.flatten.length ≤ n → P rows := by
    intro n
    induction n with
    | zero =>
      intro rows h
      cases e : pick rows with
      | none => exact h0 rows e
      | some x =>
        have := List.length_pos_of_mem (pick_mem e)
        omega
    | succ n ih =>
      intro rows h
      cases e : pick rows with
      | none => exact h0 rows e
      | some x =>
        have := without_len (pick_mem e)
        exact h1 rows x e (ih _ (by omega))
  exact fun rows => key _ rows (Nat.le_refl _)
theorem drawn_in : ∀ rows : List (List α), ∀ x ∈ drawn rows, x ∈ rows.flatten := by
  refine draw_ind (fun rows e x hx => ?_) fun rows y e ih x hx => ?_
  · rw [drawn_none e] at hx
    cases hx
  · rw [drawn_some e] at hx
    rcases List.mem_cons.mp hx with rfl | hx
    · exact pick_mem e
    · exact (mem_without.mp (ih x hx)).1
theorem drawn_nodup : ∀ rows : List (List α), (drawn rows).Nodup := by
  refine draw_ind (fun rows e => ?_) fun rows y e ih => ?_
  · rw [drawn_none e]
    exact List.nodup_nil
  · rw [drawn_some e, List.nodup_cons]
    exact ⟨fun h => (mem_without.mp (drawn_in _ y h)).2 rfl, ih⟩
/-- all names are drawn -/
def Cov (rows : List (List α)) : Prop := ∀ x ∈ rows.flatten, x ∈ drawn rows
theorem cov_step {rows : List (List α)} {x : α} (e : pick rows = some x) : Cov rows ↔ Cov (without x rows) := by
  unfold Cov
  rw [drawn_some e]
  constructor
  · intro h y hy
    obtain ⟨a, b⟩ := mem_without.mp hy
    exact (List.mem_cons.mp (h y a)).resolve_left b
  · intro h y hy
    by_cases q : y = x
    · exact q ▸ List.mem_cons_self ..
    · exact List.mem_cons_of_mem _ (h y (mem_without.mpr ⟨hy, q⟩))
theorem cov_none {rows : List (List α)} (e : pick rows = none) (c : Cov rows) : ∀ r ∈ rows, r = [] := fun r hr => by
  cases r with
  | nil => rfl
  | cons y t =>
    have := c y (List.mem_flatten.mpr ⟨_, hr, List.mem_cons_self ..⟩)
    rw [drawn_none e] at this
    cases this
/-- each row stands in order in what is drawn -/
theorem drawn_ord : ∀ rows : List (List α), Cov rows → ∀ r ∈ rows, r.Sublist (drawn rows) := by
  refine draw_ind (fun rows e c r hr => ?_) fun rows x e ih c r hr => ?_
  · rw [cov_none e c r hr]
    exact List.nil_sublist _
  · have h := ih ((cov_step e).mp c) _ (List.mem_map.mpr ⟨r, hr, rfl⟩)
    have g := pick_good e r hr
    rw [drawn_some e]
    cases r with
    | nil => exact List.nil_sublist _
    | cons y t =>
      have g : x ∉ t := g
      by_cases q : y = x
      · subst q
        rw [drop_head g] at h
        exact h.cons₂ y
      · rw [List.filter_cons_of_pos (by simpa using q), drop_self g] at h
        exact h.cons x
/-- rows of one order have a merge -/
theorem heads_sub {rows : List (List α)} : ∀ {W : List α}, W.Nodup → (∀ r ∈ rows, r.Sublist W) → pick rows = none → ∀ r ∈ rows, r = []
  | [], _, h, _, r, hr => List.sublist_nil.mp (h r hr)
  | x :: t, nd, h, e, r, hr => by
    obtain ⟨nx, nt⟩ := List.nodup_cons.mp nd
    by_cases q : ∃ r ∈ rows, r.head? = some x
    · obtain ⟨r0, h0, e0⟩ := q
      have g : good rows x = true := good_not.mpr fun r hr hx => nx ((h r hr).tail.subset hx)
      rw [none_heads e h0 e0] at g
      cases g
    · refine heads_sub nt (fun r hr => ?_) e r hr
      cases h r hr with
      | cons _ s => exact s
      | cons_cons _ s => exact (q ⟨_, hr, rfl⟩).elim
theorem cov_sub {W : List α} (nd : W.Nodup) : ∀ rows : List (List α), (∀ r ∈ rows, r.Sublist W) → Cov rows := by
  refine draw_ind (fun rows e h x hx => ?_) fun rows x e ih h => (cov_step e).mpr (ih fun r hr => ?_)
  · obtain ⟨r, hr, hx⟩ := List.mem_flatten.mp hx
    rw [heads_sub nd h e r hr] at hx
    cases hx
  · obtain ⟨r0, h0, rfl⟩ := List.mem_map.mp hr
    exact List.filter_sublist.trans (h r0 h0)
/-- a row that holds all the others in order is the merge -/
theorem drawn_super : ∀ {D : List α} {rows : List (List α)}, D.Nodup → D ∈ rows → (∀ r ∈ rows, r.Sublist D) → drawn rows = D
  | [], rows, _, _, h => by
    refine drawn_none ?_
    unfold pick
    rw [List.filterMap_eq_nil_iff.mpr fun r hr => by rw [List.sublist_nil.mp (h r hr)]; rfl]
    rfl
  | x :: t, rows, nd, m, h => by
    obtain ⟨nx, nt⟩ := List.nodup_cons.mp nd
    have g : good rows x = true := good_not.mpr fun r hr hx => nx ((h r hr).tail.subset hx)
    have p : pick rows = some x := by
      refine pick_only ⟨_, m, rfl⟩ g fun r hr y ey gy => ?_
      have hy : y ∈ x :: t := (h r hr).subset (List.mem_of_mem_head? (by rw [ey]; rfl))
      exact (List.mem_cons.mp hy).resolve_right (good_not.mp gy _ m)
    rw [drawn_some p]
    congr 1
    refine drawn_super nt (List.mem_map.mpr ⟨_, m, drop_head nx⟩) fun r hr => ?_
    obtain ⟨r0, h0, rfl⟩ := List.mem_map.mp hr
    have := (h r0 h0).filter fun y => decide (y ≠ x)
    rw [drop_head nx] at this
    exact this
/-- two rows without a common name are joined -/
theorem drawn_join {E : List α} : ∀ {D : List α}, (D ++ E).Nodup → drawn [D, E] = D ++ E
  | [], nd => drawn_super nd (by simp) fun r hr => by
    rcases List.mem_cons.mp hr with rfl | hr
    · exact List.nil_sublist _
    · rw [List.mem_singleton.mp hr]
      exact List.Sublist.refl _
  | x :: t, nd => by
    obtain ⟨nx, nt⟩ := List.nodup_cons.mp nd
    have nt1 : x ∉ t := fun h => nx (List.mem_append_left _ h)
    have ne1 : x ∉ E := fun h => nx (List.mem_append_right _ h)
    have p : pick [x :: t, E] = some x := pick_at (l1 := []) (all := [x :: t, E]) rfl (good_not.mpr fun r hr hx => by
      rcases List.mem_cons.mp hr with rfl | hr
      · exact nt1 hx
      · rw [List.mem_singleton.mp hr] at hx
        exact ne1 (List.mem_of_mem_tail hx)) fun _ h => nomatch h
    rw [drawn_some p]
    show x :: drawn [(x :: t).filter _, E.filter _] = _
    rw [drop_head nt1, drop_self ne1, drawn_join nt]
    rfl
/-- a part of the merge behind all rows changes nothing -/
theorem drawn_part : ∀ (rows : List (List α)) (s : List α), s.Sublist (drawn rows) → drawn (rows ++ [s]) = drawn rows := by
  refine draw_ind (fun rows e s h => ?_) fun rows x e ih s h => ?_
  · rw [drawn_none e] at h ⊢
    rw [List.sublist_nil.mp h]
    refine drawn_none (pick_none fun r hr y ey => ?_)
    have gg : good (rows ++ [[]]) y = good rows y := by
      unfold good
      rw [List.all_append]
      simp
    rw [gg]
    rcases List.mem_append.mp hr with hr | hr
    · exact none_heads e hr ey
    · rw [List.mem_singleton.mp hr] at ey
      cases ey
  · have nd := drawn_nodup rows
    rw [drawn_some e] at h nd ⊢
    obtain ⟨nx, nt⟩ := List.nodup_cons.mp nd
    obtain ⟨l1, r, l2, e1, e2, e3, e4⟩ := split_heads (rows := rows) e
    have g1 : ∀ y, good (rows ++ [s]) y = (good rows y && decide (y ∉ s.tail)) := fun y => by
      unfold good
      rw [List.all_append]
      simp
    have p : pick (rows ++ [s]) = some x := by
      have := pick_at (l1 := l1) (l2 := l2 ++ [s]) (r := r) (all := rows ++ [s]) e2 (by
        rw [g1, e3, decide_eq_true (show x ∉ s.tail from fun hx => nx (h.tail.subset hx))]
        rfl) fun r' hr y hy => by rw [g1, e4 r' hr y hy]; rfl
      unfold pick
      conv => lhs; arg 2; rw [e1]
      rw [List.append_assoc]
      exact this
    rw [drawn_some p]
    congr 1
    have w : without x (rows ++ [s]) = without x rows ++ [s.filter fun y => decide (y ≠ x)] := by
      unfold without
      rw [List.map_append]
      rfl
    rw [w]
    refine ih _ ?_
    have := h.filter fun y => decide (y ≠ x)
    rw [drop_head nx] at this
    exact this
/-- a new name at the front of all rows -/
theorem drawn_top {top : α} {rows : List (List α)} (n : top ∉ rows.flatten) (ne : rows ≠ []) : drawn (rows.map (top :: ·)) = top :: drawn rows := by
  have off : ∀ r ∈ rows, top ∉ r := fun r hr h => n (List.mem_flatten.mpr ⟨r, hr, h⟩)
  have p : pick (rows.map (top :: ·)) = some top := by
    cases rows with
    | nil => exact (ne rfl).elim
    | cons r rs =>
      refine pick_at (l1 := []) (r := top :: r) (l2 := rs.map (top :: ·)) (all := (r :: rs).map (top :: ·)) rfl (good_not.mpr fun q hq h => ?_) fun _ h => nomatch h
      obtain ⟨q0, h0, rfl⟩ := List.mem_map.mp hq
      exact off q0 h0 h
  rw [drawn_some p]
  congr 2
  unfold without
  rw [List.map_map]
  conv => rhs; rw [← List.map_id rows]
  exact List.map_congr_left fun r hr => drop_head (off r hr)
/-- a new name at the end of all rows -/
theorem drawn_end {e : α} : ∀ rows : List (List α), e ∉ rows.flatten → rows ≠ [] → Cov rows → drawn (rows.map (· ++ [e])) = drawn rows ++ [e] := by
  refine draw_ind (fun rows p n ne c => ?_) fun rows x p ih n ne c => ?_
  · have all := cov_none p c
    have er : rows.map (· ++ [e]) = List.replicate rows.length [e] := by
      rw [List.eq_replicate_iff]
      refine ⟨List.length_map .., fun b hb => ?_⟩
      obtain ⟨r, hr, rfl⟩ := List.mem_map.mp hb
      rw [all r hr]
      rfl
    rw [drawn_none p, er]
    refine drawn_super (by simp) ?_ fun r hr => ?_
    · rw [List.mem_replicate]
      exact ⟨by simpa using ne, rfl⟩
    · rw [(List.mem_replicate.mp hr).2]
      exact List.Sublist.refl _
  · obtain ⟨l1, r, l2, e1, e2, e3, e4⟩ := split_heads (rows := rows) p
    have off : ∀ r ∈ rows, e ∉ r := fun r hr h => n (List.mem_flatten.mpr ⟨r, hr, h⟩)
    have rm : r ∈ rows := by
      rw [e1]
      simp
    obtain ⟨w, rfl⟩ : ∃ w, r = x :: w := by
      cases r with
      | nil => cases e2
      | cons a w =>
        cases e2
        exact ⟨w, rfl⟩
    have xe : x ≠ e := fun z => off _ rm (z ▸ List.mem_cons_self ..)
    have p2 : pick (rows.map (· ++ [e])) = some x := by
      have := pick_at (l1 := l1.map (· ++ [e])) (l2 := l2.map (· ++ [e])) (r := x :: (w ++ [e])) (x := x) (all := rows.map (· ++ [e])) rfl
        (good_not.mpr fun q hq hx => by
          obtain ⟨q0, h0, rfl⟩ := List.mem_map.mp hq
          have g := pick_good p q0 h0
          cases q0 with
          | nil => cases hx
          | cons a t =>
            have hx : x ∈ t ++ [e] := hx
            rcases List.mem_append.mp hx with h | h
            · exact g h
            · exact xe (List.mem_singleton.mp h))
        (fun r' hr y hy => by
          obtain ⟨q0, h0, rfl⟩ := List.mem_map.mp hr
          refine eq_false_of_ne_true fun g => ?_
          have g := good_not.mp g
          cases q0 with
          | nil =>
            cases hy
            exact g ((x :: w) ++ [e]) (List.mem_map.mpr ⟨_, rm, rfl⟩) (List.mem_append_right w (List.mem_singleton.mpr rfl))
          | cons a t =>
            have ey : a = y := by simpa using hy
            subst ey
            have := e4 _ h0 a rfl
            have g2 : good rows a = true := good_not.mpr fun q hq ha => g (q ++ [e]) (List.mem_map.mpr ⟨q, hq, rfl⟩) (by
              cases q with
              | nil => cases ha
              | cons b u => exact List.mem_append_left _ ha)
            rw [g2] at this
            cases this)
      unfold pick
      conv => lhs; arg 2; rw [e1]
      rw [List.map_append, List.map_cons]
      exact this
    have w2 : without x (rows.map (· ++ [e])) = (without x rows).map (· ++ [e]) := by
      unfold without
      rw [List.map_map, List.map_map]
      refine List.map_congr_left fun r _ => ?_
      show (r ++ [e]).filter _ = r.filter _ ++ [e]
      rw [List.filter_append]
      congr 1
      rw [List.filter_cons_of_pos (by simpa using Ne.symm xe)]
      rfl
    rw [drawn_some p2, drawn_some p, w2, ih (fun h => n (mem_without.mp h).1) (by
      unfold without
      simpa using ne) ((cov_step p).mp c)]
    rfl
/-- other names -/
theorem drawn_map {β : Type} [DecidableEq β] {f : α → β} (inj : ∀ a b, f a = f b → a = b) : ∀ rows : List (List α), drawn (rows.map (List.map f)) = (drawn rows).map f := by
  have mem : ∀ (x : α) (r : List α), f x ∈ r.map f ↔ x ∈ r := fun x r => by
    rw [List.mem_map]
    exact ⟨fun ⟨a, h, e⟩ => inj _ _ e ▸ h, fun h => ⟨x, h, rfl⟩⟩
  have gg : ∀ (rows : List (List α)) (x : α), good (rows.map (List.map f)) (f x) = good rows x := fun rows x => by
    rw [Bool.eq_iff_iff, good_not, good_not]
    constructor
    · intro h r hr hx
      exact h _ (List.mem_map.mpr ⟨r, hr, rfl⟩) (by rw [← List.map_tail, mem]; exact hx)
    · intro h q hq hx
      obtain ⟨r, hr, rfl⟩ := List.mem_map.mp hq
      rw [← List.map_tail, mem] at hx
      exact h r hr hx
  refine draw_ind (fun rows p => ?_) fun rows x p ih => ?_
  · rw [drawn_none p, List.map_nil]
    refine drawn_none (pick_none fun q hq y hy => ?_)
    obtain ⟨r, hr, rfl⟩ := List.mem_map.mp hq
    cases r with
    | nil => cases hy
    | cons a t =>
      cases hy
      rw [gg]
      exact none_heads p hr rfl
  · obtain ⟨l1, r, l2, e1, e2, e3, e4⟩ := split_heads (rows := rows) p
    have p2 : pick (rows.map (List.map f)) = some (f x) := by
      have := pick_at (l1 := l1.map (List.map f)) (l2 := l2.map (List.map f)) (r := r.map f) (x := f x) (all := rows.map (List.map f)) (by rw [List.head?_map, e2]; rfl) (by rw [gg]; exact e3) (fun r' hr y hy => by
        obtain ⟨q, hq, rfl⟩ := List.mem_map.mp hr
        cases q with
        | nil => cases hy
        | cons a t =>
          have ey : f a = y := by simpa using hy
          subst ey
          rw [gg]
          exact e4 _ hq _ rfl)
      unfold pick
      conv => lhs; arg 2; rw [e1]
      rw [List.map_append, List.map_cons]
      exact this
    have w2 : without (f x) (rows.map (List.map f)) = (without x rows).map (List.map f) := by
      unfold without
      rw [List.map_map, List.map_map]
      refine List.map_congr_left fun r _ => ?_
      show (r.map f).filter _ = (r.filter _).map f
      rw [List.filter_map]
      congr 1
      refine List.filter_congr fun y _ => ?_
      show decide (f y ≠ f x) = decide (y ≠ x)
      rw [decide_eq_decide]
      exact ⟨fun h e => h (e ▸ rfl), fun h e => h (inj _ _ e)⟩
    rw [drawn_some p2, drawn_some p, w2, ih]
    rfl
end Nb.Mg

set_option Elab.async false
set_option maxRecDepth 100000
/-! How many different texts a tuple holds: the value of len(set(t)). -/
namespace Nb
open PySem PySem.Spec PyProof.Rows L2
/-- the different texts of a list, each where it is met first -/
def dis : List Str → List Str
  | [] => []
  | x :: r => x :: (dis r).filter (fun y => !(y == x))
/-- seen so far: one text more -/
def grow (l : List Str) (x : Str) : List Str := if l.any (· == x) then l else l ++ [x]
def seen (xs : List Str) : List Str := xs.foldl grow []
theorem seen_snoc (xs : List Str) (x : Str) : seen (xs ++ [x]) = grow (seen xs) x := by
  unfold seen
  rw [List.foldl_append]
  rfl
theorem grow_any (l : List Str) (x k : Str) : (grow l x).any (· == k) = (l.any (· == k) || decide (k = x)) := by
  unfold grow
  by_cases h : l.any (· == x) = true
  · rw [if_pos h]
    by_cases e : k = x
    · subst e
      rw [h]
      rfl
    · simp [e]
  · rw [if_neg h, List.any_append]
    by_cases e : k = x
    · subst e
      simp
    · have e2 : (x == k) = false := beq_eq_false_iff_ne.mpr fun z => e z.symm
      simp [e, e2]
theorem grow_len (l : List Str) (x : Str) : (grow l x).length = if l.any (· == x) = true then l.length else l.length + 1 := by
  unfold grow
  split <;> simp
theorem grow_le (l : List Str) (x : Str) : (grow l x).length ≤ l.length + 1 := by
  rw [grow_len]
  split <;> omega
theorem seen_le : ∀ xs : List Str, (seen xs).length ≤ xs.length := by
  have key : ∀ (xs l : List Str), (xs.foldl grow l).length ≤ l.length + xs.length := by
    intro xs
    induction xs with
    | nil => intro l; exact Nat.le_refl _
    | cons x r ih =>
      intro l
      have h1 := ih (grow l x)
      have h2 := grow_le l x
      show (r.foldl grow (grow l x)).length ≤ l.length + (r.length + 1)
      omega
  intro xs
  have h := key xs []
  simpa [seen] using h

section
variable {P : Program} {w : World} {A : Around} {E : Value → Shared → Prop} {s : Shared}
abbrev SetS (P : Program) (w : World) (h : Heap) (S : Addr) (l : List Str) : Prop := h.SetOf (PySem.strKind P w) S (fun k => l.any (· == k)) l.length
theorem SetS.to {h h' : Heap} {S : Addr} {l : List Str} (x : SetS P w h S l) (k : ∀ o, h.get? S = some o → h'.get? S = some o) : SetS P w h' S l :=
  let ⟨o, es, ep, t, ho, r⟩ := x
  ⟨o, es, ep, t, k o ho, r⟩
/-- the set takes what is walked, text by text -/
theorem takes_texts {I : Addr} {fp wr : List Addr} {G : Array GenState → Array GenState → Prop} {n : Nat} {Pv : Nat → Value → Prop} {St : Nat → Shared → Prop} {R : Result → Shared → Prop}
    (W : WalksS P w A.in1 I fp wr G n Pv St) (S : Addr) (apart : S ∉ fp) (xs : List Str) (size : n = xs.length) (few : xs.length + 1 < scanBound) (val : ∀ i v, Pv i v → ∃ x t, xs[i]? = some x ∧ v = .str x t) :
    ∀ (m i : Nat) (s : Shared), m + i = n → St i s → SetS P w s.heap S (seen (xs.take i)) →
      (∀ s', Moved (S :: wr) G s s' → SetS P w s'.heap S (seen xs) → R (.ok (.ret .none)) s') → codeAny (model P w) A (.builtin "set.update.loop" ⟨[.ref S, .ref I], []⟩) R s := by
  have out : S ∉ wr := fun z => apart (W.sub _ z)
  have wide : ∀ b ∈ wr, b ∈ S :: wr := fun b z => List.mem_cons_of_mem _ z
  intro m
  induction m with
  | zero =>
    intro i s em here held fin
    refine codeAny_builtin F.entry_set_update_loop (by
      rw [Around.under_plainId F.plain_set_update_loop _]
      refine wpAny_bind (m := pyNext (.ref I)) (W.done s _ _ (by rw [← em, Nat.zero_add]; exact here) fun s' mv => ?_)
      refine wpAny_pure (fin s' (mv.mono wide) ?_)
      have all : xs.take i = xs := List.take_of_length_le (by omega)
      rw [all] at held
      exact held.to fun o e => mv.heap S o out e)
  | succ m ih =>
    intro i s em here held fin
    refine codeAny_builtin F.entry_set_update_loop (by
      rw [Around.under_plainId F.plain_set_update_loop _]
      refine wpAny_bind (m := pyNext (.ref I)) (W.item i s _ _ (by omega) here fun v s' hv here' mv => ?_)
      obtain ⟨x, t, ex, rfl⟩ := val i v hv
      have held' : SetS P w s'.heap S (seen (xs.take i)) := held.to fun o e => mv.heap S o out e
      refine wpAny_bind (m := holding [Value.str x t] (setAdd S (.str x t))) (wpAny_holding ?_)
      unfold setAdd
      refine wpAny_holding (wpAny_bind ((PySem.strKind P w).pyHash (k := x) (strKind_is _ _ _ _) ?_))
      have room : (seen (xs.take i)).length + 1 < scanBound := by
        have h1 := seen_le (xs.take i)
        have h2 : (xs.take i).length ≤ xs.length := by rw [List.length_take]; omega
        omega
      refine wpAny_setAddHashed_of (knd := PySem.strKind P w) (s := { s' with toks := s'.toks + 1 }) (strKind_is _ _ _ _) rfl held' room fun h' only more => ?_
      have step : seen (xs.take (i + 1)) = grow (seen (xs.take i)) x := by
        rw [List.take_add_one, ex]
        exact seen_snoc _ _
      have held2 : SetS P w h' S (seen (xs.take (i + 1))) := by
        rw [step]
        exact SetOf_congr more (fun k => (grow_any _ _ _).symm) (grow_len _ _).symm
      have still : ∀ b, b ≠ S → ∀ o, s'.heap.get? b = some o → h'.get? b = some o := fun b nb o e => by
        rw [only.2 b nb]
        exact e
      exact wpAny_pure ⟨plainId_quiet F.plain_set_update_loop _, ih (i + 1) _ (by omega) (W.frame _ s' _ _ here' (Nat.le_succ _) fun b hb o e => still b (fun z => apart (z ▸ hb)) o e) held2 fun s2 mv2 held3 =>
        fin s2 (Moved.trans W.gtrans ((mv.mono wide).then_heap (Nat.le_succ _) fun b o hb e => still b (fun z => hb (z ▸ List.mem_cons_self)) o e) mv2) held3⟩)
/-- an empty set as it is laid -/
abbrev bareSet (led : Bool) : Obj := { cls := .type "set", dict := none, data := .set #[] 0 (.fresh 0 0 led) }
set_option maxHeartbeats 3200000 in
/-- set(t), t a tuple of texts -/
theorem set_of_texts {l : Addr} {items : Array Value} {xs : List Str} {Q : Value → Shared → Prop} (calm : A.handled = none) (tup : s.heap.IsTuple l items) (txt : StrsAre items.toList xs) (few : xs.length + 1 < scanBound)
    (h : ∀ (h' : Heap) (tk : Nat), SetS P w h' s.heap.objs.size (seen xs) → (∀ b o, s.heap.get? b = some o → h'.get? b = some o) → Q (.ref s.heap.objs.size) { s with heap := h', toks := tk }) :
    wpAny (model P w) A (call (.type "set") [.ref l]) Q E s := by
  have size : items.size = xs.length := by
    have q := StrsAre.len_eq txt
    rw [Array.length_toList] at q
    exact q
  obtain ⟨c, tl, hmro⟩ := F.called_set.mro
  have g1 := F.called_set.made
  have g2 := F.called_set.sub
  have g3 := F.called_set.notType
  have g4 := F.called_set.canCreate
  have g5 := F.typeCall_set_1 (.ref l)
  refine wpAny_call (codeAny_of_tree (show wpAny _ _ (callAny (.type "set") _) _ _ _ from wpAny_pure ⟨Code.quiet_builtin _ (by decide +kernel), codeAny_builtin F.entry_type_call ?_⟩))
  rw [Around.under_plain (weight_type_call_type "set" [.ref l] []) rfl]
  repeat (any_goals (first | assumption | wp_step))
  refine codeAny_mono (code_set_new_1 (.ref l) (E := E) (Q₁ := fun obj s₁ => ∃ led : Bool, obj = .ref s.heap.objs.size ∧ s₁ = { s with heap := s.heap.push (bareSet led) }) fun led => ⟨led, rfl, rfl⟩) fun r s₁ hr => ?_
  rcases r with e | fl
  · exact hr
  cases fl with
  | ret obj =>
    obtain ⟨led, rfl, rfl⟩ := hr
    have at0 : (s.heap.push (bareSet led)).get? s.heap.objs.size = some (bareSet led) := Heap.get?_push_size _ rfl
    have ty0 : Shared.TypeIs { s with heap := s.heap.push (bareSet led) } (.ref s.heap.objs.size) "set" := ⟨_, at0, rfl⟩
    have g6 := F.called_set.init.lookup
    have g7 := F.called_set.init.bind (.ref s.heap.objs.size)
    repeat (any_goals (first | assumption | wp_step))
    refine codeAny_mono (codeAny_call_builtin (R := wants (fun r s₂ => r = .none ∧ ∃ h' tk, s₂ = { s with heap := h', toks := tk } ∧ SetS P w h' s.heap.objs.size (seen xs) ∧ (∀ b o, s.heap.get? b = some o → h'.get? b = some o)) E)
      F.called_set.init.plain F.entry_set_init (check_set_init_1 ty0 ?_)) fun r₂ s₂ hr₂ => ?_
    · obtain ⟨⟨ocls, odict, odata, oslots⟩, ho, hc, nl, hd⟩ := tup
      simp only at hc hd
      subst hc hd
      have ho1 : (s.heap.push (bareSet led)).get? l = some { cls := .type "tuple", dict := odict, data := .seq items nl, slots := oslots } := Heap.get?_push_of_some _ ho
      have g8 := F.sub_tuple_set
      have g9 := F.sub_tuple_frozenset
      have g10 : (Value.type "tuple" == Value.type "dict") = false := by decide
      have tup1 : (s.heap.push (bareSet led)).IsTuple l items := ⟨_, ho1, rfl, nl, rfl⟩
      unfold Builtin.«set.__init__» noKeywords Builtin.Frozenset.updateFrom
      generalize hPI : pyIter = PI
      wp_walk
      subst hPI
      refine wpAny_pyIter_tuple tup1 (wpAny_bind (wpAny_runValue ?_))
      have lt0 : l < s.heap.objs.size := Heap.lt_size ho
      have sz1 : (s.heap.push (bareSet led)).objs.size = s.heap.objs.size + 1 := Heap.size_push ..
      have calm3 : A.in1.in1.in1.handled = none := by simp [calm]
      have ne1 : l ≠ (s.heap.push (bareSet led)).objs.size := by
        rw [sz1]
        exact Nat.ne_of_lt (Nat.lt_succ_of_lt lt0)
      have apart : s.heap.objs.size ∉ [(s.heap.push (bareSet led)).objs.size, l] := fun z => by
        rcases List.mem_cons.mp z with z | z
        · rw [sz1] at z
          exact absurd z (Nat.ne_of_lt (Nat.lt_succ_self _))
        · exact absurd (List.mem_singleton.mp z) (Nat.ne_of_gt lt0)
      refine takes_texts ((Walks.tuple calm3 _ l ne1 items).toS) s.heap.objs.size apart xs size few (fun i v hv => ?_) items.size 0 _ (by omega) ⟨⟨_, Heap.get?_push_size _ rfl, rfl, rfl⟩, (tup1.push _)⟩ ?start fun s' mv held => ?_
      case start =>
        have at1 : ((s.heap.push (bareSet led)).push { cls := .type "tuple_iterator", data := .fields #[.ref l, .int 0 0] }).get? s.heap.objs.size = some (bareSet led) := Heap.get?_push_of_some _ at0
        exact SetOf_congr ((setObjOf_fresh (knd := PySem.strKind P w) led).setOf at1 (by unfold scanBound; omega)) (fun _ => rfl) rfl
      · have hi : i < xs.length := by
          rw [← size]
          exact (Array.getElem?_eq_some_iff.mp hv).1
        obtain ⟨t, e⟩ := SS.strs_at txt i v (by rw [Array.getElem?_toList]; exact hv)
        refine ⟨xs[i], t, List.getElem?_eq_getElem hi, ?_⟩
        rw [e, List.getD_eq_getElem?_getD, List.getElem?_eq_getElem hi]
        rfl
      · obtain ⟨h', gn, dr, tk, os'⟩ := s'
        have eg : gn = s.gens := mv.gens
        have ed : dr = s.drawn := mv.drawn
        have eo : os' = s.os := mv.os
        subst eg ed eo
        refine wpAny_pure ?_
        show wpAny _ _ (ret Value.none) _ _ _
        refine wpAny_pure ⟨rfl, h', tk, rfl, held, fun b o e => ?_⟩
        have lt1 : b < s.heap.objs.size := Heap.lt_size e
        refine mv.heap b o (fun z => ?_) (Heap.get?_push_of_some _ (Heap.get?_push_of_some _ e))
        rcases List.mem_cons.mp z with z | z
        · exact absurd z (Nat.ne_of_lt lt1)
        · rw [List.mem_singleton.mp z, sz1] at lt1
          exact absurd (Nat.lt_trans lt1 (Nat.lt_succ_self _)) (by
            intro q
            have := Nat.lt_of_lt_of_le lt1 (Nat.le_refl _)
            omega)
    · rcases r₂ with e | fl₂
      · exact hr₂
      cases fl₂ with
      | ret r =>
        obtain ⟨rfl, h', tk, rfl, held, kept⟩ := hr₂
        repeat (any_goals (first | assumption | wp_step))
        exact h _ _ held kept
      | _ => exact hr₂.elim
  | _ => exact hr.elim
end
section
variable {X : Cx}
theorem texts_of : ∀ {xs : List Str} {us : List Value}, Vals (xs.map V.str) us → StrsAre us xs
  | [], _, .nil => .nil
  | x :: xs, _, .cons r t => by
    obtain ⟨k, rfl⟩ := r
    exact .cons x k (texts_of t)
/-- len(set(t)), t a tuple of texts -/
def tManyS (K : PySem.W.Frag) (ta : TE) : TE := fun σ H Q => ta σ H fun x H1 => ∃ (l : Addr) (xs : List Str), x = .ref l ∧ SqT K H1 l (xs.map V.str) ∧ xs.length ≤ 4000 ∧ Q (.int ((seen xs).length : Nat)) H1
theorem pe_manyS {a : Expr} {ta : TE} {p p2 q pos : Pos} (hg : Gl X "len") (hm : X.mg "len" = none) (hg2 : Gl X "set") (hm2 : X.mg "set" = none) (ha : PE X a ta) (hc : X.calm = true := by rfl)
    (na : starEach [a] X.env = (false, eval a X.env) :: starEach [] X.env := by rfl) : PE X (.Call (.Name "len" p) [.Call (.Name "set" p2) [a] [] q] [] pos) (tManyS X.K ta) := by
  refine ⟨fun pins s σ H Q I h => Call_ (ld_blt I hg hm boot_len (callWith_builtin1 (args_cons (Call_ (ld_blt I hg2 hm2 boot_set ?_)) rfl) rfl rfl))⟩
  refine callWith_type1 (args_cons (thn (ha.run pins s σ H _ I h) fun v s1 ⟨x, H1, I1, r1, q1⟩ => args_nil ?_) na) na rfl
  obtain ⟨l, xs, rfl, hq, hl, q1⟩ := q1
  cases r1
  obtain ⟨its, r, pl, hz⟩ := I1.tuple hq
  have few := seen_le xs
  refine set_of_texts (I1.ok.hd hc) pl (by simpa using texts_of r) (by unfold scanBound; omega) fun h' tk held kept => args_nil ?_
  obtain ⟨o, es, ep, t, ho, hex, hd, _, _, _, hf, hn⟩ := held
  exact call_len_set ho hex hd hf (by rw [hn]; omega) ⟨.int (seen xs).length, H1, (I1.kept kept).tok _, ⟨_, by rw [hn]⟩, q1⟩
end
end Nb

set_option Elab.async false
set_option maxRecDepth 100000
set_option maxHeartbeats 4000000
/-! Names and rows of names, as values. -/
namespace Nb
open PySem L2
def lowA : List Nat := ("a" : Str).cps.toList
def lowZ : List Nat := ("z" : Str).cps.toList
def letterOk (c : Nat) : Bool := !decide ([c] < lowA) && !decide (lowZ < [c])
def isNm (z : Str) : Bool := decide (1 ≤ (z.length : Int)) && decide ((z.length : Int) ≤ 8) && z.cps.toList.all letterOk
def nameV : V → Bool
  | .str z => isNm z
  | _ => false
/-- what is known of a value that may be a name -/
def Known (K : PySem.W.Frag) (H : Hp) (x : V) : Prop := (∃ z, x = .str z ∧ z.length ≤ 1000 ∧ PyData.strOk z = true) ∨ (∀ z, x ≠ .str z) ∧ ∃ T, TyX K H x (.type T) ∧ kitB T "str" = some false
def Item (K : PySem.W.Frag) (H : Hp) (x : V) : Prop := Known K H x ∧ ∃ d, Dp K H x d ∧ Fine 8 d
def tupOf (H : Hp) : V → Option (List V)
  | .ref a => match H a with
    | some (.tup xs) => some xs
    | some (.frz _ (.tup xs)) => some xs
    | _ => none
  | _ => none
def Thing (K : PySem.W.Frag) (H : Hp) (x : V) : Prop :=
  (∃ a xs, x = .ref a ∧ Rd H a (.tup xs) ∧ xs.length ≤ 1000 ∧ ∀ y ∈ xs, Item K H y) ∨ (∀ H', Same H H' → tupOf H' x = none) ∧ ∃ T, TyX K H x (.type T) ∧ kitB T "tuple" = some false
def strsOf (xs : List V) : List Str := xs.filterMap fun | .str z => some z | _ => none
def diffV (xs : List V) : Bool := xs.all nameV && decide (((seen (strsOf xs)).length : Int) = xs.length)
def namesV (H : Hp) (x : V) : Bool := match tupOf H x with
  | some xs => xs.all nameV
  | none => false
def diffOf (H : Hp) (x : V) : Bool := match tupOf H x with
  | some xs => diffV xs
  | none => false
def rowV (H : Hp) (x : V) : Bool := match tupOf H x with
  | some xs => diffV xs && decide ((xs.length : Int) ≤ 4)
  | none => false
theorem tupOf_at {H : Hp} {a : Addr} {xs : List V} (h : Rd H a (.tup xs)) : tupOf H (.ref a) = some xs := by
  show (match H a with | some (.tup xs) => some xs | some (.frz _ (.tup xs)) => some xs | _ => none) = some xs
  rcases h with h | ⟨o, h⟩
  · rw [h]
  · rw [h]
theorem rd_same {H H' : Hp} (s : Same H H') {a : Addr} {u : HO} (h : Rd H a u) : Rd H' a u := by
  rcases h with h | ⟨o, h⟩
  · exact .inl (s _ _ h)
  · exact .inr ⟨o, s _ _ h⟩
theorem rd_ty {K : PySem.W.Frag} {H : Hp} {a : Addr} {xs : List V} (h : Rd H a (.tup xs)) : TyX K H (.ref a) (.type "tuple") := by
  rcases h with h | ⟨o, h⟩
  · exact .base (.tup h)
  · exact .fTuple h
theorem strs_map : ∀ {xs : List V}, xs.all nameV = true → xs = (strsOf xs).map V.str
  | [], _ => rfl
  | x :: xs, h => by
    rw [List.all_cons, Bool.and_eq_true] at h
    have ih := strs_map h.2
    cases x with
    | str z =>
      show V.str z :: xs = V.str z :: (strsOf xs).map V.str
      rw [← ih]
    | _ => exact absurd h.1 (by simp [nameV])
theorem tyx_same {K : PySem.W.Frag} {H H' : Hp} (s : Same H H') {x : V} {t : Value} (h : TyX K H x t) : TyX K H' x t := by
  cases h with
  | base b =>
    refine .base ?_
    cases b with
    | non => exact .non
    | bl x => exact .bl x
    | int i => exact .int i
    | str x => exact .str x
    | flt x => exact .flt x
    | lst e => exact .lst (s _ _ e)
    | frz e => exact .frz (s _ _ e)
    | tup e => exact .tup (s _ _ e)
    | dK e => exact .dK (s _ _ e)
    | dT e => exact .dT (s _ _ e)
    | ins e cl ha hn htk hm => exact .ins (s _ _ e) cl ha hn htk hm
  | byt b => exact .byt b
  | set e => exact .set (s _ _ e)
  | kList e c => exact .kList e c
  | kTuple e c => exact .kTuple e c
  | kDict e c => exact .kDict e c
  | fTuple e => exact .fTuple (s _ _ e)
  | fDict e => exact .fDict (s _ _ e)
theorem known_same {K : PySem.W.Frag} {H H' : Hp} (s : Same H H') {x : V} (h : Known K H x) : Known K H' x := by
  rcases h with h | ⟨h1, T, h2, h3⟩
  · exact .inl h
  · exact .inr ⟨h1, T, tyx_same s h2, h3⟩
theorem item_same {K : PySem.W.Frag} {H H' : Hp} (s : Same H H') {x : V} (h : Item K H x) : Item K H' x :=
  ⟨known_same s h.1, let ⟨d, h1, h2⟩ := h.2; ⟨d, dp_same s d x h1, h2⟩⟩
theorem thing_same {K : PySem.W.Frag} {H H' : Hp} (s : Same H H') {x : V} (h : Thing K H x) : Thing K H' x := by
  rcases h with ⟨a, xs, h1, h2, h3, h4⟩ | ⟨h1, T, h2, h3⟩
  · exact .inl ⟨a, xs, h1, rd_same s h2, h3, fun y hy => item_same s (h4 y hy)⟩
  · exact .inr ⟨fun H2 s2 => h1 H2 (s.trans s2), T, tyx_same s h2, h3⟩
theorem thing_tup {K : PySem.W.Frag} {H H' : Hp} (s : Same H H') {x : V} (h : Thing K H x) : tupOf H' x = tupOf H x := by
  rcases h with ⟨a, xs, rfl, h2, h3, h4⟩ | ⟨h1, _⟩
  · rw [tupOf_at h2, tupOf_at (rd_same s h2)]
  · rw [h1 _ s, h1 _ (Same.refl H)]
theorem thing_row {K : PySem.W.Frag} {H H' : Hp} (s : Same H H') {x : V} (h : Thing K H x) : rowV H' x = rowV H x := by
  unfold rowV
  rw [thing_tup s h]
/-- a value that is no object -/
theorem thing_flat {K : PySem.W.Frag} {H : Hp} {x : V} (h : ∀ a, x ≠ .ref a) {T : String} (t : TyX K H x (.type T)) (k : kitB T "tuple" = some false) : Thing K H x := by
  refine .inr ⟨fun H' _ => ?_, T, t, k⟩
  cases x with
  | ref a => exact absurd rfl (h a)
  | _ => rfl
theorem thing_str {K : PySem.W.Frag} {H : Hp} (z : Str) : Thing K H (.str z) := thing_flat (fun a => by intro e; cases e) (.base (.str z)) (by decide +kernel)
theorem thing_lst {K : PySem.W.Frag} {H : Hp} {a : Addr} {xs : List V} (h : H a = some (.lst xs)) : Thing K H (.ref a) := by
  refine .inr ⟨fun H' s => ?_, "list", .base (.lst h), by decide +kernel⟩
  show (match H' a with | some (.tup xs) => some xs | some (.frz _ (.tup xs)) => some xs | _ => none) = none
  rw [s _ _ h]
theorem thing_dct {K : PySem.W.Frag} {H : Hp} {a : Addr} {xs : List (Key × V)} (h : H a = some (.dK xs)) : Thing K H (.ref a) := by
  refine .inr ⟨fun H' s => ?_, "dict", .base (.dK h), by decide +kernel⟩
  show (match H' a with | some (.tup xs) => some xs | some (.frz _ (.tup xs)) => some xs | _ => none) = none
  rw [s _ _ h]
theorem known_str {K : PySem.W.Frag} {H : Hp} {z : Str} (h : z.length ≤ 1000) (o : PyData.strOk z = true) : Known K H (.str z) := .inl ⟨z, rfl, h, o⟩
theorem known_non {K : PySem.W.Frag} {H : Hp} : Known K H .non := .inr ⟨(fun z e => by cases e), "NoneType", .base .non, by decide +kernel⟩
theorem known_int {K : PySem.W.Frag} {H : Hp} (i : Int) : Known K H (.int i) := .inr ⟨(fun z e => by cases e), "int", .base (.int i), by decide +kernel⟩
theorem known_bl {K : PySem.W.Frag} {H : Hp} (b : Bool) : Known K H (.bl b) := .inr ⟨(fun z e => by cases e), "bool", .base (.bl b), by decide +kernel⟩
theorem known_tup {K : PySem.W.Frag} {H : Hp} {a : Addr} {xs : List V} (h : H a = some (.tup xs)) : Known K H (.ref a) := .inr ⟨(fun z e => by cases e), "tuple", .base (.tup h), by decide +kernel⟩
theorem known_lst {K : PySem.W.Frag} {H : Hp} {a : Addr} {xs : List V} (h : H a = some (.lst xs)) : Known K H (.ref a) := .inr ⟨(fun z e => by cases e), "list", .base (.lst h), by decide +kernel⟩
theorem known_dct {K : PySem.W.Frag} {H : Hp} {a : Addr} {xs : List (Key × V)} (h : H a = some (.dK xs)) : Known K H (.ref a) := .inr ⟨(fun z e => by cases e), "dict", .base (.dK h), by decide +kernel⟩
theorem item_str {K : PySem.W.Frag} {H : Hp} {z : Str} (h : z.length ≤ 1000) (o : PyData.strOk z = true) : Item K H (.str z) := ⟨known_str h o, .str z, .str z, (fine_str o).mono (by decide)⟩
theorem item_non {K : PySem.W.Frag} {H : Hp} : Item K H .non := ⟨known_non, .none, .non, fine_non.mono (by decide)⟩
/-- a text that is short, its signs signs -/
def Word (z : Str) : Prop := z.length ≤ 1000 ∧ PyData.strOk z = true
theorem Word.item {K : PySem.W.Frag} {H : Hp} {z : Str} (h : Word z) : Item K H (.str z) := item_str h.1 h.2
theorem strOk_append {x y : Str} (h : PyData.strOk x = true) (k : PyData.strOk y = true) : PyData.strOk (x ++ y) = true := by
  unfold PyData.strOk at *
  rw [Array.all_eq_true_iff_forall_mem] at *
  intro c hc
  have hc2 : c ∈ x.cps ++ y.cps := hc
  rcases Array.mem_append.mp hc2 with z | z
  · exact h c z
  · exact k c z
theorem strOk_cut {x : Str} (h : PyData.strOk x = true) (lo hi : Option Int) : PyData.strOk (cutS x lo hi) = true := by
  unfold PyData.strOk at *
  rw [Array.all_eq_true_iff_forall_mem] at *
  intro c hc
  have hc2 : c ∈ ((x.cps.toList.drop (HT.sIx x.length 0 lo)).take (HT.sIx x.length x.length hi - HT.sIx x.length 0 lo)) := by
    have : c ∈ (cutS x lo hi).cps.toList := by simpa using hc
    simpa [cutS] using this
  have h3 : c ∈ x.cps.toList := List.mem_of_mem_drop (List.mem_of_mem_take hc2)
  exact h c (by simpa using h3)
/-- repr(b), b a bool -/
theorem cr_reprB {X : Cx} : CallR X (.builtin "repr") (fun xs H Q => ∃ b : Bool, xs = [.bl b] ∧ Q (.str (if b then "True" else "False")) H) := by
  intro pins s σ H xs us Q I r h
  obtain ⟨b, rfl, q⟩ := h
  obtain ⟨u, rfl, ru⟩ := vals1 r
  cases (show u = Value.bool b from ru)
  refine PySem.P.repr_of_bool ⟨.str _, H, I.tok _, ⟨_, rfl⟩, ?_⟩
  exact q
/-- a comprehension over a text, its elements read off the signs -/
theorem lc_str {x : Str} {g : TG} {tt : TT} {te : TE} {vs : List Nat} {σ : St} {H1 : Hp} {D : Addr} {Qd : Hp → Prop} (Pv : Nat → Hp → Prop) (h0 : Pv 0 (upd H1 D (.lst [])))
    (hs : ∀ i c H, x.cps.toList[i]? = some c → Pv i H → g (.str ⟨#[c]⟩) (wipe σ vs) H fun σ2 H2 => wipe σ2 vs = wipe σ vs ∧ tt σ2 H2 fun b H3 =>
      if b = true then te σ2 H3 fun y H4 => ∃ acc, H4 D = some (.lst acc) ∧ acc.length < sizeLine ∧ Pv (i + 1) (upd H4 D (.lst (acc ++ [y]))) else Pv (i + 1) H3) (hd : ∀ H, Pv x.cps.toList.length H → Qd H) :
    ∃ W : Nat → Nat → Hp → Prop, (∃ m, W 0 m (upd H1 D (.lst []))) ∧ ∀ i m H, W i m H →
      ((Its x).stop i H ∧ Qd H) ∨ ((Its x).go i H ∧ ∃ Nx : Hp → Prop, (∀ H', Nx H' → ∃ m', m' < m ∧ W (i + 1) m' H') ∧ ∀ y H', (Its x).yld i H y H' → g y (wipe σ vs) H' fun σ2 H2 => wipe σ2 vs = wipe σ vs ∧ tt σ2 H2 fun b H3 =>
        if b = true then te σ2 H3 fun y H4 => ∃ acc, H4 D = some (.lst acc) ∧ acc.length < sizeLine ∧ Nx (upd H4 D (.lst (acc ++ [y]))) else Nx H3) := by
  have sz : x.cps.toList.length = x.cps.size := Array.length_toList
  refine ⟨fun i m H => m + i = x.cps.size ∧ Pv i H, ⟨x.cps.size, by omega, h0⟩, fun i m H ⟨em, p⟩ => ?_⟩
  by_cases hlt : i < x.cps.size
  · refine .inr ⟨hlt, Pv (i + 1), fun H' p' => ⟨m - 1, by omega, by omega, p'⟩, fun y H' hy => ?_⟩
    obtain ⟨rfl, c, hc, rfl⟩ := hy
    exact hs i c _ (by rw [Array.getElem?_toList]; exact hc) p
  · have e : i = x.cps.toList.length := by omega
    subst e
    exact .inl ⟨by show x.cps.size ≤ _; omega, hd H p⟩
theorem all_filter {α : Type} (f : α → Bool) : ∀ xs : List α, (xs.filter fun x => !f x).isEmpty = xs.all f
  | [] => rfl
  | x :: xs => by
    rw [List.filter_cons, List.all_cons, ← all_filter f xs]
    cases f x <;> rfl
theorem dps {K : PySem.W.Frag} {H : Hp} : ∀ {xs : List V}, (∀ x ∈ xs, ∃ d, Dp K H x d ∧ Fine 8 d) → ∃ ds, DpAll K H xs ds ∧ (∀ d ∈ ds, Fine 8 d) ∧ ds.isEmpty = xs.isEmpty
  | [], _ => ⟨[], .nil, (fun _ h => by cases h), rfl⟩
  | x :: xs, h => by
    obtain ⟨d, h1, h2⟩ := h x (List.mem_cons_self ..)
    obtain ⟨ds, h3, h4, _⟩ := dps (xs := xs) fun y hy => h y (List.mem_cons_of_mem _ hy)
    exact ⟨d :: ds, .cons h1 h3, fun e he => by
      rcases List.mem_cons.mp he with rfl | he
      · exact h2
      · exact h4 e he, rfl⟩
/-- is_name's promise -/
def spName (K : PySem.W.Frag) : Sp := fun vs H Q _ => ∃ x, vs = [x] ∧ Known K H x ∧ ∀ H', Same H H' → Q (.bl (nameV x)) H'
def spOf (K : PySem.W.Frag) (f : Hp → V → Bool) : Sp := fun vs H Q _ => ∃ x, vs = [x] ∧ Thing K H x ∧ ∀ H', Same H H' → Q (.bl (f H x)) H'
/-- what is asked of the module's names -/
structure NamesTxt (mg : Str → Option Value) : Prop where
  len : mg "len" = none
  isi : mg "isinstance" = none
  str : mg "str" = none
  tup : mg "tuple" = none
  all : mg "all" = none
  set : mg "set" = none
end Nb

set_option Elab.async false
set_option maxRecDepth 100000
set_option maxHeartbeats 4000000
/-! enumerate(t), t a tuple. -/
namespace Nb
open PySem PySem.Spec PyProof.Rows L2
/-- the two cells of an enumerate over what begins -/
theorem enumerates {v : Value} {o : Obj} {G : Heap → Prop} (B : Begins v o G) :
    Meets (Builtin.«enumerate.__new__» ⟨[.type "enumerate", v], []⟩) (fun _ R s => G s.heap ∧
      R (.ok (.ret (.ref (s.heap.push o).objs.size))) { s with heap := (s.heap.push o).push { cls := .type "enumerate", data := .fields #[.none, .bool false, .ref s.heap.objs.size, rawInt 0, .none, .none] } }) :=
  .of_wp fun prog w A R s h => by
    obtain ⟨hp, g, d, tk, os⟩ := s
    obtain ⟨here, h⟩ := h
    have hsub := sub_enumerate
    have begin_ : ∀ {A' : Around} {E : Value → Shared → Prop} {Q : Value → Shared → Prop}, Q (.ref hp.objs.size) ⟨hp.push o, g, d, tk, os⟩ → wpAny (model prog w) A' (pyIter v) Q E ⟨hp, g, d, tk, os⟩ :=
      fun q => B.iter prog w _ _ ⟨hp, g, d, tk, os⟩ _ here q
    wp_walk using begin_
    refine wpAny_stack_any fun st => wpAny_pure ?_
    split
    case h_1 c _ _ _ _ _ =>
      cases (c == Value.type "enumerate") <;> (wp_walk using begin_; exact ⟨_, rfl, h⟩)
    case h_2 =>
      wp_walk using begin_
      exact ⟨_, rfl, h⟩
theorem enumerate_made {prog : Program} {w : World} {A : Around} {E : Value → Shared → Prop} {s : Shared} {v : Value} {o : Obj} {G : Heap → Prop} {Q : Value → Shared → Prop} (B : Begins v o G) (here : G s.heap)
    (h : ∀ h', IsEnum h' (s.heap.objs.size + 1) s.heap.objs.size 0 .none → h'.get? s.heap.objs.size = some o → (∀ b u, s.heap.get? b = some u → h'.get? b = some u) → Q (.ref (s.heap.objs.size + 1)) { s with heap := h' }) :
    wpAny (model prog w) A (call (.type "enumerate") [v]) Q E s := by
  refine callType_new F.called_enumerate (by decide) (F.typeCall_enumerate_1 _) (F.newCall_enumerate_1 _) (fun obj => F.args_object_init_2 obj _) F.entry_enumerate_new (enumerates B) ⟨here, ?_⟩
  have two : (s.heap.push o).objs.size = s.heap.objs.size + 1 := Heap.size_push ..
  show _ ∧ _
  rw [two]
  have made := Heap.get?_push_size (s.heap.push o) (o := { cls := .type "enumerate", data := .fields #[.none, .bool false, .ref s.heap.objs.size, rawInt 0, .none, .none] }) rfl
  rw [two] at made
  exact ⟨⟨_, made, rfl⟩, h _ made (Heap.get?_push_of_some _ (Heap.get?_push_size _ B.free)) fun b u x => Heap.get?_push_of_some _ (Heap.get?_push_of_some _ x)⟩
/-- the tuple at a, each item in a new pair with its index -/
def Itet (K : PySem.W.Frag) (a : Addr) : It :=
  ⟨fun i H => ∃ (xs : List V) (x : V), SqT K H a xs ∧ xs[i]? = some x, fun i H v H' => ∃ T x, v = .ref T ∧ H T = none ∧ H' = upd H T (.tup [.int (i : Nat), x]) ∧ ∀ xs, SqT K H a xs → xs[i]? = some x, fun i H => ∃ xs : List V, SqT K H a xs ∧ xs.length = i⟩
theorem turn_enumT {P : Program} {w : World} {K : PySem.W.Frag} {elts : List Expr} {kk : Nat} {tpos : Pos} (a e it : Addr) :
    Turn P w K (.Tuple elts kk tpos) (Itet K a) [e, it] e (fun i h => (∃ old, IsEnum h e it ((i : Nat) : Int) old) ∧ h.IsTupleIter it a i ∧ e ≠ it) where
  mem := by simp
  obj := fun i h st b hb => by
    obtain ⟨⟨old, he⟩, ⟨o, ho, _, hd⟩, _⟩ := st
    have z : b = e ∨ b = it := by simpa using hb
    rcases z with rfl | rfl
    · exact ⟨_, he, fun v q => nomatch q⟩
    · exact ⟨o, ho, fun v q => by rw [hd] at q; cases q⟩
  keep := fun i h h' ⟨⟨old, he⟩, hi, hne⟩ k => ⟨⟨old, k e (by simp) _ he⟩, hi.at fun o q => k it (by simp) o q, hne⟩
  item := by
    intro X hP hw hK hc i pins s σ H E I hf st hg
    subst hP hw hK
    obtain ⟨⟨old, he⟩, hit, hne⟩ := st
    obtain ⟨xs, x, hq, hx⟩ := hg
    obtain ⟨its, rv, tp, hz⟩ := I.tuple hq
    obtain ⟨u, hu, ru⟩ := rv.get hx
    have hel : e < s.heap.objs.size := Heap.lt_size he
    have hil : it < s.heap.objs.size := by
      obtain ⟨_, q, _⟩ := hit
      exact Heap.lt_size q
    have nta : a ≠ it := fun z => by
      obtain ⟨o1, e1, c1, _⟩ := hit
      obtain ⟨o2, e2, c2, _⟩ := tp
      rw [z, e1] at e2
      cases e2
      rw [c1] at c2
      injection c2 with c3
      exact absurd c3 (by decide)
    have nea : e ≠ a := fun z => by
      obtain ⟨o2, e2, c2, _⟩ := tp
      have e3 : s.heap.get? a = _ := z ▸ he
      rw [e3] at e2
      cases e2
      injection c2 with c3
      exact absurd c3 (by decide)
    have D := Draws.tuple (prog := X.prog) (w := X.w) (A := X.A.in1) (show X.A.in1.handled = none from I.ok.hd hc) it a nta its.toArray
    have sz : i < its.toArray.size := by
      have := (List.getElem?_eq_some_iff.mp hu).1
      simpa using this
    refine wpAny_pyNext_enum_itemD D he ⟨hit, tp⟩ sz hne (by simp [hne, nea]) fun y h' tk py ho st' hT hsz hk => ?_
    have ey : y = u := by
      have p2 : its.toArray[i]? = some u := by simpa using hu
      exact Option.some.inj (py.symm.trans p2)
    subst ey
    refine ⟨_, rfl, wpAny_letOwnedTupleGo_enum (s := { s with heap := h', toks := tk + 1 }) ho fun h'' he' sb => ?_⟩
    have hT2 : h''.get? s.heap.objs.size = some { cls := .type "tuple", data := .seq #[.int i tk, y] } := (sb.2 _ (Nat.ne_of_gt hel)).trans hT
    have new : ObjOk X.prog X.w (upd H s.heap.objs.size (.tup [.int (i : Nat), x])) h'' s.heap.objs.size (.tup [.int (i : Nat), x]) :=
      ⟨by show 2 ≤ sizeLine; decide, [.int i tk, y], .cons ⟨_, rfl⟩ (.cons ru .nil), ⟨_, hT2, rfl, _, rfl⟩⟩
    have I1 : Inv X pins σ (upd H s.heap.objs.size (.tup [.int (i : Nat), x])) { s with heap := h'', toks := tk + 1 } :=
      I.turnedNew (ch := [e, it]) (fun b ob hb q => (sb.2 b (fun z => hb (by simp [z]))).trans (hk b ob (fun z => hb (by simp [z])) (fun z => hb (by simp [z])) q)) hf (Nat.le_refl _) new
    refine ⟨.ref s.heap.objs.size, _, I1, rfl, ⟨_, x, rfl, I.hok.fresh (Nat.le_refl _), rfl, fun ys hy => by rw [I.tuple_inj hy hq]; exact hx⟩, ⟨⟨y, ?_⟩, st'.1.at fun o q => (sb.2 it (Ne.symm hne)).trans q, hne⟩, fun b hb => ?_⟩
    · have e1 : ((i + 1 : Nat) : Int) = (i : Int) + 1 := by omega
      rw [e1]
      exact he'
    · have hb' : b < s.heap.objs.size := by
        have z : b = e ∨ b = it := by simpa using hb
        rcases z with rfl | rfl
        · exact hel
        · exact hil
      rw [upd_ne (Nat.ne_of_lt hb')]
      exact (hf b hb).1
  done := by
    intro X hP hw hK hc i pins s σ H E I hf st hg
    subst hP hw hK
    obtain ⟨⟨old, he⟩, hit, hne⟩ := st
    obtain ⟨xs, hq, hx⟩ := hg
    obtain ⟨its, rv, tp, hz⟩ := I.tuple hq
    obtain ⟨f0, f1, f2, f3, f4, f5⟩ := hf it (by simp)
    have nta : a ≠ it := fun z => by
      obtain ⟨o1, e1, c1, _⟩ := hit
      obtain ⟨o2, e2, c2, _⟩ := tp
      rw [z, e1] at e2
      cases e2
      rw [c1] at c2
      injection c2 with c3
      exact absurd c3 (by decide)
    have sz : its.toArray.size = i := by
      have hl := rv.length
      rw [List.size_toArray, ← hl, hx]
    have D := Draws.tuple (prog := X.prog) (w := X.w) (A := X.A.in1) (show X.A.in1.handled = none from I.ok.hd hc) it a nta its.toArray
    refine wpAny_pyNext_enum_endD D he ⟨by rw [sz]; exact hit, tp⟩ fun h' eb => ⟨rfl, I.turned (t' := s.toks) (fun b o hb q => eb b o hb q) f0 f1 f3 f4 f5⟩
  self := fun A i s Q E st h => let ⟨⟨_, he⟩, _⟩ := st; wpAny_pyIter_enum he h
def iEnumT (K : PySem.W.Frag) (ta : TA) : TI := fun σ H R => ta σ H fun vs H1 => ∃ a xs, vs = [.ref a] ∧ SqT K H1 a xs ∧ R (Itet K a) H1
theorem pi_enumT {X : Cx} {e : Expr} {ta : TA} {p pos tpos : Pos} {elts : List Expr} {kk : Nat} (hg : Gl X "enumerate") (hm : X.mg "enumerate" = none) (ha : PA X [e] ta) (hs : starEach [e] X.env = [(false, eval e X.env)] := by rfl) :
    PI X (.Tuple elts kk tpos) (.Call (.Name "enumerate" p) [e] [] pos) (iEnumT X.K ta) := by
  refine ⟨fun pins s σ H R I h => Call_ (ld_blt I hg hm boot_enumerate (callWith_type1 (thn (ha.run pos pins s σ H _ I h) fun us s1 ⟨vs, H1, I1, r1, q1⟩ => ?_) hs rfl))⟩
  obtain ⟨a, xs, rfl, hq, q⟩ := q1
  cases r1 with
  | cons r rr =>
    cases rr
    cases r
    obtain ⟨its, rv, tp, hz⟩ := I1.tuple hq
    refine enumerate_made (begins_tuple a its.toArray) tp fun h' he hit hk => wpAny_pyIter_enum he ?_
    refine ⟨s1.heap.objs.size + 1, [s1.heap.objs.size + 1, s1.heap.objs.size], _, _, H1, rfl, I1.kept (t' := s1.toks) hk, turn_enumT a (s1.heap.objs.size + 1) s1.heap.objs.size, ⟨⟨.none, he⟩, ⟨_, hit, rfl, rfl⟩, Nat.succ_ne_self _⟩, fun b hb => ?_, q⟩
    have hle : s1.heap.objs.size ≤ b := by
      have z : b = s1.heap.objs.size + 1 ∨ b = s1.heap.objs.size := by simpa using hb
      rcases z with rfl | rfl
      · exact Nat.le_succ _
      · exact Nat.le_refl _
    have I2 : Inv X pins σ H1 { s1 with heap := h' } := I1.kept (t' := s1.toks) hk
    have old := I1.fpOk hle (I1.hok.fresh hle)
    exact old
theorem walk_enumT {K : PySem.W.Frag} {a : Addr} {xs : List V} : Walk (Itet K a) xs.length (fun H => SqT K H a xs) (YPair (fun i => some (.int (i : Nat))) (fun i => xs[i]?)) :=
  ⟨fun i H hi h => ⟨xs, xs[i], h, List.getElem?_eq_getElem hi⟩, fun H h => ⟨xs, h, rfl⟩, fun i H v H' hi h hy => by
    obtain ⟨T, x, e1, e2, e3, e4⟩ := hy
    exact ⟨T, .int (i : Nat), x, e1, e2, e3, rfl, e4 xs h⟩⟩
end Nb

set_option Elab.async false
set_option maxRecDepth 100000
set_option maxHeartbeats 4000000
/-! Data that stands in the heap, to a depth; rows of names. -/
namespace Nb
open PySem L2
mutual
/-- the value is this data: texts short, lists and tuples short, not deeper than n, no dict -/
inductive Td (H : Hp) : Nat → V → PyData → Prop
  | non {n} : Td H n .non .none
  | bl {n} (b : Bool) : Td H n (.bl b) (.bool b)
  | int {n} (i : Int) : Td H n (.int i) (.int i)
  | str {n} {z : Str} (h : Word z) : Td H n (.str z) (.str z)
  | lst {n} {a : Addr} {xs : List V} {ds : List PyData} (e : H a = some (.lst xs)) (l : xs.length ≤ 1000) (h : Tds H n xs ds) : Td H (n + 1) (.ref a) (.list ds)
  | tup {n} {a : Addr} {xs : List V} {ds : List PyData} (e : H a = some (.tup xs)) (l : xs.length ≤ 1000) (h : Tds H n xs ds) : Td H (n + 1) (.ref a) (.tuple ds)
inductive Tds (H : Hp) : Nat → List V → List PyData → Prop
  | nil {n} : Tds H n [] []
  | cons {n} {x : V} {d : PyData} {xs : List V} {ds : List PyData} (h : Td H n x d) (t : Tds H n xs ds) : Tds H n (x :: xs) (d :: ds)
end
section
variable {H H' : Hp}
mutual
theorem td_same (s : Same H H') : ∀ {n : Nat} {x : V} {d : PyData}, Td H n x d → Td H' n x d
  | _, _, _, .non => .non
  | _, _, _, .bl b => .bl b
  | _, _, _, .int i => .int i
  | _, _, _, .str h => .str h
  | _, _, _, .lst e l h => .lst (s _ _ e) l (tds_same s h)
  | _, _, _, .tup e l h => .tup (s _ _ e) l (tds_same s h)
theorem tds_same (s : Same H H') : ∀ {n : Nat} {xs : List V} {ds : List PyData}, Tds H n xs ds → Tds H' n xs ds
  | _, _, _, .nil => .nil
  | _, _, _, .cons h t => .cons (td_same s h) (tds_same s t)
end
mutual
theorem td_up : ∀ {n : Nat} {x : V} {d : PyData}, Td H n x d → Td H (n + 1) x d
  | _, _, _, .non => .non
  | _, _, _, .bl b => .bl b
  | _, _, _, .int i => .int i
  | _, _, _, .str h => .str h
  | _, _, _, .lst e l h => .lst e l (tds_up h)
  | _, _, _, .tup e l h => .tup e l (tds_up h)
theorem tds_up : ∀ {n : Nat} {xs : List V} {ds : List PyData}, Tds H n xs ds → Tds H (n + 1) xs ds
  | _, _, _, .nil => .nil
  | _, _, _, .cons h t => .cons (td_up h) (tds_up t)
end
mutual
theorem td_dp {K : PySem.W.Frag} : ∀ {n : Nat} {x : V} {d : PyData}, Td H n x d → Dp K H x d ∧ d.canLay0 = true ∧ d.depth ≤ n
  | _, _, _, .non => ⟨.non, by simp [PyData.canLay0], by simp [PyData.depth]⟩
  | _, _, _, .bl b => ⟨.bl b, by simp [PyData.canLay0], by simp [PyData.depth]⟩
  | _, _, _, .int i => ⟨.int i, by simp [PyData.canLay0], by simp [PyData.depth]⟩
  | _, _, _, .str h => ⟨.str _, by simpa [PyData.canLay0] using h.2, by simp [PyData.depth]⟩
  | _, _, _, .lst e l h => by
    have k := tds_dp (K := K) h
    exact ⟨.lst (SqL.of e) k.1, by simpa [PyData.canLay0] using k.2.1, by simpa [PyData.depth] using k.2.2⟩
  | _, _, _, .tup e l h => by
    have k := tds_dp (K := K) h
    exact ⟨.tup (SqT.of e) k.1, by simpa [PyData.canLay0] using k.2.1, by simpa [PyData.depth] using k.2.2⟩
theorem tds_dp {K : PySem.W.Frag} : ∀ {n : Nat} {xs : List V} {ds : List PyData}, Tds H n xs ds → DpAll K H xs ds ∧ PyData.canLayAll0 ds = true ∧ PyData.depthAll ds ≤ n
  | _, _, _, .nil => ⟨.nil, by simp [PyData.canLayAll0], by simp [PyData.depthAll]⟩
  | _, _, _, .cons h t => by
    have k := td_dp (K := K) h
    have j := tds_dp (K := K) t
    refine ⟨.cons k.1 j.1, by simp [PyData.canLayAll0, k.2.1, j.2.1], ?_⟩
    simp only [PyData.depthAll]
    exact Nat.max_le.mpr ⟨k.2.2, j.2.2⟩
end
theorem td_shaped {K : PySem.W.Frag} {n : Nat} {x : V} {d : PyData} (h : Td H n x d) (l : n ≤ 64) : SeqAt.shaped d = true := by
  have k := td_dp (K := K) h
  exact Fine.shaped (n := n) ⟨k.2.1, k.2.2⟩ l
theorem tds_len : ∀ {n : Nat} {xs : List V} {ds : List PyData}, Tds H n xs ds → xs.length = ds.length
  | _, _, _, .nil => rfl
  | _, _, _, .cons _ t => congrArg (· + 1) (tds_len t)
theorem tds_get : ∀ {n : Nat} {xs : List V} {ds : List PyData} {i : Nat} {x : V}, Tds H n xs ds → xs[i]? = some x → ∃ d, ds[i]? = some d ∧ Td H n x d
  | _, _, _, _, _, .nil, e => by simp at e
  | _, _, _, 0, _, .cons h t, e => by
    simp at e
    subst e
    exact ⟨_, rfl, h⟩
  | _, _, _, i + 1, _, .cons h t, e => by
    obtain ⟨d, e1, e2⟩ := tds_get (i := i) t (by simpa using e)
    exact ⟨d, by simpa using e1, e2⟩
theorem tds_app : ∀ {n : Nat} {xs ys : List V} {ds es : List PyData}, Tds H n xs ds → Tds H n ys es → Tds H n (xs ++ ys) (ds ++ es)
  | _, _, _, _, _, .nil, k => k
  | _, _, _, _, _, .cons h t, k => .cons h (tds_app t k)
theorem tds_take : ∀ {n : Nat} {xs : List V} {ds : List PyData} (i : Nat), Tds H n xs ds → Tds H n (xs.take i) (ds.take i)
  | _, _, _, 0, _ => .nil
  | _, _, _, i + 1, .nil => .nil
  | _, _, _, i + 1, .cons h t => .cons h (tds_take i t)
theorem tds_drop : ∀ {n : Nat} {xs : List V} {ds : List PyData} (i : Nat), Tds H n xs ds → Tds H n (xs.drop i) (ds.drop i)
  | _, _, _, 0, t => t
  | _, _, _, i + 1, .nil => .nil
  | _, _, _, i + 1, .cons _ t => tds_drop i t
theorem tds_rev : ∀ {n : Nat} {xs : List V} {ds : List PyData}, Tds H n xs ds → Tds H n xs.reverse ds.reverse
  | _, _, _, .nil => .nil
  | _, _, _, .cons h t => by
    rw [List.reverse_cons, List.reverse_cons]
    exact tds_app (tds_rev t) (.cons h .nil)
/-- some data for each -/
theorem tds_ex : ∀ {n : Nat} {xs : List V}, (∀ x ∈ xs, ∃ d, Td H n x d) → ∃ ds, Tds H n xs ds
  | _, [], _ => ⟨[], .nil⟩
  | n, x :: xs, h => by
    obtain ⟨d, k⟩ := h x (List.mem_cons_self ..)
    obtain ⟨ds, j⟩ := tds_ex (n := n) (xs := xs) fun y hy => h y (List.mem_cons_of_mem _ hy)
    exact ⟨d :: ds, .cons k j⟩
theorem tds_mem : ∀ {n : Nat} {xs : List V} {ds : List PyData} {x : V}, Tds H n xs ds → x ∈ xs → ∃ d, d ∈ ds ∧ Td H n x d
  | _, _, _, _, .nil, e => by cases e
  | _, _, _, _, .cons h t, e => by
    rcases List.mem_cons.mp e with rfl | e
    · exact ⟨_, List.mem_cons_self .., h⟩
    · obtain ⟨d, e1, e2⟩ := tds_mem t e
      exact ⟨d, List.mem_cons_of_mem _ e1, e2⟩
theorem td_ty {K : PySem.W.Frag} : ∀ {n : Nat} {x : V} {d : PyData}, Td H n x d → TyX K H x (.type (match d with | .none => "NoneType" | .bool _ => "bool" | .int _ => "int" | .str _ => "str" | .list _ => "list" | .tuple _ => "tuple" | .dict _ => "dict"))
  | _, _, _, .non => .base .non
  | _, _, _, .bl b => .base (.bl b)
  | _, _, _, .int i => .base (.int i)
  | _, _, _, .str (z := z) h => .base (.str z)
  | _, _, _, .lst e l h => .base (.lst e)
  | _, _, _, .tup e l h => .base (.tup e)
theorem td_known {K : PySem.W.Frag} : ∀ {n : Nat} {x : V} {d : PyData}, Td H n x d → Known K H x
  | _, _, _, .non => known_non
  | _, _, _, .bl b => known_bl b
  | _, _, _, .int i => known_int i
  | _, _, _, .str h => known_str h.1 h.2
  | _, _, _, .lst e l h => known_lst e
  | _, _, _, .tup e l h => known_tup e
end
/-- in, a tuple of data -/
def rInT (K : PySem.W.Frag) : R2 := fun x y H Q => ∃ d ds, Dp K H x d ∧ Dp K H y (.tuple ds) ∧ SeqAt.shaped d = true ∧ SeqAt.shaped (.tuple ds) = true ∧ Q (.bl (ds.any fun z => PyData.eqv z d)) H
theorem op_inT {X : Cx} (hu : X.A.units + 65 < cLine) : OpR X (compareOp .In) (rInT X.K) := by
  intro pins s σ H x y v u Q I rx ry h
  obtain ⟨d, ds, hd, he, sd, se, q⟩ := h
  obtain ⟨as, r1⟩ := Dp.reads I d x v hd rx
  obtain ⟨bs, r2⟩ := Dp.reads I (.tuple ds) y u he ry
  have l1 := SeqAt.canLay_of_shaped se
  have d1 := SeqAt.depth_of_shaped sd
  refine SeqAt.in_tuple_reads r2 r1 (by simpa [PyData.canLay0] using l1) (SeqAt.canLay_of_shaped sd) ?_ ⟨.bl _, H, I, rfl, q⟩
  have := Nat.min_le_right (PyData.depthAll ds) d.depth
  omega
/-! ### rows of names -/
def GoodRow (row : List Str) : Prop := row.Nodup ∧ (∀ z ∈ row, isNm z = true ∧ Word z) ∧ row.length ≤ 8
def RowsAt (H : Hp) (r : Addr) (rows : List (List Str)) : Prop := ∃ as : List Addr, H r = some (.tup (as.map V.ref)) ∧ as.length = rows.length ∧ ∀ (k : Nat) (a : Addr) (row : List Str), as[k]? = some a → rows[k]? = some row → Rd H a (.tup (row.map V.str))
theorem rows_same {H H' : Hp} {r : Addr} {rows : List (List Str)} (s : Same H H') (h : RowsAt H r rows) : RowsAt H' r rows :=
  let ⟨as, h1, h2, h3⟩ := h; ⟨as, s _ _ h1, h2, fun k a row e1 e2 => rd_same s (h3 k a row e1 e2)⟩
theorem strsOf_map : ∀ l : List Str, strsOf (l.map V.str) = l
  | [] => rfl
  | x :: l => by
    show x :: strsOf (l.map V.str) = x :: l
    rw [strsOf_map l]
theorem seen_nodup : ∀ (l acc : List Str), (acc ++ l).Nodup → l.foldl grow acc = acc ++ l
  | [], acc, _ => by simp
  | x :: l, acc, h => by
    have hx : acc.any (· == x) = false := by
      cases e : acc.any (· == x) with
      | false => rfl
      | true =>
        obtain ⟨y, hy, ey⟩ := List.any_eq_true.mp e
        have ey2 : y = x := eq_of_beq ey
        subst ey2
        have h2 := (List.nodup_append.mp h).2.2 y hy y (List.mem_cons_self ..)
        exact absurd rfl h2
    have g : grow acc x = acc ++ [x] := by
      unfold grow
      rw [hx]
      rfl
    show l.foldl grow (grow acc x) = acc ++ x :: l
    rw [g, seen_nodup l (acc ++ [x]) (by simpa using h)]
    simp
theorem good_diff {row : List Str} (h : GoodRow row) : diffV (row.map V.str) = true := by
  unfold diffV
  have h1 : (row.map V.str).all nameV = true := by
    rw [List.all_map, List.all_eq_true]
    intro z hz
    exact (h.2.1 z hz).1
  have h2 : seen row = row := by
    have := seen_nodup row [] (by simpa using h.1)
    simpa [seen] using this
  rw [h1, strsOf_map, h2]
  simp
theorem good_thing {K : PySem.W.Frag} {H : Hp} {a : Addr} {row : List Str} (h : GoodRow row) (e : Rd H a (.tup (row.map V.str))) : Thing K H (.ref a) :=
  .inl ⟨a, _, rfl, e, by rw [List.length_map]; exact Nat.le_trans h.2.2 (by decide), fun y hy => by
    obtain ⟨z, hz, rfl⟩ := List.mem_map.mp hy
    exact (h.2.1 z hz).2.item⟩
/-! ### clashes, as data -/
/-- the place of a name in a row -/
def place (row : List Str) (d : PyData) : Option Nat := match d with
  | .str x => row.findIdx? (· == x)
  | _ => none
def nmD : PyData → Bool
  | .str x => isNm x
  | _ => false
def ixD (n : Nat) : PyData → Bool
  | .int i => decide (0 ≤ i) && decide (i < n)
  | _ => false
def before (row : List Str) (a b : PyData) : Bool := match place row a, place row b with
  | some i, some j => decide (i < j)
  | _, _ => false
theorem before_str (row : List Str) (x y : Str) : before row (.str x) (.str y) = match row.findIdx? (· == x), row.findIdx? (· == y) with
  | some i, some j => decide (i < j)
  | _, _ => false := rfl
def stepD (rows : List (List Str)) : PyData → Bool
  | .tuple [a, b, .int i] => ixD rows.length (.int i) && before (rows.getD i.toNat []) a b
  | _ => false
def sndD : PyData → PyData
  | .tuple [_, b, _] => b
  | _ => .none
def fstD : PyData → PyData
  | .tuple [a, _, _] => a
  | _ => .none
def strD : PyData → Str
  | .str x => x
  | _ => Str.empty
/-- each step begins where the one ahead of it ends, the first one where the last one ends -/
def ringP (ds : List PyData) (j : Nat) : Bool := decide (strD (sndD (ds.getD (if j = 0 then ds.length - 1 else j - 1) .none)) = strD (fstD (ds.getD j .none)))
def ringD (ds : List PyData) : Bool := (List.range ds.length).all (ringP ds)
def clashD (rows : List (List Str)) : PyData → Bool
  | .tuple ds => decide (2 ≤ ds.length) && ds.all (stepD rows) && ringD ds
  | _ => false
theorem clash_tup (rows : List (List Str)) (ds : List PyData) : clashD rows (.tuple ds) = (decide (2 ≤ ds.length) && ds.all (stepD rows) && ringD ds) := rfl
/-- a step that fits is three values -/
theorem step_form {rows : List (List Str)} {H : Hp} {n : Nat} {v : V} {d : PyData} (h : stepD rows d = true) (t : Td H n v d) : ∃ b x y k, v = .ref b ∧ d = .tuple [.str x, .str y, .int k] ∧ H b = some (.tup [.str x, .str y, .int k]) := by
  cases t with
  | tup e l ts =>
    rename_i m a xs ds
    match ds, h with
    | [d1, d2, .int k], h =>
      cases ts with
      | cons k1 ts => cases ts with
        | cons k2 ts => cases ts with
          | cons k3 ts =>
            cases ts
            have hb : before (rows.getD k.toNat []) d1 d2 = true := (Bool.and_eq_true_iff.mp h).2
            cases k3
            cases k1 with
            | str w1 => cases k2 with
              | str w2 => exact ⟨_, _, _, _, rfl, rfl, e⟩
              | _ => simp [before, place] at hb
            | _ => simp [before, place] at hb
  | _ => cases h
/-- a dict comprehension over what walks -/
theorem dc_it {J : It} {n : Nat} {G : Hp → Prop} {Y : Nat → Hp → V → Hp → Prop} (w : Walk J n G Y) {g : TG} {tt : TT} {tk tv : TE} {vs : List Nat} {σ : St} {H1 : Hp} {D : Addr} {Qd : Hp → Prop} (Pv : Nat → Hp → Prop) (h0 : Pv 0 (upd H1 D (.dK []))) (hG : ∀ i H, i ≤ n → Pv i H → G H)
    (hs : ∀ i x H H', i < n → Pv i H → Y i H x H' → g x (wipe σ vs) H' fun σ2 H2 => wipe σ2 vs = wipe σ vs ∧ tt σ2 H2 fun b H3 =>
      if b = true then tk σ2 H3 fun y H4 => tv σ2 H4 fun z H5 => ∃ kvs k, y = kV k ∧ H5 D = some (.dK kvs) ∧ kvs.length < sizeLine ∧ Pv (i + 1) (upd H5 D (.dK (putK kvs k z))) else Pv (i + 1) H3) (hd : ∀ H, Pv n H → Qd H) :
    ∃ W : Nat → Nat → Hp → Prop, (∃ m, W 0 m (upd H1 D (.dK []))) ∧ ∀ i m H, W i m H →
      (J.stop i H ∧ Qd H) ∨ (J.go i H ∧ ∃ Nx : Hp → Prop, (∀ H', Nx H' → ∃ m', m' < m ∧ W (i + 1) m' H') ∧ ∀ x H', J.yld i H x H' → g x (wipe σ vs) H' fun σ2 H2 => wipe σ2 vs = wipe σ vs ∧ tt σ2 H2 fun b H3 =>
        if b = true then tk σ2 H3 fun y H4 => tv σ2 H4 fun z H5 => ∃ kvs k, y = kV k ∧ H5 D = some (.dK kvs) ∧ kvs.length < sizeLine ∧ Nx (upd H5 D (.dK (putK kvs k z))) else Nx H3) := by
  refine ⟨fun i m H => m + i = n ∧ Pv i H, ⟨n, rfl, h0⟩, fun i m H ⟨em, p⟩ => ?_⟩
  by_cases hlt : i < n
  · exact .inr ⟨w.goes i H hlt (hG i H (Nat.le_of_lt hlt) p), Pv (i + 1), fun H' p' => ⟨m - 1, by omega, by omega, p'⟩, fun x H' y => hs i x H H' hlt p (w.yields i H x H' hlt (hG i H (Nat.le_of_lt hlt) p) y)⟩
  · have e : i = n := by omega
    subst e
    exact .inl ⟨w.stops H (hG _ H (Nat.le_refl _) p), hd H p⟩
end Nb

set_option Elab.async false
set_option maxRecDepth 100000
set_option maxHeartbeats 4000000
/-! A def of the text that keeps its promise, with all that a caller must know of it. -/
namespace Nb
open PySem L2
structure Dn (P : Program) (w : World) (K : PySem.W.Frag) (mg : Str → Option Value) (base : Heap) (CX : CXT) (k : Nat) (x : Str) (ps : List Str) (sp : Sp) : Prop where
  ex : ∃ (f : Addr) (fd : FuncData), PySem.W.keepIn K (.ref f) = true ∧ Binds K fd ps [] ∧ mg x = some (.ref f) ∧ FnOk P w K mg base CX k f fd ps sp
theorem Dn.imp {P : Program} {w : World} {K : PySem.W.Frag} {mg : Str → Option Value} {base : Heap} {CX : CXT} {k : Nat} {x : Str} {ps : List Str} {sp sp' : Sp} (D : Dn P w K mg base CX k x ps sp) (h : ∀ vs H Q E, sp' vs H Q E → sp vs H Q E) : Dn P w K mg base CX k x ps sp' :=
  let ⟨f, fd, a, b, c, F⟩ := D.ex
  ⟨f, fd, a, b, c, F.imp h⟩
section
variable {X : Cx} {CX : CXT} {k : Nat} {ps : List Str} {sp : Sp} {E : XK} {W : L2.St → XK} {x : Str} {p pos : Pos} {e : Expr} {es : List Expr} {t : TA}
theorem pe_D (D : Dn X.prog X.w X.K X.mg X.base CX k x ps sp) (hr : Room k X.A) (hg : Gl X x) (hx : Passes CX X E) (ha : PA X (e :: es) t)
    (hdb : (x == ("__debug__" : Str)) = false := by decide) (he : starEach (e :: es) X.env = (false, eval e X.env) :: starEach es X.env := by rfl) (hpl : (backTo pos (starEach es X.env)).any (·.1) = false := by rfl) : PE X (.Call (.Name x p) (e :: es) [] pos) (tCall sp [] E t) :=
  let ⟨_, _, kp, b, g, G⟩ := D.ex
  pe_call G hr hg g kp b .nil hx ha hdb he hpl
theorem pe_D0 (D : Dn X.prog X.w X.K X.mg X.base CX k x ps sp) (hr : Room k X.A) (hg : Gl X x) (hx : Passes CX X E) (hdb : (x == ("__debug__" : Str)) = false := by decide) : PE X (.Call (.Name x p) [] [] pos) (tCall sp [] E tNil) :=
  let ⟨_, _, kp, b, g, G⟩ := D.ex
  pe_call0 G hr hg g kp b .nil hx hdb
theorem pe_DS (D : Dn X.prog X.w X.K X.mg X.base CX k x ps sp) (hr : Room k X.A) (hg : Gl X x) (hx : ∀ σ, PassesAt CX X σ (W σ)) (ha : PA X (e :: es) t)
    (hdb : (x == ("__debug__" : Str)) = false := by decide) (he : starEach (e :: es) X.env = (false, eval e X.env) :: starEach es X.env := by rfl) (hpl : (backTo pos (starEach es X.env)).any (·.1) = false := by rfl) : PE X (.Call (.Name x p) (e :: es) [] pos) (tCallS sp W t) :=
  let ⟨_, _, kp, b, g, G⟩ := D.ex
  pe_callS G hr hg g kp b hx ha hdb he hpl
end
end Nb

set_option Elab.async false
set_option maxRecDepth 100000
set_option maxHeartbeats 4000000
/-! The rules of new objects, told by what stood before: every heap that keeps what was told, with the new object in it. -/
namespace Nb
open PySem PySem.Spec PyProof.Rows
open L2 hiding del del_ne del_same
def aUp (t : TA) : TA := fun σ H Q => ∃ R : List V → Hp → Prop, t σ H R ∧ ∀ vs H1, R vs H1 → Q vs H1
def eUp (t : TE) : TE := fun σ H Q => ∃ R : VK, t σ H R ∧ ∀ v H1, R v H1 → Q v H1
section
variable {X : Cx} {e : Expr} {es : List Expr} {t u : TE} {ta : TA} {pos : Pos}
theorem PE.to (h : PE X e t) (k : ∀ σ H Q, u σ H Q → t σ H Q) : PE X e u := ⟨fun pins s σ H Q I z => h.run pins s σ H Q I (k _ _ _ z)⟩
theorem pa_up (h : PA X es ta) : PA X es (aUp ta) := ⟨fun pos pins s σ H _ I ⟨R, r, k⟩ => thn (h.run pos pins s σ H R I r) fun us s1 ⟨vs, H1, I1, r1, q⟩ => ⟨vs, H1, I1, r1, k vs H1 q⟩⟩
theorem pe_up (h : PE X e t) : PE X e (eUp t) := ⟨fun pins s σ H _ I ⟨R, r, k⟩ => thn (h.run pins s σ H R I r) fun us s1 ⟨v, H1, I1, r1, q⟩ => ⟨v, H1, I1, r1, k v H1 q⟩⟩
/-- [e, ..] -/
def tLstS (ta : TA) : TE := fun σ H Q => ta σ H fun vs H1 => vs.length ≤ 100000 ∧ ∀ H2 l, Same H1 H2 → H1 l = none → H2 l = some (.lst vs) → Q (.ref l) H2
theorem line100 {n : Nat} (h : n ≤ 100000) : n ≤ sizeLine := Nat.le_trans h (by decide)
theorem pe_lstS (h : PA X es ta) : PE X (.List es pos) (tLstS ta) := PE.to (pe_lst (pa_up h)) fun σ H Q z => ⟨_, z, fun vs H1 ⟨l, q⟩ => ⟨line100 l, fun a na => q _ a (same_new na) na upd_same⟩⟩
/-- (e, ..) -/
def tTupS (ta : TA) : TE := fun σ H Q => ta σ H fun vs H1 => vs.length ≤ 100000 ∧ ∀ H2 l, Same H1 H2 → H1 l = none → H2 l = some (.tup vs) → Q (.ref l) H2
theorem pe_tupS {c} (h : PA X es ta) : PE X (.Tuple es c pos) (tTupS ta) := PE.to (pe_tup (pa_up h)) fun σ H Q z => ⟨_, z, fun vs H1 ⟨l, q⟩ => ⟨line100 l, fun a na => q _ a (same_new na) na upd_same⟩⟩
theorem OpR.to {f : Value → Value → Sem Value} {r r' : R2} (h : OpR X f r) (k : ∀ x y H Q, r' x y H Q → r x y H Q) : OpR X f r' := fun pins s σ H x y v u Q I rx ry z => h pins s σ H x y v u Q I rx ry (k _ _ _ _ z)
theorem CallR.to {f : Value} {r r' : List V → Hp → VK → Prop} (h : CallR X f r) (k : ∀ xs H Q, r' xs H Q → r xs H Q) : CallR X f r' := fun pins s σ H xs us Q I rr z => h pins s σ H xs us Q I rr (k _ _ _ z)
/-- list + list -/
def rCatS : R2 := fun x y H Q => ∃ l b xs zs, x = .ref l ∧ y = .ref b ∧ H l = some (.lst xs) ∧ H b = some (.lst zs) ∧ xs.length + zs.length ≤ 100000 ∧ ∀ H2 p, Same H H2 → H p = none → H2 p = some (.lst (xs ++ zs)) → Q (.ref p) H2
theorem op_catS : OpR X (binaryOp .Add) rCatS := OpR.to op_cat fun x y H Q ⟨l, b, xs, zs, e1, e2, h1, h2, z, q⟩ => ⟨l, b, xs, zs, e1, e2, h1, h2, line100 z, fun p np => q _ p (same_new np) np upd_same⟩
/-- list * int -/
def rRepS : R2 := fun x y H Q => ∃ (l : Addr) (k : Nat) (xs : List V), x = .ref l ∧ y = .int k ∧ H l = some (.lst xs) ∧ k ≤ 100000 ∧ xs.length * k ≤ 100000 ∧ ∀ H2 p, Same H H2 → H p = none → H2 p = some (.lst (List.replicate k xs).flatten) → Q (.ref p) H2
theorem op_repS : OpR X (binaryOp .Mult) rRepS := OpR.to op_rep fun x y H Q ⟨l, k, xs, e1, e2, h1, h2, z, q⟩ => ⟨l, k, xs, e1, e2, h1, by omega, by omega, line100 z, fun p np => q _ p (same_new np) np upd_same⟩
/-- tuple + tuple -/
def rCatT (K : PySem.W.Frag) : R2 := fun x y H Q => ∃ a b xs ys, x = .ref a ∧ y = .ref b ∧ H a = some (.tup xs) ∧ H b = some (.tup ys) ∧ xs.length + ys.length ≤ 100000 ∧ ∀ H2 p, Same H H2 → H2 p = some (.tup (xs ++ ys)) → Q (.ref p) H2
theorem op_catT' : OpR X (binaryOp .Add) (rCatT X.K) := OpR.to op_catA fun x y H Q ⟨a, b, xs, ys, e1, e2, h1, h2, z, q⟩ => ⟨a, b, xs, ys, e1, e2, SqT.of h1, SqT.of h2, line100 z,
  fun e => q _ b (Same.refl H) (by rw [e]; exact h2), fun _ e => q _ a (Same.refl H) (by rw [e, List.append_nil]; exact h1), fun _ _ p np => q _ p (same_new np) upd_same⟩
/-- tuple(xs), list(xs) -/
theorem cr_tupleS : CallR X (.type "tuple") (fun xs H Q => ∃ p ys, xs = [.ref p] ∧ (H p = some (.lst ys) ∨ H p = some (.tup ys)) ∧ ∀ H2 l, Same H H2 → H2 l = some (.tup ys) → Q (.ref l) H2) :=
  CallR.to call_tuple_of fun xs H Q ⟨p, ys, e, h, q⟩ => ⟨p, ys, e, h.elim (fun h => .inl ⟨SqL.of h, fun l nl => q _ l (same_new nl) upd_same⟩) fun h => .inr ⟨SqT.of h, q H p (Same.refl H) h⟩⟩
theorem cr_listS : CallR X (.type "list") (fun xs H Q => ∃ p ys, xs = [.ref p] ∧ (SqL X.K H p ys ∨ SqT X.K H p ys) ∧ ∀ H2 l, Same H H2 → H l = none → H2 l = some (.lst ys) → Q (.ref l) H2) :=
  CallR.to call_list_of fun xs H Q ⟨p, ys, e, h, q⟩ => ⟨p, ys, e, h, fun l nl => q _ l (same_new nl) nl upd_same⟩
end
/-! ### defs that are run where no repr is under way -/
structure DnG (P : Program) (w : World) (K : PySem.W.Frag) (mg : Str → Option Value) (base : Heap) (CX : CXT) (k : Nat) (x : Str) (ps : List Str) (sp : Sp) : Prop where
  ex : ∃ (f : Addr) (fd : FuncData), PySem.W.keepIn K (.ref f) = true ∧ Binds K fd ps [] ∧ mg x = some (.ref f) ∧ (∀ vs H Q E, sp vs H Q E → vs.length = ps.length) ∧ RunsG P w K mg base CX k f fd ps sp
section
variable {X : Cx} {CX : CXT} {k : Nat} {ps : List Str} {sp : Sp} {E : XK} {x : Str} {p pos : Pos} {e : Expr} {es : List Expr} {t : TA}
theorem pe_DG (D : DnG X.prog X.w X.K X.mg X.base CX k x ps sp) (gd : X.A.guards = some []) (hr : Room k X.A) (hg : Gl X x) (hx : Passes CX X E) (ha : PA X (e :: es) t)
    (hdb : (x == ("__debug__" : Str)) = false := by decide) (he : starEach (e :: es) X.env = (false, eval e X.env) :: starEach es X.env := by rfl) (hpl : (backTo pos (starEach es X.env)).any (·.1) = false := by rfl) : PE X (.Call (.Name x p) (e :: es) [] pos) (tCall sp [] E t) := by
  obtain ⟨f, fd, kp, b, g, len, G⟩ := D.ex
  refine ⟨fun pins s σ H Q I h => wpAny_Call_Name_kw (ld_glob I hg g (PySem.W.callWith_K (h₀ := X.base) I.ok.mod.kin kp (thn (ha.run pos pins s σ H _ I h) fun us s1 ⟨vs, H1, I1, r, q⟩ => ⟨I1.kIn, ?_⟩) he hpl) hdb)⟩
  have q : sp vs H1 Q E := by
    have q' : sp (vs ++ []) H1 Q E := q
    rwa [List.append_nil] at q'
  have hl : (us ++ []).length = ps.length := by rw [List.append_nil, ← Paired.length r]; exact len _ _ _ _ q
  refine wpAny_call (codeAny_mono (G X.A X.stack s1 H1 ⟨us, []⟩ us vs Q E gd hr I1.env0 (by simpa using b s1 us I1.kIn hl) r q) fun r s' hq => ?_)
  cases r with
  | error e => exact hx pins σ H1 s1 e s' I1 hq
  | ok fl =>
    cases fl with
    | ret u => exact I1.after hq
    | next => exact False.elim hq
    | brk => exact False.elim hq
    | cont => exact False.elim hq
end
/-! ### repr of data in which empty dicts may stand -/
mutual
inductive Tz (H : Hp) : V → PyData → Prop
  | non : Tz H .non .none
  | bl (b) : Tz H (.bl b) (.bool b)
  | int (i) : Tz H (.int i) (.int i)
  | str (z) : Tz H (.str z) (.str z)
  | lst {a xs ds} : H a = some (.lst xs) → Tzs H xs ds → Tz H (.ref a) (.list ds)
  | tup {a xs ds} : H a = some (.tup xs) → Tzs H xs ds → Tz H (.ref a) (.tuple ds)
  | dct {a} : H a = some (.dK []) → Tz H (.ref a) (.dict [])
inductive Tzs (H : Hp) : List V → List PyData → Prop
  | nil : Tzs H [] []
  | cons {x d xs ds} : Tz H x d → Tzs H xs ds → Tzs H (x :: xs) (d :: ds)
end
mutual
theorem tz_same {H H' : Hp} (s : Same H H') : ∀ {x : V} {d : PyData}, Tz H x d → Tz H' x d
  | _, _, .non => .non
  | _, _, .bl b => .bl b
  | _, _, .int i => .int i
  | _, _, .str z => .str z
  | _, _, .lst e h => .lst (s _ _ e) (tzs_same s h)
  | _, _, .tup e h => .tup (s _ _ e) (tzs_same s h)
  | _, _, .dct e => .dct (s _ _ e)
theorem tzs_same {H H' : Hp} (s : Same H H') : ∀ {xs : List V} {ds : List PyData}, Tzs H xs ds → Tzs H' xs ds
  | _, _, .nil => .nil
  | _, _, .cons h k => .cons (tz_same s h) (tzs_same s k)
end
mutual
theorem tz_reads {X : Cx} {pins : List (Addr × Obj)} {σ : L2.St} {H : Hp} {s : Shared} (I : Inv X pins σ H s) : ∀ {x : V} {d : PyData} {u : Value}, Tz H x d → RelV x u → ∃ as, Reads s.heap u d as ∧ ∀ a ∈ as, H a ≠ none
  | _, _, _, .non, r => by cases r; exact ⟨_, .none, fun _ h => nomatch h⟩
  | _, _, _, .bl b, r => by cases r; exact ⟨_, .bool b, fun _ h => nomatch h⟩
  | _, _, _, .int i, r => by obtain ⟨t, rfl⟩ := r; exact ⟨_, .int i t, fun _ h => nomatch h⟩
  | _, _, _, .str z, r => by obtain ⟨t, rfl⟩ := r; exact ⟨_, .str z t, fun _ h => nomatch h⟩
  | _, _, _, .lst (a := a) e h, r => by
    cases r
    obtain ⟨its, rv, ⟨o, n, ho, hc, _, hd⟩, _⟩ := I.list (SqL.of e)
    obtain ⟨as, hr, al⟩ := tzs_reads I h rv
    refine ⟨_, .list ho hc hd hr, fun b hb => ?_⟩
    rcases List.mem_cons.mp hb with z | z
    · rw [z, e]
      exact fun q => nomatch q
    · exact al b z
  | _, _, _, .tup e h, r => by
    cases r
    obtain ⟨its, rv, ⟨o, ho, hc, n, hd⟩, _⟩ := I.tuple (SqT.of e)
    obtain ⟨as, hr, al⟩ := tzs_reads I h rv
    exact ⟨_, .tuple ho hc hd hr, al⟩
  | _, _, _, .dct (a := a) e, r => by
    cases r
    have ho : ObjOk X.prog X.w H s.heap a (.dK []) := I.hok a _ e
    obtain ⟨_, nm, vs, kv, o, es, ep, e1, e2, e3, _, e5, _⟩ := ho
    cases kv
    have e6 : es.toList = [] := by
      cases hz : es.toList with
      | nil => rfl
      | cons z zs =>
        rw [hz] at e5
        cases e5
    refine ⟨_, .dict (as := []) (bs := []) e1 e2.1 e3 (by rw [e6]; exact .nil) (by rw [e6]; exact .nil), fun b hb => ?_⟩
    have hb : b = a := by simpa using hb
    rw [hb, e]
    exact fun q => nomatch q
theorem tzs_reads {X : Cx} {pins : List (Addr × Obj)} {σ : L2.St} {H : Hp} {s : Shared} (I : Inv X pins σ H s) : ∀ {xs : List V} {ds : List PyData} {us : List Value}, Tzs H xs ds → Vals xs us → ∃ as, ReadsAll s.heap us ds as ∧ ∀ a ∈ as, H a ≠ none
  | _, _, _, .nil, r => by cases r; exact ⟨_, .nil, fun _ h => nomatch h⟩
  | _, _, _, .cons h k, r => by
    cases r with
    | cons r1 r2 =>
      obtain ⟨as, q1, a1⟩ := tz_reads I h r1
      obtain ⟨bs, q2, a2⟩ := tzs_reads I k r2
      exact ⟨_, .cons q1 q2, fun a ha => (List.mem_append.mp ha).elim (a1 a) (a2 a)⟩
end
/-- the module's table of modules is a written object -/
def SysIn (K : PySem.W.Frag) : Prop := (K.lookup sysModules).isSome = true
theorem cr_reprZ {X : Cx} (sy : SysIn X.K) (g : X.A.guards = some []) (u : X.A.units + 100 < cLine) : CallR X (.builtin "repr") (fun xs H Q => ∃ (x : V) (d : PyData), xs = [x] ∧ Tz H x d ∧ d.showable = true ∧ d.depth ≤ 60 ∧ d.shown.length ≤ sizeLine ∧ Q (.str d.shown) H) := by
  intro pins s σ H xs us Q I r h
  obtain ⟨x, d, rfl, hd, hs, hn, hz, q⟩ := h
  obtain ⟨v, rfl, rv⟩ := vals1 r
  obtain ⟨as, rd, al⟩ := tz_reads I hd rv
  obtain ⟨so, hso⟩ := Option.isSome_iff_exists.mp sy
  have nsy : sysModules ∉ as := fun hm => al _ hm (I.bs _ _ (I.ok.mod.kin _ _ hso)).2
  have byRef : ∀ a : Addr, v = .ref a → wpAny (model X.prog X.w) X.A (call (.builtin "repr") [v]) (EP X pins σ Q) X.xe s := fun a e => by
    subst e
    exact repr_of_reads' rd hs (fun _ => nsy) g (by omega) (fun _ _ e => e) (fun h' t tk hk => ⟨.str d.shown, H, I.kept (t' := tk) hk, ⟨_, rfl⟩, q⟩) hz
  cases hd with
  | non =>
    cases (show v = Value.none from rv)
    exact PySem.P.repr_of_none ⟨.str _, H, I.tok _, ⟨_, rfl⟩, q⟩
  | bl b =>
    cases (show v = Value.bool b from rv)
    exact PySem.P.repr_of_bool ⟨.str _, H, I.tok _, ⟨_, rfl⟩, q⟩
  | int i =>
    obtain ⟨t, rfl⟩ := rv
    exact PySem.P.repr_of_int (of_decide_eq_true hs) ⟨.str _, H, I.tok _, ⟨_, rfl⟩, q⟩
  | str z =>
    obtain ⟨t, rfl⟩ := rv
    exact PySem.P.repr_of_str ⟨.str _, H, I.tok _, ⟨_, rfl⟩, q⟩ hz
  | lst e ts => exact byRef _ rv
  | tup e ts => exact byRef _ rv
  | dct e => exact byRef _ rv
end Nb
namespace Nb
open PySem PySem.Spec PyProof.Rows
open L2 hiding del del_ne del_same
theorem eqv_bls : ∀ xs ys : List Bool, PyData.eqvAll (xs.map PyData.bool) (ys.map PyData.bool) = decide (xs = ys)
  | [], [] => rfl
  | [], y :: ys => rfl
  | x :: xs, [] => rfl
  | x :: xs, y :: ys => by
    have ih := eqv_bls xs ys
    simp only [List.map_cons, PyData.eqvAll, ih]
    cases x <;> cases y <;> simp [PyData.eqv]
theorem dp_bls {K : PySem.W.Frag} {H : Hp} : ∀ bs : List Bool, DpAll K H (bs.map V.bl) (bs.map PyData.bool)
  | [] => .nil
  | b :: bs => .cons (.bl b) (dp_bls bs)
theorem fine_bls (bs : List Bool) : Fine 1 (.list (bs.map PyData.bool)) := fine_list fun d hd => by
  obtain ⟨b, _, rfl⟩ := List.mem_map.mp hd
  exact fine_bl b
/-- lists of bools compared -/
def rBls (k : Bool → Bool) : R2 := fun x y H Q => ∃ (a b : Addr) (xs ys : List Bool), x = .ref a ∧ y = .ref b ∧ H a = some (.lst (xs.map V.bl)) ∧ H b = some (.lst (ys.map V.bl)) ∧ Q (.bl (k (decide (xs = ys)))) H
section
variable {X : Cx}
theorem op_eqBls (hu : X.A.units + 64 < cLine) : OpR X (compareOp .Eq) (rBls id) := OpR.to (op_eqD hu) fun x y H Q h => by
  obtain ⟨a, b, xs, ys, rfl, rfl, h1, h2, q⟩ := h
  refine ⟨.list (xs.map PyData.bool), .list (ys.map PyData.bool), .lst (SqL.of h1) (dp_bls xs), .lst (SqL.of h2) (dp_bls ys), (fine_bls xs).shaped (by decide), (fine_bls ys).shaped (by decide), ?_⟩
  have e : PyData.eqv (.list (xs.map PyData.bool)) (.list (ys.map PyData.bool)) = decide (xs = ys) := by rw [← eqv_bls]; simp [PyData.eqv]
  rw [e]
  exact q
theorem op_neBls (hu : X.A.units + 64 < cLine) : OpR X (compareOp .NotEq) (rBls not) := OpR.to (op_neD hu) fun x y H Q h => by
  obtain ⟨a, b, xs, ys, rfl, rfl, h1, h2, q⟩ := h
  refine ⟨.list (xs.map PyData.bool), .list (ys.map PyData.bool), .lst (SqL.of h1) (dp_bls xs), .lst (SqL.of h2) (dp_bls ys), (fine_bls xs).shaped (by decide), (fine_bls ys).shaped (by decide), ?_⟩
  have e : PyData.eqv (.list (xs.map PyData.bool)) (.list (ys.map PyData.bool)) = decide (xs = ys) := by rw [← eqv_bls]; simp [PyData.eqv]
  rw [e]
  exact q
end
end Nb
namespace Nb
open PySem PySem.Spec PyProof.Rows
open L2 hiding del del_ne del_same
theorem eqv_ints : ∀ xs ys : List Int, PyData.eqvAll (xs.map PyData.int) (ys.map PyData.int) = decide (xs = ys)
  | [], [] => rfl
  | [], y :: ys => rfl
  | x :: xs, [] => rfl
  | x :: xs, y :: ys => by
    simp only [List.map_cons, PyData.eqvAll, eqv_ints xs ys, PyData.eqv]
    rw [Bool.eq_iff_iff]
    simp
/-- lists of ints compared -/
def rInts (k : Bool → Bool) : R2 := fun x y H Q => ∃ (a b : Addr) (xs ys : List Int), x = .ref a ∧ y = .ref b ∧ H a = some (.lst (xs.map V.int)) ∧ H b = some (.lst (ys.map V.int)) ∧ Q (.bl (k (decide (xs = ys)))) H
section
variable {X : Cx}
theorem op_eqInts (hu : X.A.units + 64 < cLine) : OpR X (compareOp .Eq) (rInts id) := OpR.to (op_eqD hu) fun x y H Q h => by
  obtain ⟨a, b, xs, ys, rfl, rfl, h1, h2, q⟩ := h
  refine ⟨.list (xs.map PyData.int), .list (ys.map PyData.int), .lst (SqL.of h1) (dp_ints xs), .lst (SqL.of h2) (dp_ints ys), (fine_ints xs).shaped (by decide), (fine_ints ys).shaped (by decide), ?_⟩
  have e : PyData.eqv (.list (xs.map PyData.int)) (.list (ys.map PyData.int)) = decide (xs = ys) := by rw [← eqv_ints]; simp [PyData.eqv]
  rw [e]
  exact q
theorem op_neInts (hu : X.A.units + 64 < cLine) : OpR X (compareOp .NotEq) (rInts not) := OpR.to (op_neD hu) fun x y H Q h => by
  obtain ⟨a, b, xs, ys, rfl, rfl, h1, h2, q⟩ := h
  refine ⟨.list (xs.map PyData.int), .list (ys.map PyData.int), .lst (SqL.of h1) (dp_ints xs), .lst (SqL.of h2) (dp_ints ys), (fine_ints xs).shaped (by decide), (fine_ints ys).shaped (by decide), ?_⟩
  have e : PyData.eqv (.list (xs.map PyData.int)) (.list (ys.map PyData.int)) = decide (xs = ys) := by rw [← eqv_ints]; simp [PyData.eqv]
  rw [e]
  exact q
/-- {} -/
theorem pe_dnewS {pos : Pos} : PE X (.Dict [] [] pos) (fun _ H Q => ∀ H2 d, Same H H2 → H d = none → H2 d = some (.dK []) → Q (.ref d) H2) := PE.to pe_dnewK fun σ H Q z d hd => z _ d (same_new hd) hd upd_same
end
theorem tzs_rep {H : Hp} {x : V} {d : PyData} (h : Tz H x d) : ∀ n, Tzs H (List.replicate n x) (List.replicate n d)
  | 0 => .nil
  | n + 1 => .cons h (tzs_rep h n)
/-- what stands in a heap beside the source -/
theorem del_keep {H : Hp} {p a : Addr} {o : HO} (e : H a = some o) (n : a ≠ p) : del H p a = some o := by rw [del_ne n]; exact e
theorem same_upd {F H : Hp} {p : Addr} (s : Same F H) (h : F p = none) : Same F (del H p) := same_del s h
theorem del_mono {H H' : Hp} {p : Addr} (s : Same H H') : Same (del H p) (del H' p) := same_del (del_same.trans s) del_at
theorem src_away {H : Hp} {p l : Addr} {b : Nat} (S : Src H p b) (h : H l = none) : l ≠ p := fun z => by
  obtain ⟨c, n, r, e, _⟩ := S
  rw [z, e] at h
  cases h
end Nb
namespace Nb
open PySem L2
theorem un100 {k : Nat} {A : Around} (hr : Room k A) : A.units + 100 < cLine := by
  have := hr.un
  omega
end Nb
namespace Nb
open PySem L2
/-- a law's own promise -/
def spLaw0 (K : PySem.W.Frag) : Sp := fun vs H Q _ => ∃ (a : Addr) (ns : List Int), vs = [.ref a] ∧ SqL K H a (ns.map V.int) ∧ ns.length ≤ 63 ∧ ∀ H', Q (.bl true) H'
end Nb

set_option Elab.async false
set_option linter.all false
set_option maxRecDepth 100000
set_option maxHeartbeats 4000000
/-! Comprehensions that change nothing that was told: what they give, item by item. -/
namespace Nb
open PySem
open L2 hiding del del_ne del_same
/-- item by item -/
inductive F2 {α β : Type} (R : α → β → Prop) : List α → List β → Prop
  | nil : F2 R [] []
  | cons {x y xs ys} : R x y → F2 R xs ys → F2 R (x :: xs) (y :: ys)
theorem f2_snoc {α β : Type} {R : α → β → Prop} : ∀ {xs : List α} {ys : List β} {x : α} {y : β}, F2 R xs ys → R x y → F2 R (xs ++ [x]) (ys ++ [y])
  | _, _, _, _, .nil, h => .cons h .nil
  | _, _, _, _, .cons a b, h => .cons a (f2_snoc b h)
theorem f2_imp {α β : Type} {R S : α → β → Prop} (k : ∀ a b, R a b → S a b) : ∀ {xs : List α} {ys : List β}, F2 R xs ys → F2 S xs ys
  | _, _, .nil => .nil
  | _, _, .cons a b => .cons (k _ _ a) (f2_imp k b)
theorem f2_len {α β : Type} {R : α → β → Prop} : ∀ {xs : List α} {ys : List β}, F2 R xs ys → xs.length = ys.length
  | _, _, .nil => rfl
  | _, _, .cons _ b => congrArg (· + 1) (f2_len b)
theorem f2_map {α β : Type} {f : α → β} : ∀ {xs : List α} {ys : List β}, F2 (fun x y => y = f x) xs ys → ys = xs.map f
  | _, _, .nil => rfl
  | _, _, .cons a b => by rw [a, f2_map b]; rfl
theorem f2_get {α β : Type} {R : α → β → Prop} : ∀ {xs : List α} {ys : List β} {i : Nat} {y : β}, F2 R xs ys → ys[i]? = some y → ∃ x, xs[i]? = some x ∧ R x y
  | _, _, 0, _, .cons (x := x) a _, h => ⟨x, rfl, by cases h; exact a⟩
  | _, _, i + 1, _, .cons _ b, h => f2_get (i := i) b h
theorem f2_getl {α β : Type} {R : α → β → Prop} : ∀ {xs : List α} {ys : List β} {i : Nat} {x : α}, F2 R xs ys → xs[i]? = some x → ∃ y, ys[i]? = some y ∧ R x y
  | _, _, 0, _, .cons (y := y) a _, h => ⟨y, rfl, by cases h; exact a⟩
  | _, _, i + 1, _, .cons _ b, h => f2_getl (i := i) b h
section
variable {J : It} {n : Nat} {G : Hp → Prop} {Y : Nat → Hp → V → Hp → Prop} {g : TG} {tt : TT} {te : TE} {vs : List Nat} {σ : L2.St} {H1 : Hp} {D : Addr} {Qd : Hp → Prop}
/-- what a comprehension's rule asks for behind the new list -/
def LcGoal (J : It) (g : TG) (tt : TT) (te : TE) (vs : List Nat) (σ : L2.St) (H1 : Hp) (D : Addr) (Qd : Hp → Prop) : Prop :=
    ∃ W : Nat → Nat → Hp → Prop, (∃ m, W 0 m (upd H1 D (.lst []))) ∧ ∀ i m H, W i m H →
      (J.stop i H ∧ Qd H) ∨ (J.go i H ∧ ∃ Nx : Hp → Prop, (∀ H', Nx H' → ∃ m', m' < m ∧ W (i + 1) m' H') ∧ ∀ x H', J.yld i H x H' → g x (wipe σ vs) H' fun σ2 H2 => wipe σ2 vs = wipe σ vs ∧ tt σ2 H2 fun b H3 =>
        if b = true then te σ2 H3 fun y H4 => ∃ acc, H4 D = some (.lst acc) ∧ acc.length < sizeLine ∧ Nx (upd H4 D (.lst (acc ++ [y]))) else Nx H3)
/-- the items are told by R, under which nothing that is told is lost -/
theorem lcR (w : Walk J n G Y) (p : Nat → Bool) (R : Nat → V → Hp → Prop) (hR : ∀ i y H H', Same H H' → R i y H → R i y H') (hn : n ≤ 100000) (hD : H1 D = none) (hG : ∀ H, Same H1 H → G H)
    (hs : ∀ i x H H' (Nx : VK) (Nf : Hp → Prop), i < n → Same H1 H → H D ≠ none → Y i H x H' → (p i = true → ∀ y H4, Same H H4 → R i y (del H4 D) → Nx y H4) → (p i = false → ∀ H3, Same H H3 → Nf H3) →
      g x (wipe σ vs) H' fun σ2 H2 => wipe σ2 vs = wipe σ vs ∧ tt σ2 H2 fun b H3 => if b = true then te σ2 H3 Nx else Nf H3)
    (hd : ∀ H ys, Same H1 H → H D = some (.lst ys) → F2 (fun i y => R i y H) ((List.range n).filter p) ys → Qd H) : LcGoal J g tt te vs σ H1 D Qd := by
  refine lc_it w (fun i H => ∃ ys, Same H1 H ∧ H D = some (.lst ys) ∧ F2 (fun j y => R j y (del H D)) ((List.range i).filter p) ys)
    ⟨[], same_new hD, upd_same, .nil⟩ (fun i H _ ⟨_, s, _⟩ => hG H s) (fun i x H H' hi ⟨ys, s, e, f⟩ y => ?_) (fun H ⟨ys, s, e, f⟩ => hd H ys s e (f2_imp (fun a b k => hR _ _ _ _ del_same k) f))
  have hl : ys.length ≤ i := by
    rw [← f2_len f]
    exact Nat.le_trans (List.length_filter_le _ _) (by rw [List.length_range]; exact Nat.le_refl _)
  have up : ∀ {H4 : Hp}, Same H H4 → Same (del H D) (del H4 D) := fun s4 => same_del (del_same.trans s4) del_at
  have un : ∀ {H4 : Hp} {o : HO}, del (upd H4 D o) D = del H4 D := fun {H4 o} => by
    funext b
    by_cases h : b = D
    · rw [h, del_at, del_at]
    · rw [del_ne h, del_ne h, upd_ne h]
  refine hs i x H H' _ _ hi s (by rw [e]; exact fun z => nomatch z) y (fun hp v H4 s4 r => ⟨ys, s4 _ _ e, ?_, ys ++ [v], same_at (s.trans s4) hD, upd_same, ?_⟩) (fun hp H3 s3 => ⟨ys, s.trans s3, s3 _ _ e, ?_⟩)
  · exact Nat.lt_of_le_of_lt hl (Nat.lt_of_lt_of_le hi (line100 hn))
  · rw [List.range_succ, List.filter_append, un]
    have e1 : [i].filter p = [i] := by simp [hp]
    rw [e1]
    exact f2_snoc (f2_imp (fun a b k => hR _ _ _ _ (up s4) k) f) r
  · rw [List.range_succ, List.filter_append]
    have e1 : [i].filter p = [] := by simp [hp]
    rw [e1, List.append_nil]
    exact f2_imp (fun a b k => hR _ _ _ _ (up s3) k) f
/-- the items are values that stand in no heap, or stood before -/
theorem lcS (w : Walk J n G Y) (p : Nat → Bool) (f : Nat → V) (hn : n ≤ 100000) (hD : H1 D = none) (hG : ∀ H, Same H1 H → G H)
    (hs : ∀ i x H H' (Nx : VK) (Nf : Hp → Prop), i < n → Same H1 H → Y i H x H' → (p i = true → ∀ H4, Same H H4 → Nx (f i) H4) → (p i = false → ∀ H3, Same H H3 → Nf H3) →
      g x (wipe σ vs) H' fun σ2 H2 => wipe σ2 vs = wipe σ vs ∧ tt σ2 H2 fun b H3 => if b = true then te σ2 H3 Nx else Nf H3)
    (hd : ∀ H, Same H1 H → H D = some (.lst (((List.range n).filter p).map f)) → Qd H) : LcGoal J g tt te vs σ H1 D Qd :=
  lcR w p (fun i y _ => y = f i) (fun _ _ _ _ _ z => z) hn hD hG (fun i x H H' Nx Nf hi s _ y k1 k2 => hs i x H H' Nx Nf hi s y (fun hp H4 s4 => k1 hp _ H4 s4 rfl) k2) fun H ys s e f2 => hd H s (by rw [e, f2_map f2])
/-- without an if -/
theorem lcM (w : Walk J n G Y) (f : Nat → V) (hn : n ≤ 100000) (hD : H1 D = none) (hG : ∀ H, Same H1 H → G H)
    (hs : ∀ i x H H' (Nx : VK), i < n → Same H1 H → Y i H x H' → (∀ H4, Same H H4 → Nx (f i) H4) →
      g x (wipe σ vs) H' fun σ2 H2 => wipe σ2 vs = wipe σ vs ∧ te σ2 H2 Nx)
    (hd : ∀ H, Same H1 H → H D = some (.lst ((List.range n).map f)) → Qd H) : LcGoal J g tYes te vs σ H1 D Qd :=
  lcS w (fun _ => true) f hn hD hG (fun i x H H' Nx Nf hi s y k1 k2 => hs i x H H' Nx hi s y (k1 rfl)) fun H s e => hd H s (by rw [e, List.filter_eq_self.mpr fun _ _ => rfl])
end
end Nb
namespace Nb
open PySem
open L2 hiding del del_ne del_same
section
variable {J : It} {n : Nat} {G : Hp → Prop} {Y : Nat → Hp → V → Hp → Prop} {g : TG} {tt : TT} {tk tv : TE} {vs : List Nat} {σ : L2.St} {H1 : Hp} {D : Addr} {Qd : Hp → Prop}
/-- a dict comprehension without an if, whose keys are all different -/
theorem dcM (w : Walk J n G Y) (key : Nat → Key) (val : Nat → V) (diff : ∀ i j, i < j → j < n → key i ≠ key j) (hn : n ≤ 100000) (hD : H1 D = none) (hG : ∀ H, Same H1 H → G H)
    (hs : ∀ i x H H' (N : V → V → Hp → Prop), i < n → Same H1 H → Y i H x H' → (∀ H5, Same H H5 → N (kV (key i)) (val i) H5) → g x (wipe σ vs) H' fun σ2 H2 => wipe σ2 vs = wipe σ vs ∧ tk σ2 H2 fun y H4 => tv σ2 H4 fun z H5 => N y z H5)
    (hd : ∀ H, Same H1 H → H D = some (.dK ((List.range n).map fun i => (key i, val i))) → Qd H) :
    ∃ W : Nat → Nat → Hp → Prop, (∃ m, W 0 m (upd H1 D (.dK []))) ∧ ∀ i m H, W i m H →
      (J.stop i H ∧ Qd H) ∨ (J.go i H ∧ ∃ Nx : Hp → Prop, (∀ H', Nx H' → ∃ m', m' < m ∧ W (i + 1) m' H') ∧ ∀ x H', J.yld i H x H' → g x (wipe σ vs) H' fun σ2 H2 => wipe σ2 vs = wipe σ vs ∧ tYes σ2 H2 fun b H3 =>
        if b = true then tk σ2 H3 fun y H4 => tv σ2 H4 fun z H5 => ∃ kvs k, y = kV k ∧ H5 D = some (.dK kvs) ∧ kvs.length < sizeLine ∧ Nx (upd H5 D (.dK (putK kvs k z))) else Nx H3) := by
  have inv : ∀ i H, (Same H1 H ∧ H D = some (.dK ((List.range i).map fun i => (key i, val i)))) → Same H1 H := fun _ _ h => h.1
  refine ⟨fun i m H => m + i = n ∧ Same H1 H ∧ H D = some (.dK ((List.range i).map fun i => (key i, val i))), ⟨n, rfl, same_new hD, upd_same⟩, fun i m H ⟨em, s, e⟩ => ?_⟩
  by_cases hlt : i < n
  · refine .inr ⟨w.goes i H hlt (hG H s), fun H' => Same H1 H' ∧ H' D = some (.dK ((List.range (i + 1)).map fun i => (key i, val i))), fun H' p' => ⟨m - 1, by omega, by omega, p'⟩, fun x H' y => ?_⟩
    have z := hs i x H H' (fun y z H5 => ∃ kvs k, y = kV k ∧ H5 D = some (.dK kvs) ∧ kvs.length < sizeLine ∧ Same H1 (upd H5 D (.dK (putK kvs k z))) ∧ (upd H5 D (.dK (putK kvs k z))) D = some (.dK ((List.range (i + 1)).map fun i => (key i, val i)))) hlt s (w.yields i H x H' hlt (hG H s) y)
      (fun H5 s5 => ⟨_, key i, rfl, s5 _ _ e, ?_, same_at (s.trans s5) hD, ?_⟩)
    · exact z
    · rw [List.length_map, List.length_range]
      exact Nat.lt_of_lt_of_le hlt (line100 hn)
    · rw [upd_same]
      have v : valV ((List.range i).map fun i => (key i, val i)) (key i) = none := by
        unfold valV
        rw [Option.map_eq_none_iff, List.find?_eq_none]
        intro p hp
        obtain ⟨j, hj, rfl⟩ := List.mem_map.mp hp
        have := diff j i (List.mem_range.mp hj) hlt
        simpa using this
      rw [putK_new _ v, List.range_succ, List.map_append]
      rfl
  · have e2 : i = n := by omega
    subst e2
    exact .inl ⟨w.stops H (hG H s), hd H s e⟩
end
theorem range_getD {α : Type} (d : α) : ∀ ps : List α, (List.range ps.length).map (fun i => ps.getD i d) = ps := fun ps => by
  apply List.ext_getElem?
  intro i
  rw [List.getElem?_map]
  by_cases h : i < ps.length
  · rw [List.getElem?_range h]
    simp [h]
  · rw [List.getElem?_eq_none_iff.mpr (by rw [List.length_range]; omega), List.getElem?_eq_none_iff.mpr (by omega)]
    rfl
theorem filter_range {α : Type} (d : α) (q : α → Bool) (ps : List α) : ((List.range ps.length).filter fun i => q (ps.getD i d)).length = (ps.filter q).length := by
  conv => rhs; rw [← range_getD d ps]
  rw [List.filter_map, List.length_map]
  rfl
def tUp (t : TT) : TT := fun σ H Q => ∃ R : Bool → Hp → Prop, t σ H R ∧ ∀ b H, R b H → Q b H
theorem pt_up {X : Cx} {e : Expr} {t : TT} (h : PT X e t) : PT X e (tUp t) := ⟨fun pins s σ H _ I ⟨R, r, k⟩ => thn (h.run pins s σ H R I r) fun b s1 ⟨H1, I1, q⟩ => ⟨H1, I1, k b H1 q⟩⟩
theorem tUp_mono {t : TT} : ∀ σ H Q Q', (∀ b H1, Q b H1 → Q' b H1) → tUp t σ H Q → tUp t σ H Q' := fun _ _ _ _ k ⟨R, r, z⟩ => ⟨R, r, fun b H q => k b H (z b H q)⟩
end Nb

set_option Elab.async false
set_option linter.all false
set_option maxRecDepth 100000
/-! The places of names in rows. -/
namespace Nb
open PySem
theorem grow_mem (l : List Str) (x y : Str) : y ∈ grow l x ↔ y ∈ l ∨ y = x := by
  unfold grow
  split
  · rename_i h
    obtain ⟨z, hz, e⟩ := List.any_eq_true.mp h
    have : z = x := eq_of_beq e
    subst this
    constructor
    · exact .inl
    · rintro (k | rfl)
      · exact k
      · exact hz
  · simp
theorem foldl_grow_mem (y : Str) : ∀ (xs acc : List Str), y ∈ xs.foldl grow acc ↔ y ∈ acc ∨ y ∈ xs
  | [], acc => by simp
  | x :: xs, acc => by
    rw [List.foldl_cons, foldl_grow_mem y xs, grow_mem, List.mem_cons]
    constructor
    · rintro ((h | h) | h)
      · exact .inl h
      · exact .inr (.inl h)
      · exact .inr (.inr h)
    · rintro (h | h | h)
      · exact .inl (.inl h)
      · exact .inl (.inr h)
      · exact .inr h
theorem mem_seen {y : Str} {xs : List Str} : y ∈ seen xs ↔ y ∈ xs := by
  unfold seen
  rw [foldl_grow_mem]
  simp
theorem grow_nodup {l : List Str} (x : Str) (h : l.Nodup) : (grow l x).Nodup := by
  unfold grow
  split
  · exact h
  · rename_i k
    refine List.nodup_append.mpr ⟨h, by simp, fun a ha b hb e => ?_⟩
    have : b = x := by simpa using hb
    subst this
    subst e
    exact k (List.any_eq_true.mpr ⟨a, ha, by simp⟩)
theorem nodup_foldl : ∀ (xs acc : List Str), acc.Nodup → (xs.foldl grow acc).Nodup
  | [], _, h => h
  | x :: xs, acc, h => nodup_foldl xs _ (grow_nodup x h)
theorem nodup_seen (xs : List Str) : (seen xs).Nodup := nodup_foldl xs [] List.nodup_nil
namespace Mg
/-- each name with its row and its place there, row by row -/
def row3 (i : Nat) (r : List Str) : List (Str × Nat × Nat) := r.zipIdx.map fun p => (p.1, i, p.2)
def trips : Nat → List (List Str) → List (Str × Nat × Nat)
  | _, [] => []
  | i, r :: rs => row3 i r ++ trips (i + 1) rs
def pl (ts : List (Str × Nat × Nat)) (x : Str) : List (Nat × Nat) := (ts.filter fun t => t.1 == x).map (·.2)
def plc : Nat → List (List Str) → Str → List (Nat × Nat)
  | _, [], _ => []
  | k, r :: rs, x => (if x ∈ r then [(k, r.idxOf x)] else []) ++ plc (k + 1) rs x
theorem trips_take : ∀ (rows : List (List Str)) (k i : Nat) (r : List Str), rows[i]? = some r → trips k (rows.take (i + 1)) = trips k (rows.take i) ++ row3 (k + i) r
  | r0 :: rs, k, 0, r, e => by
    cases e
    simp [trips]
  | r0 :: rs, k, i + 1, r, e => by
    have ih := trips_take rs (k + 1) i r e
    rw [List.take_succ_cons, List.take_succ_cons]
    simp only [trips]
    rw [ih, List.append_assoc, show k + 1 + i = k + (i + 1) by omega]
  | [], _, _, _, e => by simp at e
theorem pl_app (a b : List (Str × Nat × Nat)) (x : Str) : pl (a ++ b) x = pl a x ++ pl b x := by
  unfold pl
  rw [List.filter_append, List.map_append]
theorem pl_row (k : Nat) (x : Str) : ∀ (r : List Str) (j : Nat), r.Nodup → pl ((r.zipIdx j).map fun p => (p.1, k, p.2)) x = if x ∈ r then [(k, j + r.idxOf x)] else []
  | [], j, _ => rfl
  | y :: r, j, nd => by
    have nd2 := List.nodup_cons.mp nd
    have ih := pl_row k x r (j + 1) nd2.2
    have e : pl ((((y :: r).zipIdx j)).map fun p => (p.1, k, p.2)) x = pl [(y, k, j)] x ++ pl ((r.zipIdx (j + 1)).map fun p => (p.1, k, p.2)) x := by
      rw [← pl_app]
      rfl
    rw [e, ih]
    by_cases h : y = x
    · subst h
      rw [if_neg nd2.1, if_pos (List.mem_cons_self ..)]
      simp [pl, List.idxOf_cons_self]
    · have h2 : (y == x) = false := by simpa using h
      have h3 : pl [(y, k, j)] x = [] := by simp [pl, h]
      rw [h3, List.nil_append]
      by_cases m : x ∈ r
      · rw [if_pos m, if_pos (List.mem_cons_of_mem _ m), List.idxOf_cons, h2]
        simp only [cond_false]
        rw [show j + 1 + r.idxOf x = j + (r.idxOf x + 1) by omega]
      · rw [if_neg m, if_neg (by simp [m, Ne.symm h])]
theorem pl_trips (x : Str) : ∀ (rows : List (List Str)) (k : Nat), (∀ r ∈ rows, r.Nodup) → pl (trips k rows) x = plc k rows x
  | [], _, _ => rfl
  | r :: rs, k, h => by
    simp only [trips, plc]
    rw [pl_app, pl_trips x rs (k + 1) fun r hr => h r (List.mem_cons_of_mem _ hr)]
    have := pl_row k x r 0 (h r (List.mem_cons_self ..))
    rw [Nat.zero_add] at this
    unfold row3
    rw [this]
theorem zip_fst : ∀ (r : List Str) (j : Nat), (r.zipIdx j).map (fun p => p.1) = r
  | [], _ => rfl
  | y :: r, j => congrArg (y :: ·) (zip_fst r (j + 1))
theorem names_trips : ∀ (rows : List (List Str)) (k : Nat), (trips k rows).map (·.1) = rows.flatten
  | [], _ => rfl
  | r :: rs, k => by
    simp only [trips, List.map_append, List.flatten_cons]
    rw [names_trips rs (k + 1)]
    have : (row3 k r).map (·.1) = r := by
      unfold row3
      rw [List.map_map]
      show (r.zipIdx).map (fun p => p.1) = r
      exact zip_fst r 0
    rw [this]
theorem mem_plc {x : Str} : ∀ (rows : List (List Str)) (k i a : Nat), (i, a) ∈ plc k rows x ↔ ∃ r, k ≤ i ∧ rows[i - k]? = some r ∧ x ∈ r ∧ a = r.idxOf x
  | [], k, i, a => by simp [plc]
  | r :: rs, k, i, a => by
    simp only [plc, List.mem_append]
    rw [mem_plc rs (k + 1) i a]
    constructor
    · rintro (h | ⟨r', l, e, m, z⟩)
      · split at h
        · rename_i m
          obtain ⟨rfl, rfl⟩ := Prod.mk.inj (by simpa using h)
          exact ⟨r, Nat.le_refl _, by simp, m, rfl⟩
        · cases h
      · refine ⟨r', by omega, ?_, m, z⟩
        rw [show i - k = (i - (k + 1)) + 1 by omega]
        exact e
    · rintro ⟨r', l, e, m, z⟩
      by_cases q : i = k
      · subst q
        rw [Nat.sub_self] at e
        cases e
        subst z
        left
        rw [if_pos m]
        simp
      · right
        refine ⟨r', by omega, ?_, m, z⟩
        rw [show i - k = (i - (k + 1)) + 1 by omega] at e
        exact e
theorem plc_head {x : Str} : ∀ (rows : List (List Str)) (k : Nat), x ∈ rows.flatten → ∃ a tl, plc k rows x = (k + first rows x, a) :: tl
  | [], _, h => by simp at h
  | r :: rs, k, h => by
    by_cases m : x ∈ r
    · refine ⟨r.idxOf x, plc (k + 1) rs x, ?_⟩
      simp only [plc]
      rw [if_pos m]
      have : first (r :: rs) x = 0 := by simp [first, List.findIdx_cons, m]
      rw [this]
      rfl
    · have hm : x ∈ rs.flatten := by
        rw [List.flatten_cons, List.mem_append] at h
        exact h.resolve_left m
      obtain ⟨a, tl, e⟩ := plc_head rs (k + 1) hm
      refine ⟨a, tl, ?_⟩
      simp only [plc]
      rw [if_neg m, List.nil_append, e]
      have : first (r :: rs) x = first rs x + 1 := by simp [first, List.findIdx_cons, m]
      rw [this, show k + 1 + first rs x = k + (first rs x + 1) by omega]
theorem plc_rise {x : Str} : ∀ (rows : List (List Str)) (k : Nat), (plc k rows x).Pairwise fun p q => p.1 < q.1
  | [], _ => .nil
  | r :: rs, k => by
    simp only [plc]
    refine List.pairwise_append.mpr ⟨?_, plc_rise rs (k + 1), fun p hp q hq => ?_⟩
    · split <;> simp
    · obtain ⟨i, a⟩ := q
      obtain ⟨_, l, _⟩ := (mem_plc rs (k + 1) i a).mp hq
      split at hp
      · have : p = (k, r.idxOf x) := by simpa using hp
        rw [this]
        show k < i
        omega
      · cases hp
theorem plc_behind {x : Str} : ∀ (rows : List (List Str)) (k : Nat), ((plc k rows x).filter fun p => decide (0 < p.2)).length = behN rows (List.replicate rows.length 0) x
  | [], _ => rfl
  | r :: rs, k => by
    simp only [plc, List.filter_append, List.length_append, List.length_cons, List.replicate_succ, behN]
    rw [plc_behind rs (k + 1)]
    congr 1
    by_cases m : x ∈ r
    · rw [if_pos m]
      by_cases z : 0 < r.idxOf x
      · simp [m, z]
      · simp [m, z]
    · rw [if_neg m]
      simp [m]
theorem plc_few : ∀ (rows : List (List Str)) (k : Nat) (x : Str), (plc k rows x).length ≤ rows.length
  | [], _, _ => Nat.le_refl _
  | r :: rs, k, x => by
    simp only [plc, List.length_append, List.length_cons]
    have := plc_few rs (k + 1) x
    split
    · simp
      omega
    · simp
      omega
/-- at the beginning every row's first name is its head -/
theorem inv_begin {rows : List (List Str)} {rdy : Nat} (nd : ∀ r ∈ rows, r.Nodup)
    (rd : ∀ j, rdy.testBit j = true ↔ ∃ x, x ∈ rows.flatten ∧ behN rows (List.replicate rows.length 0) x = 0 ∧ first rows x = j) : Inv rows [] (List.replicate rows.length 0) rdy none fun _ => False := by
  have z : ∀ (i : Nat) (h : Nat), (List.replicate rows.length 0)[i]? = some h → h = 0 := fun i h e => by
    rw [List.getElem?_replicate] at e
    split at e
    · cases e; rfl
    · cases e
  refine ⟨List.length_replicate, nd, fun i r h e1 e2 => ?_, fun i r h e1 e2 j y l => ?_, fun i r h e1 e2 y ey g => (nomatch g), fun j => ?_⟩
  · rw [z i h e2]
    exact Nat.zero_le _
  · rw [z i h e2] at l
    omega
  · rw [rd j]
    constructor
    · rintro ⟨x, a, b, c⟩
      exact ⟨x, by simp, a, b, c⟩
    · rintro ⟨x, _, a, b, c⟩
      exact ⟨x, a, b, c⟩
end Mg
end Nb

set_option Elab.async false
set_option linter.all false
set_option maxRecDepth 100000
set_option maxHeartbeats 4000000
/-! Classes, their methods, and defs with a star, each with all that a caller must know. -/
namespace Nb
open PySem PySem.Spec PyProof.Rows
open L2 hiding del del_ne del_same
/-- a class of the text: the names of its instances' attributes are no names of the class -/
structure Kl (K : PySem.W.Frag) (mg : Str → Option Value) (x : Str) (C : Addr) (fs : List Str) : Prop where
  cl : Cls K C
  g : mg x = some (.ref C)
  no : ∀ f ∈ fs, NoAttr K C f
structure Mn (P : Program) (w : World) (K : PySem.W.Frag) (mg : Str → Option Value) (base : Heap) (CX : CXT) (k : Nat) (C : Addr) (m : Str) (ps : List Str) (sp : Sp) : Prop where
  ex : ∃ (f : Addr) (fd : FuncData), Meth K C m f ∧ Binds K fd ps [] ∧ FnOk P w K mg base CX k f fd ps sp
/-- a class's own __init__ -/
structure Mi (P : Program) (w : World) (K : PySem.W.Frag) (mg : Str → Option Value) (base : Heap) (CX : CXT) (k : Nat) (C : Addr) (ps : List Str) (sp : Sp) : Prop where
  ex : ∃ (f : Addr) (fd : FuncData), Mk K C f ∧ Binds K fd ps [] ∧ FnOk P w K mg base CX k f fd ps sp
/-- a def with a star: its promise is of the positional arguments -/
structure Dr (P : Program) (w : World) (K : PySem.W.Frag) (mg : Str → Option Value) (base : Heap) (CX : CXT) (k : Nat) (x : Str) (sp : Sp) : Prop where
  ex : ∃ f : Addr, PySem.W.keepIn K (.ref f) = true ∧ mg x = some (.ref f) ∧ FnR P w K mg base CX k f sp
section
variable {X : Cx} {CX : CXT} {k : Nat} {ps : List Str} {sp : Sp} {E : XK} {W : L2.St → XK} {x m : Str} {p pos apos : Pos} {o e : Expr} {es : List Expr} {ta : TE} {t : TA} {C : Addr}
theorem pe_M {pl : Sem Bool} (D : Mn X.prog X.w X.K X.mg X.base CX k C m ps sp) (c : Cls X.K C) (he : PE X o ta) (hr : Room k X.A) (hx : Passes CX X E) (ha : PA X (e :: es) t)
    (hst : starEach (e :: es) X.env = (false, eval e X.env) :: starEach es X.env := by rfl) (hpl : (backTo pos (starEach es X.env)).any (·.1) = false := by rfl)
    (ht : eval (.Call (.Attribute o m apos) (e :: es) [] pos) X.env = (do
      let ov ← eval o X.env
      standAt apos.atName
      let (f, first) ← holding [ov] (getMethod ov m pl)
      callWith pos f first (backTo pos (starEach (e :: es) X.env)) (backToKw pos (keywordEach [] X.env))) := by rfl) : PE X (.Call (.Attribute o m apos) (e :: es) [] pos) (tMeth C m sp [] E ta t) :=
  let ⟨_, _, M, b, F⟩ := D.ex
  pe_meth he c M F hr b .nil hx ha hst hpl ht
theorem pe_M0 {pl : Sem Bool} (D : Mn X.prog X.w X.K X.mg X.base CX k C m ps sp) (c : Cls X.K C) (he : PE X o ta) (hr : Room k X.A) (hx : Passes CX X E)
    (ht : eval (.Call (.Attribute o m apos) [] [] pos) X.env = (do
      let ov ← eval o X.env
      standAt apos.atName
      let (f, first) ← holding [ov] (getMethod ov m pl)
      callWith pos f first (backTo pos (starEach [] X.env)) (backToKw pos (keywordEach [] X.env))) := by rfl) : PE X (.Call (.Attribute o m apos) [] [] pos) (tMeth C m sp [] E ta tNil) :=
  let ⟨_, _, M, b, F⟩ := D.ex
  pe_meth0 he c M F hr b .nil hx ht
theorem pe_Mi (D : Mi X.prog X.w X.K X.mg X.base CX k C ps sp) (hr : Room (k + 1) X.A) (hg : Gl X x) (hm : X.mg x = some (.ref C)) (hx : Passes CX X E) (ha : PA X (e :: es) t)
    (hdb : (x == ("__debug__" : Str)) = false := by decide) (he : starEach (e :: es) X.env = (false, eval e X.env) :: starEach es X.env := by rfl) (hpl : (backTo pos (starEach es X.env)).any (·.1) = false := by rfl) : PE X (.Call (.Name x p) (e :: es) [] pos) (tMake C sp [] E t) :=
  let ⟨_, _, M, b, F⟩ := D.ex
  pe_make M F hr hg hm b .nil hx ha hdb he hpl
theorem pe_Mi0 (D : Mi X.prog X.w X.K X.mg X.base CX k C ps sp) (hr : Room (k + 1) X.A) (hg : Gl X x) (hm : X.mg x = some (.ref C)) (hx : Passes CX X E) (hdb : (x == ("__debug__" : Str)) = false := by decide) : PE X (.Call (.Name x p) [] [] pos) (tMake C sp [] E tNil) :=
  let ⟨_, _, M, b, F⟩ := D.ex
  pe_make0 M F hr hg hm b .nil hx hdb
def tR (sp : Sp) (E : XK) (t : TA) : TE := fun σ H Q => t σ H fun vs H1 => sp vs H1 Q E
theorem pe_R (D : Dr X.prog X.w X.K X.mg X.base CX k x sp) (hr : Room k X.A) (hg : Gl X x) (hx : Passes CX X E) (ha : PA X (e :: es) t)
    (hdb : (x == ("__debug__" : Str)) = false := by decide) (he : starEach (e :: es) X.env = (false, eval e X.env) :: starEach es X.env := by rfl) (hpl : (backTo pos (starEach es X.env)).any (·.1) = false := by rfl) : PE X (.Call (.Name x p) (e :: es) [] pos) (tR sp E t) := by
  obtain ⟨f, kp, g, F⟩ := D.ex
  exact ⟨fun pins s σ H Q I h => wpAny_Call_Name_kw (ld_glob I hg g (PySem.W.callWith_K (h₀ := X.base) I.ok.mod.kin kp (thn (ha.run pos pins s σ H _ I h) fun us s1 ⟨vs, H1, I1, r, q⟩ => ⟨I1.kIn, wpAny_call (run_fnR F hr hx I1 r q)⟩) he hpl) hdb)⟩
theorem pe_R0 (D : Dr X.prog X.w X.K X.mg X.base CX k x sp) (hr : Room k X.A) (hg : Gl X x) (hx : Passes CX X E) (hdb : (x == ("__debug__" : Str)) = false := by decide) : PE X (.Call (.Name x p) [] [] pos) (tR sp E tNil) := by
  obtain ⟨f, kp, g, F⟩ := D.ex
  exact ⟨fun pins s σ H Q I h => wpAny_Call_Name_kw (ld_glob I hg g (PySem.W.callWith_K0 I.kIn kp (wpAny_call (run_fnR F hr hx I .nil h))) hdb)⟩
theorem pe_Rs {sq : Pos} (D : Dr X.prog X.w X.K X.mg X.base CX k x sp) (hr : Room k X.A) (hg : Gl X x) (hx : Passes CX X E) (he : PE X e ta) (hdb : (x == ("__debug__" : Str)) = false := by decide) (hst : starEach [.Starred e sq] X.env = [(true, eval e X.env)] := by rfl) :
    PE X (.Call (.Name x p) [.Starred e sq] [] pos) (fun σ H Q => ta σ H fun y H1 => ∃ a xs, y = V.ref a ∧ (SqT X.K H1 a xs ∨ SqL X.K H1 a xs) ∧ sp xs H1 Q E) :=
  let ⟨_, kp, g, F⟩ := D.ex
  StX.pe_callS1 F hr kp hg g hx he hdb hst
/-- a def that is never called needs no promise -/
theorem fn_never {P : Program} {w : World} {K : PySem.W.Frag} {mg : Str → Option Value} {base : Heap} {f : Addr} {fd : FuncData} : FnOk P w K mg base CX k f fd ps fun _ _ _ _ => False := ⟨fun _ _ _ _ h => h.elim, fun _ _ _ _ _ _ _ _ _ _ _ _ _ h => h.elim⟩
end
/-! ### an instance whose attributes are told in the order of their first store -/
theorem ins_put {H : Hp} {a C dx : Addr} {fs : List (Str × V)} : upd H a (.ins C dx fs) a = some (.ins C dx fs) := upd_same
end Nb
namespace Nb
open PySem
open L2 hiding del del_ne del_same
/-- e.f within a comprehension: the written part is named -/
theorem pe_fldK {X : Cx} {K : PySem.W.Frag} {e : Expr} {f : Str} {pos : Pos} {ta : TE} (hK : X.K = K) (he : PE X e ta) (hb : attributeBase e f X.env (eval e X.env) = eval e X.env) : PE X (.Attribute e f pos) (tFld K ta f) := by
  subst hK
  exact pe_fld he hb
/-- len(x) within a comprehension: the written part is named -/
theorem call_len_seqK {X : Cx} {K : PySem.W.Frag} (hK : X.K = K) : CallR X (.builtin "len") (fun xs H Q => ∃ p ys, xs = [.ref p] ∧ (SqL K H p ys ∨ SqT K H p ys) ∧ Q (.int ys.length) H) := by
  subst hK
  exact call_len_seq
def spStar (sp : Sp) : Sp := fun vs H Q E => vs.length ≤ 100000 ∧ ∀ p, H p = none → sp [.ref p] (upd H p (.tup vs)) Q E
/-- a def with a star and nothing else, by its body -/
theorem okStar {P : Program} {w : World} {K : PySem.W.Frag} {mg : Str → Option Value} {base : Heap} {x qual pv : Str} {st : Stmt} {f : Addr} {fd : FuncData} {N : List Str} {k : Nat} {sp : Sp} (F : Fun K x qual st f fd) (S : FnScope N [pv] (defScope st))
    (hb0 : ∀ (kV doc pm : Value) (an : Option Addr) (cdv ct : Value), bindArgs (PySem.W.fnOf x qual (defArgs st) (defBody st) (defScope st) .none kV doc pm an cdv ct) ⟨[], []⟩ = (newTuple [] >>= fun t => pure [(pv, t)]))
    (hb1 : ∀ (kV doc pm : Value) (an : Option Addr) (cdv ct : Value) (r : Value) (rs : List Value), bindArgs (PySem.W.fnOf x qual (defArgs st) (defBody st) (defScope st) .none kV doc pm an cdv ct) ⟨r :: rs, []⟩ = (newTuple (r :: rs) >>= fun t => pure [(pv, t)]))
    (hbody : ∀ (cdv : Value) (A : Around) (outer : List Env) (s : Shared) (H : Hp) (vs : List V) (Q : VK) (E : XK), Room k (A.deeper (PyProof.Rows.envOfC qual (defScope st) s.heap.objs.size f cdv)) → sp vs H Q E →
      ∃ t, PSs (cxOf CX0 P w K mg base N qual (defScope st) f cdv A outer s H E).nox (defBody st) t ∧ t { nx := fun _ H' => Q .non H', rt := Q } (start N vs) H) : FnR P w K mg base CX0 (k + 1) f (spStar sp) := by
  obtain ⟨oc, od, kV, doc, pm, an, cdv, ct, osl, rfl, lk, hcd⟩ := F.ex
  refine (StX.fn_star (ps := []) (sp := sp) lk hcd S StX.cxUp_none (fun us rest hl => ?_) (fun A outer s H vs Q E hr h => ?_)).imp fun vs H Q E h => ⟨[], vs, rfl, rfl, line100 h.1, fun p np => h.2 p np⟩
  · cases us with
    | cons a as => cases hl
    | nil =>
      cases rest with
      | nil => exact hb0 kV doc pm an cdv ct
      | cons r rs => exact hb1 kV doc pm an cdv ct r rs
  · obtain ⟨t, h, q⟩ := hbody cdv A outer s H vs Q E hr h
    exact ⟨t, h.nox, q⟩
end Nb

set_option Elab.async false
set_option linter.all false
set_option maxRecDepth 100000
set_option maxHeartbeats 4000000
/-! The lowest bit of a number, and its rules. -/
namespace Nb
open PySem PySem.Spec PyProof.Rows
open L2 hiding del del_ne del_same
theorem low_form : ∀ r : Nat, r ≠ 0 → ∃ k a, r = 2 ^ k * (2 * a + 1) := by
  intro r
  induction r using Nat.strongRecOn with
  | ind r ih =>
    intro h
    by_cases p : r % 2 = 1
    · exact ⟨0, r / 2, by simp; omega⟩
    · obtain ⟨k, a, e⟩ := ih (r / 2) (by omega) (by omega)
      refine ⟨k + 1, a, ?_⟩
      rw [Nat.pow_succ, Nat.mul_comm (2 ^ k) 2, Nat.mul_assoc, ← e]
      omega
theorem low_bits (k a j : Nat) : (2 ^ k * (2 * a + 1)).testBit j = (decide (k ≤ j) && (2 * a + 1).testBit (j - k)) := by
  rw [Nat.mul_comm, Nat.testBit_mul_two_pow]
theorem low_clear (k a j : Nat) : ((2 ^ k * (2 * a + 1)) &&& (2 ^ k * (2 * a + 1) - 1)).testBit j = (decide (j ≠ k) && (2 ^ k * (2 * a + 1)).testBit j) := by
  have p := Nat.two_pow_pos k
  have e : 2 ^ k * (2 * a + 1) - 1 = 2 ^ k * (2 * a) + (2 ^ k - 1) := by
    rw [Nat.mul_add, Nat.mul_one]
    omega
  rw [Nat.testBit_and, e, Nat.testBit_two_pow_mul_add _ (by omega), low_bits]
  by_cases h : j < k
  · rw [if_pos h]
    have : ¬ k ≤ j := by omega
    simp [this]
  · rw [if_neg h]
    have h2 : k ≤ j := by omega
    by_cases h3 : j = k
    · subst h3
      simp
    · obtain ⟨m, e2⟩ : ∃ m, j - k = m + 1 := ⟨j - k - 1, by omega⟩
      rw [e2, Nat.testBit_succ, Nat.testBit_succ, show (2 * a + 1) / 2 = a by omega, show 2 * a / 2 = a by omega]
      simp [h2, h3]
/-- the lowest bit of r: where it is, and r without it -/
theorem low_of (r : Nat) (h : r ≠ 0) : ∃ k r' : Nat, r.testBit k = true ∧ (∀ j, j < k → r.testBit j = false) ∧ Builtin.bitAnd (r : Int) (-(r : Int)) = 2 ^ k ∧ Builtin.bitAnd (r : Int) ((r : Int) - 1) = (r' : Int) ∧ ∀ j, r'.testBit j = (decide (j ≠ k) && r.testBit j) := by
  obtain ⟨k, a, e⟩ := low_form r h
  have pos : 0 < 2 ^ k * (2 * a + 1) := Nat.mul_pos (Nat.two_pow_pos k) (by omega)
  refine ⟨k, r &&& (r - 1), ?_, fun j hj => ?_, ?_, ?_, fun j => ?_⟩
  · rw [e, low_bits]
    simp
  · rw [e, low_bits]
    have : ¬ k ≤ j := by omega
    simp [this]
  · have c : (r : Int) = 2 ^ k * (2 * (a : Int) + 1) := by
      rw [e, ← PySem.W.kbt_cast]
      push_cast
      rfl
    rw [c]
    exact PySem.W.kbt_low k a
  · have c : (r : Int) - 1 = ((r - 1 : Nat) : Int) := by omega
    rw [c]
    exact PySem.W.os_band r (r - 1)
  · rw [e]
    exact low_clear k a j
theorem bits_pow (k : Nat) : Builtin.Int.intBits ((2 : Int) ^ k) = k + 1 := by
  rw [← PySem.W.kbt_cast]
  unfold Builtin.Int.intBits
  have p := Nat.two_pow_pos k
  have nz : ¬ (((2 ^ k : Nat) : Int) == 0) = true := by
    rw [beq_iff_eq]
    exact_mod_cast Nat.ne_of_gt p
  rw [if_neg nz, Int.natAbs_natCast, Nat.log2_two_pow]
theorem or_nat (a b : Nat) : Builtin.bitOr (a : Int) (b : Int) = ((a ||| b : Nat) : Int) := by
  rw [bitOr_nn (Int.natCast_nonneg a) (Int.natCast_nonneg b), Int.toNat_natCast, Int.toNat_natCast]
section
variable {X : Cx}
theorem in_andI : InOp X .BitAnd (fun x y H Q => ∃ i j, x = .int i ∧ y = .int j ∧ Q (.int (Builtin.bitAnd i j)) H) := by
  rintro pins s σ H x y u v Q I rx ry ⟨i, j, rfl, rfl, q⟩
  obtain ⟨t, rfl⟩ := (show ∃ t, u = Value.int i t from rx)
  obtain ⟨t', rfl⟩ := (show ∃ t', v = Value.int j t' from ry)
  exact PyProof.Rows.iand_int ⟨.int _, H, I.tok _, ⟨_, rfl⟩, q⟩
theorem in_orI : InOp X .BitOr (fun x y H Q => ∃ i j, x = .int i ∧ y = .int j ∧ Q (.int (Builtin.bitOr i j)) H) := by
  rintro pins s σ H x y u v Q I rx ry ⟨i, j, rfl, rfl, q⟩
  obtain ⟨t, rfl⟩ := (show ∃ t, u = Value.int i t from rx)
  obtain ⟨t', rfl⟩ := (show ∃ t', v = Value.int j t' from ry)
  exact PyProof.Rows.ior_int ⟨.int _, H, I.tok _, ⟨_, rfl⟩, q⟩
end
end Nb

set_option Elab.async false
set_option linter.all false
set_option maxRecDepth 100000
set_option maxHeartbeats 4000000
/-! A merge that is under way, in the heap. -/
namespace Nb
open PySem
open L2 hiding del del_ne del_same
abbrev Rows := List (List Str)
def names (rows : Rows) : List Str := seen rows.flatten
theorem mem_names {rows : Rows} {x : Str} : x ∈ names rows ↔ x ∈ rows.flatten := mem_seen
/-- rows that are not too long -/
structure Fit (rows : Rows) : Prop where
  nd : ∀ r ∈ rows, r.Nodup
  few : rows.length ≤ 1000
  all : rows.flatten.length ≤ 100000
theorem Fit.row {rows : Rows} (h : Fit rows) {r : List Str} (hr : r ∈ rows) : r.length ≤ 100000 := by
  refine Nat.le_trans ?_ h.all
  obtain ⟨a, b, e⟩ := List.append_of_mem hr
  rw [e, List.flatten_append, List.flatten_cons, List.length_append, List.length_append]
  omega
theorem seen_len (xs : List Str) : (seen xs).length ≤ xs.length := seen_le xs
/-- the places of the names of a list of triples: D the dict, L x the list of x -/
structure Pl (H : Hp) (D : Addr) (L : Str → Addr) (ts : List (Str × Nat × Nat)) : Prop where
  d : Rd H D (.dK ((seen (ts.map (·.1))).map fun x => ((Sum.inr x : Key), V.ref (L x))))
  l : ∀ x ∈ ts.map (·.1), ∃ as : List Addr, H (L x) = some (.lst (as.map V.ref)) ∧ F2 (fun a (p : Nat × Nat) => H a = some (.tup [.int p.1, .int p.2])) as (Mg.pl ts x)
theorem f2_same {H H' : Hp} (s : Same H H') {as : List Addr} {ps : List (Nat × Nat)} (h : F2 (fun a (p : Nat × Nat) => H a = some (.tup [.int p.1, .int p.2])) as ps) : F2 (fun a (p : Nat × Nat) => H' a = some (.tup [.int p.1, .int p.2])) as ps := f2_imp (fun _ _ k => s _ _ k) h
theorem pl_same {H H' : Hp} {D : Addr} {L : Str → Addr} {ts : List (Str × Nat × Nat)} (s : Same H H') (h : Pl H D L ts) : Pl H' D L ts := ⟨rd_same s h.d, fun x hx => let ⟨as, e, f⟩ := h.l x hx; ⟨as, s _ _ e, f2_same s f⟩⟩
theorem val_map {L : Str → Addr} {x : Str} : ∀ {xs : List Str}, valV (xs.map fun x => ((Sum.inr x : Key), V.ref (L x))) (Sum.inr x) = if x ∈ xs then some (.ref (L x)) else none
  | [] => rfl
  | y :: ys => by
    have ih := val_map (L := L) (x := x) (xs := ys)
    by_cases h : y = x
    · subst h
      rw [if_pos (List.mem_cons_self ..)]
      simp [valV]
    · have e : valV (((Sum.inr y : Key), V.ref (L y)) :: ys.map fun x => ((Sum.inr x : Key), V.ref (L x))) (Sum.inr x) = valV (ys.map fun x => ((Sum.inr x : Key), V.ref (L x))) (Sum.inr x) := by
        simp [valV, h]
      rw [List.map_cons, e, ih]
      by_cases m : x ∈ ys
      · rw [if_pos m, if_pos (List.mem_cons_of_mem _ m)]
      · rw [if_neg m, if_neg (by simp [m, Ne.symm h])]
/-- what stands still of a merge: the rows, the places -/
structure MgF (F : Hp) (T P : Addr) (rows : Rows) (L : Str → Addr) : Prop where
  fit : Fit rows
  at_ : RowsAt F T rows
  pl : Pl F P L (Mg.trips 0 rows)
theorem mgF_same {F F' : Hp} {T P : Addr} {rows : Rows} {L : Str → Addr} (s : Same F F') (h : MgF F T P rows L) : MgF F' T P rows L := ⟨h.fit, rows_same s h.at_, pl_same s h.pl⟩
abbrev flds (T P g hd b : Addr) (rdy : Nat) : List (Str × V) := [("rows", .ref T), ("places", .ref P), ("gone", .ref g), ("heads", .ref hd), ("behind", .ref b), ("ready", .int rdy)]
/-- what is changed of a merge -/
structure MgS (C m T P g hd b : Addr) (rows : Rows) (F H : Hp) (gone : List Str) (hs : List Nat) (rdy : Nat) : Prop where
  same : Same F H
  off : F m = none ∧ F g = none ∧ F hd = none ∧ F b = none
  gb : g ≠ b
  obj : ∃ dx, H m = some (.ins C dx (flds T P g hd b rdy))
  hg : H g = some (.dK (gone.map fun x => ((Sum.inr x : Key), V.bl true)))
  hh : H hd = some (.lst (hs.map fun n => V.int (n : Nat)))
  hb : ∃ bs : List (Key × V), H b = some (.dK bs) ∧ bs.length ≤ 100000 ∧ ∀ x ∈ names rows, ∃ n : Int, valV bs (Sum.inr x) = some (.int n) ∧ (x ∉ gone → n = (Mg.behN rows hs x : Nat))
def spPrepare (C : Addr) : Sp := fun vs H Q _ => ∃ (m T P g hd b : Addr) (rows : Rows) (F : Hp) (L : Str → Addr) (gone : List Str) (hs : List Nat) (rdy : Nat) (x : Str), vs = [.ref m, .str x] ∧ MgF F T P rows L ∧ MgS C m T P g hd b rows F H gone hs rdy ∧ x ∈ names rows ∧ x ∉ gone ∧
  ∀ H', MgS C m T P g hd b rows F H' gone hs (Mg.bits rows hs rdy (some x)) → Q .non H'
def spAdvance (C : Addr) : Sp := fun vs H Q _ => ∃ (m T P g hd b : Addr) (rows : Rows) (F : Hp) (L : Str → Addr) (gone : List Str) (hs : List Nat) (rdy : Nat) (x : Str) (i : Nat) (r : List Str) (h : Nat) (pd : Nat → Prop), vs = [.ref m, .int i] ∧ MgF F T P rows L ∧ MgS C m T P g hd b rows F H gone hs rdy ∧
  Mg.Inv rows gone hs rdy (some x) pd ∧ rows[i]? = some r ∧ hs[i]? = some h ∧ r[h]? = some x ∧ x ∈ gone ∧
  ∀ H' hs' rdy', MgS C m T P g hd b rows F H' gone hs' rdy' → Mg.Inv rows gone hs' rdy' (some x) (fun k => pd k ∧ k ≠ i) → (∀ k, k ≠ i → hs'[k]? = hs[k]?) → Q .non H'
def spDrop (C : Addr) : Sp := fun vs H Q _ => ∃ (m T P g hd b : Addr) (rows : Rows) (F : Hp) (L : Str → Addr) (gone : List Str) (hs : List Nat) (rdy : Nat) (x : Str), vs = [.ref m, .str x] ∧ MgF F T P rows L ∧ MgS C m T P g hd b rows F H gone hs rdy ∧ x ∈ names rows ∧ x ∉ gone ∧ gone.length ≤ 100000 ∧
  Mg.Inv rows (gone ++ [x]) hs rdy (some x) (fun i => ∃ r h, rows[i]? = some r ∧ hs[i]? = some h ∧ r[h]? = some x) ∧
  ∀ H' hs' rdy', MgS C m T P g hd b rows F H' (gone ++ [x]) hs' rdy' → Mg.Inv rows (gone ++ [x]) hs' rdy' none (fun _ => False) → Q .non H'
end Nb
namespace Nb
open PySem
open L2 hiding del del_ne del_same
section
variable {C m T P g hd b : Addr} {rows : Rows} {F H : Hp} {gone : List Str} {hs : List Nat} {rdy : Nat}
theorem flds_put (n : Nat) : putF "ready" (.int n) (flds T P g hd b rdy) = flds T P g hd b n := by rfl
theorem MgS.nes (S : MgS C m T P g hd b rows F H gone hs rdy) : m ≠ g ∧ m ≠ hd ∧ m ≠ b ∧ g ≠ hd ∧ hd ≠ b := by
  obtain ⟨dx, e1⟩ := S.obj
  obtain ⟨bs, e4, _⟩ := S.hb
  exact ⟨ne_of e1 S.hg (by intro z; cases z), ne_of e1 S.hh (by intro z; cases z), ne_of e1 e4 (by intro z; cases z), ne_of S.hg S.hh (by intro z; cases z), ne_of S.hh e4 (by intro z; cases z)⟩
theorem MgS.ready (S : MgS C m T P g hd b rows F H gone hs rdy) {dx : Addr} (n : Nat) : MgS C m T P g hd b rows F (upd H m (.ins C dx (putF "ready" (.int n) (flds T P g hd b rdy)))) gone hs n := by
  obtain ⟨n1, n2, n3, _, _⟩ := S.nes
  obtain ⟨bs, e4, k⟩ := S.hb
  exact ⟨same_at S.same S.off.1, S.off, S.gb, ⟨dx, by rw [upd_same, flds_put]⟩, by rw [upd_ne (Ne.symm n1)]; exact S.hg, by rw [upd_ne (Ne.symm n2)]; exact S.hh, bs, by rw [upd_ne (Ne.symm n3)]; exact e4, k⟩
theorem ixN_at {n j : Nat} (h : j < n) : ixN n (j : Int) = some j := by
  unfold ixN
  rw [if_pos (Int.natCast_nonneg j), if_pos (by omega), Int.toNat_natCast]
theorem putK_old {kvs : List (Key × V)} {k : Key} {v w : V} (h : valV kvs k = some w) : (putK kvs k v).length = kvs.length := by
  unfold putK
  rw [if_pos (by rw [valV_any, h]; rfl), List.length_map]
theorem val_gone {x : Str} : ∀ {xs : List Str}, valV (xs.map fun x => ((Sum.inr x : Key), V.bl true)) (Sum.inr x) = if x ∈ xs then some (.bl true) else none
  | [] => rfl
  | y :: ys => by
    have ih := val_gone (x := x) (xs := ys)
    by_cases h : y = x
    · subst h
      rw [if_pos (List.mem_cons_self ..)]
      simp [valV]
    · have e : valV (((Sum.inr y : Key), V.bl true) :: ys.map fun x => ((Sum.inr x : Key), V.bl true)) (Sum.inr x) = valV (ys.map fun x => ((Sum.inr x : Key), V.bl true)) (Sum.inr x) := by
        simp [valV, h]
      rw [List.map_cons, e, ih]
      by_cases m : x ∈ ys
      · rw [if_pos m, if_pos (List.mem_cons_of_mem _ m)]
      · rw [if_neg m, if_neg (by simp [m, Ne.symm h])]
/-- the heads stored anew, where nobody's number changes -/
theorem MgS.heads (S : MgS C m T P g hd b rows F H gone hs rdy) (hs' : List Nat) (k : ∀ x, x ∉ gone → Mg.behN rows hs' x = Mg.behN rows hs x) : MgS C m T P g hd b rows F (upd H hd (.lst (hs'.map fun n => V.int (n : Nat)))) gone hs' rdy := by
  obtain ⟨_, n2, _, n4, n5⟩ := S.nes
  obtain ⟨dx, e1⟩ := S.obj
  obtain ⟨bs, e4, l4, k4⟩ := S.hb
  exact ⟨same_at S.same S.off.2.2.1, S.off, S.gb, ⟨dx, by rw [upd_ne n2]; exact e1⟩, by rw [upd_ne n4]; exact S.hg, upd_same, bs, by rw [upd_ne (Ne.symm n5)]; exact e4, l4, fun x hx =>
    let ⟨n, v, z⟩ := k4 x hx
    ⟨n, v, fun gx => by rw [k x gx]; exact z gx⟩⟩
/-- the heads stored anew, and the number of the one that became a head -/
theorem MgS.moved (S : MgS C m T P g hd b rows F H gone hs rdy) (hs' : List Nat) (y : Str) (bs : List (Key × V)) (n : Int) (e : H b = some (.dK bs)) (l : bs.length ≤ 100000) (v : valV bs (Sum.inr y) = some (.int n)) (my : y ∈ names rows) (gy : y ∉ gone)
    (kb : ∀ x ∈ names rows, ∃ n : Int, valV bs (Sum.inr x) = some (.int n) ∧ (x ∉ gone → n = (Mg.behN rows hs x : Nat)))
    (k : ∀ x, x ∉ gone → Mg.behN rows hs' x + (if x = y then 1 else 0) = Mg.behN rows hs x) : MgS C m T P g hd b rows F (upd (upd H hd (.lst (hs'.map fun n => V.int (n : Nat)))) b (.dK (putK bs (Sum.inr y) (.int (n - 1))))) gone hs' rdy := by
  obtain ⟨_, n2, n3, n4, n5⟩ := S.nes
  obtain ⟨dx, e1⟩ := S.obj
  refine ⟨same_at (same_at S.same S.off.2.2.1) S.off.2.2.2, S.off, S.gb, ⟨dx, by rw [upd_ne n3, upd_ne n2]; exact e1⟩, by rw [upd_ne S.gb, upd_ne n4]; exact S.hg, by rw [upd_ne n5]; exact upd_same, _, upd_same, by rw [putK_old v]; exact l, fun x hx => ?_⟩
  obtain ⟨n2', v2, z2⟩ := kb x hx
  rw [valV_put]
  by_cases h : x = y
  · subst h
    rw [if_pos rfl]
    refine ⟨_, rfl, fun gx => ?_⟩
    rw [v] at v2
    have en : n = n2' := by
      injection v2 with v2
      injection v2
    have k1 := k x gx
    rw [if_pos rfl] at k1
    have := z2 gx
    omega
  · rw [if_neg (by simpa using h)]
    refine ⟨n2', v2, fun gx => ?_⟩
    have k1 := k x gx
    rw [if_neg h] at k1
    have := z2 gx
    omega
theorem MgS.dropped (S : MgS C m T P g hd b rows F H gone hs rdy) {x : Str} (nx : x ∉ gone) : MgS C m T P g hd b rows F (upd H g (.dK (putK (gone.map fun x => ((Sum.inr x : Key), V.bl true)) (Sum.inr x) (.bl true)))) (gone ++ [x]) hs rdy := by
  obtain ⟨n1, _, _, n4, _⟩ := S.nes
  obtain ⟨dx, e1⟩ := S.obj
  obtain ⟨bs, e4, l4, k4⟩ := S.hb
  have v := val_gone (x := x) (xs := gone)
  rw [if_neg nx] at v
  refine ⟨same_at S.same S.off.2.1, S.off, S.gb, ⟨dx, by rw [upd_ne n1]; exact e1⟩, by rw [upd_same, putK_new _ v, List.map_append]; rfl, by rw [upd_ne (Ne.symm n4)]; exact S.hh, bs, by rw [upd_ne (Ne.symm S.gb)]; exact e4, l4, fun y hy => ?_⟩
  obtain ⟨n, v, z⟩ := k4 y hy
  exact ⟨n, v, fun gy => z fun h => gy (List.mem_append_left _ h)⟩
end
theorem Mg.Inv.weak {rows : Rows} {gone : List Str} {hs : List Nat} {rdy : Nat} {nm : Option Str} {pd pd' : Nat → Prop} (I : Mg.Inv rows gone hs rdy nm pd) (h : ∀ k, pd k → pd' k) : Mg.Inv rows gone hs rdy nm pd' := ⟨I.len, I.nd, I.le, I.past, fun i r h' e1 e2 y ey gy => let ⟨a, b⟩ := I.hd i r h' e1 e2 y ey gy; ⟨a, h _ b⟩, I.rd⟩
section
variable {C m T P g hd b : Addr} {rows : Rows} {F F' H : Hp} {gone : List Str} {hs : List Nat} {rdy : Nat}
theorem MgS.frame (S : MgS C m T P g hd b rows F H gone hs rdy) (s : Same F' H) (off : F' m = none ∧ F' g = none ∧ F' hd = none ∧ F' b = none) : MgS C m T P g hd b rows F' H gone hs rdy := ⟨s, off, S.gb, S.obj, S.hg, S.hh, S.hb⟩
theorem MgS.beside (S : MgS C m T P g hd b rows F H gone hs rdy) {l : Addr} {o : HO} (n1 : l ≠ m) (n2 : l ≠ g) (n3 : l ≠ hd) (n4 : l ≠ b) (fl : F l = none) : MgS C m T P g hd b rows F (upd H l o) gone hs rdy := by
  obtain ⟨dx, e1⟩ := S.obj
  obtain ⟨bs, e4, k⟩ := S.hb
  exact ⟨same_at S.same fl, S.off, S.gb, ⟨dx, by rw [upd_ne (Ne.symm n1)]; exact e1⟩, by rw [upd_ne (Ne.symm n2)]; exact S.hg, by rw [upd_ne (Ne.symm n3)]; exact S.hh, bs, by rw [upd_ne (Ne.symm n4)]; exact e4, k⟩
/-- with one object more in the frame -/
theorem MgS.hold (S : MgS C m T P g hd b rows F H gone hs rdy) {l : Addr} {o : HO} (e : H l = some o) (n1 : l ≠ m) (n2 : l ≠ g) (n3 : l ≠ hd) (n4 : l ≠ b) : MgS C m T P g hd b rows (upd F l o) H gone hs rdy := by
  refine S.frame (fun c u hc => ?_) ⟨by rw [upd_ne (Ne.symm n1)]; exact S.off.1, by rw [upd_ne (Ne.symm n2)]; exact S.off.2.1, by rw [upd_ne (Ne.symm n3)]; exact S.off.2.2.1, by rw [upd_ne (Ne.symm n4)]; exact S.off.2.2.2⟩
  by_cases h : c = l
  · subst h
    rw [upd_same] at hc
    cases hc
    exact e
  · rw [upd_ne h] at hc
    exact S.same _ _ hc
end
def spDraw (C : Addr) : Sp := fun vs H Q _ => ∃ (m T P g hd b : Addr) (rows : Rows) (F : Hp) (L : Str → Addr) (gone : List Str) (hs : List Nat) (rdy : Nat), vs = [.ref m] ∧ MgF F T P rows L ∧ MgS C m T P g hd b rows F H gone hs rdy ∧ gone.Nodup ∧ (∀ x ∈ gone, x ∈ names rows) ∧
  Mg.Inv rows gone hs rdy none (fun _ => False) ∧
  ∀ H' l hs', MgS C m T P g hd b rows F H' (gone ++ Mg.drawn (Mg.alive gone rows)) hs' 0 → Mg.Inv rows (gone ++ Mg.drawn (Mg.alive gone rows)) hs' 0 none (fun _ => False) → H' l = some (.lst ((Mg.drawn (Mg.alive gone rows)).map V.str)) → H l = none →
    (gone ++ Mg.drawn (Mg.alive gone rows)).Nodup → (∀ x ∈ gone ++ Mg.drawn (Mg.alive gone rows), x ∈ names rows) → Q (.ref l) H'
theorem nodup_sub : ∀ {xs ys : List Str}, xs.Nodup → (∀ x ∈ xs, x ∈ ys) → xs.length ≤ ys.length
  | [], _, _, _ => Nat.zero_le _
  | x :: xs, ys, nd, h => by
    have nd2 := List.nodup_cons.mp nd
    obtain ⟨a, b, e⟩ := List.append_of_mem (h x (List.mem_cons_self ..))
    have := nodup_sub (xs := xs) (ys := a ++ b) nd2.2 fun y hy => by
      have hm := h y (List.mem_cons_of_mem _ hy)
      rw [e] at hm
      rcases List.mem_append.mp hm with z | z
      · exact List.mem_append_left _ z
      · rcases List.mem_cons.mp z with z | z
        · subst z
          exact absurd hy nd2.1
        · exact List.mem_append_right _ z
    rw [e, List.length_append, List.length_cons]
    rw [List.length_append] at this
    rw [List.length_cons]
    omega
end Nb
namespace Nb
open PySem
open L2 hiding del del_ne del_same
/-- places that are being filled: what is told of them stood not before -/
structure Plm (H0 H : Hp) (D : Addr) (L : Str → Addr) (ts : List (Str × Nat × Nat)) : Prop where
  same : Same H0 H
  nd : H0 D = none
  d : H D = some (.dK ((seen (ts.map (·.1))).map fun x => ((Sum.inr x : Key), V.ref (L x))))
  l : ∀ x ∈ ts.map (·.1), H0 (L x) = none ∧ ∃ as : List Addr, H (L x) = some (.lst (as.map V.ref)) ∧ F2 (fun a (p : Nat × Nat) => H a = some (.tup [.int p.1, .int p.2])) as (Mg.pl ts x)
  inj : ∀ x ∈ ts.map (·.1), ∀ y ∈ ts.map (·.1), L x = L y → x = y
theorem Plm.to {H0 H : Hp} {D : Addr} {L : Str → Addr} {ts : List (Str × Nat × Nat)} (p : Plm H0 H D L ts) : Pl H D L ts := ⟨.inl p.d, fun x hx => (p.l x hx).2⟩
theorem pl_snoc (ts : List (Str × Nat × Nat)) (x y : Str) (i j : Nat) : Mg.pl (ts ++ [(x, i, j)]) y = if x = y then Mg.pl ts y ++ [(i, j)] else Mg.pl ts y := by
  rw [Mg.pl_app]
  by_cases h : x = y
  · subst h
    rw [if_pos rfl]
    simp [Mg.pl]
  · rw [if_neg h]
    simp [Mg.pl, h]
theorem seen_old {xs : List Str} {x : Str} (h : x ∈ xs) : seen (xs ++ [x]) = seen xs := by
  rw [seen_snoc]
  unfold grow
  rw [if_pos (List.any_eq_true.mpr ⟨x, mem_seen.mpr h, by simp⟩)]
theorem seen_new {xs : List Str} {x : Str} (h : x ∉ xs) : seen (xs ++ [x]) = seen xs ++ [x] := by
  rw [seen_snoc]
  unfold grow
  rw [if_neg]
  intro k
  obtain ⟨y, hy, e⟩ := List.any_eq_true.mp k
  have : y = x := eq_of_beq e
  subst this
  exact h (mem_seen.mp hy)
section
variable {H0 H H2 : Hp} {D t l0 : Addr} {L : Str → Addr} {ts : List (Str × Nat × Nat)} {x : Str} {i j : Nat}
/-- one place more of a name that has some -/
theorem Plm.more (p : Plm H0 H D L ts) (mx : x ∈ ts.map (·.1)) (s : Same H H2) (et : H2 t = some (.tup [.int i, .int j])) (nt : H t = none) : ∃ as : List Addr, H2 (L x) = some (.lst (as.map V.ref)) ∧ as.length ≤ ts.length ∧ Plm H0 (upd H2 (L x) (.lst (as.map V.ref ++ [.ref t]))) D L (ts ++ [(x, i, j)]) := by
  obtain ⟨n0, as, e, f⟩ := p.l x mx
  have len : as.length ≤ ts.length := by
    rw [f2_len f]
    unfold Mg.pl
    rw [List.length_map]
    exact List.length_filter_le ..
  have nD : D ≠ L x := fun z => by
    have := p.d
    rw [z, e] at this
    cases this
  refine ⟨as, s _ _ e, len, same_at (p.same.trans s) n0, p.nd, ?_, fun y hy => ?_, fun y hy z hz => ?_⟩
  · rw [upd_ne nD, List.map_append]
    show H2 D = some (.dK ((seen (ts.map (·.1) ++ [x])).map _))
    rw [seen_old mx]
    exact s _ _ p.d
  · have hy : y ∈ ts.map (·.1) := by
      rw [List.map_append] at hy
      rcases List.mem_append.mp hy with h | h
      · exact h
      · have : y = x := by simpa using h
        rw [this]
        exact mx
    obtain ⟨n1, bs, e1, f1⟩ := p.l y hy
    have off : ∀ {a : Addr} {q : Nat × Nat}, H a = some (.tup [.int q.1, .int q.2]) → (upd H2 (L x) (.lst (as.map V.ref ++ [.ref t]))) a = some (.tup [.int q.1, .int q.2]) := fun {a q} k => by
      have : a ≠ L x := fun z => by
        rw [z, e] at k
        cases k
      rw [upd_ne this]
      exact s _ _ k
    refine ⟨n1, ?_⟩
    rw [pl_snoc]
    by_cases h : x = y
    · subst h
      rw [if_pos rfl]
      refine ⟨as ++ [t], by rw [upd_same, List.map_append]; rfl, f2_snoc (f2_imp (fun a q k => off k) f) ?_⟩
      have : t ≠ L x := fun z => by
        rw [z, e] at nt
        cases nt
      rw [upd_ne this]
      exact et
    · rw [if_neg h]
      have : L y ≠ L x := fun z => h (p.inj x mx y hy z.symm)
      exact ⟨bs, by rw [upd_ne this]; exact s _ _ e1, f2_imp (fun a q k => off k) f1⟩
  · have key : ∀ w, w ∈ (ts ++ [(x, i, j)]).map (·.1) → w ∈ ts.map (·.1) := fun w hw => by
      rw [List.map_append] at hw
      rcases List.mem_append.mp hw with h | h
      · exact h
      · have : w = x := by simpa using h
        rw [this]
        exact mx
    exact p.inj y (key y hy) z (key z hz)
/-- the first place of a name -/
theorem Plm.fresh (p : Plm H0 H D L ts) (mx : x ∉ ts.map (·.1)) {H1 : Hp} (s1 : Same H H1) (n0 : H l0 = none) (e0 : H1 l0 = some (.lst []))
    (s2 : Same (upd H1 D (.dK (putK ((seen (ts.map (·.1))).map fun x => ((Sum.inr x : Key), V.ref (L x))) (Sum.inr x) (.ref l0)))) H2) (et : H2 t = some (.tup [.int i, .int j])) (nt : (upd H1 D (.dK (putK ((seen (ts.map (·.1))).map fun x => ((Sum.inr x : Key), V.ref (L x))) (Sum.inr x) (.ref l0)))) t = none) :
    H2 l0 = some (.lst []) ∧ Plm H0 (upd H2 l0 (.lst ([] ++ [.ref t]))) D (fun y => if y = x then l0 else L y) (ts ++ [(x, i, j)]) := by
  have nD : D ≠ l0 := fun z => by
    have := p.d
    rw [z, n0] at this
    cases this
  have v := val_map (L := L) (x := x) (xs := seen (ts.map (·.1)))
  rw [if_neg (fun k => mx (mem_seen.mp k))] at v
  rw [putK_new _ v] at s2 nt
  have eD := s2 _ _ upd_same
  have e2 : H2 l0 = some (.lst []) := s2 _ _ (by rw [upd_ne (Ne.symm nD)]; exact e0)
  have keep : ∀ {a : Addr} {o : HO}, H a = some o → a ≠ D → a ≠ l0 → (upd H2 l0 (.lst ([] ++ [.ref t]))) a = some o := fun {a o} k n1 n2 => by
    rw [upd_ne n2]
    exact s2 _ _ (by rw [upd_ne n1]; exact s1 _ _ k)
  have ne0 : ∀ {a : Addr} {o : HO}, H a = some o → a ≠ l0 := fun {a o} k z => by
    rw [z, n0] at k
    cases k
  refine ⟨e2, fun a o k => ?_, p.nd, ?_, fun y hy => ?_, fun y hy z hz e => ?_⟩
  · have k1 := p.same _ _ k
    exact keep k1 (fun z => by rw [z, p.nd] at k; cases k) (ne0 k1)
  · rw [upd_ne nD, eD, List.map_append]
    show some (HO.dK _) = some (HO.dK ((seen (ts.map (·.1) ++ [x])).map _))
    rw [seen_new mx, List.map_append]
    congr 2
    congr 1
    · refine List.map_congr_left fun y hy => ?_
      have : y ≠ x := fun z => by
        rw [z] at hy
        exact mx (mem_seen.mp hy)
      rw [if_neg this]
    · simp
  · rw [List.map_append] at hy
    rw [pl_snoc]
    by_cases h : x = y
    · subst h
      have none' : Mg.pl ts x = [] := by
        unfold Mg.pl
        rw [List.map_eq_nil_iff, List.filter_eq_nil_iff]
        intro q hq k
        have : q.1 = x := eq_of_beq k
        exact mx (List.mem_map.mpr ⟨q, hq, this⟩)
      rw [if_pos rfl, if_pos rfl, none']
      refine ⟨p.same.free n0, [t], upd_same, .cons ?_ .nil⟩
      have : t ≠ l0 := fun z => by
        rw [z, upd_ne (Ne.symm nD), e0] at nt
        cases nt
      rw [upd_ne this]
      exact et
    · have hy : y ∈ ts.map (·.1) := by
        rcases List.mem_append.mp hy with k | k
        · exact k
        · have : y = x := by simpa using k
          exact absurd this.symm h
      rw [if_neg h, if_neg (Ne.symm h)]
      obtain ⟨n1, bs, e1, f1⟩ := p.l y hy
      refine ⟨n1, bs, keep e1 (fun z => ?_) (ne0 e1), f2_imp (fun a q k => keep k (fun z => ?_) (ne0 k)) f1⟩
      · rw [z, p.d] at e1
        cases e1
      · rw [z, p.d] at k
        cases k
  · have key : ∀ w, w ∈ (ts ++ [(x, i, j)]).map (·.1) → w = x ∨ w ∈ ts.map (·.1) := fun w hw => by
      rw [List.map_append] at hw
      rcases List.mem_append.mp hw with h | h
      · exact .inr h
      · exact .inl (by simpa using h)
    have e : (if y = x then l0 else L y) = (if z = x then l0 else L z) := e
    rcases key y hy with hy | hy <;> rcases key z hz with hz | hz
    · rw [hy, hz]
    · have : z ≠ x := fun k => mx (k ▸ hz)
      rw [if_pos hy, if_neg this] at e
      obtain ⟨_, _, e1, _⟩ := p.l z hz
      exact absurd e.symm (ne0 e1)
    · have : y ≠ x := fun k => mx (k ▸ hy)
      rw [if_neg this, if_pos hz] at e
      obtain ⟨_, _, e1, _⟩ := p.l y hy
      exact absurd e (ne0 e1)
    · have a1 : y ≠ x := fun k => mx (k ▸ hy)
      have a2 : z ≠ x := fun k => mx (k ▸ hz)
      rw [if_neg a1, if_neg a2] at e
      exact p.inj y hy z hz e
end
def spPlaces : Sp := fun vs H Q _ => ∃ (T : Addr) (rows : Rows), vs = [.ref T] ∧ RowsAt H T rows ∧ Fit rows ∧ ∀ H' D L, Plm H H' D L (Mg.trips 0 rows) → Q (.ref D) H'
theorem row3_snoc {r : List Str} {j i : Nat} {x : Str} (e : r[j]? = some x) : Mg.row3 i (r.take (j + 1)) = Mg.row3 i (r.take j) ++ [(x, i, j)] := by
  have lt := (List.getElem?_eq_some_iff.mp e).1
  unfold Mg.row3
  rw [List.take_add_one, e, Option.toList_some, List.zipIdx_append, List.map_append, List.length_take, Nat.min_eq_left (Nat.le_of_lt lt)]
  simp
end Nb
namespace Nb
open PySem
open L2 hiding del del_ne del_same
theorem val_int {f : Str → Nat} {x : Str} : ∀ {xs : List Str}, x ∈ xs → valV (xs.map fun x => ((Sum.inr x : Key), V.int (f x : Nat))) (Sum.inr x) = some (.int (f x : Nat))
  | y :: ys, h => by
    by_cases e : y = x
    · subst e
      simp [valV]
    · have h2 : x ∈ ys := (List.mem_cons.mp h).resolve_left (Ne.symm e)
      have := val_int (f := f) h2
      rw [List.map_cons, valV_neg (by simpa using e)]
      exact this
section
variable {C m T P g hd b : Addr} {rows : Rows} {F H : Hp} {gone : List Str} {hs : List Nat} {rdy : Nat} {L : Str → Addr} {od : Obj} {u : HO}
theorem MgS.locked (S : MgS C m T P g hd b rows F H gone hs rdy) (n1 : P ≠ m) (n2 : P ≠ g) (n3 : P ≠ hd) (n4 : P ≠ b) : MgS C m T P g hd b rows (upd F P u) (upd H P u) gone hs rdy := by
  obtain ⟨dx, e1⟩ := S.obj
  obtain ⟨bs, e4, k⟩ := S.hb
  exact ⟨grow_up S.same, ⟨by rw [upd_ne (Ne.symm n1)]; exact S.off.1, by rw [upd_ne (Ne.symm n2)]; exact S.off.2.1, by rw [upd_ne (Ne.symm n3)]; exact S.off.2.2.1, by rw [upd_ne (Ne.symm n4)]; exact S.off.2.2.2⟩, S.gb, ⟨dx, by rw [upd_ne (Ne.symm n1)]; exact e1⟩, by rw [upd_ne (Ne.symm n2)]; exact S.hg, by rw [upd_ne (Ne.symm n3)]; exact S.hh, bs, by rw [upd_ne (Ne.symm n4)]; exact e4, k⟩
theorem MgS.unlocked (S : MgS C m T P g hd b rows (upd F P u) H gone hs rdy) {o : HO} (e : F P = some o) (n1 : P ≠ m) (n2 : P ≠ g) (n3 : P ≠ hd) (n4 : P ≠ b) : MgS C m T P g hd b rows F (upd H P o) gone hs rdy := by
  obtain ⟨dx, e1⟩ := S.obj
  obtain ⟨bs, e4, k⟩ := S.hb
  obtain ⟨f1, f2, f3, f4⟩ := S.off
  rw [upd_ne (Ne.symm n1)] at f1
  rw [upd_ne (Ne.symm n2)] at f2
  rw [upd_ne (Ne.symm n3)] at f3
  rw [upd_ne (Ne.symm n4)] at f4
  refine ⟨fun a o' h => ?_, ⟨f1, f2, f3, f4⟩, S.gb, ⟨dx, by rw [upd_ne (Ne.symm n1)]; exact e1⟩, by rw [upd_ne (Ne.symm n2)]; exact S.hg, by rw [upd_ne (Ne.symm n3)]; exact S.hh, bs, by rw [upd_ne (Ne.symm n4)]; exact e4, k⟩
  by_cases z : a = P
  · rw [z, e] at h
    cases h
    rw [z, upd_same]
  · rw [upd_ne z]
    exact S.same _ _ (by rw [upd_ne z]; exact h)
theorem MgF.locked {kvs : List (Key × V)} (M : MgF F T P rows L) (dF : F P = some (.dK kvs)) (ekv : kvs = (names rows).map fun x => ((Sum.inr x : Key), V.ref (L x))) : MgF (upd F P (.frz od (.dK kvs))) T P rows L := by
  have keep : ∀ {a : Addr} {o : HO}, F a = some o → (∀ kvs, o ≠ .dK kvs) → (upd F P (.frz od (.dK kvs))) a = some o := fun {a o} h n => by
    have : a ≠ P := fun z => by
      rw [z, dF] at h
      cases h
      exact n _ rfl
    rw [upd_ne this]
    exact h
  obtain ⟨as, t1, t2, t3⟩ := M.at_
  refine ⟨M.fit, ⟨as, keep t1 (fun _ z => by cases z), t2, fun k a row e1 e2 => ?_⟩, ⟨.inr ⟨od, ?_⟩, fun x hx => ?_⟩⟩
  · rcases t3 k a row e1 e2 with h | ⟨ob, h⟩
    · exact .inl (keep h fun _ z => by cases z)
    · exact .inr ⟨ob, keep h fun _ z => by cases z⟩
  · rw [upd_same, ekv, Mg.names_trips]
    rfl
  · obtain ⟨bs, k1, k2⟩ := M.pl.l x hx
    exact ⟨bs, keep k1 (fun _ z => by cases z), f2_imp (fun a q k => keep k fun _ z => by cases z) k2⟩
end
/-- Merge.__init__ -/
def spMInit (C : Addr) : Sp := fun vs H Q _ => ∃ (m dx T : Addr) (rows : Rows), vs = [.ref m, .ref T] ∧ H m = some (.ins C dx []) ∧ RowsAt (del H m) T rows ∧ Fit rows ∧
  ∀ H' P g hd b L F rdy, Same (del H m) F → MgF F T P rows L → MgS C m T P g hd b rows F H' [] (List.replicate rows.length 0) rdy → Mg.Inv rows [] (List.replicate rows.length 0) rdy none (fun _ => False) →
    F P = some (.dK ((names rows).map fun x => ((Sum.inr x : Key), V.ref (L x)))) → Q .non H'
theorem same_off {H0 H H' : Hp} {m : Addr} (s : Same H H') : Same (del H m) (del H' m) := del_mono s
/-- a heap with the instance at m stored anew -/
theorem del_upd {H : Hp} {m : Addr} {o : HO} : del (upd H m o) m = del H m := by
  funext c
  by_cases h : c = m
  · rw [h, del_at, del_at]
  · rw [del_ne h, del_ne h, upd_ne h]
end Nb

set_option Elab.async false
set_option linter.all false
set_option maxRecDepth 100000
set_option maxHeartbeats 4000000
/-! Worlds as data: classes with bases and lines, in the order of definition. -/
namespace Nb.Wd
open PySem Nb
structure En where
  bases : List Str
  kept : List PyData
  line : List Str
abbrev Ens := List (Str × En)
def nms (es : Ens) : List Str := es.map (·.1)
/-- the line of a class -/
def ln (es : Ens) (x : Str) : List Str := match es.lookup x with
  | some e => e.line
  | none => []
/-- what is merged for a class with these bases -/
def rws (es : Ens) (bs : List Str) : List (List Str) := bs.map (ln es) ++ [bs]
/-- a world as it can be -/
inductive Bt : Ens → Prop
  | nil : Bt []
  | snoc {es : Ens} {n : Str} {bs : List Str} {kd : List PyData} (h : Bt es) (new : n ∉ nms es) (nm : isNm n = true ∧ Word n) (nd : bs.Nodup) (few : bs.length ≤ 8) (sub : ∀ b ∈ bs, b ∈ nms es) (cov : Mg.Cov (rws es bs)) :
      Bt (es ++ [(n, ⟨bs, kd, n :: Mg.drawn (rws es bs)⟩)])
theorem nms_snoc (es : Ens) (n : Str) (e : En) : nms (es ++ [(n, e)]) = nms es ++ [n] := by
  unfold nms
  rw [List.map_append]
  rfl
theorem look_old {es : Ens} {n x : Str} {e : En} (h : x ∈ nms es) : (es ++ [(n, e)]).lookup x = es.lookup x := by
  induction es with
  | nil => cases h
  | cons p es ih =>
    obtain ⟨k, v⟩ := p
    rw [List.cons_append, List.lookup_cons, List.lookup_cons]
    by_cases c : x = k
    · subst c
      rw [show (x == x) = true from beq_self_eq_true x]
    · rw [show (x == k) = false from beq_eq_false_iff_ne.mpr c]
      exact ih ((List.mem_cons.mp h).resolve_left c)
theorem look_new {es : Ens} {n : Str} {e : En} (h : n ∉ nms es) : (es ++ [(n, e)]).lookup n = some e := by
  induction es with
  | nil =>
    rw [List.nil_append, List.lookup_cons, show (n == n) = true from beq_self_eq_true n]
  | cons p es ih =>
    obtain ⟨k, v⟩ := p
    have h1 : n ≠ k ∧ n ∉ nms es := ⟨fun e => h (e ▸ List.mem_cons_self ..), fun m => h (List.mem_cons_of_mem _ m)⟩
    rw [List.cons_append, List.lookup_cons, show (n == k) = false from beq_eq_false_iff_ne.mpr h1.1]
    exact ih h1.2
theorem ln_old {es : Ens} {n x : Str} {e : En} (h : x ∈ nms es) : ln (es ++ [(n, e)]) x = ln es x := by
  unfold ln
  rw [look_old h]
theorem ln_new {es : Ens} {n : Str} {e : En} (h : n ∉ nms es) : ln (es ++ [(n, e)]) n = e.line := by
  unfold ln
  rw [look_new h]
theorem look_none {es : Ens} {x : Str} (h : x ∉ nms es) : es.lookup x = none := by
  induction es with
  | nil => rfl
  | cons p es ih =>
    obtain ⟨k, v⟩ := p
    have h1 : x ≠ k ∧ x ∉ nms es := ⟨fun e => h (e ▸ List.mem_cons_self ..), fun m => h (List.mem_cons_of_mem _ m)⟩
    rw [List.lookup_cons, show (x == k) = false from beq_eq_false_iff_ne.mpr h1.1]
    exact ih h1.2
theorem ln_none {es : Ens} {x : Str} (h : x ∉ nms es) : ln es x = [] := by
  unfold ln
  rw [look_none h]
theorem Bt.nodup {es : Ens} (h : Bt es) : (nms es).Nodup := by
  induction h with
  | nil => exact List.nodup_nil
  | snoc h new nm nd few sub cov ih =>
    rw [nms_snoc]
    refine List.nodup_append.mpr ⟨ih, by simp, fun a ha b hb => ?_⟩
    rw [List.mem_singleton.mp hb]
    exact fun e => new (e ▸ ha)
theorem Bt.names {es : Ens} (h : Bt es) : ∀ x ∈ nms es, isNm x = true ∧ Word x := by
  induction h with
  | nil => exact fun x h => nomatch h
  | snoc h new nm nd few sub cov ih =>
    intro x hx
    rw [nms_snoc] at hx
    rcases List.mem_append.mp hx with h1 | h1
    · exact ih x h1
    · rw [List.mem_singleton.mp h1]
      exact nm
/-- what stands in the lines of some classes, and these classes themselves -/
theorem rws_mem {es : Ens} {bs : List Str} {x : Str} : x ∈ (rws es bs).flatten ↔ (∃ b ∈ bs, x ∈ ln es b) ∨ x ∈ bs := by
  unfold rws
  rw [List.flatten_append, List.mem_append, List.mem_flatten]
  constructor
  · rintro (⟨l, hl, hx⟩ | h)
    · obtain ⟨b, hb, rfl⟩ := List.mem_map.mp hl
      exact .inl ⟨b, hb, hx⟩
    · exact .inr (by simpa using h)
  · rintro (⟨b, hb, hx⟩ | h)
    · exact .inl ⟨_, List.mem_map.mpr ⟨b, hb, rfl⟩, hx⟩
    · exact .inr (by simpa using h)
theorem Bt.sub {es : Ens} (h : Bt es) : ∀ x y, y ∈ ln es x → y ∈ nms es := by
  induction h with
  | nil => exact fun x y h => nomatch h
  | @snoc es n bs kd h new nm nd few sub cov ih =>
    intro x y hy
    rw [nms_snoc, List.mem_append]
    by_cases e : x = n
    · subst e
      rw [ln_new new] at hy
      rcases List.mem_cons.mp hy with e | m
      · exact .inr (by simp [e])
      · rcases rws_mem.mp (Mg.drawn_in _ y m) with ⟨b, hb, k⟩ | k
        · exact .inl (ih b y k)
        · exact .inl (sub y k)
    · by_cases m : x ∈ nms es
      · rw [ln_old m] at hy
        exact .inl (ih x y hy)
      · rw [ln_none (by rw [nms_snoc]; simp [m, e])] at hy
        cases hy
theorem Bt.line_nodup {es : Ens} (h : Bt es) : ∀ x, (ln es x).Nodup := by
  induction h with
  | nil => exact fun x => List.nodup_nil
  | @snoc es n bs kd h new nm nd few sub cov ih =>
    intro x
    by_cases e : x = n
    · subst e
      rw [ln_new new]
      refine List.nodup_cons.mpr ⟨fun m => ?_, Mg.drawn_nodup _⟩
      rcases rws_mem.mp (Mg.drawn_in _ x m) with ⟨b, hb, k⟩ | k
      · exact new (h.sub b x k)
      · exact new (sub x k)
    · by_cases m : x ∈ nms es
      · rw [ln_old m]
        exact ih x
      · rw [ln_none (by rw [nms_snoc]; simp [m, e])]
        exact List.nodup_nil
theorem Bt.line_self {es : Ens} (h : Bt es) : ∀ x ∈ nms es, x ∈ ln es x := by
  induction h with
  | nil => exact fun x h => nomatch h
  | @snoc es n bs kd h new nm nd few sub cov ih =>
    intro x hx
    by_cases e : x = n
    · subst e
      rw [ln_new new]
      exact List.mem_cons_self ..
    · rw [nms_snoc] at hx
      have m : x ∈ nms es := (List.mem_append.mp hx).resolve_right (by simpa using e)
      rw [ln_old m]
      exact ih x m
theorem len_sub {xs ys : List Str} (nd : xs.Nodup) (h : ∀ x ∈ xs, x ∈ ys) : xs.length ≤ ys.length := nodup_sub nd h
theorem nms_len (es : Ens) : (nms es).length = es.length := List.length_map ..
theorem Bt.line_len {es : Ens} (h : Bt es) (x : Str) : (ln es x).length ≤ es.length := nms_len es ▸ len_sub (h.line_nodup x) (h.sub x)
theorem Bt.at_ {es : Ens} (h : Bt es) : ∀ p ∈ es, p.2.line = ln es p.1 ∧ p.2.bases.Nodup ∧ p.2.bases.length ≤ 8 ∧ (∀ b ∈ p.2.bases, b ∈ nms es) ∧ p.1 ∈ nms es := by
  induction h with
  | nil => exact fun p h => nomatch h
  | @snoc es n bs kd h new nm nd few sub cov ih =>
    intro p hp
    rw [nms_snoc]
    rcases List.mem_append.mp hp with h1 | h1
    · obtain ⟨a, b, c, d, e⟩ := ih p h1
      exact ⟨by rw [ln_old e]; exact a, b, c, fun x hx => List.mem_append_left _ (d x hx), List.mem_append_left _ e⟩
    · rw [List.mem_singleton.mp h1]
      exact ⟨(ln_new new).symm, nd, few, fun x hx => List.mem_append_left _ (sub x hx), by simp⟩
/-- a class's line has the lines of its classes -/
theorem Bt.trans {es : Ens} (h : Bt es) : ∀ x y z, y ∈ ln es x → z ∈ ln es y → z ∈ ln es x := by
  induction h with
  | nil => exact fun x y z h => nomatch h
  | @snoc es n bs kd h new nm nd few sub cov ih =>
    intro x y z hy hz
    by_cases e : x = n
    · subst e
      rw [ln_new new] at hy ⊢
      rcases List.mem_cons.mp hy with e | m
      · rw [e, ln_new new] at hz
        exact hz
      · have k := rws_mem.mp (Mg.drawn_in _ y m)
        have yn : y ∈ nms es := by
          rcases k with ⟨b, hb, k⟩ | k
          · exact h.sub b y k
          · exact sub y k
        rw [ln_old yn] at hz
        refine List.mem_cons_of_mem _ (cov z (rws_mem.mpr (.inl ?_)))
        rcases k with ⟨b, hb, k⟩ | k
        · exact ⟨b, hb, ih b y z k hz⟩
        · exact ⟨y, k, hz⟩
    · by_cases m : x ∈ nms es
      · rw [ln_old m] at hy ⊢
        rw [ln_old (h.sub x y hy)] at hz
        exact ih x y z hy hz
      · rw [ln_none (by rw [nms_snoc]; simp [m, e])] at hy
        cases hy
/-- a class's line has its bases -/
theorem Bt.bases_in {es : Ens} (h : Bt es) : ∀ p ∈ es, ∀ b ∈ p.2.bases, b ∈ ln es p.1 := by
  induction h with
  | nil => exact fun p h => nomatch h
  | @snoc es n bs kd h new nm nd few sub cov ih =>
    intro p hp b hb
    rcases List.mem_append.mp hp with h1 | h1
    · have m := (h.at_ p h1).2.2.2.2
      rw [ln_old m]
      exact ih p h1 b hb
    · rw [List.mem_singleton.mp h1] at hb ⊢
      show b ∈ ln _ n
      rw [ln_new new]
      exact List.mem_cons_of_mem _ (cov b (rws_mem.mpr (.inr hb)))
/-- what is closed under bases has the lines of its classes -/
theorem Bt.closed {es : Ens} (h : Bt es) : ∀ F : Str → Prop, (∀ p ∈ es, F p.1 → ∀ b ∈ p.2.bases, F b) → ∀ x y, F x → y ∈ ln es x → F y := by
  induction h with
  | nil => exact fun F c x y fx h => nomatch h
  | @snoc es n bs kd h new nm nd few sub cov ih =>
    intro F c x y fx hy
    have ih := ih F fun p hp => c p (List.mem_append_left _ hp)
    by_cases e : x = n
    · subst e
      rw [ln_new new] at hy
      have cb := c _ (List.mem_append_right _ (List.mem_singleton.mpr rfl)) fx
      rcases List.mem_cons.mp hy with e | m
      · rw [e]
        exact fx
      · rcases rws_mem.mp (Mg.drawn_in _ y m) with ⟨b, hb, k⟩ | k
        · exact ih b y (cb b hb) k
        · exact cb y k
    · by_cases m : x ∈ nms es
      · rw [ln_old m] at hy
        exact ih x y fx hy
      · rw [ln_none (by rw [nms_snoc]; simp [m, e])] at hy
        cases hy
/-- the classes of some names and all their ancestors -/
def cl (es : Ens) (zs : List Str) : List Str := (nms es).filter fun x => zs.any fun z => decide (x ∈ ln es z)
theorem mem_cl {es : Ens} (h : Bt es) {zs : List Str} {x : Str} : x ∈ cl es zs ↔ ∃ z ∈ zs, x ∈ ln es z := by
  unfold cl
  rw [List.mem_filter, List.any_eq_true]
  constructor
  · rintro ⟨_, z, hz, e⟩
    exact ⟨z, hz, of_decide_eq_true e⟩
  · rintro ⟨z, hz, e⟩
    exact ⟨h.sub z x e, z, hz, decide_eq_true e⟩
end Nb.Wd

set_option Elab.async false
set_option maxRecDepth 100000
set_option maxHeartbeats 4000000
/-! t[::-1], t a tuple; tuples cut and added, whichever object comes back. -/
namespace Nb
open PySem PySem.Spec PyProof.Rows L2 HT
section
variable {prog : Program} {w : World} {A : Around} {E : Value → Shared → Prop} {s : Shared}
theorem applied_back {sl : Addr} {vl vu vs : Value} {n : Nat} {Q : Int × Int × Nat → Shared → Prop} (hs : s.heap.IsSliceOf sl vl vu vs) (pl : IsPart vl none) (pu : IsPart vu none) (ps : IsPart vs (some (-1)))
    (h : Q ((n : Int) - 1, -1, n) s) : wpAny (model prog w) A (Builtin.Slice.sliceApplied (.ref sl) (pure (n : Int))) Q E s := by
  obtain ⟨os, hos, hcs, hds⟩ := id hs
  unfold Builtin.Slice.sliceApplied Builtin.Slice.sliceFields
  refine wpAny_bind (wpAny_bind (wpAny_field hos hds (x := vl) rfl (wpAny_bind (wpAny_field hos hds (x := vu) rfl (wpAny_bind (wpAny_field hos hds (x := vs) rfl (wpAny_pure ?_)))))))
  refine wpAny_bind (slicePart_ ps ?_)
  show wpAny _ _ (if ((-1 : Int) == 0) = true then _ else _) _ _ s
  rw [if_neg (by decide)]
  refine wpAny_bind (slicePart_ pl (wpAny_bind (slicePart_ pu (wpAny_bind (wpAny_pure ?_)))))
  have e1 : Builtin.Slice.sliceAdjust none none (-1) (n : Int) = ((n : Int) - 1, -1) := by
    unfold Builtin.Slice.sliceAdjust
    simp
  have e2 : Builtin.Slice.slicePlaces ((n : Int) - 1) (-1) (-1) = n := by
    unfold Builtin.Slice.slicePlaces
    simp
    omega
  show wpAny _ _ (match Builtin.Slice.sliceAdjust none none (-1) (n : Int) with | (lo, hi) => pure (lo, (-1 : Int), Builtin.Slice.slicePlaces lo hi (-1))) _ _ s
  rw [e1]
  show wpAny _ _ (pure ((n : Int) - 1, (-1 : Int), Builtin.Slice.slicePlaces ((n : Int) - 1) (-1) (-1))) _ _ s
  rw [e2]
  exact wpAny_pure h
theorem pick_back (xs : Array Value) : ((List.range xs.size).filterMap fun (m : Nat) => xs[((xs.size : Int) - 1 + (m : Int) * -1).toNat]?).toArray = xs.toList.reverse.toArray := by
  congr 1
  apply List.ext_getElem?
  intro i
  have e : ∀ k, k ≤ xs.size → (List.range k).filterMap (fun (m : Nat) => xs[((xs.size : Int) - 1 + (m : Int) * -1).toNat]?) = (xs.toList.reverse).take k := by
    intro k
    induction k with
    | zero => intro _; rfl
    | succ k ih =>
      intro hk
      have hlt : xs.size - 1 - k < xs.size := by omega
      have ix : ((xs.size : Int) - 1 + (k : Int) * -1).toNat = xs.size - 1 - k := by omega
      rw [List.range_succ, List.filterMap_append, ih (by omega), List.take_add_one]
      congr 1
      simp only [List.filterMap_cons, List.filterMap_nil, ix]
      rw [Array.getElem?_eq_getElem hlt, List.getElem?_reverse (by simp; omega)]
      simp [hlt]
  rw [e xs.size (Nat.le_refl _), List.take_of_length_le (by simp)]
theorem getItem_back {t sl : Addr} {items : Array Value} {vl vu vs : Value} {Q : Value → Shared → Prop} (ht : IsTup s.heap t items) (hs : s.heap.IsSliceOf sl vl vu vs) (pl : IsPart vl none) (pu : IsPart vu none) (ps : IsPart vs (some (-1)))
    (h : Q (.ref s.heap.objs.size) { s with heap := s.heap.push { cls := .type "tuple", data := .seq items.toList.reverse.toArray } }) (hsz : items.size ≤ sizeLine) : wpAny (model prog w) A (getItem (.ref t) (.ref sl)) Q E s := by
  have fits : sizeOk (.seq items.toList.reverse.toArray) := by
    show items.toList.reverse.toArray.size ≤ sizeLine
    rw [List.size_toArray, List.length_reverse, Array.length_toList]
    exact hsz
  obtain ⟨os, hos, hcs, hds⟩ := id hs
  unfold getItem
  try with_reducible refine wpAny_holding ?_
  first | refine wpAny_bind (wpAny_pure ?_) | skip
  refine wpAny_bind (wpAny_sequenceKey ht.typeIs (by decide) ?_)
  refine wpAny_bind (wpAny_callSpecial?_slot (name := Str.ofString "__getitem__") ht.typeIs PyProof.Rows.slot_tuple_getitem (wpAny_call_entry PyProof.Rows.slot_tuple_getitem ht.typeIs entry_tuple_getitem ?_ (args_tuple_getitem _ _)))
  show wpAny _ _ (Builtin.Tuple.tupleItemsOf (.ref t) >>= _) _ _ s
  refine wpAny_bind (tupleItemsOf_ ht (wpAny_bind (wpAny_typeOf ⟨os, hos, hcs⟩ ?_)))
  rw [if_pos (by decide)]
  refine wpAny_bind (applied_back hs pl pu ps ?_)
  have no : ¬ ((((items.size : Int) - 1) == 0 && (-1 : Int) == 1 && items.size == items.size) = true) := by
    intro q
    rw [Bool.and_eq_true, Bool.and_eq_true] at q
    exact absurd q.1.2 (by decide)
  show wpAny _ _ (if (((items.size : Int) - 1) == 0 && (-1 : Int) == 1 && items.size == items.size) = true then _ else _) _ _ s
  rw [if_neg no, pick_back]
  first
    | exact wpAny_bind (m := Builtin.Tuple.tupleExact _) (wpAny_newObj_type (wpAny_pure ⟨_, rfl, wpAny_pure h⟩) fits)
    | exact wpAny_bind (m := Builtin.Tuple.tupleExact _) (wpAny_newObj_type (wpAny_bind (wpAny_pure (wpAny_pure ⟨_, rfl, wpAny_pure h⟩))) fits)
    | exact wpAny_bind (wpAny_bind (m := Builtin.Tuple.tupleExact _) (wpAny_newObj_type (wpAny_pure (wpAny_pure ⟨_, rfl, wpAny_pure h⟩)) fits))
    | exact wpAny_bind (wpAny_bind (m := Builtin.Tuple.tupleExact _) (wpAny_newObj_type (wpAny_pure ⟨_, rfl, wpAny_pure h⟩) fits))
end
def tRevT (K : PySem.W.Frag) (te : TE) : TE := fun σ H Q => te σ H fun x H1 => ∃ a xs, x = .ref a ∧ SqT K H1 a xs ∧ ∀ p, H1 p = none → Q (.ref p) (upd H1 p (.tup xs.reverse))
theorem pe_revT {X : Cx} {e : Expr} {te : TE} {k : Nat} {p1 p2 p3 pos : Pos} (he : PE X e te) : PE X (.Subscript e (.Slice none none (some (.UnaryOp .USub (.Constant (.int 1) k p1) p2)) p3) pos) (tRevT X.K te) := by
  refine ⟨fun pins s σ H Q I h => Subscript_ (thn (he.run pins s σ H _ I h) fun v s1 ⟨x, H1, I1, r1, q1⟩ => ?_)⟩
  obtain ⟨a, xs, rfl, hx, q⟩ := q1
  cases r1
  have back : PO X (some (.UnaryOp .USub (.Constant (.int 1) k p1) p2)) (tPart (tUn (rU fun i => .int (-i)) (tC (.int 1)))) := po_some (pe_un un_neg pe_int)
  refine wpAny_Slice (thn (po_none.run pins s1 σ H1 (fun o H2 => o = none ∧ H2 = H1) I1 ⟨rfl, rfl⟩) fun vl s2 ⟨l, H2, I2, pl, el, e2⟩ => ?_)
  subst el e2
  refine thn (po_none.run pins s2 σ H2 (fun o H3 => o = none ∧ H3 = H2) I2 ⟨rfl, rfl⟩) fun vu s3 ⟨u, H3, I3, pu, eu, e3⟩ => ?_
  subst eu e3
  refine thn (back.run pins s3 σ H3 (fun o H4 => o = some (-1) ∧ H4 = H3) I3 ⟨1, rfl, -1, rfl, rfl, rfl⟩) fun vs s4 ⟨o, H4, I4, ps, eo, e4⟩ => ?_
  subst eo e4
  have I5 : Inv X pins σ H4 { s4 with heap := s4.heap.push { cls := .type "slice", data := .fields #[vl, vu, vs] } } := I4.kept (t' := s4.toks) fun b ob q => Heap.get?_push_of_some _ q
  obtain ⟨its, r, ht, hz⟩ := I5.tuple hx
  have hlen := r.length
  show wpAny (model X.prog X.w) X.A (subscriptTail e (.Slice none none (some (.UnaryOp .USub (.Constant (.int 1) k p1) p2)) p3) (.ref a) (.ref s4.heap.objs.size)) (EP X pins σ Q) X.xe { s4 with heap := s4.heap.push { cls := .type "slice", data := .fields #[vl, vu, vs] } }
  refine tail_any (ops := [.ref a, .ref s4.heap.objs.size]) ht.typeIs (PyProof.Rows.slot_tuple_getitem.lookup) ?_ (by with_unfolding_all rfl)
  refine getItem_back ht (Heap.IsSliceOf.new _ vl vu vs) pl pu ps ?_ (by rw [List.size_toArray]; omega)
  refine ⟨.ref _, _, I5.laid (t' := s4.toks) (o := .tup xs.reverse) (fun b ob q => Heap.get?_push_of_some _ q) (Nat.le_refl _) ?_, rfl, q _ (I5.hok.fresh (Nat.le_refl _))⟩
  exact ⟨by rw [List.length_reverse]; exact hz, its.reverse, r.reverse, ⟨_, Heap.get?_push_size _ rfl, rfl, 0, by simp⟩⟩
end Nb

set_option Elab.async false
set_option maxRecDepth 100000
set_option maxHeartbeats 4000000
namespace Nb
open PySem L2
theorem src_at {H : Hp} {p D : Addr} {o : HO} {b : Nat} (S : Src H p b) (n : p ≠ D) : Src (upd H D o) p b := by
  obtain ⟨c, m, r, e, k⟩ := S
  exact ⟨c, m, r, by rw [upd_ne n]; exact e, k⟩
theorem src_fresh {H : Hp} {p D : Addr} {b : Nat} (S : Src H p b) (h : H D = none) : D ≠ p := fun z => by
  obtain ⟨u, e⟩ := S.some
  rw [← z, h] at e
  cases e
/-- tuple + tuple, whichever of the two is empty -/
theorem cat_tup {K : PySem.W.Frag} {H : Hp} {a b : Addr} {xs ys : List V} {Q : VK} (ha : SqT K H a xs) (hb : H b = some (.tup ys)) (hy : ys ≠ []) (hl : xs.length + ys.length ≤ sizeLine)
    (h : ∀ p H', Same H H' → (∀ c, H c ≠ none → H' c = H c) → H' p = some (.tup (xs ++ ys)) → Q (.ref p) H') : rCatA K (.ref a) (.ref b) H Q := by
  refine ⟨a, b, xs, ys, rfl, rfl, ha, SqT.of hb, hl, fun e => ?_, fun _ e => absurd e hy, fun _ _ p hp => ?_⟩
  · subst e
    exact h b H (Same.refl H) (fun _ _ => rfl) hb
  · exact h p _ (same_new hp) (fun c hc => upd_ne (fun z => hc (z ▸ hp))) upd_same
theorem cut_mem {xs : List V} {lo hi : Option Int} {y : V} (h : y ∈ cutV xs lo hi) : y ∈ xs := List.mem_of_mem_drop (List.mem_of_mem_take h)
theorem map_item {K : PySem.W.Frag} {H : Hp} {ys : List Str} (h : ∀ z ∈ ys, Word z) : ∀ y ∈ ys.map V.str, Item K H y := fun y hy => by
  obtain ⟨z, hz, rfl⟩ := List.mem_map.mp hy
  exact (h z hz).item
/-- the law's promise -/
def spLaw (K : PySem.W.Frag) : Sp := fun vs H Q _ => ∃ (a : Addr) (ns : List Int), vs = [.ref a] ∧ SqL K H a (ns.map V.int) ∧ ns.length ≤ 63 ∧ ∀ H', Q (.bl true) H'
end Nb

set_option Elab.async false
set_option maxRecDepth 100000
set_option maxHeartbeats 4000000
/-! A tuple that tuple(..) makes, known to its object; t.index of such. -/
namespace Nb
open PySem PySem.Spec PyProof.Rows L2
/-- a tuple as it is made: no dict -/
def TupObj (o : Obj) : Prop := o.cls = .type "tuple" ∧ o.dict = none
theorem cr_tupleF {X : Cx} : CallR X (.type "tuple") (fun xs H Q => ∃ p ys, xs = [.ref p] ∧ SqL X.K H p ys ∧ ∀ l o, H l = none → TupObj o → Q (.ref l) (upd H l (.frz o (.tup ys)))) := by
  intro pins s σ H xs us Q I r h
  obtain ⟨p, ys, rfl, hq, q⟩ := h
  obtain ⟨u, rfl, rx⟩ := vals1 r
  cases rx
  obtain ⟨its, r', pl, hz⟩ := I.list hq
  have len := r'.length
  refine call_tuple_list pl.isList (fun h' kp => ?_) (by simp only [List.size_toArray]; omega)
  have I1 : Inv X pins σ H { s with heap := h' } := I.kept (t' := s.toks) kp
  have made : (h'.push { cls := .type "tuple", data := .seq its.toArray }).get? h'.objs.size = some { cls := .type "tuple", data := .seq its.toArray } := Heap.get?_push_size _ rfl
  have I2 : Inv X pins σ (upd H h'.objs.size (.frz { cls := .type "tuple", data := .seq its.toArray } (.tup ys))) { s with heap := h'.push { cls := .type "tuple", data := .seq its.toArray } } :=
    I1.laid (t' := s.toks) (fun b o e => Heap.get?_push_of_some _ e) (Nat.le_refl _) ⟨made, hz, its, r', IsTup.new _ _⟩
  exact ⟨.ref h'.objs.size, _, I2, rfl, q _ _ (I1.hok.fresh (Nat.le_refl _)) ⟨rfl, rfl⟩⟩
/-- t.index(e), t such a tuple of texts -/
def tTupIx (to : TE) (t : TA) : TE := fun σ H Q => to σ H fun x H1 => ∃ (p : Addr) (o : Obj) (ys : List Str), x = .ref p ∧ H1 p = some (.frz o (.tup (ys.map V.str))) ∧ TupObj o ∧ t σ H1 fun vs H2 =>
  ∃ (z : Str) (j : Nat), vs = [.str z] ∧ H2 p = some (.frz o (.tup (ys.map V.str))) ∧ ys[j]? = some z ∧ (∀ m, m < j → ys[m]? ≠ some z) ∧ Q (.int (j : Nat)) H2
theorem pe_tupIx {X : Cx} {o e : Expr} {to : TE} {t : TA} {apos cpos : Pos} (ho : PE X o to) (ha : PA X (e :: []) t)
    (hbase : attributeBase o "index" X.env (eval o X.env) = eval o X.env := by rfl)
    (hfew : ((backTo cpos (starEach (e :: []) X.env)).all (fun x => !x.1) && (backToKw cpos (keywordEach [] X.env)).all (fun x => x.1.isSome)
      && decide ((e :: ([] : List Expr)).length + ([] : List Keyword).length + (if ([] : List Keyword).isEmpty then 0 else 1) < 30)) = true := by rfl)
    (hline : (apos.endLine == cpos.line) = true := by rfl) (hs : starEach (e :: []) X.env = (false, eval e X.env) :: starEach [] X.env := by rfl) (hplain : (backTo cpos (starEach [] X.env)).any (·.1) = false := by rfl) :
    PE X (.Call (.Attribute o "index" apos) (e :: []) [] cpos) (tTupIx to t) := by
  refine ⟨fun pins s σ H Q I h => ?_⟩
  refine wpAny_Call_method_late hbase hfew hline rfl (thn (ho.run pins s σ H _ I h) fun v s1 ⟨x, H1, I1, r1, p, ob, ys, ex, ep, to', q1⟩ => ?_)
  subst ex
  cases r1
  obtain ⟨hget, _⟩ := (show ObjOk X.prog X.w H1 s1.heap p (.frz ob (.tup (ys.map V.str))) from I1.hok p _ ep)
  refine ⟨"tuple", "tuple.index", PySem.F.plainAttrs_tuple, PySem.F.slot_tuple_index, PySem.F.type_tuple_index, ⟨ob, hget, to'.1⟩, fun a e2 => by
    cases e2
    exact ⟨ob, hget, to'.2⟩, ?_⟩
  have hA := ha.run cpos pins s1 σ H1 _ I1 q1
  rw [hs] at hA ⊢
  refine Calls.callWith_builtin (by show (false || (backTo cpos (starEach [] X.env)).any (·.1)) = false; rw [hplain]; rfl) (Calls.evalArgs_plain ?_)
  exact thn hA fun us s2 ⟨vs, H2, I2, r2, z, j, ev, ep2, hy, hno, q⟩ => mt_tup_index pins s2 σ H2 (.ref p) vs (.ref p) us Q I2 rfl r2 ⟨p, ys, z, j, rfl, ev, .inl (.inr ⟨ob, ep2⟩), hy, hno, q⟩
end Nb

set_option Elab.async false
set_option maxRecDepth 100000
set_option maxHeartbeats 4000000
/-! Data in the heap, cut and added; data beside the source of numbers; methods, as data. -/
namespace Nb
open PySem L2
theorem noPart {σ : St} {H : Hp} {Q : Option Int → Hp → Prop} (h : Q none H) : tNoPart σ H Q := h
theorem cut_whole {xs : List V} {lo hi : Option Int} (h : HT.sIx xs.length 0 lo = 0 ∧ HT.sIx xs.length xs.length hi = xs.length) : cutV xs lo hi = xs := by
  unfold cutV
  rw [h.1, h.2]
  simp
theorem cutS_tup {K : PySem.W.Frag} {H : Hp} {a : Addr} {xs : List V} {lo hi : Option Int} {Q : VK} (ha : SqT K H a xs) (h : ∀ p H', Same H H' → SqT K H' p (cutV xs lo hi) → Q (.ref p) H') : rSlA K (.ref a) lo hi H Q :=
  ⟨a, xs, rfl, ha, fun w => h a H (Same.refl H) (by rw [cut_whole w]; exact ha), fun _ p hp => h p _ (same_new hp) (SqT.of upd_same)⟩
theorem cutT_tup {K : PySem.W.Frag} {H : Hp} {a : Addr} {xs : List V} {lo hi : Option Int} {Q : VK} (ha : H a = some (.tup xs)) (h : ∀ p H', Same H H' → H' p = some (.tup (cutV xs lo hi)) → Q (.ref p) H') : rSlA K (.ref a) lo hi H Q :=
  ⟨a, xs, rfl, SqT.of ha, fun w => h a H (Same.refl H) (by rw [cut_whole w]; exact ha), fun _ p hp => h p _ (same_new hp) upd_same⟩
theorem catT_tup {K : PySem.W.Frag} {H : Hp} {a b : Addr} {xs ys : List V} {Q : VK} (ha : H a = some (.tup xs)) (hb : H b = some (.tup ys)) (hl : xs.length + ys.length ≤ 2000) (h : ∀ p H', Same H H' → H' p = some (.tup (xs ++ ys)) → Q (.ref p) H') : rCatA K (.ref a) (.ref b) H Q := by
  refine ⟨a, b, xs, ys, rfl, rfl, SqT.of ha, SqT.of hb, Nat.le_trans hl (by decide), fun e => ?_, fun _ e => ?_, fun _ _ p hp => h p _ (same_new hp) upd_same⟩
  · subst e
    exact h b H (Same.refl H) hb
  · subst e
    exact h a H (Same.refl H) (by rw [List.append_nil]; exact ha)
/-- all steps of the rows, as a new list -/
def Tq (H : Hp) (n : Nat) (v : V) : Prop := ∃ d, Td H n v d
theorem tq_same {H H' : Hp} (s : Same H H') {n : Nat} {v : V} (h : Tq H n v) : Tq H' n v := let ⟨d, k⟩ := h; ⟨d, td_same s k⟩
theorem tq_up {H : Hp} {n : Nat} {v : V} (h : Tq H n v) : Tq H (n + 1) v := let ⟨d, k⟩ := h; ⟨d, td_up k⟩
theorem tq_le {H : Hp} {v : V} {n : Nat} (h : Tq H n v) : ∀ k, Tq H (n + k) v
  | 0 => h
  | k + 1 => tq_up (tq_le h k)
theorem tq_tup {H : Hp} {n : Nat} {a : Addr} {xs : List V} (e : H a = some (.tup xs)) (l : xs.length ≤ 1000) (h : ∀ v ∈ xs, Tq H n v) : Tq H (n + 1) (.ref a) := let ⟨_, k⟩ := tds_ex h; ⟨_, .tup e l k⟩
theorem tq_lst {H : Hp} {n : Nat} {a : Addr} {xs : List V} (e : H a = some (.lst xs)) (l : xs.length ≤ 1000) (h : ∀ v ∈ xs, Tq H n v) : Tq H (n + 1) (.ref a) := let ⟨_, k⟩ := tds_ex h; ⟨_, .lst e l k⟩
theorem cut_sub (xs : List V) (lo hi : Option Int) : (cutV xs lo hi).Sublist xs := by
  unfold cutV
  exact (List.take_sublist _ _).trans (List.drop_sublist _ _)
theorem upd_of {H : Hp} {a : Addr} {o : HO} (h : H a = none) : (upd H a o) a = some o := upd_same
theorem eqv_nilT (ds : List PyData) : PyData.eqv (.tuple ds) (.tuple []) = ds.isEmpty := by
  cases ds <;> simp [PyData.eqv, PyData.eqvAll]
theorem del_tup {H : Hp} {p a : Addr} {b : Nat} {xs : List V} (S : Src H p b) (e : H a = some (.tup xs)) : del H p a = some (.tup xs) := by
  rw [del_ne (src_ne S e (fun xs z => by cases z))]
  exact e
theorem del_lstS {H : Hp} {p a : Addr} {b : Nat} {x : Str} {xs : List V} (S : Src H p b) (e : H a = some (.lst (.str x :: xs))) : del H p a = some (.lst (.str x :: xs)) := by
  have n : a ≠ p := fun z => by
    obtain ⟨c, m, r, e2, _⟩ := S
    rw [z, e2] at e
    cases e
  rw [del_ne n]
  exact e
theorem del_up {H H' : Hp} {p : Addr} (s : Same H H') : Same (del H p) (del H' p) := same_del (del_same.trans s) del_at
section
variable {H : Hp} {n : Nat} {a : Addr} {u v w x : V}
theorem tqS {z : Str} (h : Word z) : Tq H n (.str z) := ⟨_, .str h⟩
theorem tqI (i : Int) : Tq H n (.int i) := ⟨_, .int i⟩
theorem tqN : Tq H n .non := ⟨_, .non⟩
theorem tqB (b : Bool) : Tq H n (.bl b) := ⟨_, .bl b⟩
theorem tq0 (e : H a = some (.tup [])) : Tq H (n + 1) (.ref a) := ⟨_, .tup e (by decide) .nil⟩
theorem tq2 (e : H a = some (.tup [u, v])) (h1 : Tq H n u) (h2 : Tq H n v) : Tq H (n + 1) (.ref a) := let ⟨_, k1⟩ := h1; let ⟨_, k2⟩ := h2; ⟨_, .tup e (by show 2 ≤ 1000; decide) (.cons k1 (.cons k2 .nil))⟩
theorem tq3 (e : H a = some (.tup [u, v, w])) (h1 : Tq H n u) (h2 : Tq H n v) (h3 : Tq H n w) : Tq H (n + 1) (.ref a) := let ⟨_, k1⟩ := h1; let ⟨_, k2⟩ := h2; let ⟨_, k3⟩ := h3; ⟨_, .tup e (by show 3 ≤ 1000; decide) (.cons k1 (.cons k2 (.cons k3 .nil)))⟩
theorem tq4 (e : H a = some (.tup [u, v, w, x])) (h1 : Tq H n u) (h2 : Tq H n v) (h3 : Tq H n w) (h4 : Tq H n x) : Tq H (n + 1) (.ref a) := let ⟨_, k1⟩ := h1; let ⟨_, k2⟩ := h2; let ⟨_, k3⟩ := h3; let ⟨_, k4⟩ := h4; ⟨_, .tup e (by show 4 ≤ 1000; decide) (.cons k1 (.cons k2 (.cons k3 (.cons k4 .nil))))⟩
theorem tl1 (e : H a = some (.lst [u])) (h1 : Tq H n u) : Tq H (n + 1) (.ref a) := let ⟨_, k1⟩ := h1; ⟨_, .lst e (by show 1 ≤ 1000; decide) (.cons k1 .nil)⟩
theorem tl3 (e : H a = some (.lst [u, v, w])) (h1 : Tq H n u) (h2 : Tq H n v) (h3 : Tq H n w) : Tq H (n + 1) (.ref a) := let ⟨_, k1⟩ := h1; let ⟨_, k2⟩ := h2; let ⟨_, k3⟩ := h3; ⟨_, .lst e (by show 3 ≤ 1000; decide) (.cons k1 (.cons k2 (.cons k3 .nil)))⟩
end
theorem td_mono {H : Hp} {n : Nat} {x : V} {d : PyData} (h : Td H n x d) : ∀ k, Td H (n + k) x d
  | 0 => h
  | k + 1 => td_up (td_mono h k)
theorem tds_items {K : PySem.W.Frag} {H : Hp} : ∀ {n : Nat} {xs : List V} {ds : List PyData}, n ≤ 8 → Tds H n xs ds → ∀ y ∈ xs, Item K H y
  | _, _, _, _, .nil, _, hy => by cases hy
  | n, _, _, l, .cons h t, y, hy => by
    rcases List.mem_cons.mp hy with rfl | hy
    · have k := td_dp (K := K) h
      exact ⟨td_known h, _, k.1, k.2.1, Nat.le_trans k.2.2 l⟩
    · exact tds_items l t y hy
theorem td_thing {K : PySem.W.Frag} {H : Hp} {n : Nat} {x : V} {d : PyData} (l : n ≤ 8) (h : Td H n x d) : Thing K H x := by
  cases h with
  | non => exact thing_flat (fun a e => by cases e) (.base .non) (by decide +kernel)
  | bl b => exact thing_flat (fun a e => by cases e) (.base (.bl b)) (by decide +kernel)
  | int i => exact thing_flat (fun a e => by cases e) (.base (.int i)) (by decide +kernel)
  | str h => exact thing_str _
  | lst e _ _ => exact thing_lst e
  | tup e le ts => exact .inl ⟨_, _, rfl, .inl e, le, tds_items (by omega) ts⟩
/-! methods -/
def strsD (ds : List PyData) : List Str := ds.filterMap fun | .str z => some z | _ => none
def rowD : PyData → Bool
  | .tuple ds => ds.all nmD && decide (((seen (strsD ds)).length : Int) = ds.length) && decide ((ds.length : Int) ≤ 4)
  | _ => false
def wordsD : PyData → Bool
  | .tuple ds => ds.all nmD && decide ((ds.length : Int) ≤ 4)
  | _ => false
def nilD : PyData → Bool
  | .tuple [] => true
  | _ => false
def methD : PyData → Bool
  | .tuple [t, b, .none, a] => rowD t && wordsD b && wordsD a && nilD a
  | .tuple [t, b, p, a] => rowD t && wordsD b && wordsD a && rowD p
  | _ => false
theorem td_nm {H : Hp} {n : Nat} {x : V} {d : PyData} (h : Td H n x d) : nameV x = nmD d := by
  cases h <;> rfl
theorem tds_nms {H : Hp} : ∀ {n : Nat} {xs : List V} {ds : List PyData}, Tds H n xs ds → xs.all nameV = ds.all nmD ∧ strsOf xs = strsD ds
  | _, _, _, .nil => ⟨rfl, rfl⟩
  | _, _, _, .cons (x := x) (d := d) h t => by
    obtain ⟨i1, i2⟩ := tds_nms t
    refine ⟨by rw [List.all_cons, List.all_cons, i1, td_nm h], ?_⟩
    cases h <;> simp [strsOf, strsD] at i2 ⊢ <;> exact i2
theorem tupOf_lst {H : Hp} {a : Addr} {xs : List V} (h : H a = some (.lst xs)) : tupOf H (.ref a) = none := by
  show (match H a with | some (.tup xs) => some xs | some (.frz _ (.tup xs)) => some xs | _ => none) = none
  rw [h]
def namesD : PyData → Bool
  | .tuple ds => ds.all nmD
  | _ => false
theorem td_row {H : Hp} {n : Nat} {x : V} {d : PyData} (h : Td H n x d) : rowV H x = rowD d := by
  cases h with
  | tup e l ts =>
    unfold rowV
    rw [tupOf_at (.inl e)]
    obtain ⟨i1, i2⟩ := tds_nms ts
    show (diffV _ && _) = _
    unfold diffV
    rw [i1, i2, tds_len ts]
    rfl
  | lst e l ts =>
    unfold rowV
    rw [tupOf_lst e]
    rfl
  | _ => rfl
theorem td_names {H : Hp} {n : Nat} {x : V} {d : PyData} (h : Td H n x d) : namesV H x = namesD d := by
  cases h with
  | tup e l ts =>
    unfold namesV
    rw [tupOf_at (.inl e)]
    exact (tds_nms ts).1
  | lst e l ts =>
    unfold namesV
    rw [tupOf_lst e]
    rfl
  | _ => rfl
end Nb

set_option Elab.async false
set_option maxRecDepth 100000
set_option maxHeartbeats 4000000
/-! repr of small data, where no repr is under way. -/
namespace Nb
open PySem L2
def okR (w : Nat) (d : PyData) : Prop := d.showable = true ∧ d.intsShort 13 = true ∧ d.weight ≤ w
/-- small data: w is its weight at most -/
def Tw (H : Hp) (n w : Nat) (v : V) : Prop := ∃ d, Td H n v d ∧ okR w d
section
variable {H H' : Hp} {n w : Nat} {v : V}
theorem tw_same (s : Same H H') (h : Tw H n w v) : Tw H' n w v := let ⟨d, k, o⟩ := h; ⟨d, td_same s k, o⟩
theorem tw_up (h : Tw H n w v) (k : Nat) : Tw H (n + k) w v := let ⟨d, t, o⟩ := h; ⟨d, td_mono t k, o⟩
theorem tw_mono (h : Tw H n w v) {u : Nat} (l : w ≤ u) : Tw H n u v := let ⟨d, t, o⟩ := h; ⟨d, t, o.1, o.2.1, Nat.le_trans o.2.2 l⟩
theorem tw_non : Tw H n w .non := ⟨_, .non, rfl, rfl, by simp [PyData.weight]⟩
theorem tw_bl (b : Bool) : Tw H n w (.bl b) := ⟨_, .bl b, rfl, rfl, by simp [PyData.weight]⟩
theorem tw_str {z : Str} (h : Word z) (l : z.length ≤ w) : Tw H n w (.str z) := ⟨_, .str h, rfl, rfl, l⟩
theorem tw_int {i : Int} (h : okR w (.int i)) : Tw H n w (.int i) := ⟨_, .int i, h⟩
theorem tw_all : ∀ {xs : List V}, (∀ x ∈ xs, Tw H n w x) → ∃ ds, Tds H n xs ds ∧ PyData.showableAll ds = true ∧ PyData.intsShortAll 13 ds = true ∧ PyData.weightAll ds ≤ (w + 1) * xs.length
  | [], _ => ⟨[], .nil, rfl, rfl, by simp [PyData.weightAll]⟩
  | x :: xs, h => by
    obtain ⟨d, t, o1, o2, o3⟩ := h x (List.mem_cons_self ..)
    obtain ⟨ds, ts, p1, p2, p3⟩ := tw_all (xs := xs) fun y hy => h y (List.mem_cons_of_mem _ hy)
    refine ⟨d :: ds, .cons t ts, by simp [PyData.showableAll, o1, p1], by simp [PyData.intsShortAll, o2, p2], ?_⟩
    simp only [PyData.weightAll, List.length_cons, Nat.mul_add]
    omega
theorem tw_tup {a : Addr} {xs : List V} (e : H a = some (.tup xs)) (l : xs.length ≤ 1000) (h : ∀ x ∈ xs, Tw H n w x) : Tw H (n + 1) ((w + 1) * xs.length) (.ref a) := by
  obtain ⟨ds, t, p1, p2, p3⟩ := tw_all h
  exact ⟨.tuple ds, .tup e l t, by simpa [PyData.showable] using p1, by simpa [PyData.intsShort] using p2, by simpa [PyData.weight] using p3⟩
theorem tw_lst {a : Addr} {xs : List V} (e : H a = some (.lst xs)) (l : xs.length ≤ 1000) (h : ∀ x ∈ xs, Tw H n w x) : Tw H (n + 1) ((w + 1) * xs.length) (.ref a) := by
  obtain ⟨ds, t, p1, p2, p3⟩ := tw_all h
  exact ⟨.list ds, .lst e l t, by simpa [PyData.showable] using p1, by simpa [PyData.intsShort] using p2, by simpa [PyData.weight] using p3⟩
end
theorem td_hasDict {H : Hp} : ∀ {n : Nat} {x : V} {d : PyData}, Td H n x d → d.hasDict = false := fun h => PyData.hasDict_of_canLay _ (td_dp (K := []) h).2.1
/-- repr of small data -/
theorem cr_reprD {X : Cx} (g : X.A.guards = some []) (u : X.A.units + 100 < cLine) : CallR X (.builtin "repr") (fun xs H Q => ∃ (x : V) (d : PyData) (n : Nat), xs = [x] ∧ Td H n x d ∧ n ≤ 60 ∧ okR (2 ^ 20) d ∧ Q (.str d.shown) H) := by
  intro pins s σ H xs us Q I r h
  obtain ⟨x, d, n, rfl, hd, hn, o, q⟩ := h
  obtain ⟨v, rfl, rv⟩ := vals1 r
  obtain ⟨k1, k2, k3⟩ := td_dp (K := X.K) hd
  obtain ⟨as, rd⟩ := Dp.reads I d x v k1 rv
  have lay : PyData.layable0 d = true := by
    unfold PyData.layable0
    rw [k2, decide_eq_true (show d.depth ≤ 64 by omega), decide_eq_true o.2.2]
    rfl
  have sz : d.shown.length ≤ sizeLine := Nat.le_trans (PyProof.Rows.shown_le13 lay o.2.1) (by decide)
  have nd := td_hasDict hd
  have byRef : ∀ a : Addr, v = .ref a → wpAny (model X.prog X.w) X.A (call (.builtin "repr") [v]) (EP X pins σ Q) X.xe s := fun a e => by
    subst e
    exact repr_of_reads' rd o.1 (fun z => by rw [nd] at z; cases z) g (by omega) (fun _ _ e => e) (fun h' t tk hk => ⟨.str d.shown, H, I.kept (t' := tk) hk, ⟨_, rfl⟩, q⟩) sz
  cases hd with
  | non =>
    cases (show v = Value.none from rv)
    exact PySem.P.repr_of_none ⟨.str _, H, I.tok _, ⟨_, rfl⟩, q⟩
  | bl b =>
    cases (show v = Value.bool b from rv)
    exact PySem.P.repr_of_bool ⟨.str _, H, I.tok _, ⟨_, rfl⟩, q⟩
  | int i =>
    obtain ⟨t, rfl⟩ := rv
    exact PySem.P.repr_of_int (of_decide_eq_true o.1) ⟨.str _, H, I.tok _, ⟨_, rfl⟩, q⟩
  | str z =>
    obtain ⟨t, rfl⟩ := rv
    exact PySem.P.repr_of_str ⟨.str _, H, I.tok _, ⟨_, rfl⟩, q⟩ sz
  | lst e l ts => exact byRef _ rv
  | tup e l ts => exact byRef _ rv
/-- repr of small data, or of an empty dict -/
theorem cr_reprX {X : Cx} (g : X.A.guards = some []) (u : X.A.units + 100 < cLine) : CallR X (.builtin "repr") (fun xs H Q => (∃ (x : V) (d : PyData) (n : Nat), xs = [x] ∧ Td H n x d ∧ n ≤ 60 ∧ okR (2 ^ 20) d ∧ Q (.str d.shown) H) ∨
    ∃ a, xs = [.ref a] ∧ H a = some (.dK []) ∧ Q (.str (PyData.dict []).shown) H) := by
  intro pins s σ H xs us Q I r h
  rcases h with h | ⟨a, rfl, e, q⟩
  · exact cr_reprD g u pins s σ H xs us Q I r h
  · obtain ⟨v, rfl, rv⟩ := vals1 r
    cases rv
    have ho : ObjOk X.prog X.w H s.heap a (.dK []) := I.hok a _ e
    obtain ⟨_, nm, vs, kv, o, es, ep, e1, e2, e3, _, e5, _⟩ := ho
    cases kv
    have e6 : es.toList = [] := by
      cases hz : es.toList with
      | nil => rfl
      | cons z zs =>
        rw [hz] at e5
        cases e5
    have rd : Reads s.heap (.ref a) (.dict []) (a :: [] ++ []) := .dict e1 e2.1 e3 (by rw [e6]; exact .nil) (by rw [e6]; exact .nil)
    have dz : (PyData.dict []).depth ≤ 10 := by decide +kernel
    refine repr_of_reads' rd rfl (fun _ hm => ?_) g (by omega) (fun _ _ e => e) (fun h' t tk hk => ⟨.str _, H, I.kept (t' := tk) hk, ⟨_, rfl⟩, q⟩) (by decide +kernel)
    have : sysModules = a := by simpa using hm
    rw [this] at nm
    simp at nm
end Nb

set_option Elab.async false
set_option maxRecDepth 100000
set_option maxHeartbeats 4000000
/-! Rows of names as the laws make them, each a tuple known to its object. -/
namespace Nb
open PySem
open L2 hiding del del_ne del_same
theorem hu65 {A : PySem.Around} {k : Nat} (hr : Room k A) : A.units + 65 < PySem.cLine := by
  have := hr.un
  omega
theorem seqIx {j n : Nat} (h : j < n) : PySem.seqIndex? (j : Int) n = some j := by
  have e : PySem.seqIndex? (j : Int) n = if (decide (0 ≤ (if (j : Int) < 0 then (j : Int) + n else (j : Int))) && decide ((if (j : Int) < 0 then (j : Int) + n else (j : Int)) < n)) = true then some (if (j : Int) < 0 then (j : Int) + n else (j : Int)).toNat else none := rfl
  rw [e, if_neg (show ¬ ((j : Int) < 0) by omega), if_pos (by simp; omega), Int.toNat_natCast]
theorem erase_map (l : List Str) (j : Nat) : (l.map V.str).eraseIdx j = (l.eraseIdx j).map V.str := by
  induction l generalizing j with
  | nil => rfl
  | cons x l ih =>
    cases j with
    | zero => rfl
    | succ j =>
      show V.str x :: (l.map V.str).eraseIdx j = V.str x :: (l.eraseIdx j).map V.str
      rw [ih]
theorem erase_perm {l : List Str} {j : Nat} (h : j < l.length) : (l[j] :: l.eraseIdx j).Perm l := by
  induction l generalizing j with
  | nil => simp at h
  | cons x l ih =>
    cases j with
    | zero => exact List.Perm.refl _
    | succ j =>
      have hj : j < l.length := by simpa using h
      show (l[j] :: x :: l.eraseIdx j).Perm (x :: l)
      exact (List.Perm.swap x l[j] _).trans ((ih hj).cons x)
theorem dps_strs {K : PySem.W.Frag} {H : Hp} : ∀ zs : List Str, DpAll K H (zs.map V.str) (zs.map PyData.str)
  | [] => .nil
  | z :: zs => .cons (.str z) (dps_strs zs)
theorem fine_strs {zs : List Str} (h : ∀ z ∈ zs, Word z) : Fine 1 (.list (zs.map PyData.str)) := fine_list fun d hd => by
  obtain ⟨z, hz, rfl⟩ := List.mem_map.mp hd
  exact fine_str (h z hz).2
/-- where a value stands in a row, or -1 -/
def spotI (row : List Str) (d : PyData) : Int := match place row d with
  | some j => (j : Nat)
  | none => -1
theorem any_place (row : List Str) (d : PyData) : ((row.map PyData.str).any fun z => PyData.eqv z d) = (place row d).isSome := by
  rw [List.any_map]
  cases d with
  | str x =>
    show row.any ((fun z => PyData.eqv z (.str x)) ∘ PyData.str) = (row.findIdx? (· == x)).isSome
    rw [List.findIdx?_isSome]
    congr 1
  | _ =>
    show row.any _ = false
    rw [List.any_eq_false]
    intro z _
    simp [PyData.eqv]
def badK (i j : Int) (k : Nat) : Bool := if k = 0 then decide (i < 0) else decide (j < 0) || decide (j ≤ i)
theorem before_spots (row : List Str) (a b : PyData) : ((List.range 2).filter (badK (spotI row a) (spotI row b))).isEmpty = before row a b := by
  have e : ((List.range 2).filter (badK (spotI row a) (spotI row b))).isEmpty = (!badK (spotI row a) (spotI row b) 0 && !badK (spotI row a) (spotI row b) 1) := by
    show (([0, 1] : List Nat).filter _).isEmpty = _
    cases h0 : badK (spotI row a) (spotI row b) 0 <;> cases h1 : badK (spotI row a) (spotI row b) 1 <;> simp [List.filter, h0, h1]
  rw [e]
  unfold badK spotI before
  cases ha : place row a with
  | none => simp
  | some i =>
    cases hb : place row b with
    | none => simp
    | some j =>
      simp
      rw [Bool.eq_iff_iff]
      simp
theorem dps_ints {K : PySem.W.Frag} {H : Hp} (ns : List Int) : DpAll K H (ns.map V.int) (ns.map PyData.int) := dp_ints ns
theorem good_words {row : List Str} (h : GoodRow row) : ∀ z ∈ row, Word z := fun z hz => (h.2.1 z hz).2
theorem fine_row {row : List Str} (h : ∀ z ∈ row, Word z) : Fine 1 (.tuple (row.map PyData.str)) := fine_tup fun d hd => by
  obtain ⟨z, hz, rfl⟩ := List.mem_map.mp hd
  exact fine_str (h z hz).2
def RowsL (H : Hp) (as : List Addr) (rows : List (List Str)) : Prop := as.length = rows.length ∧ ∀ (k : Nat) (a : Addr) (row : List Str), as[k]? = some a → rows[k]? = some row → ∃ o, H a = some (.frz o (.tup (row.map V.str))) ∧ TupObj o
theorem rowsL_same {H H' : Hp} {as : List Addr} {rows : List (List Str)} (s : Same H H') (h : RowsL H as rows) : RowsL H' as rows :=
  ⟨h.1, fun k a row e1 e2 => let ⟨o, e3, e4⟩ := h.2 k a row e1 e2; ⟨o, s _ _ e3, e4⟩⟩
theorem rowsL_del {H H' : Hp} {p : Addr} {b : Nat} {as : List Addr} {rows : List (List Str)} (S : Src H p b) (s : Same (del H p) H') (h : RowsL H as rows) : RowsL H' as rows :=
  ⟨h.1, fun k a row e1 e2 => let ⟨o, e3, e4⟩ := h.2 k a row e1 e2; ⟨o, del_get s (src_ne S e3 (fun xs z => by cases z)) e3, e4⟩⟩
theorem rowsL_snoc {H : Hp} {as : List Addr} {rows : List (List Str)} {a : Addr} {row : List Str} {o : PySem.Obj} (h : RowsL H as rows) (e : H a = some (.frz o (.tup (row.map V.str)))) (t : TupObj o) : RowsL H (as ++ [a]) (rows ++ [row]) := by
  refine ⟨by simp [h.1], fun k b r e1 e2 => ?_⟩
  by_cases hk : k < as.length
  · rw [List.getElem?_append_left hk] at e1
    rw [List.getElem?_append_left (by rw [← h.1]; exact hk)] at e2
    exact h.2 k b r e1 e2
  · have e3 : k = as.length := by
      have := (List.getElem?_eq_some_iff.mp e1).1
      simp at this
      omega
    subst e3
    rw [List.getElem?_append_right (Nat.le_refl _)] at e1
    rw [h.1, List.getElem?_append_right (Nat.le_refl _)] at e2
    simp at e1 e2
    subst e1 e2
    exact ⟨o, e, t⟩
theorem good_sub {r s : List Str} (h : GoodRow r) (l : s.Sublist r) : GoodRow s :=
  ⟨h.1.sublist l, fun z hz => h.2.1 z (l.subset hz), Nat.le_trans l.length_le h.2.2⟩
theorem good_perm {r s : List Str} (h : GoodRow r) (l : s.Perm r) : GoodRow s :=
  ⟨l.nodup_iff.mpr h.1, fun z hz => h.2.1 z (l.subset hz), by rw [l.length_eq]; exact h.2.2⟩
theorem cut_strs (ys : List Str) (lo hi : Option Int) : ∃ ws : List Str, cutV (ys.map V.str) lo hi = ws.map V.str ∧ ws.Sublist ys := by
  refine ⟨(ys.drop (HT.sIx (ys.map V.str).length 0 lo)).take (HT.sIx (ys.map V.str).length (ys.map V.str).length hi - HT.sIx (ys.map V.str).length 0 lo), ?_, (List.take_sublist _ _).trans (List.drop_sublist _ _)⟩
  unfold cutV
  rw [List.map_take, List.map_drop]
def eight : List Str := ["a", "b", "c", "d", "node", "f", "box", "h"]
theorem good_eight : GoodRow eight := by
  refine ⟨by decide +kernel, fun z hz => ?_, by decide⟩
  have h1 : eight.all (fun z => isNm z && (decide (z.length ≤ 1000) && PyData.strOk z)) = true := by decide +kernel
  have h2 := List.all_eq_true.mp h1 z hz
  rw [Bool.and_eq_true, Bool.and_eq_true, decide_eq_true_eq] at h2
  exact h2
/-- rows of names, each a tuple of some of the names -/
def spRows : Sp := fun vs H Q _ => ∃ (p : Addr) (m t : Nat) (free : Bool) (b : Nat) (F : Hp), vs = [.ref p, .int m, .int t, .bl free] ∧ m ≤ 10 ∧ t ≤ 20 ∧ Src H p b ∧ b ≤ 800000 ∧ F p = none ∧ Same F H ∧
  ∀ (H' : Hp) (l : Addr) (as : List Addr) (rows : List (List Str)), Same F H' → F l = none → l ≠ p → H' l = some (.lst (as.map V.ref)) → RowsL H' as rows → rows.length = m → (∀ row ∈ rows, GoodRow row) → Src H' p (b + 8 + 17 * m) → Q (.ref l) H'
/-- the same texts in another order, as a new list -/
def spMixed : Sp := fun vs H Q _ => ∃ (p l : Addr) (zs : List Str) (b : Nat) (F : Hp), vs = [.ref p, .ref l] ∧ F l = some (.lst (zs.map V.str)) ∧ zs.length ≤ 20 ∧ (∀ z ∈ zs, Word z) ∧ Src H p b ∧ b ≤ 900000 ∧ F p = none ∧ Same F H ∧
  ∀ (H' : Hp) (l' : Addr) (ys : List Str), Same F H' → F l' = none → l' ≠ p → H' l' = some (.lst (ys.map V.str)) → ys.Perm zs → Src H' p (b + zs.length) → Q (.ref l') H'
theorem cr_tupleFS {X : Cx} : CallR X (.type "tuple") (fun xs H Q => ∃ p ys, xs = [.ref p] ∧ SqL X.K H p ys ∧ ∀ H2 l o, Same H H2 → H l = none → H2 l = some (.frz o (.tup ys)) → TupObj o → Q (.ref l) H2) :=
  CallR.to cr_tupleF fun xs H Q ⟨p, ys, e, h, q⟩ => ⟨p, ys, e, h, fun l o nl t => q _ l o (same_new nl) nl upd_same t⟩
/-- repr of lists and tuples that are read -/
theorem cr_reprP {X : Cx} (g : X.A.guards = some []) (u : X.A.units + 100 < cLine) : CallR X (.builtin "repr") (fun xs H Q => ∃ (p : Addr) (d : PyData), xs = [.ref p] ∧ Dp X.K H (.ref p) d ∧ d.canLay0 = true ∧ d.depth ≤ 60 ∧ okR (2 ^ 20) d ∧ Q (.str d.shown) H) := by
  intro pins s σ H xs us Q I r h
  obtain ⟨p, d, rfl, k1, k2, k3, o, q⟩ := h
  obtain ⟨v, rfl, rv⟩ := vals1 r
  cases rv
  obtain ⟨as, rd⟩ := Dp.reads I d (.ref p) (.ref p) k1 rfl
  have lay : PyData.layable0 d = true := by
    unfold PyData.layable0
    rw [k2, decide_eq_true (show d.depth ≤ 64 by omega), decide_eq_true o.2.2]
    rfl
  have sz : d.shown.length ≤ sizeLine := Nat.le_trans (PyProof.Rows.shown_le13 lay o.2.1) (by decide)
  have nd := PyData.hasDict_of_canLay _ k2
  exact repr_of_reads' rd o.1 (fun z => by rw [nd] at z; cases z) g (by omega) (fun _ _ e => e) (fun h' t tk hk => ⟨.str d.shown, H, I.kept (t' := tk) hk, ⟨_, rfl⟩, q⟩) sz
end Nb

set_option Elab.async false
set_option linter.all false
set_option maxRecDepth 100000
set_option maxHeartbeats 4000000
/-! Rows of at most a hundred names. -/
namespace Nb
open PySem
open L2 hiding del del_ne del_same
def LongRow (row : List Str) : Prop := row.Nodup ∧ (∀ z ∈ row, isNm z = true ∧ Word z) ∧ row.length ≤ 100
theorem long_diff {row : List Str} (h : LongRow row) : diffV (row.map V.str) = true := by
  unfold diffV
  have h1 : (row.map V.str).all nameV = true := List.all_map ▸ List.all_eq_true.mpr fun z hz => (h.2.1 z hz).1
  have h2 : seen row = row := by simpa [seen] using seen_nodup row [] (by simpa using h.1)
  rw [h1, strsOf_map, h2]
  simp
theorem long_thing {K : PySem.W.Frag} {H : Hp} {a : Addr} {row : List Str} (h : LongRow row) (e : Rd H a (.tup (row.map V.str))) : Thing K H (.ref a) :=
  .inl ⟨a, _, rfl, e, by rw [List.length_map]; exact Nat.le_trans h.2.2 (by decide), fun y hy => let ⟨z, hz, e⟩ := List.mem_map.mp hy; e ▸ (h.2.1 z hz).2.item⟩
theorem long_words {row : List Str} (h : LongRow row) : ∀ z ∈ row, Word z := fun z hz => (h.2.1 z hz).2
theorem long_sub {r s : List Str} (h : LongRow s) (k : r.Sublist s) : LongRow r := ⟨h.1.sublist k, fun z hz => h.2.1 z (k.subset hz), Nat.le_trans k.length_le h.2.2⟩
def RowsR (H : Hp) (as : List Addr) (rows : List (List Str)) : Prop := as.length = rows.length ∧ ∀ (k : Nat) (a : Addr) (row : List Str), as[k]? = some a → rows[k]? = some row → Rd H a (.tup (row.map V.str))
theorem rowsR_same {H H' : Hp} {as : List Addr} {rows : List (List Str)} (s : Same H H') (h : RowsR H as rows) : RowsR H' as rows := ⟨h.1, fun k a row e1 e2 => rd_same s (h.2 k a row e1 e2)⟩
end Nb

set_option Elab.async false
set_option linter.all false
set_option maxRecDepth 100000
set_option maxHeartbeats 2000000
/-! ==, +, len and truth by a class's own methods. -/
namespace Nb
open PySem PySem.Spec PyProof.Rows
open L2 hiding del del_ne del_same
section
variable {X : Cx} {CX : CXT} {n : Nat} {f : Addr} {fd : FuncData} {ps : List Str} {sp : Sp} {E : XK} {A : Around} {pins : List (Addr × Obj)} {σ : L2.St} {H : Hp} {s : Shared} {Q : VK} {vs : List V} {us : List Value}
/-- an own def, called from within a builtin -/
theorem own_run (F : FnOk X.prog X.w X.K X.mg X.base CX n f fd ps sp) (hb : Binds X.K fd ps []) (hx : Passes CX X E) (sb : L2.Sub X n A) (I : Inv X pins σ H s) (r : Vals vs us) (hsp : sp vs H Q E) :
    wpAny (model X.prog X.w) A (call (.ref f) us) (EP X pins σ Q) X.xe s := by
  have e0 : Env0 X.prog X.w X.K X.mg X.base A X.stack s H := by
    have e := I.env0
    exact ⟨by rw [sb.fr]; exact e.frames, e.mod, e.bs, e.bsz, e.funs, e.frf, e.hok, e.bare⟩
  have hl := F.len _ _ _ _ hsp
  have hl2 : us.length = ps.length := by rw [← r.length]; exact hl
  refine wpAny_call (codeAny_mono (F.run A X.stack s H ⟨us, []⟩ us vs _ E sb.room e0 (by
    have := hb s us I.kIn (by simpa using hl2)
    simpa using this) r hsp) fun r s' hq => ?_)
  cases r with
  | error e => exact hx pins σ H s e s' I hq
  | ok fl =>
    cases fl with
    | ret w => exact I.after hq
    | next => exact False.elim hq
    | brk => exact False.elim hq
    | cont => exact False.elim hq
/-- a method that is asked by its name in the class -/
structure Om (X : Cx) (CX : CXT) (n : Nat) (C : Addr) (m : Str) (ps : List Str) (sp : Sp) : Prop where
  ex : ∃ (f : Addr) (fd : FuncData), PySem.W.findIn X.K (.ref C) m = some (some (.ref f)) ∧ PySem.W.isFn X.K (.ref f) = true ∧ Binds X.K fd ps [] ∧ FnOk X.prog X.w X.K X.mg X.base CX n f fd ps sp
theorem Mn.om {m : Str} {C : Addr} (D : Mn X.prog X.w X.K X.mg X.base CX n C m ps sp) : Om X CX n C m ps sp := let ⟨f, fd, M, b, F⟩ := D.ex; ⟨f, fd, M.at_, M.fn, b, F⟩
/-- x == y by the own __eq__ of x's class, which answers True or False -/
def rEqO (C : Addr) (sp : Sp) (E : XK) (K : PySem.W.Frag) : R2 := fun x y H Q => ∃ a b dx fs D dy gs, x = .ref a ∧ y = .ref b ∧ H a = some (.ins C dx fs) ∧ H b = some (.ins D dy gs) ∧ PySem.W.notFirst K C (.ref D) = true ∧
  sp [.ref a, .ref b] H (fun v H' => ∃ c, v = .bl c ∧ Q (.bl c) H') E
theorem op_eqO {C : Addr} (O : Om X CX n C "__eq__" ps sp) (hr : Room n X.A) (hx : Passes CX X E) : OpR X (compareOp .Eq) (rEqO C sp E X.K) := by
  intro pins s σ H x y v u Q I rx ry hq
  obtain ⟨a, b, dx, fs, D, dy, gs, rfl, rfl, ha, hb', nf, h⟩ := hq
  obtain ⟨f, fd, hs, hf, hbn, F⟩ := O.ex
  cases rx
  cases ry
  obtain ⟨mA, J, _⟩ := ins_get I.hok ha
  obtain ⟨mB, J', _⟩ := ins_get I.hok hb'
  obtain ⟨od, J, _⟩ := J.look
  obtain ⟨od', J', _⟩ := J'.look
  obtain ⟨m, hF⟩ := I.fr
  show wpAny (model X.prog X.w) X.A (richCompare .Eq (.ref a) (.ref b)) (EP X pins σ Q) X.xe s
  refine PySem.W.cmp_K (op := .Eq) (tb := .ref D) hr.units0 hF I.ok.mod.kin J J'.type nf hs hf ?_
  refine wpAny_mono (own_run (vs := [.ref a, .ref b]) F hbn hx ⟨hr, rfl⟩ I (.cons rfl (.cons rfl .nil)) h) (fun r s' z => ?_) fun _ _ e => e
  obtain ⟨v, H', I', rz, c, ez, q⟩ := z
  subst ez
  cases rz
  exact ⟨.bl c, H', I', rfl, q⟩
/-- len(x) by the own __len__ -/
theorem call_lenO {C : Addr} (O : Om X CX n C "__len__" ps sp) (hr : Room (n + 1) X.A) (hx : Passes CX X E) : CallR X (.builtin "len") (fun xs H Q => ∃ a dx fs, xs = [.ref a] ∧ H a = some (.ins C dx fs) ∧ sp [.ref a] H (fun v H' => ∃ k : Int, v = .int k ∧ 0 ≤ k ∧ k < 2 ^ 63 ∧ Q (.int k) H') E) := by
  intro pins s σ H xs us Q I r h
  obtain ⟨a, dx, fs, rfl, ha, h⟩ := h
  obtain ⟨f, fd, hs, hf, hbn, F⟩ := O.ex
  obtain ⟨u, rfl, rx⟩ := vals1 r
  cases rx
  obtain ⟨mA, J, _⟩ := ins_get I.hok ha
  obtain ⟨od, J, _⟩ := J.look
  obtain ⟨m, hF⟩ := I.fr
  refine PySem.W.len_K hF I.ok.mod.kin J hs hf ?_
  refine wpAny_mono (own_run (vs := [.ref a]) F hbn hx (L2.Sub.in1 ⟨hr, rfl⟩) I (.cons rfl .nil) h) (fun r s' z => ?_) fun _ _ e => e
  obtain ⟨v, H', I', rz, k, ez, k0, k1, q⟩ := z
  subst ez
  obtain ⟨t, rfl⟩ := rz
  exact ⟨⟨k0, k1⟩, .int k, H', I'.tok _, ⟨_, rfl⟩, q⟩
end
/-! ### calls of two or more arguments, some of them with a star -/
theorem evalArgs_two {M : Model} {A : Around} {E : Value → Shared → Prop} {s : Shared} {f : Value} {a b : Bool × Sem Value} {rest : List (Bool × Sem Value)} {Q : Args → Shared → Prop}
    (h : wpAny M A (spliced (a :: b :: rest)) (fun vs s' => Q ⟨vs, []⟩ s') E s) : wpAny M A (evalArgs f true (a :: b :: rest) []) Q E s := by
  obtain ⟨c, x⟩ := a
  unfold evalArgs
  cases c
  · show wpAny M A (spliced ((false, x) :: b :: rest) >>= _) Q E s
    refine wpAny_bind (wpAny_mono h (fun vs s' h' => ?_) fun _ _ x => x)
    exact wpAny_holding (wpAny_bind (wpAny_pure (wpAny_bind (wpAny_pure (wpAny_pure h')))))
  · show wpAny M A (spliced ((true, x) :: b :: rest) >>= _) Q E s
    refine wpAny_bind (wpAny_mono h (fun vs s' h' => ?_) fun _ _ x => x)
    exact wpAny_holding (wpAny_bind (wpAny_pure (wpAny_bind (wpAny_pure (wpAny_pure h')))))
/-- x( *a, b, ..): a def with a star of its own, stars among two or more arguments -/
theorem pe_Rmix {X : Cx} {CX : CXT} {k : Nat} {sp : Sp} {E : XK} {x : Str} {p pos : Pos} {e e2 : Expr} {es : List Expr} {t : TA} {b1 b2 : Bool} {y1 y2 : Sem Value} {r1 : List (Bool × Sem Value)} (D : Dr X.prog X.w X.K X.mg X.base CX k x sp) (hr : Room k X.A) (hg : Gl X x) (hx : Passes CX X E) (ha : PA X (e :: e2 :: es) t)
    (hdb : (x == ("__debug__" : Str)) = false := by decide) (he : backTo pos (starEach (e :: e2 :: es) X.env) = (b1, y1) :: (b2, y2) :: r1 := by rfl) (hst : ((b1, y1) :: (b2, y2) :: r1).any (·.1) = true := by rfl) : PE X (.Call (.Name x p) (e :: e2 :: es) [] pos) (tR sp E t) := by
  obtain ⟨f, kp, g, F⟩ := D.ex
  refine ⟨fun pins s σ H Q I h => ?_⟩
  refine wpAny_Call_Name_kw (ld_glob I hg g ?_ hdb)
  have run := ha.run pos pins s σ H _ I h
  rw [he] at run ⊢
  exact PySem.W.ks_call hst (PySem.W.keeps_K kp) (evalArgs_two (thn run fun us s1 ⟨vs, H1, I1, r, q⟩ => ⟨I1.kIn, wpAny_call (run_fnR F hr hx I1 r q)⟩))
end Nb

set_option Elab.async false
set_option linter.all false
set_option maxRecDepth 100000
set_option maxHeartbeats 4000000
/-! Methods with a star, methods called with a star, properties, own membership; each with all that a caller must know. -/
namespace Nb
open PySem PySem.Spec PyProof.Rows
open L2 hiding del del_ne del_same
/-- a method whose promise is of the positional arguments -/
structure Ms (P : Program) (w : World) (K : PySem.W.Frag) (mg : Str → Option Value) (base : Heap) (CX : CXT) (k : Nat) (C : Addr) (m : Str) (sp : Sp) : Prop where
  ex : ∃ f : Addr, Meth K C m f ∧ FnR P w K mg base CX k f sp
/-- a method that is called with a star -/
structure Mb (P : Program) (w : World) (K : PySem.W.Frag) (mg : Str → Option Value) (base : Heap) (CX : CXT) (k : Nat) (C : Addr) (m : Str) (g : Addr) (sp : Sp) : Prop where
  b : BMeth K C m g
  F : FnR P w K mg base CX k g sp
/-- a property -/
structure Pr (P : Program) (w : World) (K : PySem.W.Frag) (mg : Str → Option Value) (base : Heap) (CX : CXT) (k : Nat) (C : Addr) (m : Str) (sp : Sp) : Prop where
  ex : ∃ (p g : Addr) (fd : FuncData), PropOf K C m p g ∧ Binds K fd ["self"] [] ∧ FnOk P w K mg base CX k g fd ["self"] sp
/-- a def with a star that is also handed on as a value: it stands at f -/
structure Df (P : Program) (w : World) (K : PySem.W.Frag) (mg : Str → Option Value) (base : Heap) (CX : CXT) (k : Nat) (x : Str) (f : Addr) (sp : Sp) : Prop where
  kp : PySem.W.keepIn K (.ref f) = true
  g : mg x = some (.ref f)
  F : FnR P w K mg base CX k f sp
theorem Df.dr {P : Program} {w : World} {K : PySem.W.Frag} {mg : Str → Option Value} {base : Heap} {CX : CXT} {k : Nat} {x : Str} {f : Addr} {sp : Sp} (D : Df P w K mg base CX k x f sp) : Dr P w K mg base CX k x sp := ⟨f, D.kp, D.g, D.F⟩
section
variable {X : Cx} {CX : CXT} {k : Nat} {ps : List Str} {sp : Sp} {E : XK} {x m : Str} {p pos apos : Pos} {o e e1 e2 : Expr} {es : List Expr} {ta t1 t2 : TE} {t : TA} {C : Addr}
def tMs (C : Addr) (m : Str) (sp : Sp) (E : XK) (ta : TE) (t : TA) : TE := fun σ H Q => ta σ H fun x H1 => ∃ a dx fs, x = .ref a ∧ H1 a = some (.ins C dx fs) ∧ fs.lookup m = none ∧ t σ H1 fun vs H2 => sp (.ref a :: vs) H2 Q E
theorem pe_Ms {pl : Sem Bool} (D : Ms X.prog X.w X.K X.mg X.base CX k C m sp) (c : Cls X.K C) (he : PE X o ta) (hr : Room k X.A) (hx : Passes CX X E) (ha : PA X (e :: es) t)
    (hst : starEach (e :: es) X.env = (false, eval e X.env) :: starEach es X.env := by rfl) (hpl : (backTo pos (starEach es X.env)).any (·.1) = false := by rfl)
    (ht : eval (.Call (.Attribute o m apos) (e :: es) [] pos) X.env = (do
      let ov ← eval o X.env
      standAt apos.atName
      let (f, first) ← holding [ov] (getMethod ov m pl)
      callWith pos f first (backTo pos (starEach (e :: es) X.env)) (backToKw pos (keywordEach [] X.env))) := by rfl) : PE X (.Call (.Attribute o m apos) (e :: es) [] pos) (tMs C m sp E ta t) := by
  obtain ⟨f, hm, F⟩ := D.ex
  refine ⟨fun pins s σ H Q I h => ?_⟩
  refine PySem.W.methodCall_KW (pl := pl) (thn (he.run pins s σ H _ I h) fun u s1 ⟨x, H1, I1, rx, a, dx, fs, ex, ea, l, q⟩ => ?_) ht
  subst ex
  obtain rfl : u = Value.ref a := rx
  refine getmeth_ok I1 ea c hm l ?_
  refine PySem.W.callWith_K (first := [.ref a]) (h₀ := X.base) I.ok.mod.kin hm.kp (thn (ha.run pos pins s1 σ H1 _ I1 q) fun us s2 ⟨vs, H2, I2, r, q2⟩ => ⟨I2.kIn, ?_⟩) hst hpl
  exact wpAny_call (run_fnR (us := .ref a :: us) (vs := .ref a :: vs) F hr hx I2 (.cons rfl r) q2)
theorem pe_Mb {g : Addr} (D : Mb X.prog X.w X.K X.mg X.base CX k C m g sp) (c : Cls X.K C) (he : PE X o ta) (hr : Room k X.A)
    (hx : Passes CX X E) (h1 : PE X e1 t1) (h2 : PE X e2 t2) (hbase : attributeBase o m X.env (eval o X.env) = eval o X.env := by rfl)
    (hst : starEach [e1, .Starred e2 p] X.env = [(false, eval e1 X.env), (true, eval e2 X.env)] := by rfl) : PE X (.Call (.Attribute o m apos) [e1, .Starred e2 p] [] pos) (tMethSB X.K C m g sp E ta t1 t2) :=
  pe_methSB he c D.b D.F hr hx h1 h2 hbase hst
theorem pe_P (D : Pr X.prog X.w X.K X.mg X.base CX k C m sp) (c : Cls X.K C) (he : PE X e ta) (hr : Room (k + 1) X.A) (hx : Passes CX X.nox E)
    (hab : attributeBase e m X.env (eval e X.env) = eval e X.env := by rfl) : PE X (.Attribute e m pos) (tProp C sp [] E ta) :=
  let ⟨_, _, _, hp, b, F⟩ := D.ex
  pe_prop he c hp F hr b .nil hx hab
theorem pa_starK {K : PySem.W.Frag} {te : TE} (hK : X.K = K) (he : PE X e te) (hr : PA X es t) (hs : starEach (.Starred e p :: es) X.env = (true, eval e X.env) :: starEach es X.env := by rfl) : PA X (.Starred e p :: es) (StX.tStar K te t) := hK ▸ StX.pa_star he hr hs
/-- y in x, y not in x by the own __contains__ of x's class, which answers True or False -/
def rInO (neg : Bool) (C : Addr) (sp : Sp) (E : XK) : R2 := fun x y H Q => ∃ b dx fs, y = .ref b ∧ H b = some (.ins C dx fs) ∧ sp [.ref b, x] H (fun v H' => ∃ c, v = .bl c ∧ Q (.bl (c != neg)) H') E
theorem op_inO {C : Addr} (O : Om X CX k C "__contains__" ps sp) (hr : Room k X.A) (hx : Passes CX X E) : OpR X (compareOp .In) (rInO false C sp E) := by
  intro pins s σ H x y v u Q I rx ry hq
  obtain ⟨b, dx, fs, rfl, hb', h⟩ := hq
  obtain ⟨f, fd, hs, hf, hbn, F⟩ := O.ex
  cases ry
  obtain ⟨mB, J', _⟩ := ins_get I.hok hb'
  obtain ⟨od', J', _⟩ := J'.look
  obtain ⟨m, hF⟩ := I.fr
  refine PySem.W.in_K hF I.ok.mod.kin J' hs hf ?_
  refine wpAny_mono (own_run (vs := [.ref b, x]) F hbn hx ⟨hr, rfl⟩ I (.cons rfl (.cons rx .nil)) h) (fun r s' z => ?_) fun _ _ e => e
  obtain ⟨v, H', I', rz, c, ez, q⟩ := z
  subst ez
  cases rz
  refine wpAny_pure ⟨_, H', I', ?_, q⟩
  cases c <;> rfl
theorem op_notInO {C : Addr} (O : Om X CX k C "__contains__" ps sp) (hr : Room k X.A) (hx : Passes CX X E) : OpR X (compareOp .NotIn) (rInO true C sp E) := by
  intro pins s σ H x y v u Q I rx ry hq
  obtain ⟨b, dx, fs, rfl, hb', h⟩ := hq
  obtain ⟨f, fd, hs, hf, hbn, F⟩ := O.ex
  cases ry
  obtain ⟨mB, J', _⟩ := ins_get I.hok hb'
  obtain ⟨od', J', _⟩ := J'.look
  obtain ⟨m, hF⟩ := I.fr
  refine PySem.W.notIn_K hF I.ok.mod.kin J' hs hf ?_
  refine wpAny_mono (own_run (vs := [.ref b, x]) F hbn hx ⟨hr, rfl⟩ I (.cons rfl (.cons rx .nil)) h) (fun r s' z => ?_) fun _ _ e => e
  obtain ⟨v, H', I', rz, c, ez, q⟩ := z
  subst ez
  cases rz
  refine wpAny_pure ⟨_, H', I', ?_, q⟩
  cases c <;> rfl
end
/-- def f(a, *v): its promise tells a and the tuple -/
def spStar1 (sp : Sp) : Sp := fun vs H Q E => ∃ a rest, vs = a :: rest ∧ rest.length ≤ 100000 ∧ ∀ p, H p = none → sp [a, .ref p] (upd H p (.tup rest)) Q E
theorem okStar1 {P : Program} {w : World} {K : PySem.W.Frag} {mg : Str → Option Value} {base : Heap} {x qual av pv : Str} {st : Stmt} {f : Addr} {fd : FuncData} {N : List Str} {k : Nat} {sp : Sp} (F : Fun K x qual st f fd) (S : FnScope N [av, pv] (defScope st))
    (hb0 : ∀ (kV doc pm : Value) (an : Option Addr) (cdv ct : Value) (a : Value), bindArgs (PySem.W.fnOf x qual (defArgs st) (defBody st) (defScope st) .none kV doc pm an cdv ct) ⟨[a], []⟩ = (newTuple [] >>= fun t => pure [(av, a), (pv, t)]))
    (hb1 : ∀ (kV doc pm : Value) (an : Option Addr) (cdv ct : Value) (a r : Value) (rs : List Value), bindArgs (PySem.W.fnOf x qual (defArgs st) (defBody st) (defScope st) .none kV doc pm an cdv ct) ⟨a :: r :: rs, []⟩ = (newTuple (r :: rs) >>= fun t => pure [(av, a), (pv, t)]))
    (hlen : ∀ vs H Q E, sp vs H Q E → vs.length = 2)
    (hbody : ∀ (cdv : Value) (A : Around) (outer : List Env) (s : Shared) (H : Hp) (vs : List V) (Q : VK) (E : XK), Room k (A.deeper (PyProof.Rows.envOfC qual (defScope st) s.heap.objs.size f cdv)) → sp vs H Q E →
      ∃ t, PSs (cxOf CX0 P w K mg base N qual (defScope st) f cdv A outer s H E).nox (defBody st) t ∧ t { nx := fun _ H' => Q .non H', rt := Q } (start N vs) H) : FnR P w K mg base CX0 (k + 1) f (spStar1 sp) := by
  obtain ⟨oc, od, kV, doc, pm, an, cdv, ct, osl, rfl, lk, hcd⟩ := F.ex
  refine (StX.fn_star (ps := [av]) (sp := sp) lk hcd S StX.cxUp_none (fun us rest hl => ?_) (fun A outer s H vs Q E hr h => ?_)).imp fun vs H Q E ⟨a, rest, e, l, h⟩ => ⟨[a], rest, e, rfl, line100 l, fun p np => h p np⟩
  · match us, hl with
    | [a], _ =>
      cases rest with
      | nil => exact hb0 kV doc pm an cdv ct a
      | cons r rs => exact hb1 kV doc pm an cdv ct a r rs
  · obtain ⟨t, h, q⟩ := hbody cdv A outer s H vs Q E hr h
    exact ⟨t, h.nox, q⟩
end Nb

set_option Elab.async false
set_option linter.all false
set_option maxRecDepth 100000
set_option maxHeartbeats 4000000
/-! Tuples known to their objects: displays, sums, cuts, turned round. -/
namespace Nb
open PySem PySem.Spec PyProof.Rows
open L2 hiding del del_ne del_same
/-- a tuple without a dict -/
def FtA (H : Hp) (l : Addr) (xs : List V) : Prop := ∃ o, H l = some (.frz o (.tup xs)) ∧ TupObj o
theorem fta_same {H H' : Hp} {l : Addr} {xs : List V} (s : Same H H') (h : FtA H l xs) : FtA H' l xs := let ⟨o, e, t⟩ := h; ⟨o, s _ _ e, t⟩
theorem FtA.rd {H : Hp} {l : Addr} {xs : List V} (h : FtA H l xs) : Rd H l (.tup xs) := let ⟨o, e, _⟩ := h; .inr ⟨o, e⟩
section
variable {X : Cx} {pins : List (Addr × Obj)} {σ : L2.St} {H : Hp} {s : Shared}
/-- a tuple that is pushed -/
theorem push_ft {its : List Value} {xs : List V} {Q : VK} (I : Inv X pins σ H s) (r : Vals xs its) (z : xs.length ≤ sizeLine) (q : ∀ H2 l, Same H H2 → H l = none → FtA H2 l xs → Q (.ref l) H2) :
    EP X pins σ Q (.ref s.heap.objs.size) { s with heap := s.heap.push { cls := .type "tuple", data := .seq its.toArray } } := by
  have new := I.hok.fresh (Nat.le_refl s.heap.objs.size)
  have at_ : (s.heap.push { cls := .type "tuple", data := .seq its.toArray }).get? s.heap.objs.size = some { cls := .type "tuple", data := .seq its.toArray } := Heap.get?_push_size _ rfl
  have J : Inv X pins σ (upd H s.heap.objs.size (.frz { cls := .type "tuple", data := .seq its.toArray } (.tup xs))) { s with heap := s.heap.push { cls := .type "tuple", data := .seq its.toArray } } :=
    I.laid (t' := s.toks) (fun _ _ e => Heap.get?_push_of_some _ e) (Nat.le_refl _) ⟨at_, z, its, r, IsTup.new _ _⟩
  exact ⟨.ref s.heap.objs.size, _, J, rfl, q _ _ (same_new new) new ⟨_, upd_same, rfl, rfl⟩⟩
variable {e : Expr} {es : List Expr} {ta : TA} {te : TE} {pos : Pos}
/-- (e, ..) -/
def tTupF (ta : TA) : TE := fun σ H Q => ta σ H fun vs H1 => vs.length ≤ 100000 ∧ ∀ H2 l, Same H1 H2 → H1 l = none → FtA H2 l vs → Q (.ref l) H2
theorem pe_tupF {c} (h : PA X es ta) : PE X (.Tuple es c pos) (tTupF ta) := by
  refine ⟨fun pins s σ H Q I k => wpAny_Tuple_spliced (thn (h.run pos pins s σ H _ I k) fun us s1 ⟨xs, H1, I1, r, z, q⟩ => ⟨?_, ?_⟩)⟩
  · rw [← r.length]
    exact line100 z
  · exact push_ft I1 r (line100 z) q
/-- t + u -/
def rCatF : R2 := fun x y H Q => ∃ a b xs ys, x = .ref a ∧ y = .ref b ∧ FtA H a xs ∧ FtA H b ys ∧ xs.length + ys.length ≤ 100000 ∧ ∀ H2 p, Same H H2 → FtA H2 p (xs ++ ys) → Q (.ref p) H2
theorem op_catF : OpR X (binaryOp .Add) rCatF := by
  rintro pins s σ H x y v u Q I rx ry ⟨a, b, xs, ys, rfl, rfl, ha, hb, hz, q⟩
  cases rx
  cases ry
  obtain ⟨its, r1, p1, _⟩ := I.tuple (show SqT X.K H a xs from .inl ha.rd)
  obtain ⟨its2, r2, p2, _⟩ := I.tuple (show SqT X.K H b ys from .inl hb.rd)
  cases r1 with
  | nil => exact cat_tup0 p1 p2 ⟨.ref b, _, I, rfl, q H b (Same.refl _) hb⟩
  | @cons x0 u0 xs0 us0 r0 rr =>
    refine HT.cat_tup p1 p2 (fun z => nomatch z) (fun z => ?_) (fun z => ?_) ?_
    · have ey : ys = [] := by
        have := r2.length
        rw [z] at this
        exact List.length_eq_zero_iff.mp this
      refine ⟨.ref a, _, I, rfl, q H a (Same.refl _) ?_⟩
      rw [ey, List.append_nil]
      exact ha
    · exact push_ft I (L2.Vals.append (Paired.cons r0 rr) r2) (by rw [List.length_append]; exact line100 hz) fun H2 l s _ f => q H2 l s f
    · have l1 := (Paired.cons r0 rr).length
      have l2 := r2.length
      rw [← l1, ← l2]
      exact line100 hz
/-- t[lo:hi] -/
def rSlF : V → Option Int → Option Int → Hp → VK → Prop := fun x lo hi H Q => ∃ a xs, x = .ref a ∧ FtA H a xs ∧ xs.length ≤ 100000 ∧ ∀ H2 p, Same H H2 → FtA H2 p (cutV xs lo hi) → Q (.ref p) H2
theorem sl_tupF : SlR X rSlF := by
  rintro pins s σ H x v vl vu lo hi sl Q I rx hs pl pu ⟨a, xs, rfl, hx, hz, q⟩
  cases rx
  obtain ⟨its, r, ht, _⟩ := I.tuple (show SqT X.K H a xs from .inl hx.rd)
  have lz : its.toArray.size = xs.length := by
    rw [List.size_toArray]
    exact r.length.symm
  refine ⟨"tuple", _, PyProof.Rows.slot_tuple_getitem.lookup, ht.typeIs, ?_⟩
  by_cases hw : HT.sIx xs.length 0 lo = 0 ∧ HT.sIx xs.length xs.length hi = xs.length
  · refine getItem_tuple_whole ht hs pl pu (by rw [lz]; exact hw) ⟨.ref a, _, I, rfl, q H a (Same.refl _) ?_⟩
    have : cutV xs lo hi = xs := by
      unfold cutV
      rw [hw.1, hw.2, List.drop_zero, Nat.sub_zero, List.take_length]
    rw [this]
    exact hx
  · refine HT.getItem_tuple_cut ht hs pl pu (by rw [lz]; exact hw) ?_ (by rw [lz]; exact line100 hz)
    rw [lz]
    exact push_ft I ((r.drop _).take _) (Nat.le_trans (cutV_length xs lo hi) (line100 hz)) fun H2 l s _ f => q H2 l s f
/-- t[::-1] -/
def tRevF (te : TE) : TE := fun σ H Q => te σ H fun x H1 => ∃ a xs, x = .ref a ∧ FtA H1 a xs ∧ xs.length ≤ 100000 ∧ ∀ H2 p, Same H1 H2 → FtA H2 p xs.reverse → Q (.ref p) H2
theorem pe_revF {k : Nat} {p1 p2 p3 : Pos} (he : PE X e te) : PE X (.Subscript e (.Slice none none (some (.UnaryOp .USub (.Constant (.int 1) k p1) p2)) p3) pos) (tRevF te) := by
  refine ⟨fun pins s σ H Q I h => Subscript_ (thn (he.run pins s σ H _ I h) fun v s1 ⟨x, H1, I1, r1, a, xs, ex, hx, hz, q⟩ => ?_)⟩
  subst ex
  cases r1
  have back : PO X (some (.UnaryOp .USub (.Constant (.int 1) k p1) p2)) (tPart (tUn (rU fun i => .int (-i)) (tC (.int 1)))) := po_some (pe_un un_neg pe_int)
  refine wpAny_Slice (thn (po_none.run pins s1 σ H1 (fun o H2 => o = none ∧ H2 = H1) I1 ⟨rfl, rfl⟩) fun vl s2 ⟨l, H2, I2, pl, el, e2⟩ => ?_)
  subst el e2
  refine thn (po_none.run pins s2 σ H2 (fun o H3 => o = none ∧ H3 = H2) I2 ⟨rfl, rfl⟩) fun vu s3 ⟨u, H3, I3, pu, eu, e3⟩ => ?_
  subst eu e3
  refine thn (back.run pins s3 σ H3 (fun o H4 => o = some (-1) ∧ H4 = H3) I3 ⟨1, rfl, -1, rfl, rfl, rfl⟩) fun vs s4 ⟨o, H4, I4, ps, eo, e4⟩ => ?_
  subst eo e4
  have I5 : Inv X pins σ H4 { s4 with heap := s4.heap.push { cls := .type "slice", data := .fields #[vl, vu, vs] } } := I4.kept (t' := s4.toks) fun b ob q => Heap.get?_push_of_some _ q
  obtain ⟨its, r, ht, _⟩ := I5.tuple (show SqT X.K H4 a xs from .inl hx.rd)
  have lz := r.length
  show wpAny (model X.prog X.w) X.A (subscriptTail e (.Slice none none (some (.UnaryOp .USub (.Constant (.int 1) k p1) p2)) p3) (.ref a) (.ref s4.heap.objs.size)) (EP X pins σ Q) X.xe { s4 with heap := s4.heap.push { cls := .type "slice", data := .fields #[vl, vu, vs] } }
  refine tail_any (ops := [.ref a, .ref s4.heap.objs.size]) ht.typeIs (PyProof.Rows.slot_tuple_getitem.lookup) ?_ (by with_unfolding_all rfl)
  have h100 := line100 hz
  exact getItem_back ht (Heap.IsSliceOf.new _ vl vu vs) pl pu ps (push_ft I5 r.reverse (by rw [List.length_reverse]; exact h100) fun H2 l s _ f => q H2 l s f) (by rw [List.size_toArray]; omega)
end
end Nb

set_option Elab.async false
set_option linter.all false
set_option maxRecDepth 100000
set_option maxHeartbeats 4000000
/-! Worlds in the heap. -/
namespace Nb
open PySem Nb.Wd
open L2 hiding del del_ne del_same
mutual
/-- data without lists: nothing in it can be changed -/
def noL : PyData → Bool
  | .list _ => false
  | .tuple ds => noLs ds
  | _ => true
def noLs : List PyData → Bool
  | [] => true
  | d :: ds => noL d && noLs ds
end
/-- the methods that are kept -/
def KpAt (H : Hp) (k : Addr) (ds : List PyData) : Prop := ∃ xs, FtA H k xs ∧ xs.length ≤ 1000 ∧ Tds H 5 xs ds
theorem kp_same {H H' : Hp} {k : Addr} {ds : List PyData} (s : Same H H') (h : KpAt H k ds) : KpAt H' k ds := let ⟨xs, f, l, t⟩ := h; ⟨xs, fta_same s f, l, tds_same s t⟩
/-- what is kept of a class: a tuple of its bases, its methods, its line -/
def EnAt (H : Hp) (v : V) (e : En) : Prop := ∃ t b k l, v = .ref t ∧ H t = some (.tup [.ref b, .ref k, .ref l]) ∧ Rd H b (.tup (e.bases.map V.str)) ∧ KpAt H k e.kept ∧ Rd H l (.tup (e.line.map V.str)) ∧ noLs e.kept = true
theorem en_same {H H' : Hp} {v : V} {e : En} (s : Same H H') (h : EnAt H v e) : EnAt H' v e :=
  let ⟨t, b, k, l, e1, e2, e3, e4, e5, e6⟩ := h; ⟨t, b, k, l, e1, s _ _ e2, rd_same s e3, kp_same s e4, rd_same s e5, e6⟩
/-- the dict of a world -/
def KvAt (H : Hp) (kvs : List (Key × V)) (es : Ens) : Prop := F2 (fun (kv : Key × V) (p : Str × En) => kv.1 = Sum.inr p.1 ∧ EnAt H kv.2 p.2) kvs es
theorem kv_same {H H' : Hp} {kvs : List (Key × V)} {es : Ens} (s : Same H H') (h : KvAt H kvs es) : KvAt H' kvs es := f2_imp (fun _ _ ⟨a, b⟩ => ⟨a, en_same s b⟩) h
def DAt (H : Hp) (d : Addr) (es : Ens) : Prop := ∃ kvs, H d = some (.dK kvs) ∧ KvAt H kvs es
theorem d_same {H H' : Hp} {d : Addr} {es : Ens} (s : Same H H') (h : DAt H d es) : DAt H' d es := let ⟨kvs, e, k⟩ := h; ⟨kvs, s _ _ e, kv_same s k⟩
/-- a world: its dict is never changed, only replaced -/
def WAt (C : Addr) (H : Hp) (a : Addr) (es : Ens) : Prop := ∃ dx d, H a = some (.ins C dx [("_classes", .ref d)]) ∧ d ≠ a ∧ DAt (del H a) d es
theorem wat_same {C : Addr} {H H' : Hp} {a : Addr} {es : Ens} (s : Same H H') (h : WAt C H a es) : WAt C H' a es :=
  let ⟨dx, d, e, n, k⟩ := h; ⟨dx, d, s _ _ e, n, d_same (fun b o z => by
    by_cases c : b = a
    · rw [c, del_at] at z
      cases z
    · rw [del_ne c] at z ⊢
      exact s _ _ z) k⟩
theorem del_back {H : Hp} {a : Addr} : Same (del H a) H := fun b o z => by
  by_cases c : b = a
  · rw [c, del_at] at z
    cases z
  · rw [del_ne c] at z
    exact z
theorem kv_keys {H : Hp} : ∀ {kvs : List (Key × V)} {es : Ens}, KvAt H kvs es → kvs.map (·.1) = (nms es).map Sum.inr
  | _, _, .nil => rfl
  | _, _, .cons ⟨a, _⟩ t => congr (congrArg List.cons a) (kv_keys t)
theorem kv_len {H : Hp} {kvs : List (Key × V)} {es : Ens} (h : KvAt H kvs es) : kvs.length = es.length := f2_len h
theorem kv_val {H : Hp} {x : Str} : ∀ {kvs : List (Key × V)} {es : Ens}, KvAt H kvs es → match es.lookup x with
    | some e => ∃ v, valV kvs (Sum.inr x) = some v ∧ EnAt H v e
    | none => valV kvs (Sum.inr x) = none
  | _, _, .nil => rfl
  | (k, v) :: kvs, (n, e) :: es, .cons ⟨a, b⟩ t => by
    have ih := kv_val (x := x) t
    have a : k = Sum.inr n := a
    subst a
    by_cases c : x = n
    · subst c
      rw [List.lookup_cons, show (x == x) = true from beq_self_eq_true x]
      exact ⟨v, by simp [valV], b⟩
    · rw [List.lookup_cons, show (x == n) = false from beq_eq_false_iff_ne.mpr c]
      have e1 : valV ((Sum.inr n, v) :: kvs) (Sum.inr x) = valV kvs (Sum.inr x) := by simp [valV, Ne.symm c]
      rw [e1]
      exact ih
theorem look_some {es : Ens} {x : Str} (h : x ∈ nms es) : ∃ e, es.lookup x = some e ∧ (x, e) ∈ es := by
  induction es with
  | nil => cases h
  | cons p es ih =>
    obtain ⟨k, v⟩ := p
    by_cases c : x = k
    · subst c
      exact ⟨v, by rw [List.lookup_cons, show (x == x) = true from beq_self_eq_true x], List.mem_cons_self ..⟩
    · obtain ⟨e, a, b⟩ := ih ((List.mem_cons.mp h).resolve_left c)
      exact ⟨e, by rw [List.lookup_cons, show (x == k) = false from beq_eq_false_iff_ne.mpr c]; exact a, List.mem_cons_of_mem _ b⟩
theorem kv_in {H : Hp} {x : Str} {kvs : List (Key × V)} {es : Ens} (h : KvAt H kvs es) (m : x ∈ nms es) : ∃ v e, es.lookup x = some e ∧ valV kvs (Sum.inr x) = some v ∧ EnAt H v e := by
  obtain ⟨e, a, _⟩ := look_some m
  have := kv_val (x := x) h
  rw [a] at this
  obtain ⟨v, b, c⟩ := this
  exact ⟨v, e, a, b, c⟩
theorem kv_out {H : Hp} {x : Str} {kvs : List (Key × V)} {es : Ens} (h : KvAt H kvs es) (m : x ∉ nms es) : valV kvs (Sum.inr x) = none := by
  have := kv_val (x := x) h
  rw [look_none m] at this
  exact this
theorem kv_some {H : Hp} {x : Str} {kvs : List (Key × V)} {es : Ens} (h : KvAt H kvs es) : (valV kvs (Sum.inr x)).isSome = decide (x ∈ nms es) := by
  by_cases m : x ∈ nms es
  · obtain ⟨v, e, _, b, _⟩ := kv_in h m
    rw [b, decide_eq_true m]
    rfl
  · rw [kv_out h m, decide_eq_false m]
    rfl
/-! ### a dict that is set aside: nothing of the entries stands in it -/
section
variable {H : Hp} {d : Addr} {ks : List (Key × V)}
theorem rd_del (hd : H d = some (.dK ks)) {a : Addr} {xs : List V} (h : Rd H a (.tup xs)) : Rd (del H d) a (.tup xs) := by
  have ne : a ≠ d := fun z => by
    rw [z] at h
    rcases h with h | ⟨o, h⟩ <;> rw [hd] at h <;> cases h
  rcases h with h | ⟨o, h⟩
  · exact .inl ((del_ne ne).trans h)
  · exact .inr ⟨o, (del_ne ne).trans h⟩
mutual
theorem td_del (hd : H d = some (.dK ks)) : ∀ {n : Nat} {x : V} {p : PyData}, Td H n x p → Td (del H d) n x p
  | _, _, _, .non => .non
  | _, _, _, .bl b => .bl b
  | _, _, _, .int i => .int i
  | _, _, _, .str h => .str h
  | _, _, _, .lst e l h => .lst ((del_ne fun z => by rw [z, hd] at e; cases e).trans e) l (tds_del hd h)
  | _, _, _, .tup e l h => .tup ((del_ne fun z => by rw [z, hd] at e; cases e).trans e) l (tds_del hd h)
theorem tds_del (hd : H d = some (.dK ks)) : ∀ {n : Nat} {xs : List V} {ps : List PyData}, Tds H n xs ps → Tds (del H d) n xs ps
  | _, _, _, .nil => .nil
  | _, _, _, .cons h t => .cons (td_del hd h) (tds_del hd t)
end
theorem kp_del (hd : H d = some (.dK ks)) {a : Addr} {ds : List PyData} (h : KpAt H a ds) : KpAt (Nb.del H d) a ds := by
  obtain ⟨xs, ⟨o, f1, f2⟩, l, t⟩ := h
  exact ⟨xs, ⟨o, (Nb.del_ne fun z => by rw [z, hd] at f1; cases f1).trans f1, f2⟩, l, tds_del hd t⟩
theorem en_del (hd : H d = some (.dK ks)) {v : V} {e : En} (h : EnAt H v e) : EnAt (del H d) v e :=
  let ⟨t, b, k, l, e1, e2, e3, e4, e5, e6⟩ := h
  ⟨t, b, k, l, e1, (del_ne fun z => by rw [z, hd] at e2; cases e2).trans e2, rd_del hd e3, kp_del hd e4, rd_del hd e5, e6⟩
theorem kv_del (hd : H d = some (.dK ks)) {kvs : List (Key × V)} {es : Ens} (h : KvAt H kvs es) : KvAt (del H d) kvs es := f2_imp (fun _ _ ⟨a, b⟩ => ⟨a, en_del hd b⟩) h
theorem same_lock {u : HO} : Same (del H d) (upd H d u) := fun b o z => by
  by_cases c : b = d
  · rw [c, del_at] at z
    cases z
  · rw [del_ne c] at z
    rw [upd_ne c]
    exact z
theorem unlock_same {H' : Hp} {u w : HO} (e : H d = some u) (s : Same (upd H d w) H') : Same H (upd H' d u) := fun b o z => by
  by_cases c : b = d
  · rw [c] at z ⊢
    rw [upd_same, ← e, z]
  · rw [upd_ne c]
    exact s _ _ (by rw [upd_ne c]; exact z)
end
theorem make_same {H H1 : Hp} {b dx : Addr} {u w : HO} (hb : H b = none) (hdx : H dx = none) (s : Same (del (upd (upd H dx u) b w) b) H1) : Same H H1 := fun c o z => by
  have c1 : c ≠ b := fun y => by rw [y, hb] at z; cases z
  have c2 : c ≠ dx := fun y => by rw [y, hdx] at z; cases z
  exact s _ _ (by rw [del_ne c1, upd_ne c1, upd_ne c2]; exact z)
theorem f2_ix {α β : Type} {R : α → β → Prop} : ∀ {es : List β} {f : Nat → α}, (∀ (i : Nat) (p : β), es[i]? = some p → R (f i) p) → F2 R ((List.range es.length).map f) es
  | [], _, _ => .nil
  | e :: es, f, h => by
    rw [List.length_cons, List.range_succ_eq_map, List.map_cons, List.map_map]
    exact .cons (h 0 e rfl) (f2_ix (f := f ∘ Nat.succ) fun i p k => h (i + 1) p k)
/-- the entries one by one, with the addresses of the lines -/
theorem kv_lines {H : Hp} : ∀ {kvs : List (Key × V)} {es : Ens}, KvAt H kvs es → ∃ ls : List Addr, ls.length = es.length ∧ ∀ (i : Nat) (p : Str × En), es[i]? = some p → ∃ t b k l, kvs[i]? = some (Sum.inr p.1, .ref t) ∧ ls[i]? = some l ∧ H t = some (.tup [.ref b, .ref k, .ref l]) ∧ Rd H l (.tup (p.2.line.map V.str))
  | _, _, .nil => ⟨[], rfl, fun i p e => by cases e⟩
  | (k0, v0) :: kvs, (n0, e0) :: es, .cons ⟨a, t, b, k, l, e1, e2, _, _, e5, _⟩ r => by
    obtain ⟨ls, ll, h⟩ := kv_lines r
    have a : k0 = Sum.inr n0 := a
    have e1 : v0 = .ref t := e1
    subst a e1
    refine ⟨l :: ls, by rw [List.length_cons, List.length_cons, ll], fun i p e => ?_⟩
    cases i with
    | zero =>
      cases e
      exact ⟨t, b, k, l, rfl, rfl, e2, e5⟩
    | succ i => exact h i p e
theorem nms_get {es : Ens} {i : Nat} {p : Str × En} (h : es[i]? = some p) : (nms es).getD i "" = p.1 := by
  unfold nms
  rw [List.getD_eq_getElem?_getD, List.getElem?_map, h]
  rfl
theorem nodup_get {xs : List Str} (nd : xs.Nodup) {i j : Nat} (h : i < j) (l : j < xs.length) : xs.getD i "" ≠ xs.getD j "" := fun e => by
  rw [List.getD_eq_getElem?_getD, List.getD_eq_getElem?_getD, List.getElem?_eq_getElem (by omega : i < xs.length), List.getElem?_eq_getElem l] at e
  have := (List.getElem_inj nd).mp (show xs[i] = xs[j] from e)
  omega
theorem kv_at_ix {H : Hp} {kvs : List (Key × V)} {es : Ens} (h : KvAt H kvs es) (nd : (nms es).Nodup) {i : Nat} {p : Str × En} {v : V} (e : es[i]? = some p) (k : kvs[i]? = some (Sum.inr p.1, v)) : valV kvs (Sum.inr p.1) = some v := by
  have hk := kv_keys h
  have nk : (kvs.map (·.1)).Nodup := by
    rw [hk]
    exact List.pairwise_map.mpr (nd.imp fun h z => h (Sum.inr.inj z))
  clear h e hk nd
  induction kvs generalizing i with
  | nil => cases k
  | cons q kvs ih =>
    obtain ⟨k0, v0⟩ := q
    have nk' := List.nodup_cons.mp nk
    cases i with
    | zero =>
      cases k
      simp [valV]
    | succ i =>
      have k' : kvs[i]? = some (Sum.inr p.1, v) := k
      have ne : k0 ≠ Sum.inr p.1 := fun z => nk'.1 (by
        rw [z]
        exact List.mem_map.mpr ⟨_, List.mem_of_getElem? k', rfl⟩)
      have e1 : valV ((k0, v0) :: kvs) (Sum.inr p.1) = valV kvs (Sum.inr p.1) := by simp [valV, ne]
      rw [e1]
      exact ih k' nk'.2
theorem dget_same {H H' : Hp} {a : Addr} {z : Str} {r : Option V} (s : Same H H') (h : DGet H a (.str z) r) : DGet H' a (.str z) r := by
  rcases h with ⟨kvs, k, e, ey, er⟩ | ⟨kvs, k, b, e, ey, _⟩
  · exact .inl ⟨kvs, k, rd_same s e, ey, er⟩
  · cases ey
theorem valV_none {kvs : List (Key × V)} {k : Key} (h : k ∉ kvs.map (·.1)) : valV kvs k = none := by
  unfold valV
  rw [Option.map_eq_none_iff, List.find?_eq_none]
  intro p hp
  have : p.1 ≠ k := fun e => h (e ▸ List.mem_map.mpr ⟨p, hp, rfl⟩)
  simpa using this
theorem merge_app : ∀ (kvs acc : List (Key × V)), ((acc ++ kvs).map (·.1)).Nodup → mergeK acc kvs = acc ++ kvs
  | [], acc, _ => by rw [List.append_nil]; rfl
  | p :: kvs, acc, h => by
    have e : mergeK acc (p :: kvs) = mergeK (putK acc p.1 p.2) kvs := rfl
    have n : p.1 ∉ acc.map (·.1) := fun m => by
      rw [List.map_append, List.nodup_append] at h
      exact h.2.2 _ m _ (List.mem_cons_self ..) rfl
    rw [e, putK_new _ (valV_none n), merge_app kvs (acc ++ [(p.1, p.2)]) (by rw [List.append_assoc]; exact h), List.append_assoc]
    rfl
theorem merge_nil {kvs : List (Key × V)} (h : (kvs.map (·.1)).Nodup) : mergeK [] kvs = kvs := merge_app kvs [] h
theorem kv_nodup {H : Hp} {kvs : List (Key × V)} {es : Ens} (h : KvAt H kvs es) (nd : (nms es).Nodup) : (kvs.map (·.1)).Nodup := by
  rw [kv_keys h]
  exact List.pairwise_map.mpr (nd.imp fun h z => h (Sum.inr.inj z))
theorem splat_same {H G : Hp} {p q : Addr} {u1 u2 u3 u4 u5 : HO} (n0 : H p = none) (nq : (upd H p u1) q = none) (s : Same (upd (upd (upd H p u1) p u2) q u3) G) : Same H (upd (upd G q u4) p u5) := fun c o z => by
  have c1 : c ≠ p := fun y => by rw [y, n0] at z; cases z
  have c2 : c ≠ q := fun y => by
    rw [← y, upd_ne c1, z] at nq
    cases nq
  rw [upd_ne c1, upd_ne c2]
  exact s _ _ (by rw [upd_ne c2, upd_ne c1, upd_ne c1]; exact z)
theorem kv_snoc {H : Hp} : ∀ {kvs : List (Key × V)} {es : Ens} {n : Str} {v : V} {e : En}, KvAt H kvs es → EnAt H v e → KvAt H (kvs ++ [(Sum.inr n, v)]) (es ++ [(n, e)]) := fun h k => f2_snoc h ⟨rfl, k⟩
/-! ### an object that is set aside -/
section
variable {H : Hp} {d C dx : Addr} {fs : List (Str × V)}
theorem rd_ins (hd : H d = some (.ins C dx fs)) {a : Addr} {xs : List V} (h : Rd H a (.tup xs)) : Rd (del H d) a (.tup xs) := by
  have ne : a ≠ d := fun z => by
    rw [z] at h
    rcases h with h | ⟨o, h⟩ <;> rw [hd] at h <;> cases h
  rcases h with h | ⟨o, h⟩
  · exact .inl ((del_ne ne).trans h)
  · exact .inr ⟨o, (del_ne ne).trans h⟩
mutual
theorem td_ins (hd : H d = some (.ins C dx fs)) : ∀ {n : Nat} {x : V} {p : PyData}, Td H n x p → Td (del H d) n x p
  | _, _, _, .non => .non
  | _, _, _, .bl b => .bl b
  | _, _, _, .int i => .int i
  | _, _, _, .str h => .str h
  | _, _, _, .lst e l h => .lst ((del_ne fun z => by rw [z, hd] at e; cases e).trans e) l (tds_ins hd h)
  | _, _, _, .tup e l h => .tup ((del_ne fun z => by rw [z, hd] at e; cases e).trans e) l (tds_ins hd h)
theorem tds_ins (hd : H d = some (.ins C dx fs)) : ∀ {n : Nat} {xs : List V} {ps : List PyData}, Tds H n xs ps → Tds (del H d) n xs ps
  | _, _, _, .nil => .nil
  | _, _, _, .cons h t => .cons (td_ins hd h) (tds_ins hd t)
end
theorem kp_ins (hd : H d = some (.ins C dx fs)) {a : Addr} {ds : List PyData} (h : KpAt H a ds) : KpAt (Nb.del H d) a ds := by
  obtain ⟨xs, ⟨o, f1, f2⟩, l, t⟩ := h
  exact ⟨xs, ⟨o, (Nb.del_ne fun z => by rw [z, hd] at f1; cases f1).trans f1, f2⟩, l, tds_ins hd t⟩
theorem en_ins (hd : H d = some (.ins C dx fs)) {v : V} {e : En} (h : EnAt H v e) : EnAt (del H d) v e :=
  let ⟨t, b, k, l, e1, e2, e3, e4, e5, e6⟩ := h
  ⟨t, b, k, l, e1, (del_ne fun z => by rw [z, hd] at e2; cases e2).trans e2, rd_ins hd e3, kp_ins hd e4, rd_ins hd e5, e6⟩
theorem kv_ins (hd : H d = some (.ins C dx fs)) {kvs : List (Key × V)} {es : Ens} (h : KvAt H kvs es) : KvAt (del H d) kvs es := f2_imp (fun _ _ ⟨a, b⟩ => ⟨a, en_ins hd b⟩) h
end
/-! ### a list that is changed: no world hangs on it, where all kept parts are tuples -/
section
variable {H : Hp} {l : Addr} {xs : List V}
theorem rd_off {u : HO} (e : H l = some (.lst xs)) {a : Addr} {ys : List V} (h : Rd H a (.tup ys)) : Rd (upd H l u) a (.tup ys) := by
  have ne : a ≠ l := fun z => by
    rw [z] at h
    rcases h with h | ⟨o, h⟩ <;> rw [e] at h <;> cases h
  rcases h with h | ⟨o, h⟩
  · exact .inl ((upd_ne ne).trans h)
  · exact .inr ⟨o, (upd_ne ne).trans h⟩
mutual
theorem td_off {u : HO} (e : H l = some (.lst xs)) : ∀ {n : Nat} {x : V} {p : PyData}, Td H n x p → noL p = true → Td (upd H l u) n x p
  | _, _, _, .non, _ => .non
  | _, _, _, .bl b, _ => .bl b
  | _, _, _, .int i, _ => .int i
  | _, _, _, .str h, _ => .str h
  | _, _, _, .lst _ _ _, k => nomatch k
  | _, _, _, .tup e1 l1 h, k => .tup ((upd_ne fun z => by rw [z, e] at e1; cases e1).trans e1) l1 (tds_off e h k)
theorem tds_off {u : HO} (e : H l = some (.lst xs)) : ∀ {n : Nat} {ys : List V} {ps : List PyData}, Tds H n ys ps → noLs ps = true → Tds (upd H l u) n ys ps
  | _, _, _, .nil, _ => .nil
  | _, _, _, .cons h t, k => .cons (td_off e h (Bool.and_eq_true_iff.mp k).1) (tds_off e t (Bool.and_eq_true_iff.mp k).2)
end
theorem kp_off {u : HO} (e : H l = some (.lst xs)) {a : Addr} {ds : List PyData} (h : KpAt H a ds) (n : noLs ds = true) : KpAt (upd H l u) a ds := by
  obtain ⟨ys, ⟨o, f1, f2⟩, l, t⟩ := h
  exact ⟨ys, ⟨o, (upd_ne fun z => by rw [z, e] at f1; cases f1).trans f1, f2⟩, l, tds_off e t n⟩
theorem en_off {u : HO} (e : H l = some (.lst xs)) {v : V} {en : En} (h : EnAt H v en) : EnAt (upd H l u) v en :=
  let ⟨t, b, k, l, e1, e2, e3, e4, e5, e6⟩ := h
  ⟨t, b, k, l, e1, (upd_ne fun z => by rw [z, e] at e2; cases e2).trans e2, rd_off e e3, kp_off e e4 e6, rd_off e e5, e6⟩
theorem wat_off {u : HO} (e : H l = some (.lst xs)) {C a : Addr} {es : Ens} (h : WAt C H a es) : WAt C (upd H l u) a es := by
  obtain ⟨dx, d, ea, nd, kvs, ed, hK⟩ := h
  have la : a ≠ l := fun z => by rw [z, e] at ea; cases ea
  have ld : d ≠ l := fun z => by
    rw [Nb.del_ne nd, z, e] at ed
    cases ed
  have e0 : (Nb.del H a) l = some (.lst xs) := (Nb.del_ne (Ne.symm la)).trans e
  have ee : Nb.del (upd H l u) a = upd (Nb.del H a) l u := by
    funext c
    by_cases c1 : c = a
    · rw [c1, del_at, upd_ne la, del_at]
    · rw [Nb.del_ne c1]
      by_cases c2 : c = l
      · rw [c2, upd_same, upd_same]
      · rw [upd_ne c2, upd_ne c2, Nb.del_ne c1]
  refine ⟨dx, d, (upd_ne la).trans ea, nd, kvs, ?_, ?_⟩
  · rw [ee, upd_ne ld]
    exact ed
  · rw [ee]
    exact f2_imp (fun _ _ ⟨p, q⟩ => ⟨p, en_off e0 q⟩) hK
end
/-- what a dict of lines has of a class -/
theorem line_get {H : Hp} {d : Addr} {kvs : List (Key × V)} {es : Ens} (ed : H d = some (.dK kvs)) (f : F2 (fun (kv : Key × V) (p : Str × En) => kv.1 = Sum.inr p.1 ∧ ∃ l, kv.2 = .ref l ∧ Rd H l (.tup (p.2.line.map V.str))) kvs es) {z : Str} (m : z ∈ nms es) :
    ∃ l, DGet H d (.str z) (some (.ref l)) ∧ Rd H l (.tup ((ln es z).map V.str)) := by
  have main : ∀ {kvs : List (Key × V)} {es : Ens}, F2 (fun (kv : Key × V) (p : Str × En) => kv.1 = Sum.inr p.1 ∧ ∃ l, kv.2 = .ref l ∧ Rd H l (.tup (p.2.line.map V.str))) kvs es → z ∈ nms es → ∃ l, valV kvs (Sum.inr z) = some (.ref l) ∧ Rd H l (.tup ((ln es z).map V.str)) := by
    intro kvs es f
    induction f with
    | nil => exact fun m => nomatch m
    | @cons x y xs ys r t ih =>
      intro m
      obtain ⟨k, v⟩ := x
      obtain ⟨n, e⟩ := y
      obtain ⟨a, l, ev, rl⟩ := r
      have a : k = Sum.inr n := a
      have ev : v = .ref l := ev
      subst a ev
      by_cases c : z = n
      · subst c
        refine ⟨l, by simp [valV], ?_⟩
        have : ln ((z, e) :: ys) z = e.line := by
          unfold ln
          rw [List.lookup_cons, show (z == z) = true from beq_self_eq_true z]
        rw [this]
        exact rl
      · obtain ⟨l2, b, rl2⟩ := ih ((List.mem_cons.mp m).resolve_left c)
        refine ⟨l2, ?_, ?_⟩
        · have e1 : valV ((Sum.inr n, V.ref l) :: xs) (Sum.inr z) = valV xs (Sum.inr z) := by simp [valV, Ne.symm c]
          rw [e1]
          exact b
        · have : ln ((n, e) :: ys) z = ln ys z := by
            unfold ln
            rw [List.lookup_cons, show (z == n) = false from beq_eq_false_iff_ne.mpr c]
          rw [this]
          exact rl2
  obtain ⟨l, v, r⟩ := main f m
  exact ⟨l, .inl ⟨kvs, .inr z, .inl ed, rfl, v.symm⟩, r⟩
theorem put_some {mk : List (Key × V)} {u x : Str} {v : V} : (valV (putK mk (Sum.inr u) v) (Sum.inr x)).isSome = true ↔ x = u ∨ (valV mk (Sum.inr x)).isSome = true := by
  rw [valV_put]
  by_cases c : x = u
  · subst c
    simp
  · rw [if_neg (fun z => c (Sum.inr.inj z))]
    simp [c]
theorem put_len (mk : List (Key × V)) (k : Key) (v : V) : (putK mk k v).length ≤ mk.length + 1 := by
  unfold putK
  by_cases e : (mk.any fun kv => decide (kv.1 = k)) = true
  · rw [if_pos e, List.length_map]
    omega
  · rw [if_neg e, List.length_append]
    exact Nat.le_refl _
theorem yes_ {σ : L2.St} {H : Hp} {Q : Bool → Hp → Prop} (h : Q true H) : tYes σ H Q := h
theorem yesIf {σ : L2.St} {H : Hp} {A B : Hp → Prop} (h : A H) : tYes σ H (fun b H' => if b = true then A H' else B H') := yes_ (Q := fun b H' => if b = true then A H' else B H') (iteT h)
/-! ### tuples stay, whatever becomes of lists, dicts and objects -/
def TupO : HO → Prop
  | .tup _ => True
  | .frz _ (.tup _) => True
  | _ => False
def KeepT (H H' : Hp) : Prop := ∀ a u, TupO u → H a = some u → H' a = some u
section
variable {H H' G : Hp}
theorem kt_same (s : Same H H') : KeepT H H' := fun a u _ e => s _ _ e
theorem KeepT.trans (s : KeepT H H') (t : KeepT H' G) : KeepT H G := fun a u k e => t a u k (s a u k e)
theorem kt_upd {l : Addr} {w u : HO} (e : H l = some w) (n : ¬ TupO w) : KeepT H (upd H l u) := fun a x k e2 => (upd_ne fun z => by
  rw [z, e] at e2
  cases e2
  exact n k).trans e2
theorem kt_new {l : Addr} {u : HO} (e : H l = none) : KeepT H (upd H l u) := kt_same (same_new e)
theorem kt_del {l : Addr} {w : HO} (e : H l = some w) (n : ¬ TupO w) (s : Same (del H l) H') : KeepT H H' := fun a x k e2 => s _ _ ((del_ne fun z => by
  rw [z, e] at e2
  cases e2
  exact n k).trans e2)
theorem kt_src {p : Addr} {b : Nat} (S : Src H p b) (s : Same (del H p) H') : KeepT H H' := let ⟨_, _, _, e, _⟩ := S; kt_del e id s
theorem KeepT.rd (s : KeepT H H') {a : Addr} {xs : List V} (h : Rd H a (.tup xs)) : Rd H' a (.tup xs) := by
  rcases h with h | ⟨o, h⟩
  · exact .inl (s _ _ trivial h)
  · exact .inr ⟨o, s _ _ trivial h⟩
end
section
variable {H H' : Hp}
mutual
theorem td_keep (k : KeepT H H') : ∀ {n : Nat} {x : V} {p : PyData}, Td H n x p → noL p = true → Td H' n x p
  | _, _, _, .non, _ => .non
  | _, _, _, .bl b, _ => .bl b
  | _, _, _, .int i, _ => .int i
  | _, _, _, .str h, _ => .str h
  | _, _, _, .lst _ _ _, z => nomatch z
  | _, _, _, .tup e1 l1 h, z => .tup (k _ _ trivial e1) l1 (tds_keep k h z)
theorem tds_keep (k : KeepT H H') : ∀ {n : Nat} {ys : List V} {ps : List PyData}, Tds H n ys ps → noLs ps = true → Tds H' n ys ps
  | _, _, _, .nil, _ => .nil
  | _, _, _, .cons h t, z => .cons (td_keep k h (Bool.and_eq_true_iff.mp z).1) (tds_keep k t (Bool.and_eq_true_iff.mp z).2)
end
theorem kp_keep (k : KeepT H H') {a : Addr} {ds : List PyData} (h : KpAt H a ds) (n : noLs ds = true) : KpAt H' a ds := by
  obtain ⟨xs, ⟨o, f1, f2⟩, l, t⟩ := h
  exact ⟨xs, ⟨o, k _ (.frz o (.tup xs)) trivial f1, f2⟩, l, tds_keep k t n⟩
theorem en_keep (k : KeepT H H') {v : V} {en : En} (h : EnAt H v en) : EnAt H' v en :=
  let ⟨t, b, kk, l, e1, e2, e3, e4, e5, e6⟩ := h
  ⟨t, b, kk, l, e1, k _ (.tup [.ref b, .ref kk, .ref l]) trivial e2, k.rd e3, kp_keep k e4 e6, k.rd e5, e6⟩
theorem wat_keep (k : KeepT H H') {C a : Addr} {es : Ens} (h : WAt C H a es) (n : ∀ o : HO, (∃ C dx fs, o = .ins C dx fs) ∨ (∃ kvs, o = .dK kvs) → ∀ c, H c = some o → H' c = some o) : WAt C H' a es := by
  obtain ⟨dx, d, ea, nd, kvs, ed, hK⟩ := h
  have ea' := n _ (.inl ⟨_, _, _, rfl⟩) _ ea
  have ed' := n _ (.inr ⟨_, rfl⟩) _ ((Nb.del_ne nd).symm.trans ed)
  exact ⟨dx, d, ea', nd, kvs, (Nb.del_ne nd).trans ed', kv_ins ea' (f2_imp (fun _ _ ⟨p, q⟩ => ⟨p, en_keep k (en_same del_back q)⟩) hK)⟩
theorem wat_src {p : Addr} {b : Nat} (S : Src H p b) (s : Same (del H p) H') {C a : Addr} {es : Ens} (h : WAt C H a es) : WAt C H' a es := by
  refine wat_keep (kt_src S s) h fun o ho c e => ?_
  refine s _ _ ((Nb.del_ne fun z => ?_).trans e)
  obtain ⟨_, _, _, ep, _⟩ := S
  rw [z, ep] at e
  cases e
  rcases ho with ⟨_, _, _, h⟩ | ⟨_, h⟩ <;> cases h
end
end Nb

set_option Elab.async false
set_option linter.all false
set_option maxRecDepth 100000
set_option maxHeartbeats 4000000
/-! repr of a list that holds one thing many times, also where this thing is an empty dict. -/
namespace Nb
open PySem PySem.Spec PyProof.Rows
open L2 hiding del del_ne del_same
theorem shows_list {prog : Program} {w : World} {h0 : Heap} {l : Addr} {ob : Obj} {us : Array Value} {n : Nat} {ds : List PyData} {as : List Addr} (e1 : h0.get? l = some ob) (e2 : ob.cls = .type "list") (e3 : ob.data = .seq us n) (rd : ReadsAll h0 us.toList ds as)
    (ok : PyData.showableAll ds = true) (away : PyData.hasDictAll ds = true → sysModules ∉ as) (few : (listText (PyData.shownAll ds)).length ≤ sizeLine) : ShowsBy prog w h0 l (.list ds) "list" "list.__repr__" := by
  obtain ⟨bs, most, each⟩ := ReprAllK.of_readsAll (prog := prog) (w := w) rd ok away fun t ht => Nat.le_trans (listText_mem_le ht) few
  have off : l ∉ bs := not_mem_of_deeper (.list e1 e2 e3 rd) (by simp only [PyData.depth]; omega) most
  refine { slotRepr := F.slot_list_repr.toG, slotStr := F.slot_list_str, slotFmt := F.slot_list_format, typeIs := fun s k => ⟨ob, k _ _ e1, e2⟩, call := fun A E s Q g u k q => ?_ }
  simp only [PyData.depth] at u
  simp only [PyData.shown] at q
  obtain ⟨us⟩ := us
  cases us with
  | nil =>
    cases (show ReadsAll h0 [] ds as from rd)
    simp only [PyData.shownAll, listText_nil] at q
    exact call_list_repr_empty ⟨ob, k _ _ e1, e2⟩ (k _ _ e1) e3 (q s.heap _ _ fun _ _ z => z)
  | cons u0 us => exact call_list_reprK e1 e2 e3 off (by simpa using each.length_eq) (fun i y z => each.item i y (by simpa using z)) g (fun b _ => Clear.nil b) u k q few
theorem vals_rep {x : V} : ∀ {n : Nat} {us : List Value}, Vals (List.replicate n x) us → ∀ u ∈ us, RelV x u
  | 0, _, h, u, hu => by cases h; cases hu
  | n + 1, _, h, u, hu => by
    cases h with
    | cons h1 h2 =>
      rcases List.mem_cons.mp hu with rfl | z
      · exact h1
      · exact vals_rep h2 u z
theorem reads_rep {h : Heap} {d : PyData} {as : List Addr} : ∀ {us : List Value}, (∀ u ∈ us, ∃ bs, Reads h u d bs ∧ ∀ b ∈ bs, b ∈ as) → ∃ bs, ReadsAll h us (List.replicate us.length d) bs ∧ ∀ b ∈ bs, b ∈ as
  | [], _ => ⟨[], .nil, fun _ z => nomatch z⟩
  | u :: us, k => by
    obtain ⟨b1, r1, m1⟩ := k u (List.mem_cons_self ..)
    obtain ⟨b2, r2, m2⟩ := reads_rep (us := us) fun v hv => k v (List.mem_cons_of_mem _ hv)
    exact ⟨b1 ++ b2, .cons r1 r2, fun b hb => (List.mem_append.mp hb).elim (m1 b) (m2 b)⟩
/-- a thing without a dict in it, or an empty dict -/
def One (H : Hp) (x : V) (d : PyData) : Prop := (Tz H x d ∧ d.hasDict = false) ∨ d = .dict [] ∧ ∃ a, x = .ref a ∧ H a = some (.dK [])
theorem one_same {H H' : Hp} (s : Same H H') {x : V} {d : PyData} (h : One H x d) : One H' x d := h.elim (fun h => .inl ⟨tz_same s h.1, h.2⟩) fun ⟨e, a, z, k⟩ => .inr ⟨e, a, z, s _ _ k⟩
theorem cr_reprRep {X : Cx} (g : X.A.guards = some []) (u : X.A.units + 100 < cLine) : CallR X (.builtin "repr") (fun xs H Q => ∃ (l : Addr) (x : V) (n : Nat) (d : PyData), xs = [.ref l] ∧ H l = some (.lst (List.replicate n x)) ∧ One H x d ∧
    (PyData.list (List.replicate n d)).showable = true ∧ (PyData.list (List.replicate n d)).depth ≤ 60 ∧ (PyData.list (List.replicate n d)).shown.length ≤ sizeLine ∧ Q (.str (PyData.list (List.replicate n d)).shown) H) := by
  intro pins s σ H xs us Q I r h
  obtain ⟨l, x, n, d, rfl, hl, hx, ok, dp, few, q⟩ := h
  obtain ⟨v, rfl, rv⟩ := vals1 r
  cases rv
  obtain ⟨its, ri, ⟨ob, n2, e1, e2, _, e3⟩, _⟩ := I.list (SqL.of hl)
  have len : its.length = n := by rw [← Paired.length ri, List.length_replicate]
  obtain ⟨as, each, away⟩ : ∃ as : List Addr, (∀ u ∈ its, ∃ bs, Reads s.heap u d bs ∧ ∀ b ∈ bs, b ∈ as) ∧ (d.hasDict = true → sysModules ∉ as) := by
    rcases hx with ⟨hx, nd⟩ | ⟨rfl, a, rfl, ha⟩
    · have key : ∀ us : List Value, (∀ u ∈ us, RelV x u) → ∃ as : List Addr, ∀ u ∈ us, ∃ bs, Reads s.heap u d bs ∧ ∀ b ∈ bs, b ∈ as := by
        intro us
        induction us with
        | nil => exact fun _ => ⟨[], fun _ z => nomatch z⟩
        | cons u us ih =>
          intro k
          obtain ⟨b1, r1, _⟩ := tz_reads I hx (k u (List.mem_cons_self ..))
          obtain ⟨b2, m2⟩ := ih fun v hv => k v (List.mem_cons_of_mem _ hv)
          refine ⟨b1 ++ b2, fun v hv => ?_⟩
          rcases List.mem_cons.mp hv with rfl | z
          · exact ⟨b1, r1, fun b hb => List.mem_append_left _ hb⟩
          · obtain ⟨bs, r3, m3⟩ := m2 v z
            exact ⟨bs, r3, fun b hb => List.mem_append_right _ (m3 b hb)⟩
      obtain ⟨as, m⟩ := key its (vals_rep ri)
      exact ⟨as, m, fun z => by rw [nd] at z; cases z⟩
    · have ho : ObjOk X.prog X.w H s.heap a (.dK []) := I.hok a _ ha
      obtain ⟨_, nm, vs, kv, o, es, ep, d1, d2, d3, _, d5, _⟩ := ho
      cases kv
      have d6 : es.toList = [] := by
        cases hz : es.toList with
        | nil => rfl
        | cons z zs =>
          rw [hz] at d5
          cases d5
      refine ⟨[a], fun u hu => ?_, fun _ hm => ?_⟩
      · cases vals_rep ri u hu
        exact ⟨_, .dict (as := []) (bs := []) d1 d2.1 d3 (by rw [d6]; exact .nil) (by rw [d6]; exact .nil), fun b hb => by simpa using hb⟩
      · have : sysModules = a := by simpa using hm
        rw [this] at nm
        exact absurd nm (by simp)
  obtain ⟨bs, rd, mem⟩ := reads_rep each
  rw [len] at rd
  have S := shows_list (prog := X.prog) (w := X.w) (l := l) e1 e2 e3 (by simpa using rd) (by simpa [PyData.showable] using ok) (fun hd hm => ?_) (by simpa only [PyData.shown] using few)
  · exact call_repr_slot (by omega) (S.typeIs s fun _ _ z => z) S.slotRepr (S.call X.A.in1 _ s _ g (by show X.A.units + 1 + _ < cLine; omega) (fun _ _ z => z) fun h' t tk hk => ⟨_, _, rfl, ⟨.str _, H, I.kept (t' := tk) hk, ⟨_, rfl⟩, q⟩⟩)
  · refine away ?_ (mem _ hm)
    have key : ∀ n, PyData.hasDictAll (List.replicate n d) = true → d.hasDict = true := by
      intro n
      induction n with
      | zero => exact fun z => by cases z
      | succ n ih =>
        intro z
        rw [List.replicate_succ] at z
        simp only [PyData.hasDictAll, Bool.or_eq_true] at z
        exact z.elim id ih
    exact key n hd
end Nb

set_option Elab.async false
set_option linter.all false
set_option maxRecDepth 100000
set_option maxHeartbeats 4000000
/-! repr of data with dicts in it, but without lists; of a list of such data. -/
namespace Nb
open PySem PySem.Spec PyProof.Rows
open L2 hiding del del_ne del_same
mutual
/-- what stands for these data: dicts with texts as keys, tuples, no lists -/
inductive Dq (K : PySem.W.Frag) (H : Hp) : V → PyData → Prop
  | non : Dq K H .non .none
  | bl (b : Bool) : Dq K H (.bl b) (.bool b)
  | int (i : Int) : Dq K H (.int i) (.int i)
  | str (z : Str) : Dq K H (.str z) (.str z)
  | tup {t : Addr} {ys : List V} {es : List PyData} (at_ : SqT K H t ys) (each : Dqs K H ys es) : Dq K H (.ref t) (.tuple es)
  | dct {t : Addr} {ps : List (Key × V)} {es : List (PyData × PyData)} (at_ : H t = some (.dK ps)) (each : Dqk K H ps es) : Dq K H (.ref t) (.dict es)
inductive Dqs (K : PySem.W.Frag) (H : Hp) : List V → List PyData → Prop
  | nil : Dqs K H [] []
  | cons {y : V} {e : PyData} {ys : List V} {es : List PyData} (one : Dq K H y e) (more : Dqs K H ys es) : Dqs K H (y :: ys) (e :: es)
inductive Dqk (K : PySem.W.Frag) (H : Hp) : List (Key × V) → List (PyData × PyData) → Prop
  | nil : Dqk K H [] []
  | cons {z : Str} {y : V} {e : PyData} {ps : List (Key × V)} {es : List (PyData × PyData)} (one : Dq K H y e) (more : Dqk K H ps es) : Dqk K H ((Sum.inr z, y) :: ps) ((.str z, e) :: es)
end
section
variable {K : PySem.W.Frag} {H H' : Hp}
mutual
theorem dq_same (s : Same H H') : ∀ {y : V} {e : PyData}, Dq K H y e → Dq K H' y e
  | _, _, .non => .non
  | _, _, .bl b => .bl b
  | _, _, .int i => .int i
  | _, _, .str z => .str z
  | _, _, .tup k r => .tup (Same.tup s k) (dqs_same s r)
  | _, _, .dct k r => .dct (s _ _ k) (dqk_same s r)
theorem dqs_same (s : Same H H') : ∀ {ys : List V} {es : List PyData}, Dqs K H ys es → Dqs K H' ys es
  | _, _, .nil => .nil
  | _, _, .cons a r => .cons (dq_same s a) (dqs_same s r)
theorem dqk_same (s : Same H H') : ∀ {ps : List (Key × V)} {es : List (PyData × PyData)}, Dqk K H ps es → Dqk K H' ps es
  | _, _, .nil => .nil
  | _, _, .cons a r => .cons (dq_same s a) (dqk_same s r)
end
theorem dqs_strs : ∀ zs : List Str, Dqs K H (zs.map V.str) (zs.map PyData.str)
  | [] => .nil
  | z :: zs => .cons (.str z) (dqs_strs zs)
theorem dq_row {t : Addr} {zs : List Str} (h : SqT K H t (zs.map V.str)) : Dq K H (.ref t) (.tuple (zs.map PyData.str)) := .tup h (dqs_strs zs)
mutual
theorem td_dq : ∀ {n : Nat} {y : V} {e : PyData}, Td H n y e → noL e = true → Dq K H y e
  | _, _, _, .non, _ => .non
  | _, _, _, .bl b, _ => .bl b
  | _, _, _, .int i, _ => .int i
  | _, _, _, .str h, _ => .str _
  | _, _, _, .lst _ _ _, k => nomatch k
  | _, _, _, .tup e _ h, k => .tup (SqT.of e) (tds_dq h k)
theorem tds_dq : ∀ {n : Nat} {ys : List V} {es : List PyData}, Tds H n ys es → noLs es = true → Dqs K H ys es
  | _, _, _, .nil, _ => .nil
  | _, _, _, .cons a r, k => .cons (td_dq a (Bool.and_eq_true_iff.mp k).1) (tds_dq r (Bool.and_eq_true_iff.mp k).2)
end
end
section
variable {X : Cx} {pins : List (Addr × Obj)} {σ : L2.St} {H : Hp} {s : Shared}
mutual
theorem dq_reads (I : Inv X pins σ H s) : ∀ {y : V} {e : PyData}, Dq X.K H y e → ∀ u, RelV y u → ∃ ks, Reads s.heap u e ks ∧ sysModules ∉ ks
  | _, _, .non, _, r => by
    cases r
    exact ⟨[], .none, by simp⟩
  | _, _, .bl b, _, r => by
    cases r
    exact ⟨[], .bool b, by simp⟩
  | _, _, .int i, _, r => by
    obtain ⟨n, rfl⟩ := r
    exact ⟨[], .int i n, by simp⟩
  | _, _, .str z, _, r => by
    obtain ⟨n, rfl⟩ := r
    exact ⟨[], .str z n, by simp⟩
  | _, _, .tup k c, _, r => by
    cases r
    obtain ⟨us, vals, ⟨ob, o1, o2, m, o3⟩, _⟩ := I.tuple k
    obtain ⟨ks, rd, off⟩ := dqs_reads I c us vals
    exact ⟨ks, .tuple o1 o2 o3 rd, off⟩
  | _, _, .dct k c, _, r => by
    cases r
    obtain ⟨_, far, vs, kv, ob, es, ep, o1, o2, o3, _, prs, _⟩ := I.hok _ _ k
    obtain ⟨ka, kb, ra, rb, fa, fb⟩ := dqk_reads I c es.toList vs kv prs
    refine ⟨_, .dict o1 o2.1 o3 ra rb, fun m => ?_⟩
    rcases List.mem_append.mp m with m | m
    · rcases List.mem_cons.mp m with m | m
      · rw [← m] at far
        exact absurd far (by simp)
      · exact fa m
    · exact fb m
theorem dqs_reads (I : Inv X pins σ H s) : ∀ {ys : List V} {es : List PyData}, Dqs X.K H ys es → ∀ us, Vals ys us → ∃ ks, ReadsAll s.heap us es ks ∧ sysModules ∉ ks
  | _, _, .nil, _, r => by
    cases r
    exact ⟨[], .nil, by simp⟩
  | _, _, .cons a c, _, r => by
    cases r with
    | cons r1 r2 =>
      obtain ⟨k1, d1, f1⟩ := dq_reads I a _ r1
      obtain ⟨k2, d2, f2⟩ := dqs_reads I c _ r2
      exact ⟨k1 ++ k2, .cons d1 d2, fun m => (List.mem_append.mp m).elim f1 f2⟩
theorem dqk_reads (I : Inv X pins σ H s) : ∀ {ps : List (Key × V)} {es : List (PyData × PyData)}, Dqk X.K H ps es → ∀ (ent : List DictEntry) (vs : List (Key × Value)), KV ps vs → Pairs (mixKind X.prog X.w) ent vs →
    ∃ ka kb, ReadsAll s.heap (ent.map (·.key)) (es.map (·.1)) ka ∧ ReadsAll s.heap (ent.map (·.val)) (es.map (·.2)) kb ∧ sysModules ∉ ka ∧ sysModules ∉ kb
  | _, _, .nil, _, _, kv, pr => by
    cases kv
    cases pr
    exact ⟨[], [], .nil, .nil, by simp, by simp⟩
  | _, _, .cons a c, _, _, kv, pr => by
    cases kv with
    | cons e1 kv =>
      cases pr with
      | cons is ev pr =>
        obtain ⟨ea, rv⟩ := e1
        obtain ⟨k1, d1, f1⟩ := dq_reads I a _ rv
        obtain ⟨k2, k3, d2, d3, f2, f3⟩ := dqk_reads I c _ _ kv pr
        rcases keyIs_shape is with ⟨i, n, z1, _⟩ | ⟨x, n, z1, z2⟩
        · rw [← ea] at z1
          cases z1
        · rw [← ea] at z1
          cases z1
          refine ⟨[] ++ k2, k1 ++ k3, ?_, ?_, by simpa using f2, fun m => (List.mem_append.mp m).elim f1 f3⟩
          · rw [List.map_cons, z2]
            exact .cons (.str _ n) d2
          · rw [List.map_cons, ev]
            exact .cons d1 d3
end
end
/-- repr of a list of such data -/
theorem cr_reprDL {X : Cx} (g : X.A.guards = some []) (u : X.A.units + 100 < cLine) : CallR X (.builtin "repr") (fun xs H Q => ∃ (l : Addr) (ys : List V) (es : List PyData), xs = [.ref l] ∧ H l = some (.lst ys) ∧ Dqs X.K H ys es ∧
    PyData.showableAll es = true ∧ (PyData.list es).depth ≤ 60 ∧ (PyData.list es).shown.length ≤ sizeLine ∧ Q (.str (PyData.list es).shown) H) := by
  intro pins σ0 s0 H xs us Q I r h
  obtain ⟨l, ys, es, rfl, hl, hd, ok, dp, few, q⟩ := h
  obtain ⟨v, rfl, rv⟩ := vals1 r
  cases rv
  obtain ⟨its, ri, ⟨ob, n2, e1, e2, _, e3⟩, _⟩ := I.list (SqL.of hl)
  obtain ⟨ks, rd, off⟩ := dqs_reads I hd its ri
  have S := shows_list (prog := X.prog) (w := X.w) (l := l) e1 e2 e3 (by simpa using rd) ok (fun _ => off) (by simpa only [PyData.shown] using few)
  exact call_repr_slot (by omega) (S.typeIs _ fun _ _ z => z) S.slotRepr (S.call X.A.in1 _ _ _ g (by show X.A.units + 1 + _ < cLine; omega) (fun _ _ z => z) fun h' t tk hk => ⟨_, _, rfl, ⟨.str _, H, I.kept (t' := tk) hk, ⟨_, rfl⟩, q⟩⟩)
/-- repr of a tuple or a dict -/
theorem cr_reprDQ {X : Cx} (g : X.A.guards = some []) (u : X.A.units + 100 < cLine) : CallR X (.builtin "repr") (fun xs H Q => ∃ (t : Addr) (e : PyData), xs = [.ref t] ∧ Dq X.K H (.ref t) e ∧
    e.showable = true ∧ e.depth ≤ 60 ∧ e.shown.length ≤ sizeLine ∧ Q (.str e.shown) H) := by
  intro pins σ0 s0 H xs us Q I r h
  obtain ⟨t, e, rfl, hd, ok, dp, few, q⟩ := h
  obtain ⟨v, rfl, rv⟩ := vals1 r
  obtain ⟨ks, rd, off⟩ := dq_reads I hd v rv
  cases rv
  exact repr_of_reads' rd ok (fun _ => off) g (by omega) (fun _ _ z => z) (fun h' t tk hk => ⟨.str e.shown, H, I.kept (t' := tk) hk, ⟨_, rfl⟩, q⟩) few
end Nb

set_option Elab.async false
set_option linter.all false
set_option maxRecDepth 100000
set_option maxHeartbeats 4000000
/-! Methods as data and in the heap. -/
namespace Nb
open PySem PySem.Spec PyProof.Rows Nb.Wd
open L2 hiding del del_ne del_same
/-! ### texts in order -/
def leS (a b : Str) : Bool := !ltCps b.cps.toList a.cps.toList
theorem leS_iff {a b : Str} : leS a b = true ↔ a.cps.toList ≤ b.cps.toList := by
  unfold leS
  rw [ltCps_eq, Bool.not_eq_true', decide_eq_false_iff_not]
  rfl
theorem leS_trans {a b c : Str} (h : leS a b = true) (k : leS b c = true) : leS a c = true := leS_iff.mpr (List.le_trans (leS_iff.mp h) (leS_iff.mp k))
theorem leS_total (a b : Str) : (leS a b || leS b a) = true := by
  rw [Bool.or_eq_true, leS_iff, leS_iff]
  exact List.le_total _ _
theorem leS_anti {a b : Str} (h : leS a b = true) (k : leS b a = true) : a = b := by
  have e := List.le_antisymm (leS_iff.mp h) (leS_iff.mp k)
  obtain ⟨⟨a⟩⟩ := a
  obtain ⟨⟨b⟩⟩ := b
  exact congrArg (fun l => Str.mk (Array.mk l)) e
theorem rising_pw : ∀ {l : List Str} {p : Str}, risingS p l = true → (p :: l).Pairwise (fun a b => leS a b = true)
  | [], p, _ => List.pairwise_singleton _ _
  | x :: l, p, h => by
    have h : (!ltCps x.cps.toList p.cps.toList && risingS x l) = true := h
    obtain ⟨h1, h2⟩ := Bool.and_eq_true_iff.mp h
    have ih := rising_pw h2
    refine List.pairwise_cons.mpr ⟨fun y hy => ?_, ih⟩
    rcases List.mem_cons.mp hy with rfl | hy
    · exact h1
    · exact leS_trans h1 ((List.pairwise_cons.mp ih).1 y hy)
theorem sorted_pw {l : List Str} (h : sortedS l = true) : l.Pairwise (fun a b => leS a b = true) := by
  cases l with
  | nil => exact .nil
  | cons x l => exact rising_pw h
def sortK (ks : List Str) : List Str := ks.mergeSort leS
theorem sortK_perm (ks : List Str) : (sortK ks).Perm ks := List.mergeSort_perm _ _
theorem sort_uniq {ys ks : List Str} (p : ys.Perm ks) (h : sortedS ys = true) : ys = sortK ks := by
  have h2 : (sortK ks).Pairwise (fun a b => leS a b = true) := List.pairwise_mergeSort (le := leS) (fun a b c => leS_trans) leS_total ks
  exact (p.trans (sortK_perm ks).symm).eq_of_pairwise (fun a b _ _ l1 l2 => leS_anti l1 l2) (sorted_pw h) h2
/-! ### methods -/
structure Me where
  takes : List Str
  before : List Str
  passes : Option (List Str)
  after : List Str
def rwD (zs : List Str) : PyData := .tuple (zs.map PyData.str)
def passD : Option (List Str) → PyData
  | none => .none
  | some p => rwD p
def meD (m : Me) : PyData := .tuple [rwD m.takes, rwD m.before, passD m.passes, rwD m.after]
def NmsOk (zs : List Str) : Prop := ∀ z ∈ zs, isNm z = true ∧ Word z
structure RwOk (zs : List Str) : Prop where
  nm : NmsOk zs
  nd : zs.Nodup
  l4 : zs.length ≤ 4
structure WdOk (zs : List Str) : Prop where
  nm : NmsOk zs
  l4 : zs.length ≤ 4
structure MeOk (m : Me) : Prop where
  t : RwOk m.takes
  b : WdOk m.before
  p : ∀ p, m.passes = some p → RwOk p
  a : WdOk m.after
  s : m.passes = none → m.after = []
abbrev Mss := List (Str × Me)
structure MsOk (ms : Mss) : Prop where
  nd : (ms.map (·.1)).Nodup
  l3 : ms.length ≤ 3
  nm : ∀ q ∈ ms, (isNm q.1 = true ∧ Word q.1) ∧ q.1 ≠ "name" ∧ q.1 ≠ "self"
  ok : ∀ q ∈ ms, MeOk q.2
theorem RwOk.long {zs : List Str} (h : RwOk zs) : LongRow zs := ⟨h.nd, h.nm, Nat.le_trans h.l4 (by decide)⟩
def me0 : Me := ⟨[], [], none, []⟩
/-- in alphabetical order -/
def sms (ms : Mss) : Mss := (sortK (ms.map (·.1))).map fun k => (k, (ms.lookup k).getD me0)
def kdOf (ms : Mss) : List PyData := (sms ms).map fun q => .tuple [.str q.1, meD q.2]
theorem ms_look {α : Type} : ∀ {ms : List (Str × α)} {k : Str}, k ∈ ms.map (·.1) → ∃ m, ms.lookup k = some m ∧ (k, m) ∈ ms
  | [], k, h => nomatch h
  | (x, m) :: ms, k, h => by
    by_cases c : k = x
    · subst c
      exact ⟨m, by rw [List.lookup_cons, show (k == k) = true from beq_self_eq_true k], List.mem_cons_self ..⟩
    · obtain ⟨m2, a, b⟩ := ms_look (ms := ms) (k := k) ((List.mem_cons.mp h).resolve_left c)
      exact ⟨m2, by rw [List.lookup_cons, show (k == x) = false from beq_eq_false_iff_ne.mpr c]; exact a, List.mem_cons_of_mem _ b⟩
theorem look_at {α : Type} : ∀ {ms : List (Str × α)} {k : Str} {m : α}, (ms.map (·.1)).Nodup → (k, m) ∈ ms → ms.lookup k = some m
  | [], _, _, _, h => nomatch h
  | (x, m0) :: ms, k, m, nd, h => by
    have nd := List.nodup_cons.mp nd
    rcases List.mem_cons.mp h with e | h
    · cases e
      simp
    · have c : k ≠ x := fun e => nd.1 (e ▸ List.mem_map.mpr ⟨_, h, rfl⟩)
      rw [List.lookup_cons, show (k == x) = false from beq_eq_false_iff_ne.mpr c]
      exact look_at nd.2 h
theorem sms_keys (ms : Mss) : (sms ms).map (·.1) = sortK (ms.map (·.1)) := by
  unfold sms
  rw [List.map_map]
  exact List.map_id _
theorem sms_in {ms : Mss} {q : Str × Me} (h : q ∈ sms ms) : q ∈ ms := by
  obtain ⟨k, hk, rfl⟩ := List.mem_map.mp h
  obtain ⟨m, a, b⟩ := ms_look ((sortK_perm _).subset hk)
  rw [a]
  exact b
theorem sms_len (ms : Mss) : (sms ms).length = ms.length := by
  unfold sms
  rw [List.length_map, (sortK_perm _).length_eq, List.length_map]
theorem MsOk.sorted {ms : Mss} (h : MsOk ms) : MsOk (sms ms) :=
  ⟨by rw [sms_keys]; exact (sortK_perm _).nodup_iff.mpr h.nd, by rw [sms_len]; exact h.l3, fun q hq => h.nm q (sms_in hq), fun q hq => h.ok q (sms_in hq)⟩
theorem noL_strs : ∀ zs : List Str, noLs (zs.map PyData.str) = true
  | [] => rfl
  | _ :: zs => noL_strs zs
theorem noL_row (zs : List Str) : noL (rwD zs) = true := noL_strs zs
theorem noL_pass : ∀ p, noL (passD p) = true
  | none => rfl
  | some p => noL_row p
theorem noL_me (m : Me) : noL (meD m) = true := by
  show (noL (rwD m.takes) && (noL (rwD m.before) && (noL (passD m.passes) && (noL (rwD m.after) && true)))) = true
  rw [noL_row, noL_row, noL_pass, noL_row]
  rfl
theorem noL_kd (ms : Mss) : noLs (kdOf ms) = true := by
  unfold kdOf
  generalize sms ms = l
  induction l with
  | nil => rfl
  | cons q l ih =>
    show ((noL (.str q.1) && (noL (meD q.2) && true)) && noLs _) = true
    rw [noL_me, ih]
    rfl
/-! ### in the heap -/
def PsAt (H : Hp) (p : V) : Option (List Str) → Prop
  | none => p = .non
  | some ps => ∃ c, p = .ref c ∧ H c = some (.tup (ps.map V.str))
def MeAt (H : Hp) (v : V) (m : Me) : Prop := ∃ (t a b d : Addr) (p : V), v = .ref t ∧ H t = some (.tup [.ref a, .ref b, p, .ref d]) ∧ H a = some (.tup (m.takes.map V.str)) ∧ H b = some (.tup (m.before.map V.str)) ∧ PsAt H p m.passes ∧ H d = some (.tup (m.after.map V.str))
section
variable {H H' : Hp}
theorem ps_keep (s : KeepT H H') {p : V} : ∀ {o : Option (List Str)}, PsAt H p o → PsAt H' p o
  | none, h => h
  | some ps, ⟨c, e, h⟩ => ⟨c, e, s c (.tup (ps.map V.str)) trivial h⟩
theorem me_keep (s : KeepT H H') {v : V} {m : Me} (h : MeAt H v m) : MeAt H' v m :=
  let ⟨t, a, b, d, p, e, h1, h2, h3, h4, h5⟩ := h; ⟨t, a, b, d, p, e, s t (.tup _) trivial h1, s a (.tup _) trivial h2, s b (.tup _) trivial h3, ps_keep s h4, s d (.tup _) trivial h5⟩
theorem strs_td {n : Nat} : ∀ {zs : List Str}, NmsOk zs → Tds H n (zs.map V.str) (zs.map PyData.str)
  | [], _ => .nil
  | z :: zs, h => .cons (.str (h z (List.mem_cons_self ..)).2) (strs_td fun y m => h y (List.mem_cons_of_mem _ m))
theorem row_td {n : Nat} {a : Addr} {zs : List Str} (h : NmsOk zs) (l : zs.length ≤ 4) (e : H a = some (.tup (zs.map V.str))) : Td H (n + 1) (.ref a) (rwD zs) := .tup e (by rw [List.length_map]; omega) (strs_td h)
theorem pass_td {n : Nat} {p : V} : ∀ {o : Option (List Str)}, (∀ q, o = some q → RwOk q) → PsAt H p o → Td H (n + 1) p (passD o)
  | none, _, h => by
    have h : p = .non := h
    rw [h]
    exact .non
  | some ps, k, ⟨c, e, h⟩ => by
    rw [e]
    exact row_td (k ps rfl).nm (k ps rfl).l4 h
theorem me_td {n : Nat} {v : V} {m : Me} (ok : MeOk m) (h : MeAt H v m) : Td H (n + 2) v (meD m) := by
  obtain ⟨t, a, b, d, p, rfl, h1, h2, h3, h4, h5⟩ := h
  exact .tup h1 (show 4 ≤ 1000 by decide) (.cons (row_td ok.t.nm ok.t.l4 h2) (.cons (row_td ok.b.nm ok.b.l4 h3) (.cons (pass_td ok.p h4) (.cons (row_td ok.a.nm ok.a.l4 h5) .nil))))
end
/-- a dict of methods -/
def MkAt (H : Hp) (kvs : List (Key × V)) (ms : Mss) : Prop := F2 (fun (kv : Key × V) (q : Str × Me) => kv.1 = Sum.inr q.1 ∧ MeAt H kv.2 q.2) kvs ms
def MdAt (H : Hp) (m : Addr) (ms : Mss) : Prop := ∃ kvs, H m = some (.dK kvs) ∧ MkAt H kvs ms
theorem mk_keep {H H' : Hp} (s : KeepT H H') {kvs : List (Key × V)} {ms : Mss} (h : MkAt H kvs ms) : MkAt H' kvs ms := f2_imp (fun _ _ ⟨a, b⟩ => ⟨a, me_keep s b⟩) h
theorem md_same {H H' : Hp} (s : Same H H') {m : Addr} {ms : Mss} (h : MdAt H m ms) : MdAt H' m ms := let ⟨kvs, e, k⟩ := h; ⟨kvs, s _ _ e, mk_keep (kt_same s) k⟩
theorem mk_keys {H : Hp} : ∀ {kvs : List (Key × V)} {ms : Mss}, MkAt H kvs ms → kvs.map (·.1) = (ms.map (·.1)).map Sum.inr
  | _, _, .nil => rfl
  | _, _, .cons ⟨a, _⟩ t => congr (congrArg List.cons a) (mk_keys t)
theorem mk_len {H : Hp} {kvs : List (Key × V)} {ms : Mss} (h : MkAt H kvs ms) : kvs.length = ms.length := f2_len h
theorem mk_val {H : Hp} {x : Str} : ∀ {kvs : List (Key × V)} {ms : Mss}, MkAt H kvs ms → ∀ {m : Me}, ms.lookup x = some m → ∃ v, valV kvs (Sum.inr x) = some v ∧ MeAt H v m
  | _, _, .nil, _, h => nomatch h
  | (k, v) :: kvs, (n, e) :: ms, .cons ⟨a, b⟩ t, m, h => by
    have a : k = Sum.inr n := a
    subst a
    rw [List.lookup_cons] at h
    by_cases c : x = n
    · subst c
      rw [show (x == x) = true from beq_self_eq_true x] at h
      cases h
      exact ⟨v, by simp [valV], b⟩
    · rw [show (x == n) = false from beq_eq_false_iff_ne.mpr c] at h
      obtain ⟨v2, h2, h3⟩ := mk_val t h
      have e1 : valV ((Sum.inr n, v) :: kvs) (Sum.inr x) = valV kvs (Sum.inr x) := by simp [valV, Ne.symm c]
      exact ⟨v2, e1.trans h2, h3⟩
end Nb

set_option Elab.async false
set_option linter.all false
set_option maxRecDepth 100000
set_option maxHeartbeats 4000000
/-! x(lambda: ..): defs that take an action; defs that hold lambdas; what stands through both. -/
namespace Nb
open PySem PySem.Spec PyProof.Rows LamX
open L2 hiding del del_ne del_same
/-! ### the code object of a def -/
def CodeAt (K : PySem.W.Frag) (f c : Addr) : Prop := ∃ (oc : Value) (od : Option Addr) (fd : FuncData) (sl : Array (Option Value)), K.lookup f = some ⟨oc, od, .func fd, sl⟩ ∧ fd.code = .ref c
section
variable {P : Program} {w : World} {K : PySem.W.Frag} {mg : Str → Option Value} {base : Heap}
/-- a def that holds lambdas: its code object is known -/
theorem okGC {x qual : Str} {st : Stmt} {f c : Addr} {fd : FuncData} {N ps : List Str} {k : Nat} {sp : Sp} (F : Fun K x qual st f fd) (hc : CodeAt K f c) (S : FnScope N ps (defScope st)) (len : ∀ vs H Q E, sp vs H Q E → vs.length = ps.length)
    (bd : ∀ (A : Around) (outer : List Env) (s : Shared) (H : Hp) (vs : List V) (Q : VK) (E : XK), A.guards = some [] → Room k (A.deeper (PyProof.Rows.envOfC qual (defScope st) s.heap.objs.size f (.ref c))) → sp vs H Q E →
      ∃ t, PSs (cxOf CX0 P w K mg base N qual (defScope st) f (.ref c) A outer s H E).nox (defBody st) t ∧ t { nx := fun _ H' => Q .non H', rt := Q } (start N vs) H) : RunsG P w K mg base CX0 (k + 1) f fd ps sp := by
  obtain ⟨oc, od, kV, doc, pm, an, cdv, ct, osl, rfl, lk, hcd⟩ := F.ex
  obtain ⟨oc2, od2, fd2, sl2, lk2, e2⟩ := hc
  rw [lk] at lk2
  cases lk2
  have e2 : cdv = .ref c := e2
  subst e2
  intro A outer s H args us vs Q E gd hr e0 hb rv hs
  have inK : K.In s.heap := e0.mod.kin.keeps fun b o e => (e0.bs b o e).1
  have nl : s.heap.NoLimit := e0.mod.nolimit.keeps fun b o e => (e0.bs b o e).1
  have kinds : ∀ y ∈ ps.zip us, (defScope st).names.lookup y.1 = some .local ∨ ((defScope st).names.lookup y.1 = some .cell ∧ ((PySem.cellsFrom (s.heap.objs.size + 1) (defScope st).names []).lookup y.1).isSome = true) := by
    rintro ⟨n, v⟩ hy
    exact (S.par n (List.of_mem_zip hy).1).imp id fun q => ⟨q, PySem.W.cellsFrom_some _ _ _ (.inl q)⟩
  refine codeAny_call_function hr.depth (inK _ _ lk) rfl S.co S.gen rfl (PySem.W.codeRec_of inK hcd) (hb _ _ _ _ ?_)
  refine wpAny_newFunctionEnv_cells S.kind kinds fun env he s1 x1 => ?_
  subst he
  obtain ⟨t, ht, q⟩ := bd A outer s H vs Q E gd (hr.deeper _) hs
  have I : Inv (cxOf CX0 P w K mg base N qual (defScope st) f (.ref c) A outer s H E) [] (start N vs) H s1 := inv_start S hr.hd e0 (len _ _ _ _ hs) rv x1
  refine ⟨nl.keeps x1.toInCall.keep, codeAny_func (wpAny_mono (ht.nox.run [] s1 (start N vs) H _ I q) (fun fl s2 r => ?_) fun _ _ r => r)⟩
  have fin : ∀ {σ' : L2.St} {H' : Hp} {v : V} {u : Value}, Inv (cxOf CX0 P w K mg base N qual (defScope st) f (.ref c) A outer s H E) [] σ' H' s2 → L2.RelV v u → Q v H' → CE outer P w H s Q u s2 :=
    fun {σ' H' v u} J rv q => ⟨v, H', J.os, J.bare, J.base, J.hok, rv, q⟩
  cases fl with
  | ret u =>
    obtain ⟨v, σ', H', J, rv, q⟩ := r
    exact fin J rv q
  | next =>
    obtain ⟨σ', H', J, q⟩ := r
    exact fin (v := V.non) (u := Value.none) J rfl q
  | brk =>
    obtain ⟨_, _, _, q⟩ := r
    exact False.elim q
  | cont =>
    obtain ⟨_, _, _, q⟩ := r
    exact False.elim q
/-! ### a def that takes an action -/
/-- the action's call in the def that got it -/
def ActOn (X : Cx) (a : Str) (f c' : Addr) (q : Str) (tl : XK → Hp → VK → Prop) : Prop := ∀ (W : WX) (pn : List (Addr × Obj)) (xe : Value → Shared → Prop) (E : XK) (p1 p2 : Pos), Takes (X.tr pn xe) W → (∀ cls d σ' H', E cls d H' → W cls d σ' H') →
  PE (X.tr pn xe) (.Call (.Name a p1) [] [] p2) (fun σZ HZ Q => σZ[0]? = some (some (.ref f)) ∧ HZ c' = some (CodeO c' q) ∧ tl E HZ Q)
theorem takes_len {X : Cx} {W : WX} (t : Takes X W) : Takes X (fun cls d σ H => σ.length = X.N.length → W cls d σ H) := fun u s' ⟨a, B, sI, pins, σ, H, cls, d, e, I, nb, up, sky, na, os, ag, w⟩ =>
  t u s' ⟨a, B, sI, pins, σ, H, cls, d, e, I, nb, up, sky, na, os, ag, w I.len⟩
/-- the action's call in a try: what it lets out is told by W, for slots of which the number alone is known -/
def tAct (n : Nat) (f c' : Addr) (q : Str) (tl : XK → Hp → VK → Prop) (W : WX) : TE := fun σ H Q => ∃ E : XK, (∀ cls d (σ' : L2.St) H', E cls d H' → σ'.length = n → W cls d σ' H') ∧ σ[0]? = some (some (.ref f)) ∧ H c' = some (CodeO c' q) ∧ tl E H Q
theorem pe_act' {X : Cx} {a : Str} {f c' : Addr} {q : Str} {tl : XK → Hp → VK → Prop} (act : ActOn X a f c' q tl) {W : WX} {pn : List (Addr × Obj)} {xe : Value → Shared → Prop} (tk : Takes (X.tr pn xe) W) {p1 p2 : Pos} : PE (X.tr pn xe) (.Call (.Name a p1) [] [] p2) (tAct X.N.length f c' q tl W) :=
  ⟨fun pins s σ H Q I h => let ⟨E, hW, h1, h2, h3⟩ := h; (act _ pn xe E p1 p2 (takes_len tk) hW).run pins s σ H Q I ⟨h1, h2, h3⟩⟩
/-- a def of one parameter, an action: TT is what it makes of the action's reading -/
structure Gv (P : Program) (w : World) (K : PySem.W.Frag) (mg : Str → Option Value) (base : Heap) (x : Str) (TT : (XK → Hp → VK → Prop) → Hp → VK → Prop) : Prop where
  g : ∃ v, mg x = some v
  run : ∀ (X : Cx), X.prog = P → X.w = w → X.K = K → X.mg = mg → X.base = base → ∀ {T : List (Addr × Str)} {c Pt : Addr} {k : Nat} {params : Arguments} {body : Expr} {scope : Scope} {t : XK → TE} {p lpos pos : Pos}, Gl X x →
    TabB X.base X.mg c Pt → X.env.code = .ref c → (Pt, X.env.qual ++ "<lambda>") ∈ T → (∀ p ∈ T, p.1 = Pt → p.2 = X.env.qual ++ "<lambda>") → Room (k + 2) X.A → LamS X.env.scope scope → defaultsOf params X.env = ([], []) →
    (∀ (q : Str) (cl : List (Str × Addr)) (pm cv ctv : Value), bindArgs (PySem.W.kla_fn "<lambda>" q params body scope cl pm cv ctv) ⟨[], []⟩ = pure []) →
    (∀ (A : Around) (outer : List Env) (s : Shared) (H : Hp) (E : XK) (f c' : Addr), Room k (A.deeper (lamEnv X scope s.heap.objs.size f c')) → PE (lamCx X A outer s H E scope f c') body (t E)) →
    PE X (.Call (.Name x p) [.Lambda params body scope lpos] [] pos) (tLam T TT t)
theorem gv_mk {x a : Str} {st : Stmt} {g : Addr} {fd : FuncData} {N : List Str} {TT : (XK → Hp → VK → Prop) → Hp → VK → Prop} (F : Fun K x x st g fd) (hm : mg x = some (.ref g)) (S : FnScope N [a] (defScope st)) (h0 : N[0]? = some a) (va : Vis (defScope st) a) (hb : L2.Binds K fd [a] [])
    (bd : ∀ (cdv : Value) (A : Around) (outer : List Env) (s : Shared) (H : Hp) (Q : VK) (f c' : Addr) (q : Str) (tl : XK → Hp → VK → Prop), Room 1 (A.deeper (PyProof.Rows.envOfC x (defScope st) s.heap.objs.size g cdv)) → ActOn (cxOf CX0 P w K mg base N x (defScope st) g cdv A outer s H E0) a f c' q tl → H c' = some (CodeO c' q) → TT tl H Q →
      ∃ t, PSs (cxOf CX0 P w K mg base N x (defScope st) g cdv A outer s H E0).nox (defBody st) t ∧ t { nx := fun _ H' => Q .non H', rt := Q } (start N [.ref f]) H)
    (hdb : (x == ("__debug__" : Str)) = false := by decide) (hd : (a == ("__debug__" : Str)) = false := by decide) (hcd : (a == ("__classdict__" : Str)) = false := by decide) : Gv P w K mg base x TT := by
  obtain ⟨oc, od, kV, doc, pm, an, cdv, ct, osl, rfl, lk, hcd'⟩ := F.ex
  refine ⟨⟨_, hm⟩, fun X eP ew eK em eb T c Pt k params body scope t p lpos pos hg TB hcode hmT hu hr L hdef hbind hbody => ?_⟩
  subst eP ew eK em eb
  exact pe_lamcall hg hm F.kp lk hcd' hb S h0 va (fun f c' s H Q tl act hc h => bd cdv X.A X.stack s H Q f c' _ tl ((hr.mono (by omega : 2 ≤ k + 2)).deeper _) act hc h) TB hcode hmT hu hr L hdef hbind hbody hdb hd hcd
end
theorem pass_lam {X : Cx} {A : Around} {outer : List Env} {s : Shared} {H : Hp} {E E' : XK} {scope : Scope} {f c' : Addr} (h : ∀ cls d H, E' cls d H → E cls d H) : Passes (L2.CX X.prog X.w) (lamCx X A outer s H E scope f c') E' :=
  passes_call (takes_of (X := lamCx X A outer s H E scope f c') (E := E) rfl rfl rfl rfl) fun cls d _ H z => h cls d H z
/-- a raise within a locked loop: the lock is taken off ahead of it -/
def tUnl (H0 : Hp) (t : TS) : TS := fun D σ H => ∃ d od u, H d = some (.frz od u) ∧ (∀ o' u', H0 d ≠ some (.frz o' u')) ∧ t D σ (upd H d u)
theorem ps_unl {X : Cx} {st : Stmt} {t : TS} (h : PS X st t) : PS X st (tUnl X.H_0 t) := ⟨fun pins s σ H D I ⟨_, _, _, e, n, q⟩ => h.run pins s σ _ D (I.unlock e n) q⟩
/-! ### what stands through a change of tables -/
section
variable {H H' : Hp}
theorem ext_same (s : Same H H') : ExtN H H' := fun b o e _ => s b o e
theorem ext_tup (x : ExtN H H') : KeepT H H' := fun a u k e => x a u e fun ps z => by subst z; exact k
theorem ext_src (x : ExtN H H') {p : Addr} {n : Nat} (S : Src H p n) : Src H' p n := let ⟨c, m, r, e, k⟩ := S; ⟨c, m, r, x _ _ e (fun ps z => nomatch z), k⟩
theorem ext_wat (x : ExtN H H') {C a : Addr} {es : Wd.Ens} (h : WAt C H a es) : WAt C H' a es := wat_keep (ext_tup x) h fun o ho c e => x _ _ e fun ps z => by
  rcases ho with ⟨C, dx, fs, r⟩ | ⟨kvs, r⟩
  · rw [r] at z; cases z
  · rw [r] at z; cases z
theorem ext_md (x : ExtN H H') {m : Addr} {ms : Mss} (h : MdAt H m ms) : MdAt H' m ms := let ⟨kvs, e, k⟩ := h; ⟨kvs, x _ _ e (fun ps z => nomatch z), mk_keep (ext_tup x) k⟩
theorem ext_lst (x : ExtN H H') {l : Addr} {xs : List V} (h : H l = some (.lst xs)) : H' l = some (.lst xs) := x _ _ h fun ps z => nomatch z
theorem ext_dK (x : ExtN H H') {l : Addr} {xs : List (Key × V)} (h : H l = some (.dK xs)) : H' l = some (.dK xs) := x _ _ h fun ps z => nomatch z
theorem ext_t (x : ExtN H H') {l : Addr} {xs : List V} (h : H l = some (.tup xs)) : H' l = some (.tup xs) := x _ _ h fun ps z => nomatch z
theorem ext_ins (x : ExtN H H') {a C dx : Addr} {fs : List (Str × V)} (h : H a = some (.ins C dx fs)) : H' a = some (.ins C dx fs) := x _ _ h fun ps z => nomatch z
theorem ext_rd (x : ExtN H H') {a : Addr} {xs : List V} (h : Rd H a (.tup xs)) : Rd H' a (.tup xs) := (ext_tup x).rd h
theorem tabs_same {T : List (Addr × Str)} (t : Tabs T H) (s : Same H H') : Tabs T H' := t.ext s
/-- a change at an address that is no table -/
theorem tabs_del {T : List (Addr × Str)} {p : Addr} (t : Tabs T H) (n : ∀ ps, H p ≠ some (.tbl ps)) (nc : ∀ c q, H p ≠ some (CodeO c q)) (s : Same (del H p) H') : Tabs T H' := fun q hq => by
  obtain ⟨ps, e, k, h⟩ := t q hq
  refine ⟨ps, s _ _ ((del_ne fun z => n ps (by rw [← z]; exact e)).trans e), k, fun pos cv hc => ?_⟩
  obtain ⟨c, e1, e2⟩ := h pos cv hc
  exact ⟨c, e1, s _ _ ((del_ne fun z => nc _ _ (by rw [← z]; exact e2)).trans e2)⟩
theorem ext_del {p : Addr} (s : Same (del H p) H') : ExtN (del H p) H' := fun b o e _ => s b o e
end
end Nb

set_option Elab.async false
set_option linter.all false
set_option maxRecDepth 100000
set_option maxHeartbeats 4000000
/-! The end of a law whose defs hold lambdas: their tables are told, empty at first. -/
namespace Nb
open PySem PySem.Spec PyProof.Rows LamX
open L2 hiding del del_ne del_same
/-- the tables laid over a heap -/
def withT (ts : List Addr) (H : Hp) : Hp := fun b => if b ∈ ts then some (.tbl #[]) else H b
theorem withT_in {ts : List Addr} {H : Hp} {b : Addr} (h : b ∈ ts) : withT ts H b = some (.tbl #[]) := if_pos h
theorem withT_out {ts : List Addr} {H : Hp} {b : Addr} (h : b ∉ ts) : withT ts H b = H b := if_neg h
section
variable {P : Program} {w : World} {K : PySem.W.Frag} {mg mb : Str → Option Value} {CX : CXT} {k : Nat} {fa a : Addr} {fd : FuncData} {x : Str} {sp : Sp} {s1 : Shared} {vs : List Value} {ns : List Int} {cs : List (Addr × Addr)}
theorem law_runsT (inK : K.In s1.heap) (n1 : s1.heap.Ns mainGlobals mg) (n2 : s1.heap.Ns builtinsNs mb) (n3 : ∀ x : Str, x ≠ "__name__" → mb x = bootBuiltins x) (n4 : s1.heap.NoLimit) (hg : s1.gens = #[])
    (et : ∀ t ∈ cs.map (·.2), s1.heap.get? t = some { cls := .none, data := .fields #[] }) (kt : ∀ t ∈ cs.map (·.2), K.lookup t = none) (hd : ∀ q ∈ cs, PySem.W.codeHdIn K q.1 q.2 = true)
    (bmn : ∃ (bm : Addr) (ob : Obj), mg "__builtins__" = some (.ref bm) ∧ bm ≠ builtinsNs ∧ s1.heap.get? bm = some ob ∧ ob.cls = .type "module" ∧ ob.dict = some builtinsNs ∧ ob.data = .plain)
    (ea : s1.heap.get? a = some { cls := .type "list", data := .seq vs.toArray }) (hi : IntsAre vs ns) (hl : ns.length ≤ sizeLine) (hr : Room k callerA)
    (F : ∀ base : Heap, K.In base → base.Ns mainGlobals mg → (∀ q ∈ cs, TabB base mg q.1 q.2) → RunsG P w K mg base CX k fa fd [x] sp) (bd : ∀ (s : Shared) (u : Value), BindsTo s fd ⟨[u], []⟩ [(x, u)])
    (hs : ∀ H : Hp, (∀ t ∈ cs.map (·.2), H t = some (.tbl #[])) → SqL K H a (ns.map V.int) → sp [.ref a] H (fun v _ => v = .bl true) fun _ _ _ => False) (hx : ∀ H e s', CX [] H s1 (fun _ _ _ => False) e s' → False) :
    codeAny (model P w) callerA (.call (.ref fa) ⟨[.ref a], []⟩) (fun r s' => r = .ok (.ret (.bool true)) ∧ OldK s1.heap s'.heap ∧ s'.os = s1.os ∧ AllBare s'.gens) s1 := by
  obtain ⟨H0, hO, hS0, hok0, hA⟩ := script_heap (P := P) (w := w) inK ea hi hl
  have aT : a ∉ cs.map (·.2) := fun z => by
    have q := et a z
    rw [ea] at q
    cases q
  have outT : ∀ {b : Addr}, H0 b ≠ none → b ∉ cs.map (·.2) := fun {b} e z => aT ((hA b e).1 ▸ z)
  obtain ⟨H, eH⟩ : ∃ H, H = withT (cs.map (·.2)) H0 := ⟨_, rfl⟩
  have inH : ∀ t ∈ cs.map (·.2), H t = some (.tbl #[]) := fun t ht => by rw [eH]; exact withT_in ht
  have offH : ∀ {b : Addr}, b ∉ cs.map (·.2) → H b = H0 b := fun hb => by rw [eH]; exact withT_out hb
  have upH : ∀ {b : Addr} {u : HO}, H0 b = some u → H b = some u := fun {b u} e => (offH (outT (by rw [e]; exact fun z => nomatch z))).trans e
  have hS : SqL K H a (ns.map V.int) := by
    rcases hS0 with (z | ⟨o, z⟩) | z
    · exact .inl (.inl (upH z))
    · exact .inl (.inr ⟨o, upH z⟩)
    · exact .inr z
  have at_ : ∀ {b : Addr}, H b ≠ none → b ∈ cs.map (·.2) ∨ b = a ∧ K.lookup b = none := fun {b} e => by
    by_cases hb : b ∈ cs.map (·.2)
    · exact .inl hb
    · rw [offH hb] at e
      exact .inr (hA b e)
  have hok : HOk P w H s1.heap := fun b u e => by
    by_cases hb : b ∈ cs.map (·.2)
    · rw [inH b hb] at e
      cases e
      exact et b hb
    · rw [offH hb] at e
      rcases hO b with z | ⟨ob, xs, z⟩
      · rw [z] at e
        cases e
      · rw [z] at e
        cases e
        exact hok0 b _ z
  -- what is no script and no table is not told
  have free : ∀ {b : Addr} {o : Obj}, s1.heap.get? b = some o → (∀ us n, o.data ≠ .seq us n) → o.data ≠ .fields #[] → H b = none := fun {b o} e h1 h2 => by
    cases q : H b with
    | none => rfl
    | some u =>
      rcases at_ (b := b) (by rw [q]; exact fun z => nomatch z) with z | z
      · rw [et b z] at e
        cases e
        exact absurd rfl h2
      · rw [z.1, ea] at e
        cases e
        exact absurd rfl (h1 _ _)
  have keepB : ∀ {b : Addr} {o : Obj}, s1.heap.get? b = some o → (∀ us n, o.data ≠ .seq us n) → o.data ≠ .fields #[] → (hidT s1.heap H).get? b = some o := fun e h1 h2 => hidT_get e (free e h1 h2)
  have names : ∀ {b : Addr} {m : Str → Option Value}, s1.heap.Ns b m → (hidT s1.heap H).Ns b m := fun ⟨o, es, ep, e, d, r⟩ => ⟨o, es, ep, keepB e (fun us n z => by rw [d] at z; cases z) (fun z => by rw [d] at z; cases z), d, r⟩
  have inB : K.In (hidT s1.heap H) := fun b o e => hidT_get (inK b o e) (by
    cases q : H b with
    | none => rfl
    | some u =>
      rcases at_ (b := b) (by rw [q]; exact fun z => nomatch z) with z | z
      · rw [kt b z] at e
        cases e
      · rw [z.2] at e
        cases e)
  obtain ⟨mc, c1, c2⟩ := n4
  obtain ⟨bm, ob, b1, b2, b3, b4, b5, b6⟩ := bmn
  have TB : ∀ q ∈ cs, TabB (hidT s1.heap H) mg q.1 q.2 := fun q hq => by
    have tq := et q.2 (List.mem_map.mpr ⟨q, hq, rfl⟩)
    obtain ⟨og, es, ep, eg, dg, _⟩ := id n1
    refine NdefX.tabB_of_K inB (hd q hq) ⟨bm, ob, b1, b2, fun z => ?_, fun z => ?_, keepB b3 (fun us n z => by rw [b6] at z; cases z) (fun z => by rw [b6] at z; cases z), b4, b5, b6⟩ fun z => ?_
    · rw [z, eg] at b3
      cases b3
      rw [dg] at b6
      cases b6
    · rw [z, tq] at b3
      cases b3
      cases b6
    · rw [z, tq] at eg
      cases eg
      cases dg
  have e0 : Env0 P w K mg (hidT s1.heap H) callerA [] s1 H := ⟨rfl, ⟨inB, names n1, ⟨mb, names n2, n3⟩, ⟨mc, names c1, c2⟩⟩, fun b o e => of_hidT e, Nat.le_of_eq (hidT_size _ _), trivial, fun b hb => (nomatch hb), hok, .of_eq hg⟩
  refine codeAny_mono (F _ inB (names n1) TB callerA [] s1 H ⟨[.ref a], []⟩ [.ref a] [.ref a] _ _ rfl hr e0 (bd s1 (.ref a)) (.cons rfl .nil) (hs H inH hS)) fun r s2 q => ?_
  cases r with
  | error e => exact (hx H e s2 q).elim
  | ok fl =>
    cases fl with
    | ret u =>
      obtain ⟨v, H2, os, bare, un, hok2, r1, r2⟩ := q
      cases (show v = .bl true from r2)
      cases (show u = Value.bool true from r1)
      have stay : ∀ b o, b ∉ cs.map (·.2) → s1.heap.get? b = some o → s2.heap.get? b = some o := fun b o hb e => by
        rcases hO b with z | ⟨ob, xs, z⟩
        · exact un.keep b o e ((offH hb).trans z) (fun z => nomatch z) (fun z => nomatch z)
        · obtain ⟨g1, _⟩ := hok0 b _ z
          obtain ⟨g2, _⟩ := hok2 b _ (un.frzs b ob _ (upH z))
          rw [e] at g1
          cases g1
          exact g2
      have grew : ∀ t ∈ cs.map (·.2), ∃ more : Array Value, s2.heap.get? t = some { cls := .none, data := .fields more } := fun t ht => by
        obtain ⟨m, z⟩ := un.tbls t #[] (inH t ht)
        exact ⟨_, hok2 t _ z⟩
      refine ⟨rfl, ⟨fun b o e => ?_, fun b o e => ?_⟩, os, bare⟩
      · by_cases hb : b ∈ cs.map (·.2)
        · obtain ⟨m, hm⟩ := grew b hb
          obtain ⟨q, hq, eq⟩ := List.mem_map.mp hb
          subst eq
          have tq := et _ hb
          rw [tq] at e
          cases e
          have cd := PySem.W.codeHd_of_K inK (hd q hq)
          exact .inr (.inl ⟨(cd.tab tq).isCodeTable, rfl, #[], m, rfl, by rw [Array.empty_append]; exact hm⟩)
        · exact .inl (stay b o hb e)
      · by_cases hb : b ∈ cs.map (·.2)
        · obtain ⟨m, hm⟩ := grew b hb
          exact ⟨_, hm⟩
        · exact ⟨o, stay b o hb e⟩
    | next => exact False.elim q
    | brk => exact False.elim q
    | cont => exact False.elim q
end
/-- a law whose defs hold lambdas -/
def spLawT (K : PySem.W.Frag) (T : List (Addr × Str)) : Sp := fun vs H Q _ => ∃ (a : Addr) (ns : List Int), vs = [.ref a] ∧ SqL K H a (ns.map V.int) ∧ ns.length ≤ 63 ∧ Tabs T H ∧ ∀ H', Q (.bl true) H'
theorem tabs_nil {T : List (Addr × Str)} {H : Hp} (h : ∀ t ∈ T.map (·.1), H t = some (.tbl #[])) : Tabs T H := fun p hp => TabS.nil (h _ (List.mem_map.mpr ⟨p, hp, rfl⟩))
theorem look_app {a : Addr} : ∀ {l m : PySem.W.Frag}, (l ++ m).lookup a = match l.lookup a with | some o => some o | none => m.lookup a
  | [], m => rfl
  | (b, o) :: l, m => by
    have ih := look_app (a := a) (l := l) (m := m)
    show (match a == b with | true => some o | false => (l ++ m).lookup a) = match (match a == b with | true => some o | false => l.lookup a) with | some o => some o | none => m.lookup a
    cases a == b with
    | true => rfl
    | false => exact ih
/-- the written part and the empty tables, told at once -/
theorem in_two {K : PySem.W.Frag} {ts : List Addr} {m : PySem.W.Frag} {h : Heap} (Y : (K ++ m).In h) (kt : ∀ t ∈ ts, K.lookup t = none) (em : (ts.all fun t => match m.lookup t with | some ⟨.none, none, .fields vs, sl⟩ => vs.isEmpty && sl.isEmpty | _ => false) = true) :
    K.In h ∧ ∀ t ∈ ts, h.get? t = some { cls := .none, data := .fields #[] } := by
  refine ⟨fun b o e => Y b o (by rw [look_app, e]), fun t ht => Y t _ ?_⟩
  rw [look_app, kt t ht]
  have z := List.all_eq_true.mp em t ht
  split at z
  · rename_i vs sl q
    obtain ⟨z1, z2⟩ := Bool.and_eq_true_iff.mp z
    rw [Array.isEmpty_iff.mp z1, Array.isEmpty_iff.mp z2] at q
    exact q
  · cases z
/-- the head, where defs of the law hold lambdas -/
theorem walk_ofGT {l : PySem.W.OpenLaw} {n k : Nat} {q : Program} {loose : List Str} {XP : (Str → Option Value) → Heap → Prop} {YP : World → Heap → Prop} {d : DefRec} {K : Params → PySem.W.Frag} {CX : World → CXT} {sp : World → Sp} {x : Str} {cs : List (Addr × Addr)}
    (hn : l.most = some n) (hm : n ≤ sizeLine) (hd : d.params.defaults = []) (hr : Room k callerA) (hY : ∀ (w : World) (h : Heap), YP w h → (K w.params).In h ∧ ∀ t ∈ cs.map (·.2), h.get? t = some { cls := .none, data := .fields #[] })
    (kt : ∀ (w : World), ∀ t ∈ cs.map (·.2), (K w.params).lookup t = none) (ch : ∀ (w : World), ∀ q ∈ cs, PySem.W.codeHdIn (K w.params) q.1 q.2 = true)
    (F : ∀ (w : World) (mg : Str → Option Value) (fa : Addr) (h : Heap), (K w.params).In h → h.Ns mainGlobals mg → mg d.name = some (.ref fa) → ∃ fd : FuncData, (∀ (s : Shared) (u : Value), BindsTo s fd ⟨[u], []⟩ [(x, u)]) ∧
      ∀ base : Heap, (K w.params).In base → base.Ns mainGlobals mg → (∀ q ∈ cs, TabB base mg q.1 q.2) → RunsG l.prog w (K w.params) mg base (CX w) k fa fd [x] (sp w))
    (hs : ∀ (w : World) (H : Hp) (a : Addr) (ns : List Int), ns.length ≤ n → (∀ t ∈ cs.map (·.2), H t = some (.tbl #[])) → SqL (K w.params) H a (ns.map V.int) → sp w [.ref a] H (fun v _ => v = .bl true) fun _ _ _ => False)
    (hx : ∀ (w : World) (H : Hp) (s : Shared) (e : Value) (s' : Shared), CX w [] H s (fun _ _ _ => False) e s' → False) : PySem.W.WalkO q loose XP YP l.row.toRowW d [] (fun f vs => PySem.call f vs) := by
  refine Att.attach_callB hn hd fun w s0 s1 mg mb fa o pm cd doc a vs ns G Y e1 e2 e3 e4 ea hi hl _ hg => ?_
  obtain ⟨fd, bd, R⟩ := F w mg fa _ (hY w _ Y).1 G.T.g e4
  exact law_runsT (hY w _ Y).1 G.T.g G.T.b G.T.builtins G.T.nolimit hg (hY w _ Y).2 (kt w) (ch w) G.T.bmain ea hi (Nat.le_trans hl hm) hr R bd (fun H hT hS => hs w H a ns hl hT hS) fun H e s' => hx w H s1 e s'
end Nb

set_option Elab.async false
set_option linter.all false
set_option maxRecDepth 100000
set_option maxHeartbeats 4000000
/-! a list that has something != [], whatever it holds. -/
namespace Nb
open PySem PySem.Spec PyProof.Rows
open L2 hiding del del_ne del_same
def rNeL0 (K : PySem.W.Frag) : R2 := fun x y H Q => ∃ a b xs, x = .ref a ∧ y = .ref b ∧ SqL K H a xs ∧ SqL K H b [] ∧ 0 < xs.length ∧ Q (.bl true) H
theorem op_neL0 {X : Cx} (hu : X.A.units + 64 < cLine) : OpR X (compareOp .NotEq) (rNeL0 X.K) := by
  intro pins s σ H x y v u Q I rx ry h
  obtain ⟨a, b, xs, rfl, rfl, ha, hb, l, q⟩ := h
  cases rx
  cases ry
  obtain ⟨its, rv, ⟨o, n, ho, hc, _, hd⟩, _⟩ := I.list ha
  obtain ⟨its2, rv2, ⟨o2, n2, ho2, hc2, _, hd2⟩, _⟩ := I.list hb
  have l1 := rv.length
  have l2 := rv2.length
  refine SeqAt.RcNeAt.lists_lengths (s := s) (A := X.A) ⟨_, ho, hc, _, hd⟩ ⟨_, ho2, hc2, _, hd2⟩ ?_ (by omega) _ _ _ _ ⟨.bl true, H, I, rfl, q⟩
  simp only [List.size_toArray, bne_iff_ne, ne_eq]
  simp at l2
  omega
end Nb

set_option Elab.async false
set_option maxRecDepth 100000
set_option maxHeartbeats 4000000
/-! An own error that is made and held as a value, not raised: told in the heap at once. -/
namespace Nb
open PySem PySem.Spec PyProof.Rows L2
/-- what the making of an error wishes, where the error is a value -/
def tKept (t : L2.St → Hp → XK → Prop) : TE := fun σ H Q => t σ H fun cls d H' => ∀ a, H' a = none → Q (.ref a) (upd H' a (Ke cls d a))
theorem pe_kept {X : Cx} {e : Expr} {t : L2.St → Hp → XK → Prop} (x0 : X.ex = []) (st : X.stack = X.env :: X.outer) (fl : X.env.frame = some X.env.locals) (he : PMk X e t) : PE X e (tKept t) := by
  refine ⟨fun pins s σ H Q I h => wpAny_mono (he pins s σ H _ I h) (fun u s1 r => ?_) fun _ _ z => z⟩
  obtain ⟨a, oe, vs, s0, H1, cls, d, rfl, J, k, na0, ea, zc, dv, _, na, os, ag, _, q⟩ := r
  have ok := J.ok
  have J1 : Inv X pins σ H1 s1 := by
    have J2 := J.call (ch := []) (h' := s1.heap) (g' := s1.gens) (t' := s1.toks) (d' := s1.drawn) (H' := H1)
      ⟨fun b o e _ _ _ => k b o e, fun b o e _ _ _ => ⟨o.slots, k b o e⟩, fun _ _ _ n _ => n, fun b o e _ => ⟨o, k b o e⟩, fun _ _ e => e, fun _ _ _ e => e, fun b ps e => ⟨#[], by rw [e]; simp⟩⟩ (J.hok.kept k) ag (fun _ z => nomatch z)
    obtain ⟨a1, a2, a3, a4, a5⟩ := s1
    cases (show a5 = s0.os from os)
    exact J2
  have gone : ∀ {b : Addr} {o : Obj}, s0.heap.get? b = some o → b ≠ a := fun e z => by
    rw [z, na0] at e
    cases e
  have n0 : X.s_0.heap.get? a = none := by
    cases e : X.s_0.heap.get? a with
    | none => rfl
    | some o =>
      obtain ⟨o', e'⟩ := J.base.there a o e (by rw [x0]; exact fun z => nomatch z)
      exact absurd rfl (gone e')
  have nL : a ≠ X.env.locals := fun z => by
    obtain ⟨m, hn, _⟩ := J.loc
    obtain ⟨o, _, _, e, _⟩ := hn
    exact gone e z.symm
  refine ⟨.ref a, upd H1 a (Ke cls d a), inv_tell J1 na n0 nL (fun v hv => ?_) (fun p hp => gone (J.pin p hp).1) (ke_ok ea zc dv), rfl, q a na⟩
  obtain ⟨o, ho, hd⟩ := hv
  rw [ea] at ho
  cases ho
  rw [dv] at hd
  cases hd
end Nb

set_option Elab.async false
set_option maxRecDepth 100000
set_option maxHeartbeats 4000000
/-! Own errors over any of four built-in classes, whose __init__ stores its arguments under their names. -/
namespace Nb
open PySem PySem.Spec PyProof.Rows Builtin.ObjectAttr
open L2 hiding del del_ne del_same
/-- the built-in class below -/
structure Over (B nw ini : String) (bm : List Value) : Prop where
  fb : ExcBaseFacts B nw ini bm
  sf : StoreFacts B bm "object.__setattr__" "object"
theorem overV : Over "ValueError" "ValueError.__new__" "ValueError.__init__" [.type "ValueError", .type "Exception", .type "BaseException", .type "object"] := ⟨F.excBase_ValueError, F.store_ValueError⟩
theorem overA : Over "ArithmeticError" "ArithmeticError.__new__" "ArithmeticError.__init__" [.type "ArithmeticError", .type "Exception", .type "BaseException", .type "object"] := ⟨F.excBase_ArithmeticError, F.store_ArithmeticError⟩
theorem overL : Over "LookupError" "LookupError.__new__" "LookupError.__init__" [.type "LookupError", .type "Exception", .type "BaseException", .type "object"] := ⟨F.excBase_LookupError, F.store_LookupError⟩
theorem overR : Over "RuntimeError" "RuntimeError.__new__" "RuntimeError.__init__" [.type "RuntimeError", .type "Exception", .type "BaseException", .type "object"] := ⟨F.excBase_RuntimeError, F.store_RuntimeError⟩
/-- what the written part says of an own error class -/
structure ErrC (K : PySem.W.Frag) (C : Addr) : Prop where
  ov : ∃ B nw ini bm, Over B nw ini bm ∧ PySem.W.excInitIn K C bm nw = true ∧ PySem.W.excOver K C bm = true
  sa : PySem.W.findIn K (.ref C) "__setattr__" = some (some (.builtin "object.__setattr__"))
  tyC : PySem.W.typeIn K (.ref C) = some (.type "type")
  kC : PySem.W.keepIn K (.ref C) = true
  ex : ExcC K C
theorem taker_of {K : PySem.W.Frag} {C : Addr} {f : Str} (h : PySem.W.findIn K (.ref C) f = some none) : PySem.W.takerIn K C f = some none := by
  unfold PySem.W.takerIn
  rw [h]
  rfl
section
variable {X : Cx} {pins : List (Addr × Obj)} {σ : L2.St} {H : Hp} {s : Shared} {a C d : Addr} {f : Str} {y : V} {u : Value} {fs : List (Str × V)} {Q : Unit → Shared → Prop} {E : Value → Shared → Prop} {A : Around}
theorem put_first (T : ErrC X.K C) (I : Inv X pins σ H s) (e : H a = some (exo a C none)) (hno : PySem.W.findIn X.K (.ref C) f = some none) (ry : RelV y u)
    (h : ∀ d s', H d = none → d ≠ a → Inv X pins σ (upd (upd (upd H d (exd d [])) a (exo a C (some d))) d (exd d [(f, y)])) s' → Q () s') : wpAny (model X.prog X.w) A (setAttr (.ref a) f u) Q E s := by
  obtain ⟨t1, ho⟩ := exo_at I.hok e
  obtain ⟨B, nw, ini, bm, ov, q1, q2⟩ := T.ov
  obtain ⟨cd, hc, hd⟩ := PySem.W.any_some T.ex.hd
  obtain ⟨hp, g, dr, t, os⟩ := s
  have la : a < hp.objs.size := Heap.lt_size ho
  refine PySem.W.set_plain (od := none) I.kIn ⟨ho, rfl, rfl, trivial⟩ T.sa ?_
  refine PySem.W.osa_openX (od := none) ov.sf I.kIn ⟨ho, rfl, rfl, trivial⟩ q2 (taker_of hno) fun b => ?_
  refine wpAny_bind (wpAny_pure (wpAny_bind (PySem.W.instanceDict_exc (c2 := .none) ho (PySem.W.looks_clsIn I.kIn hc) hd ?_)))
  have sz : hp.objs.size ≠ a := Nat.ne_of_gt la
  have e1 : (hp.push (PySem.W.dictOf [] 0)).get? hp.objs.size = some (PySem.W.dictOf [] 0) := Heap.get?_push_at rfl rfl
  have n1 : (hp.push (PySem.W.dictOf [] 0)).Ns hp.objs.size (fun _ => none) := ⟨_, #[], _, e1, rfl, fun e he => absurd he (by simp), fun _ => rfl⟩
  have I1 := I.laid (t' := t) (a := hp.objs.size) (o := exd hp.objs.size []) (h' := hp.push (PySem.W.dictOf [] 0)) (fun b o q => Heap.get?_push_of_some _ q) (Nat.le_refl _) (exd_ok (Heap.Ns1.of_empty n1) fun _ => True.intro)
  have h1 : (hp.push (PySem.W.dictOf [] 0)).get? a = some ({ cls := .ref C, data := .fields #[.ref t1, .none, .none, .none, .bool false, .none] } : Obj) := Heap.get?_push_of_some _ ho
  have I2 := I1.write (t' := t) (x := a) (e := a) (o := exo a C (some hp.objs.size)) (h' := (hp.push (PySem.W.dictOf [] 0)).update a fun o => { o with dict := some hp.objs.size }) (by rw [upd_ne (Ne.symm sz), e]; exact True.intro) (.inl rfl)
    (fun b o hb q => (Heap.get?_update_ne _ _ _ _ hb).trans q) ⟨_, Heap.get?_update_self _ h1 rfl⟩ (exo_ok (Heap.get?_update_self _ h1 rfl))
  have n2 : ((hp.push (PySem.W.dictOf [] 0)).update a fun o => { o with dict := some hp.objs.size }).Ns hp.objs.size (fun _ => none) :=
    ⟨_, #[], _, (Heap.get?_update_ne _ _ _ _ sz).trans e1, rfl, fun e he => absurd he (by simp), fun _ => rfl⟩
  show wpAny _ _ (storeInDict hp.objs.size (.str f _) f u) _ _ _
  refine PySem.HandSPX.store_in_new n2 fun h' tk' hn' hs => ?_
  have at2 : upd (upd H hp.objs.size (exd hp.objs.size [])) a (exo a C (some hp.objs.size)) hp.objs.size = some (exd hp.objs.size []) := by rw [upd_ne sz, upd_same]
  have hd2 : ∃ o, h'.get? hp.objs.size = some o := by
    obtain ⟨o, _, _, e', _⟩ := hn'
    exact ⟨o, e'⟩
  exact h _ _ (I.hok.fresh (Nat.le_refl _)) sz (I2.write (t' := tk') (x := hp.objs.size) (e := hp.objs.size) (o := exd hp.objs.size [(f, y)]) (by rw [at2]; exact True.intro) (.inl rfl) (fun b o hb q => (hs.2 b hb).trans q) hd2
    (exd_ok hn' (relO_put (fs := []) ry fun _ => True.intro)))
theorem put_more (T : ErrC X.K C) (I : Inv X pins σ H s) (e : H a = some (exo a C (some d))) (ed : H d = some (exd d fs)) (hl : fs.length ≤ 900) (hno : PySem.W.findIn X.K (.ref C) f = some none) (ry : RelV y u)
    (h : ∀ s', Inv X pins σ (upd H d (exd d ((f, y) :: fs))) s' → Q () s') : wpAny (model X.prog X.w) A (setAttr (.ref a) f u) Q E s := by
  obtain ⟨t1, ho⟩ := exo_at I.hok e
  obtain ⟨mA, hns, rel⟩ := exd_at I.hok ed
  have hw := within_of rel
  obtain ⟨B, nw, ini, bm, ov, q1, q2⟩ := T.ov
  obtain ⟨cd, hc, hd⟩ := PySem.W.any_some T.ex.hd
  obtain ⟨hp, g, dr, t, os⟩ := s
  obtain ⟨oD, _, _, hoD, _, _⟩ := hns.count hw
  refine PySem.W.set_plain (od := some oD) I.kIn ⟨ho, rfl, rfl, hoD⟩ T.sa ?_
  refine PySem.W.osa_openX (od := some oD) ov.sf I.kIn ⟨ho, rfl, rfl, hoD⟩ q2 (taker_of hno) fun b => ?_
  refine wpAny_bind (wpAny_pure (wpAny_bind (wpAny_bind (wpAny_loadPart ho (wpAny_bind ((PySem.W.looks_clsIn I.kIn hc).at ?_))))))
  rw [hd]
  refine wpAny_pure (a := some d) ?_
  refine PySem.OEX.store_in_old hns hw (by rw [List.length_map]; omega) fun h' tk' hn' hs => ?_
  have hd2 : ∃ o, h'.get? d = some o := by
    obtain ⟨o, _, _, e', _⟩ := hn'
    exact ⟨o, e'⟩
  exact h _ (I.write (t' := tk') (x := d) (e := d) (o := exd d ((f, y) :: fs)) (by rw [ed]; exact True.intro) (.inl rfl) (fun b o hb q => (hs.2 b hb).trans q) hd2 (exd_ok hn' (relO_put ry rel)))
end
/-- H is H0 and, at a, an error of C that is being made, with the fields fs -/
def Mkg (H0 H : Hp) (a C : Addr) (fs : List (Str × V)) : Prop := H0 a = none ∧ ((fs = [] ∧ H = upd H0 a (exo a C none)) ∨ ∃ d, H0 d = none ∧ d ≠ a ∧ H = upd (upd H0 d (exd d fs)) a (exo a C (some d)))
def tPut (K : PySem.W.Frag) (f : Str) (to te : TE) : TS := fun D σ H => te σ H fun y H1 => to σ H1 fun x H2 => ∃ (a C : Addr) (H0 : Hp) (fs : List (Str × V)), x = .ref a ∧ ErrC K C ∧ PySem.W.findIn K (.ref C) f = some none ∧ fs.length ≤ 900 ∧ Mkg H0 H2 a C fs ∧ ∀ H3, Mkg H0 H3 a C ((f, y) :: fs) → D.nx σ H3
theorem ps_put {X : Cx} {o e : Expr} {to te : TE} {f : Str} {p' pos : Pos} (ho : PE X o to) (he : PE X e te) (hs : swapsWith e (some (.Attribute o f p')) pos.line X.env = pure false := by rfl) : PS X (.Assign [.Attribute o f p'] e pos) (tPut X.K f to te) := by
  refine ⟨fun pins s σ H D I h => ?_⟩
  refine plainObj_wpAny_Assign_Attribute (thn (he.run pins s σ H _ I h) fun v s1 ⟨y, H1, I1, r1, q1⟩ => thn (ho.run pins s1 σ H1 _ I1 q1) fun u s2 ⟨x, H2, I2, r2, a, C, H0, fs, ex, T, hno, hl, mk, q⟩ => ?_) hs
  subst ex
  cases (show u = Value.ref a from r2)
  obtain ⟨na, ⟨rfl, rfl⟩ | ⟨d, nd, ne, rfl⟩⟩ := mk
  · refine put_first T I2 upd_same hno r1 fun d s' n ne J => ⟨σ, _, J, q _ ⟨na, .inr ⟨d, ?_, ne, ?_⟩⟩⟩
    · rw [upd_ne ne] at n
      exact n
    · funext b
      by_cases h1 : b = d
      · subst h1
        rw [upd_same, upd_ne ne, upd_same]
      · rw [upd_ne h1]
        by_cases h2 : b = a
        · subst h2
          rw [upd_same, upd_same]
        · rw [upd_ne h2, upd_ne h1, upd_ne h2, upd_ne h2, upd_ne h1]
  · refine put_more T I2 upd_same (by rw [upd_ne ne, upd_same]) hl hno r1 fun s' J => ⟨σ, _, J, q _ ⟨na, .inr ⟨d, nd, ne, ?_⟩⟩⟩
    funext b
    by_cases h1 : b = d
    · subst h1
      rw [upd_same, upd_ne ne, upd_same]
    · rw [upd_ne h1]
      by_cases h2 : b = a
      · subst h2
        rw [upd_same, upd_same]
      · rw [upd_ne h2, upd_ne h2, upd_ne h1, upd_ne h1]
/-- __init__ of such a class: the fields are its parameters behind self -/
def spMk (K : PySem.W.Frag) (fs : List Str) : Sp := fun vs H Q _ => ∃ (a C : Addr) (H0 : Hp) (ws : List V), vs = .ref a :: ws ∧ ws.length = fs.length ∧ ErrC K C ∧ (∀ f ∈ fs, PySem.W.findIn K (.ref C) f = some none) ∧ Mkg H0 H a C [] ∧
  ∀ H', Mkg H0 H' a C (fs.zip ws).reverse → Q .non H'
/-- an error of C(e, ..), made: a dict with its fields is left -/
def tMkE0 (C : Addr) (fs : List Str) (ta : TA) : L2.St → Hp → XK → Prop := fun σ H Q => ∃ R : List V → Hp → Prop, ta σ H R ∧ ∀ vs H1, R vs H1 → vs.length = fs.length ∧ ∀ d, H1 d = none → Q (.ref C) (some d) (upd H1 d (.xd (fs.zip vs).reverse))
def tMkE (C : Addr) (fs : List Str) (ta : TA) : L2.St → Hp → XK → Prop := fun σ H Q => ta σ H fun vs H1 => vs.length = fs.length ∧ ∀ d, H1 d = none → Q (.ref C) (some d) (upd H1 d (.xd (fs.zip vs).reverse))
/-- all that is known of an own error class -/
structure Er (P : Program) (w : World) (K : PySem.W.Frag) (mg : Str → Option Value) (base : Heap) (x : Str) (C : Addr) (fs : List Str) : Prop where
  T : ErrC K C
  g : mg x = some (.ref C)
  no : ∀ f ∈ fs, PySem.W.findIn K (.ref C) f = some none
  len : fs.length ≤ 900
  pos : 1 ≤ fs.length
  ini : ∃ (fI : Addr) (fd : FuncData), PySem.W.findIn K (.ref C) "__init__" = some (some (.ref fI)) ∧ PySem.W.typeIn K (.ref fI) = some (.type "function") ∧ Binds K fd ("self" :: fs) [] ∧ FnOk P w K mg base CX0 1 fI fd ("self" :: fs) (spMk K fs)
section
variable {X : Cx} {x : Str} {C : Addr} {fs : List Str} {e : Expr} {es : List Expr} {ta : TA} {p pos : Pos}
theorem pmk_err0 (R : Er X.prog X.w X.K X.mg X.base x C fs) (hr : Room 2 X.A) (hg : Gl X x) (ha : PA X (e :: es) ta)
    (hdb : (x == ("__debug__" : Str)) = false := by decide) (he : starEach (e :: es) X.env = (false, eval e X.env) :: starEach es X.env := by rfl) (hpl : (backTo pos (starEach es X.env)).any (·.1) = false := by rfl) :
    PMk X (.Call (.Name x p) (e :: es) [] pos) (tMkE0 C fs ta) := by
  intro pins s σ H Q I ⟨R0, h, imp⟩
  obtain ⟨B, nw, ini, bm, ov, q1, _⟩ := R.T.ov
  obtain ⟨fI, fd, iC, tI, hb, F1⟩ := R.ini
  refine wpAny_Call_Name_kw (ld_glob I hg R.g ?_ hdb)
  refine PySem.W.callWith_K (h₀ := X.base) I.ok.mod.kin R.T.kC (thn (ha.run pos pins s σ H _ I h) fun us s1 ⟨vs, H1, I1, r1, q0⟩ => ⟨I1.kIn, ?_⟩) he hpl
  show wpAny _ _ (call (.ref C) us) _ _ _
  obtain ⟨hz, qf⟩ := imp vs H1 q0
  obtain ⟨hp, g, dr, tk, os⟩ := s1
  obtain ⟨nm, N, qn, bs, bm', hdct, sn, sub, ab, col, dd, k0, k1, k2, k3, k5, hC, hT⟩ := PySem.W.excInit_of I1.kIn q1
  have up1 : hp.objs.size ≤ hp.objs.size + 1 := Nat.le_succ _
  have hn : H1 (hp.objs.size + 1) = none := I1.hok.fresh up1
  have kk : ∀ b o, hp.get? b = some o → ((hp.push (PySem.W.kdv_tup us)).push (PySem.HandSPX.excO C hp.objs.size)).get? b = some o := fun b o e => Heap.get?_push_of_some _ (Heap.get?_push_of_some _ e)
  have ge : ((hp.push (PySem.W.kdv_tup us)).push (PySem.HandSPX.excO C hp.objs.size)).get? (hp.objs.size + 1) = some (PySem.HandSPX.excO C hp.objs.size) := by heap_get
  have I2 : Inv X pins σ (upd H1 (hp.objs.size + 1) (exo (hp.objs.size + 1) C none)) ⟨(hp.push (PySem.W.kdv_tup us)).push (PySem.HandSPX.excO C hp.objs.size), g, dr, tk, os⟩ :=
    I1.laid (t' := tk) (a := hp.objs.size + 1) (o := exo (hp.objs.size + 1) C none) (h' := (hp.push (PySem.W.kdv_tup us)).push (PySem.HandSPX.excO C hp.objs.size)) kk up1 (exo_ok ge)
  have r2 : Vals (V.ref (hp.objs.size + 1) :: vs) (Value.ref (hp.objs.size + 1) :: us) := .cons rfl r1
  have zl : us.length = fs.length := by rw [← Paired.length r1, hz]
  have hus : us.length ≤ sizeLine := by
    rw [zl, sizeLine_eq]
    exact Nat.le_trans R.len (by decide)
  refine wpAny_call (PySem.HandSPX.call_own ov.fb hT hC (PySem.W.looks_findIn I1.kIn iC) (fun self => PySem.W.bind_fn I1.kIn self tI) hus
    (codeAny_mono (F1.run _ X.stack _ _ ⟨Value.ref (hp.objs.size + 1) :: us, []⟩ (Value.ref (hp.objs.size + 1) :: us)
      (Q := fun v H2 => v = .non ∧ Mkg H1 H2 (hp.objs.size + 1) C (fs.zip vs).reverse) _ (fun _ _ _ => False) (hr.make C us []) (I2.env0.make C us [])
      (by simpa using hb _ (Value.ref (hp.objs.size + 1) :: us) I2.kIn (by rw [List.length_append, List.length_cons, zl]; rfl)) r2 ⟨_, C, H1, vs, rfl, hz, R.T, R.no, ⟨hn, .inl ⟨rfl, rfl⟩⟩, fun H' m => ⟨rfl, m⟩⟩) fun r s' hq' => ?_))
  cases r with
  | error er => exact False.elim hq'
  | ok fl =>
    cases fl with
    | ret u =>
      obtain ⟨v, H2, os2, bare2, un2, hok2, rv, ev, na, mk⟩ := hq'
      subst ev
      obtain ⟨h2, g2, d2, t2, os'⟩ := s'
      refine ⟨rv, ?_⟩
      rcases mk with ⟨mk, _⟩ | ⟨d, nd, ne, rfl⟩
      · have l0 := congrArg List.length mk
        rw [List.length_reverse, List.length_zip, ← hz, Nat.min_self, hz, List.length_nil] at l0
        have := R.pos
        omega
      · refine mk_end (raises_own R.T.ex.hs R.T.tyC) I1 up1 kk un2 hok2 os2 bare2 upd_same (by rw [upd_ne ne, upd_same]) nd ?_
        have e : upd (L2.del (upd (upd H1 d (exd d (fs.zip vs).reverse)) (hp.objs.size + 1) (exo (hp.objs.size + 1) C (some d))) (hp.objs.size + 1)) d (.xd (fs.zip vs).reverse) = upd H1 d (.xd (fs.zip vs).reverse) := by
          funext b
          by_cases h1 : b = d
          · rw [h1, upd_same, upd_same]
          · rw [upd_ne h1, upd_ne h1]
            by_cases h2 : b = hp.objs.size + 1
            · rw [h2, L2.del_same, hn]
            · rw [L2.del_ne h2, upd_ne h2, upd_ne h1]
        rw [e]
        exact qf d nd
    | next => exact False.elim hq'
    | brk => exact False.elim hq'
    | cont => exact False.elim hq'
theorem pmk_err (R : Er X.prog X.w X.K X.mg X.base x C fs) (hr : Room 2 X.A) (hg : Gl X x) (ha : PA X (e :: es) ta)
    (hdb : (x == ("__debug__" : Str)) = false := by decide) (he : starEach (e :: es) X.env = (false, eval e X.env) :: starEach es X.env := by rfl) (hpl : (backTo pos (starEach es X.env)).any (·.1) = false := by rfl) :
    PMk X (.Call (.Name x p) (e :: es) [] pos) (tMkE C fs ta) := fun pins s σ H Q I h => pmk_err0 R hr hg ha hdb he hpl pins s σ H Q I ⟨_, h, fun _ _ z => z⟩
end

/-- an error as a value: it is told, with its fields -/
def tErr (C : Addr) (fs : List Str) (ta : TA) : TE := fun σ H Q => ta σ H fun vs H1 => vs.length = fs.length ∧ ∀ H2 a d, Same H1 H2 → H1 a = none → H1 d = none → KeptAt H2 a C d (fs.zip vs).reverse → Q (.ref a) H2
theorem PE.weak {X : Cx} {e : Expr} {t u : TE} (h : PE X e t) (k : ∀ σ H Q, u σ H Q → t σ H Q) : PE X e u := ⟨fun pins s σ H Q I z => h.run pins s σ H Q I (k _ _ _ z)⟩
theorem pe_err {X : Cx} {x : Str} {C : Addr} {fs : List Str} {e : Expr} {es : List Expr} {ta : TA} {p pos : Pos} (x0 : X.ex = []) (st : X.stack = X.env :: X.outer) (fl : X.env.frame = some X.env.locals) (R : Er X.prog X.w X.K X.mg X.base x C fs) (hr : Room 2 X.A) (hg : Gl X x) (ha : PA X (e :: es) ta)
    (hdb : (x == ("__debug__" : Str)) = false := by decide) (he : starEach (e :: es) X.env = (false, eval e X.env) :: starEach es X.env := by rfl) (hpl : (backTo pos (starEach es X.env)).any (·.1) = false := by rfl) :
    PE X (.Call (.Name x p) (e :: es) [] pos) (tErr C fs ta) := by
  refine PE.weak (pe_kept x0 st fl (pmk_err0 R hr hg ha hdb he hpl)) fun σ H Q h => ⟨_, h, fun vs H1 ⟨l, q⟩ => ⟨l, fun d hd a ha => ?_⟩⟩
  have ne : a ≠ d := fun z => by rw [z, upd_same] at ha; cases ha
  have ha1 : H1 a = none := by rw [upd_ne ne] at ha; exact ha
  refine q _ a d ((same_new hd).trans (same_new ha)) ha1 hd ⟨upd_same, ?_⟩
  rw [upd_ne (Ne.symm ne), upd_same]
end Nb
namespace Nb
open PySem PySem.Spec PyProof.Rows Builtin.ObjectAttr
open L2 hiding del del_ne del_same
/-- all of it as one answer of the written part -/
def errB (K : PySem.W.Frag) (C : Addr) (bm : List Value) (nw : String) (fs : List Str) : Bool :=
  PySem.W.excInitIn K C bm nw && (PySem.W.excOver K C bm && (decide (PySem.W.findIn K (.ref C) "__setattr__" = some (some (.builtin "object.__setattr__"))) && (decide (PySem.W.typeIn K (.ref C) = some (.type "type")) && (PySem.W.keepIn K (.ref C) &&
  (decide (PySem.W.findIn K (.ref C) "__getattribute__" = some (some (.builtin "BaseException.__getattribute__"))) && (decide (PySem.W.findIn K (.ref C) "__getattr__" = some none) && (decide (PySem.W.subIn K (.ref C) (.type "BaseException") = some true) && (PySem.W.hasDictIn K C &&
  (decide (PySem.W.findIn K (.ref C) "__class__" = some (some (.builtin "object.__class__"))) && (decide (PySem.W.specialIn K (.builtin "object.__class__") "__get__" = some (some (.builtin "getset_descriptor.__get__"))) && (decide (PySem.W.takesIn K (.builtin "object.__class__") = some true) &&
  (decide (PySem.W.mroIn K C (.type "object") = some true) && fs.all fun f => decide (PySem.W.findIn K (.ref C) f = some none)))))))))))))
theorem er_mk {P : Program} {w : World} {K : PySem.W.Frag} {mg : Str → Option Value} {base : Heap} {x : Str} {C fI : Addr} {fd : FuncData} {fs : List Str} {B nw ini : String} {bm : List Value} (ov : Over B nw ini bm) (g : mg x = some (.ref C)) (q : errB K C bm nw fs = true)
    (i : PySem.W.findIn K (.ref C) "__init__" = some (some (.ref fI))) (t : PySem.W.typeIn K (.ref fI) = some (.type "function")) (b : Binds K fd ("self" :: fs) []) (G : FnOk P w K mg base CX0 1 fI fd ("self" :: fs) (spMk K fs)) (l1 : fs.length ≤ 900) (l2 : 1 ≤ fs.length) : Er P w K mg base x C fs := by
  unfold errB at q
  simp only [Bool.and_eq_true, decide_eq_true_eq, List.all_eq_true] at q
  obtain ⟨q1, q2, q3, q4, q5, q6, q7, q8, q9, q10, q11, q12, q13, q14⟩ := q
  exact ⟨⟨⟨B, nw, ini, bm, ov, q1, q2⟩, q3, q4, q5, ⟨q6, q7, q8, q9, q10, q11, q12, q13⟩⟩, g, q14, l1, l2, fI, fd, i, t, b, G⟩
theorem Er.xf {P : Program} {w : World} {K : PySem.W.Frag} {mg : Str → Option Value} {base : Heap} {x : Str} {C : Addr} {fs : List Str} (R : Er P w K mg base x C fs) : XfC K C := ⟨R.T.ex.hg, R.T.ex.hk, R.T.ex.hs, R.T.ex.hd⟩
/-- isinstance(e, (C, D, ..)) of a kept error -/
def rIsT (K : PySem.W.Frag) : List V → Hp → VK → Prop := fun xs H Q => ∃ (a D dd t : Addr) (fs : List (Str × V)) (cs : List V) (cvs : List Value) (b : Bool), xs = [.ref a, .ref t] ∧ ExcC K D ∧ KeptAt H a D dd fs ∧ SqT K H t cs ∧ (∀ us, Vals cs us → us = cvs) ∧ PySem.W.kitAny K (.ref D) cvs = some b ∧ Q (.bl b) H
theorem call_isKt {X : Cx} : CallR X (.builtin "isinstance") (rIsT X.K) := by
  intro pins s σ H xs us Q I r h
  obtain ⟨a, D, dd, t, fs, cs, cvs, b, rfl, C, ka, ht, hcv, e, q⟩ := h
  obtain ⟨oe, od, mA, J, _⟩ := kept_inst I.hok ka
  obtain ⟨its, ri, ⟨⟨tc, td, tdat, tsl⟩, et, ec1, n2, ed1⟩, _⟩ := I.tuple ht
  cases (show tc = Value.type "tuple" from ec1)
  cases (show tdat = Data.seq its.toArray n2 from ed1)
  cases r with
  | cons rx rr => cases rr with
    | cons rt rr =>
      cases rr
      cases rx
      cases rt
      obtain ⟨cd, hc, _⟩ := PySem.W.any_some C.hd
      have ec := hcv _ ri
      subst ec
      exact PySem.W.kia_tup (PySem.W.kitx_exc (by rw [hc]; rfl) C.hg C.hk C.hs C.ha C.hn C.ht C.hm) I.kIn J et e (fun z => nomatch z) fun tk => ⟨.bl b, H, I.kept (t' := tk) fun _ _ z => z, rfl, q⟩
end Nb

set_option Elab.async false
set_option linter.all false
set_option maxRecDepth 100000
set_option maxHeartbeats 4000000
/-! x + y of two own classes, one maybe below the other; != by an own __eq__. -/
namespace PySem.W
open PySem PySem.Calls PyProof.Rows Builtin Builtin.ObjectAttr
section
variable {α : Type} {prog : Program} {w : World} {A : Around} {E : Value → Shared → Prop} {s : Shared} {K : Frag}
theorem raise_attr {msg : Str} {Q : α → Shared → Prop} (hh : A.handled = none) (h : ∀ h' tk e, Heap.NewExcOf s.heap h' e "AttributeError" → E (.ref e) { s with heap := h', toks := tk }) (hm : msg.length ≤ sizeLine) :
    wpAny (model prog w) A (raiseErrorStr "AttributeError" msg : Sem α) Q E s := by
  unfold raiseErrorStr
  refine wpAny_bind (wpAny_mkStr (wpAny_bind ?_) hm)
  unfold newExc newTuple
  refine wpAny_bind (wpAny_newObj_type ?_ (by size_fits))
  refine wpAny_bind (m := firstArgMember _ _) (wpAny_of_eq (a := Value.none) (by simp only [firstArgMember, attrError_no_first]; rfl) ?_)
  rw [ownMembersOf_AttributeError]
  refine wpAny_newObj_type ?_ (by size_fits)
  obtain ⟨hp, g, d, tk, os⟩ := s
  unfold raiseNew
  refine wpAny_bind (wpAny_handled ?_)
  rw [hh]
  first
    | refine wpAny_throw ?_
    | refine wpAny_bind (wpAny_pure (wpAny_throw ?_))
  dsimp only
  refine h _ _ _ ⟨fun b ob hb => ?_, Heap.get?_none_of_le (by simp), ?_⟩
  · exact Heap.get?_push_of_some _ (Heap.get?_push_of_some _ hb)
  · exact ⟨_, _, Heap.get?_push_size _ rfl, rfl, rfl, rfl⟩
/-- an attribute that neither the class at D nor its type mc has -/
def missIn (K : Frag) (D : Addr) (mc : Value) (name : Str) : Bool :=
  findIn K mc name == some none && findIn K (.ref D) name == some none && (clsIn K D).any fun cd => decide (cd.name.cps.foldl (fun k c => k + (Str.utf8Of c).length) 0 ≤ 100) && decide (((s!"type object '{cd.name.toString}' has no attribute '" : Str) ++ name ++ "'").length ≤ sizeLine)
theorem looks_nameCut {M : Model} {h : Heap} {C : Addr} {cd : ClassData} (X : K.In h) (hc : clsIn K C = some cd) (hn : cd.name.cps.foldl (fun k c => k + (Str.utf8Of c).length) 0 ≤ 100) : Looks M h (typeNameCut 100 (.ref C)) cd.name.toString := by
  unfold typeNameCut
  refine (looks_clsIn X hc).andThen ?_
  dsimp only
  rw [if_pos hn]
  exact .now
theorem tga_miss {D : Addr} {mc : Value} {name : Str} {tk : Tok} {Q : Fin → Shared → Prop} (X : K.In s.heap) (ho : Looks (model prog w) s.heap (opaqueClassAbove (.ref D)) none) (ht : Looks (model prog w) s.heap (typeOf (.ref D)) mc) (hm : missIn K D mc name = true) (hh : A.handled = none)
    (h : ∀ h' tk e, Heap.NewExcOf s.heap h' e "AttributeError" → E (.ref e) { s with heap := h', toks := tk }) : wpAny (model prog w) A (Builtin.«type.__getattribute__» ⟨[.ref D, .str name tk], []⟩) Q E s := by
  unfold missIn at hm
  obtain ⟨⟨h1, h2⟩, h3⟩ : (findIn K mc name = some none ∧ findIn K (.ref D) name = some none) ∧ _ := by
    rw [Bool.and_eq_true, Bool.and_eq_true, beq_iff_eq, beq_iff_eq] at hm
    exact hm
  obtain ⟨cd, hc, h4⟩ := any_some h3
  rw [Bool.and_eq_true, decide_eq_true_eq, decide_eq_true_eq] at h4
  obtain ⟨hh0, g, d, t, os⟩ := s
  dsimp only at X ho ht
  have L1 := looks_findIn (M := model prog w) X h1
  have L2 := looks_findIn (M := model prog w) X h2
  have L3 := looks_nameCut (M := model prog w) X hc h4.1
  unfold Builtin.«type.__getattribute__»
  refine wpAny_bind (wpAny_pure (wpAny_bind (ho.at (wpAny_bind (ht.at (wpAny_bind (L1.at ?_)))))))
  refine wpAny_bind (wpAny_pure (wpAny_bind (L2.at ?_)))
  refine wpAny_bind (wpAny_rule (wpAny_bind (L3.at ?_)))
  exact raise_attr hh h h4.2
theorem isInst_attr {M : Model} {h : Heap} {e : Addr} {ob : Obj} (he : h.get? e = some ob) (hc : ob.cls = .type "AttributeError") : Looks M h (isInstance (.ref e) (.type "AttributeError")) true := by
  intro A Q E s k q
  unfold isInstance
  refine wpAny_bind (wpAny_typeOf_ref (k _ _ he) ?_)
  rw [hc, sub_AttributeError]
  exact wpAny_pure q
theorem type_hook : typeLookup (.type "type") "__getattr__" = pure none := am_miss_of_fast (by first | decide +kernel | rfl)
theorem getBy_miss {D : Addr} {name : Str} {tk : Tok} {Q : Option Value → Shared → Prop} (X : K.In s.heap) (hr : readsIn K D (.type "type") = true) (hm : missIn K D (.type "type") name = true) (hh : A.handled = none)
    (h : ∀ h' tk', (∀ b o, s.heap.get? b = some o → h'.get? b = some o) → Q none { s with heap := h', toks := tk' }) : wpAny (model prog w) A (getAttrBy? (.ref D) (.str name tk)) Q E s := by
  simp only [readsIn, Bool.and_eq_true, beq_iff_eq] at hr
  obtain ⟨⟨⟨⟨a, b⟩, c'⟩, d⟩, f⟩ := hr
  obtain ⟨hp, g, dr, t, os⟩ := s
  dsimp only at X
  have ho := looks_opaque (M := model prog w) (C := D) X a
  have ht := looks_typeIn (M := model prog w) X b
  have Lg := looks_findIn (M := model prog w) X c'
  unfold getAttrBy? getAttrBy
  refine wpAny_bind (wpAny_attempt (wpAny_holding (wpAny_bind (ht.at (wpAny_bind (Lg.at ?_))))))
  dsimp only
  rw [show (onTheHeap (Value.type "type") && Value.builtin "type.__getattribute__" == Value.builtin "object.__getattribute__") = false from rfl, if_neg (by decide)]
  unfold getAttrByItsOwn hookBefore
  refine wpAny_bind ?_
  rw [if_neg (show ¬ onTheHeap (Value.type "type") = true by decide)]
  refine wpAny_pure (wpAny_bind (wpAny_attempt (wpAny_holding ?_)))
  unfold callGetattribute
  rw [show (false && onTheHeap (Value.builtin "type.__getattribute__")) = false from rfl, if_neg (by decide)]
  unfold boundAndCalled
  rw [KF.slot_tga.bind]
  refine wpAny_bind (wpAny_pure ?_)
  show wpAny _ _ (call (.builtin "type.__getattribute__") [.ref D, .str name tk]) _ _ _
  refine wpAny_call (codeAny_call_builtin KF.slot_tga.plain KF.entry_tga ?_)
  refine @check_slot (model prog w) _ _ ⟨hp, g, dr, t, os⟩ "type.__getattribute__" "type" "__getattribute__" (.ref D) [.str name tk] [] _ (by decide +kernel) (by decide +kernel) (ht.andThen (looks_subIn X f)) (KF.args_tga (.ref D) (.str name tk)) ?_
  refine tga_miss (s := ⟨hp, g, dr, t, os⟩) X ho ht hm (show A.in1.handled = none from hh) fun h' tk' e ne => ?_
  obtain ⟨ob, vs, he, hc, _, _⟩ := ne.there
  have Li := isInst_attr (M := model prog w) he hc
  show wpAny _ _ (getattributeRaised _ _ _ _ _ _ _) _ _ _
  unfold getattributeRaised hookBehind
  refine wpAny_bind (Li.at ?_)
  rw [if_pos rfl, if_neg (show ¬ onTheHeap (Value.type "type") = true by decide), type_hook]
  refine wpAny_bind (wpAny_pure ?_)
  unfold hookOrError attributeErrorLeaves
  dsimp only
  rw [if_pos (show (!false) = true from rfl)]
  refine wpAny_throw ?_
  refine wpAny_bind (Li.at ?_)
  rw [if_pos rfl]
  exact wpAny_pure (h _ _ ne.keeps)
end
end PySem.W

set_option Elab.async false
set_option linter.all false
set_option maxRecDepth 100000
set_option maxHeartbeats 4000000
namespace PySem.W
open PySem PySem.Calls PyProof.Rows Builtin Builtin.ObjectAttr
section
variable {prog : Program} {w : World} {A : Around} {E : Value → Shared → Prop} {s : Shared} {K : Frag} {x y C D L f g : Addr} {h₀ : Heap} {m : Str → Option Value} {ox oy : Obj} {od od' : Option Obj}
theorem inst_keeps {h h' : Heap} (I : InstAt h x ox C od) (k : ∀ b o, h.get? b = some o → h'.get? b = some o) : InstAt h' x ox C od := by
  refine ⟨k _ _ I.at_, I.cls, I.no, ?_⟩
  have := I.dict
  revert this
  cases ox.dict <;> cases od <;> first | exact id | exact fun z => k _ _ z
theorem num_K {M : Model} {h : Heap} {nm : String} (X : K.In h) (hs : findIn K (.ref C) (PySem.dunder nm) = some (some (.ref f))) (hr : findIn K (.ref C) (dunderR nm) = some none) : Looks M h (numberSlotInPython (.ref C) nm) true := by
  intro A Q E s k q
  unfold numberSlotInPython
  refine wpAny_bind (looks_findIn X hs A _ E s k ?_)
  refine wpAny_bind (wpAny_pure ?_)
  refine wpAny_bind (looks_findIn X hr A _ E s k ?_)
  refine wpAny_bind (wpAny_pure ?_)
  rw [if_pos (by rfl)]
  exact wpAny_pure q
theorem reflected_K {nm : String} {Q : Bool → Shared → Prop} (X : K.In s.heap) (hs : findIn K (.ref C) (PySem.dunder nm) = some (some (.ref f))) (hr : findIn K (.ref C) (dunderR nm) = some none) (hs' : findIn K (.ref D) (PySem.dunder nm) = some (some (.ref g))) (hr' : findIn K (.ref D) (dunderR nm) = some none)
    (rd : readsIn K D (.type "type") = true) (ms : missIn K D (.type "type") (dunderR nm) = true) (hl : (dunderR nm).length ≤ sizeLine) (hh : A.handled = none) (h : ∀ h' tk', (∀ b o, s.heap.get? b = some o → h'.get? b = some o) → Q false { s with heap := h', toks := tk' }) :
    wpAny (model prog w) A (reflectedDiffers (.ref C) (.ref D) nm) Q E s := by
  obtain ⟨hp, g0, d, tk, os⟩ := s
  dsimp only at X
  unfold reflectedDiffers
  refine wpAny_bind ((num_K (M := model prog w) X hs hr).at ?_)
  rw [if_neg (by decide)]
  refine wpAny_bind ((num_K (M := model prog w) X hs' hr').at ?_)
  rw [if_neg (by decide)]
  refine wpAny_bind (wpAny_mkStr (wpAny_bind ?_) hl)
  refine getBy_miss (s := ⟨hp, g0, d, tk + 1, os⟩) X rd ms hh fun h' tk' k => ?_
  exact wpAny_pure (h h' tk' k)
theorem binop_two {op : Operator} {Q : Value → Shared → Prop} (F : Fr h₀ L s.heap m) (X₀ : K.In h₀) (I : InstAt s.heap x ox C od) (J : InstAt s.heap y oy D od') (ne : C ≠ D) (hC : selfFirst K C = true) (hD : selfFirst K D = true)
    (hs : findIn K (.ref C) (PySem.dunder op.info.2) = some (some (.ref f))) (hr : findIn K (.ref C) (dunderR op.info.2) = some none) (hs' : findIn K (.ref D) (PySem.dunder op.info.2) = some (some (.ref g))) (hr' : findIn K (.ref D) (dunderR op.info.2) = some none)
    (rd : readsIn K D (.type "type") = true) (ms : missIn K D (.type "type") (dunderR op.info.2) = true) (hl : (dunderR op.info.2).length ≤ sizeLine) (hsub : ∃ sb, subIn K (.ref D) (.ref C) = some sb) (hf : isFn K (.ref f) = true) (hh : A.handled = none)
    (h : ∀ h' tk', (∀ b o, s.heap.get? b = some o → h'.get? b = some o) → wpAny (model prog w) A (call (.ref f) [.ref x, .ref y]) (CmpBack Q) E { s with heap := h', toks := tk' }) : wpAny (model prog w) A (binaryOp op (.ref x) (.ref y)) Q E s := by
  have X := X₀.keeps F.keep
  obtain ⟨sb, hsub⟩ := hsub
  obtain ⟨cd, hcd, hm⟩ := any_some hC
  obtain ⟨rest, hm⟩ : ∃ rest, cd.mro = .ref C :: rest := by
    cases q : cd.mro with
    | nil => rw [q] at hm; cases hm
    | cons a r => rw [q] at hm; exact ⟨r, by rw [List.head?_cons] at hm; cases (beq_iff_eq.mp hm); rfl⟩
  obtain ⟨cd', hcd', hm'⟩ := any_some hD
  obtain ⟨rest', hm'⟩ : ∃ rest, cd'.mro = .ref D :: rest := by
    cases q : cd'.mro with
    | nil => rw [q] at hm'; cases hm'
    | cons a r => rw [q] at hm'; exact ⟨r, by rw [List.head?_cons] at hm'; cases (beq_iff_eq.mp hm'); rfl⟩
  unfold binaryOp
  obtain ⟨⟨sym, nm⟩, hi⟩ : ∃ p, p = op.info := ⟨_, rfl⟩
  rw [← hi] at hs hr hs' hr' ms hl ⊢
  dsimp only at hs hr hs' hr' ms hl ⊢
  refine wpAny_holding (wpAny_bind ?_)
  unfold binaryOp1
  refine wpAny_bind (I.type.here (wpAny_bind (J.type.here (wpAny_bind ((fills_K X hcd hm hs).here ?_)))))
  rw [show (Value.ref C == Value.ref D) = false from by simp [ne]]
  simp only [Bool.false_eq_true, if_false]
  refine wpAny_bind ((fills_K X hcd' hm' hs').here ?_)
  simp only [Bool.and_self, if_true]
  refine wpAny_bind ((looks_subIn X hsub).here ?_)
  have fin : ∀ h' tk', (∀ b o, s.heap.get? b = some o → h'.get? b = some o) → wpAny (model prog w) A (tryMethod (.ref x) (PySem.dunder nm) (.ref y)) (fun r s' => ∃ v, r = some v ∧ Q v s') E { s with heap := h', toks := tk' } := fun h' tk' k => by
    unfold tryMethod
    refine wpAny_bind (special_fn (s := { s with heap := h', toks := tk' }) (X.keeps k) (inst_keeps I k) hs (beq_iff_eq.mp hf) (wpAny_mono (h h' tk' k) (fun v s' hv => ?_) fun _ _ e => e))
    cases v <;> first | exact hv.elim | exact wpAny_pure ⟨_, rfl, hv⟩
  cases sb
  · simp only [Bool.false_eq_true, if_false, Bool.not_false, Bool.and_self, if_true]
    refine wpAny_bind ((num_K (M := model prog w) X hs hr).here ?_)
    rw [if_pos rfl]
    refine wpAny_bind ((num_K (M := model prog w) X hs' hr').here ?_)
    rw [if_neg (by decide)]
    refine wpAny_bind (wpAny_mono (fin _ _ fun _ _ z => z) (fun r s' z => ?_) fun _ _ e => e)
    obtain ⟨v, rfl, hq⟩ := z
    exact wpAny_pure (wpAny_pure hq)
  · simp only [if_true]
    refine wpAny_bind (reflected_K X hs hr hs' hr' rd ms hl hh fun h' tk' k => ?_)
    simp only [Bool.false_eq_true, if_false, Bool.not_false, Bool.and_self, if_true]
    refine wpAny_bind ((num_K (M := model prog w) (X.keeps k) hs hr).here ?_)
    rw [if_pos rfl]
    refine wpAny_bind ((num_K (M := model prog w) (X.keeps k) hs' hr').here ?_)
    rw [if_neg (by decide)]
    refine wpAny_bind (wpAny_mono (fin h' tk' k) (fun r s' z => ?_) fun _ _ e => e)
    obtain ⟨v, rfl, hq⟩ := z
    exact wpAny_pure (wpAny_pure hq)

/-- x != b by the own __eq__ of x's class, through object.__ne__ -/
theorem ne_K {b tb : Value} {Q : Value → Shared → Prop} (hu : A.units + 1 < cLine) (Fz : Fr h₀ L s.heap m) (X₀ : K.In h₀) (I : InstAt s.heap x ox C od) (hb : Looks (model prog w) s.heap (typeOf b) tb) (hn : notFirst K C tb = true)
    (hne : findIn K (.ref C) "__ne__" = some (some (.builtin "object.__ne__"))) (ho : subIn K (.ref C) (.type "object") = some true) (hs : findIn K (.ref C) "__eq__" = some (some (.ref f))) (hf : isFn K (.ref f) = true)
    (h : wpAny (model prog w) A.in1 (call (.ref f) [.ref x, b]) (fun v s' => ∃ r, v = .bool r ∧ Q (.bool (!r)) s') E s) : wpAny (model prog w) A (richCompare .NotEq (.ref x) b) Q E s := by
  have X := X₀.keeps Fz.keep
  have body : wpAny (model prog w) A.in1 (Builtin.«object.__ne__» ⟨[.ref x, b], []⟩) (fun fin s' => ∃ r, fin = .done (.ret (.bool (!r))) ∧ Q (.bool (!r)) s') E s := by
    unfold Builtin.«object.__ne__»
    refine wpAny_bind (wpAny_of_eq (a := ((Value.ref x : Value), [b])) (by first | rfl | (simp only [slotArgs]; rfl)) ?_)
    refine wpAny_bind (wpAny_cRoomFor (show A.in1.units < cLine from hu) ?_)
    refine wpAny_bind (ifBound_K X I hs hf (wpAny_mono h (fun v s' hv => ?_) fun _ _ e => e))
    obtain ⟨r, rfl, hq⟩ := hv
    exact wpAny_bind (wpAny_truthy_bool (wpAny_pure ⟨r, rfl, hq⟩))
  have called : wpAny (model prog w) A (call (.builtin "object.__ne__") [.ref x, b]) (fun v s' => ∃ r, v = .bool (!r) ∧ Q (.bool (!r)) s') E s := by
    refine wpAny_call (codeAny_call_builtin F.cmp_object.ne.plain F.cmpEntry_ne ?_)
    refine @check_slot (model prog w) _ _ s "object.__ne__" "object" "__ne__" (.ref x) [b] [] _ F.cmpKind_ne F.cmpSplit_ne (I.type.andThen (looks_subIn X ho)) (F.cmpArgs_ne _ _) ?_
    refine wpAny_mono body (fun fin s' z => ?_) fun _ _ e => e
    obtain ⟨r, rfl, hq⟩ := z
    exact ⟨r, rfl, hq⟩
  have one : wpAny (model prog w) A (tryCompare (.ref x) "__ne__" b) (fun r s' => ∃ v, r = some v ∧ Q v s') E s := by
    unfold tryCompare
    refine wpAny_bind ?_
    simp only [callSpecialIfBound?, bindSpecialIfBound?]
    refine wpAny_holding (wpAny_bind (wpAny_bind (wpAny_bind (I.type.here ((looks_findIn X hne).here ?_)))))
    simp only [F.cmp_object.ne.bind]
    have fin : wpAny (model prog w) A (call (.builtin "object.__ne__") ([.ref x] ++ [b]) >>= fun v => pure (some v)) (fun r s' => wpAny (model prog w) A (match r with | some .notImplemented | none => pure none | some v => pure (some v)) (fun r s' => ∃ v, r = some v ∧ Q v s') E s') E s :=
      wpAny_bind (wpAny_mono called (fun v s' z => by
        obtain ⟨r, rfl, hq⟩ := z
        exact wpAny_pure (wpAny_pure ⟨_, rfl, hq⟩)) fun _ _ e => e)
    refine wpAny_bind (wpAny_askSetting (wpAny_ite ?_))
    split
    · exact wpAny_bind (wpAny_pure (wpAny_pure fin))
    · exact wpAny_tryCatch (wpAny_bind (wpAny_pure (wpAny_pure fin)))
  unfold richCompare
  simp only [oneThing_ref]
  refine wpAny_holding (wpAny_bind (wpAny_cRoomFor (Nat.lt_of_succ_lt hu) ?_))
  refine wpAny_bind (I.type.here (wpAny_bind (hb.here ?_)))
  split
  · rename_i q
    have e : subIn K tb (.ref C) = some false := by
      rcases Bool.or_eq_true_iff.mp hn with e | e
      · rw [beq_iff_eq.mp e] at q; simp at q
      · exact beq_iff_eq.mp e
    refine wpAny_bind ((looks_subIn X e).here ?_)
    simp only [Bool.false_eq_true, if_false]
    refine wpAny_bind (wpAny_mono one (fun r s' z => ?_) fun _ _ e => e)
    obtain ⟨v, rfl, hq⟩ := z
    exact wpAny_pure hq
  · refine wpAny_bind (wpAny_pure ?_)
    simp only [Bool.false_eq_true, if_false]
    refine wpAny_bind (wpAny_mono one (fun r s' z => ?_) fun _ _ e => e)
    obtain ⟨v, rfl, hq⟩ := z
    exact wpAny_pure hq
end
end PySem.W

set_option Elab.async false
set_option linter.all false
set_option maxRecDepth 100000
set_option maxHeartbeats 4000000
namespace Nb
open PySem PySem.Spec PyProof.Rows
open L2 hiding del del_ne del_same
section
variable {X : Cx} {CX : CXT} {n : Nat} {ps : List Str} {sp : Sp} {E : XK}
/-- x != y by the own __eq__ of x's class -/
def rNeO (C : Addr) (sp : Sp) (E : XK) (K : PySem.W.Frag) : R2 := fun x y H Q => ∃ a b dx fs D dy gs, x = .ref a ∧ y = .ref b ∧ H a = some (.ins C dx fs) ∧ H b = some (.ins D dy gs) ∧ PySem.W.notFirst K C (.ref D) = true ∧
  sp [.ref a, .ref b] H (fun v H' => ∃ c, v = .bl c ∧ Q (.bl (!c)) H') E
/-- what != asks of a class with an own __eq__ -/
structure NeC (K : PySem.W.Frag) (C : Addr) : Prop where
  ne : PySem.W.findIn K (.ref C) "__ne__" = some (some (.builtin "object.__ne__"))
  ob : PySem.W.subIn K (.ref C) (.type "object") = some true
theorem op_neO {C : Addr} (O : Om X CX n C "__eq__" ps sp) (N : NeC X.K C) (hr : Room (n + 1) X.A) (hu : X.A.units + 1 < cLine) (hx : Passes CX X E) : OpR X (compareOp .NotEq) (rNeO C sp E X.K) := by
  intro pins s σ H x y v u Q I rx ry hq
  obtain ⟨a, b, dx, fs, D, dy, gs, rfl, rfl, ha, hb', nf, h⟩ := hq
  obtain ⟨f, fd, hs, hf, hbn, F⟩ := O.ex
  cases rx
  cases ry
  obtain ⟨mA, J, _⟩ := ins_get I.hok ha
  obtain ⟨mB, J', _⟩ := ins_get I.hok hb'
  obtain ⟨od, J, _⟩ := J.look
  obtain ⟨od', J', _⟩ := J'.look
  obtain ⟨m, hF⟩ := I.fr
  show wpAny (model X.prog X.w) X.A (richCompare .NotEq (.ref a) (.ref b)) (EP X pins σ Q) X.xe s
  refine PySem.W.ne_K (tb := .ref D) hu hF I.ok.mod.kin J J'.type nf N.ne N.ob hs hf ?_
  refine wpAny_mono (own_run (vs := [.ref a, .ref b]) F hbn hx (L2.Sub.in1 ⟨hr, rfl⟩) I (.cons rfl (.cons rfl .nil)) h) (fun r s' z => ?_) fun _ _ e => e
  obtain ⟨v, H', I', rz, c, ez, q⟩ := z
  subst ez
  cases rz
  exact ⟨c, rfl, .bl (!c), H', I', rfl, q⟩
/-- what x + y asks of some classes, each with an own __add__ -/
structure Bo (K : PySem.W.Frag) (cs : List Addr) : Prop where
  sf : ∀ C ∈ cs, PySem.W.selfFirst K C = true
  no : ∀ C ∈ cs, PySem.W.findIn K (.ref C) "__radd__" = some none
  rd : ∀ C ∈ cs, PySem.W.readsIn K C (.type "type") = true
  ms : ∀ C ∈ cs, PySem.W.missIn K C (.type "type") "__radd__" = true
  sub : ∀ C ∈ cs, ∀ D ∈ cs, ∃ b, PySem.W.subIn K (.ref D) (.ref C) = some b
def boB (K : PySem.W.Frag) (cs : List Addr) : Bool := cs.all fun C => PySem.W.selfFirst K C && (PySem.W.findIn K (.ref C) "__radd__" == some none && (PySem.W.readsIn K C (.type "type") && (PySem.W.missIn K C (.type "type") "__radd__" && cs.all fun D => (PySem.W.subIn K (.ref D) (.ref C)).isSome)))
theorem bo_of {K : PySem.W.Frag} {cs : List Addr} (h : boB K cs = true) : Bo K cs := by
  unfold boB at h
  simp only [List.all_eq_true, Bool.and_eq_true, beq_iff_eq] at h
  exact ⟨fun C m => (h C m).1, fun C m => (h C m).2.1, fun C m => (h C m).2.2.1, fun C m => (h C m).2.2.2.1, fun C m D m' => Option.isSome_iff_exists.mp ((h C m).2.2.2.2 D m')⟩
def rAddO (cs : List Addr) (sp : Sp) (E : XK) : R2 := fun x y H Q => ∃ a b C dx fs D dy gs, x = .ref a ∧ y = .ref b ∧ C ∈ cs ∧ D ∈ cs ∧ H a = some (.ins C dx fs) ∧ H b = some (.ins D dy gs) ∧ sp [.ref a, .ref b] H Q E
theorem op_addO {cs : List Addr} (B : Bo X.K cs) (O : ∀ C ∈ cs, Om X CX n C "__add__" ps sp) (hr : Room n X.A) (hx : Passes CX X E) (cl : X.calm = true := by rfl) : OpR X (binaryOp .Add) (rAddO cs sp E) := by
  intro pins s σ H x y v u Q I rx ry hq
  obtain ⟨a, b, C, dx, fs, D, dy, gs, rfl, rfl, mC, mD, ha, hb', h⟩ := hq
  obtain ⟨f, fd, hs, hf, hbn, F⟩ := (O C mC).ex
  obtain ⟨f', fd', hs', hf', _, _⟩ := (O D mD).ex
  cases rx
  cases ry
  obtain ⟨mA, J, _⟩ := ins_get I.hok ha
  obtain ⟨mB, J', _⟩ := ins_get I.hok hb'
  obtain ⟨od, J, _⟩ := J.look
  obtain ⟨od', J', _⟩ := J'.look
  obtain ⟨m, hF⟩ := I.fr
  have go : ∀ s', Inv X pins σ H s' → wpAny (model X.prog X.w) X.A (call (.ref f) [.ref a, .ref b]) (PySem.W.CmpBack (EP X pins σ Q)) X.xe s' := fun s' I' =>
    wpAny_mono (own_run (vs := [.ref a, .ref b]) F hbn hx ⟨hr, rfl⟩ I' (.cons rfl (.cons rfl .nil)) h) (fun r s' z => by
      obtain ⟨v, H', I2, rz, q⟩ := z
      exact SlX.cmpback rz ⟨v, H', I2, rz, q⟩) fun _ _ e => e
  show wpAny (model X.prog X.w) X.A (binaryOp .Add (.ref a) (.ref b)) (EP X pins σ Q) X.xe s
  by_cases ne : C = D
  · subst ne
    exact PySem.W.binop_K hF I.ok.mod.kin J J'.type (B.sf C mC) hs hf (go s I)
  · exact PySem.W.binop_two hF I.ok.mod.kin J J' ne (B.sf C mC) (B.sf D mD) hs (B.no C mC) hs' (B.no D mD) (B.rd D mD) (B.ms D mD) (by decide +kernel) (B.sub C mC D mD) hf (I.ok.hd cl) fun h' tk' k => go _ (I.kept (t' := tk') k)

/-- an own def, called from within a builtin; what it may let out hangs on the slots -/
theorem own_runS {W : L2.St → XK} {pins : List (Addr × Obj)} {σ : L2.St} {H : Hp} {s : Shared} {Q : VK} {vs : List V} {us : List Value} {A : Around} {f : Addr} {fd : FuncData} (F : FnOk X.prog X.w X.K X.mg X.base CX n f fd ps sp) (hb : Binds X.K fd ps []) (hx : PassesAt CX X σ (W σ)) (sb : L2.Sub X n A) (I : Inv X pins σ H s) (r : Vals vs us) (hsp : sp vs H Q (W σ)) :
    wpAny (model X.prog X.w) A (call (.ref f) us) (EP X pins σ Q) X.xe s := by
  have e0 : Env0 X.prog X.w X.K X.mg X.base A X.stack s H := by
    have e := I.env0
    exact ⟨by rw [sb.fr]; exact e.frames, e.mod, e.bs, e.bsz, e.funs, e.frf, e.hok, e.bare⟩
  have hl := F.len _ _ _ _ hsp
  have hl2 : us.length = ps.length := by rw [← r.length]; exact hl
  refine wpAny_call (codeAny_mono (F.run A X.stack s H ⟨us, []⟩ us vs _ (W σ) sb.room e0 (by
    have := hb s us I.kIn (by simpa using hl2)
    simpa using this) r hsp) fun r s' hq => ?_)
  cases r with
  | error e => exact hx pins H s e s' I hq
  | ok fl =>
    cases fl with
    | ret w => exact I.after hq
    | next => exact False.elim hq
    | brk => exact False.elim hq
    | cont => exact False.elim hq
theorem pe_addS {W : L2.St → XK} {cs : List Addr} {ta tb : TE} {e1 e2 : Expr} {pos : Pos} (B : Bo X.K cs) (O : ∀ C ∈ cs, Om X CX n C "__add__" ps sp) (hr : Room n X.A) (hx : ∀ σ, PassesAt CX X σ (W σ)) (ha : PE X e1 ta) (hb : PE X e2 tb) (cl : X.calm = true := by rfl) :
    PE X (.BinOp e1 .Add e2 pos) (fun σ H Q => ta σ H fun x H1 => tb σ H1 fun y H2 => rAddO cs sp (W σ) x y H2 Q) := by
  refine ⟨fun pins s σ H Q I h => ?_⟩
  refine wpAny_BinOp (binT ha hb I h fun v u s2 x y H2 I rx ry hq => ?_)
  obtain ⟨a, b, C, dx, fs, D, dy, gs, rfl, rfl, mC, mD, ha, hb', h⟩ := hq
  obtain ⟨f, fd, hs, hf, hbn, F⟩ := (O C mC).ex
  obtain ⟨f', fd', hs', hf', _, _⟩ := (O D mD).ex
  cases rx
  cases ry
  obtain ⟨mA, J, _⟩ := ins_get I.hok ha
  obtain ⟨mB, J', _⟩ := ins_get I.hok hb'
  obtain ⟨od, J, _⟩ := J.look
  obtain ⟨od', J', _⟩ := J'.look
  obtain ⟨m, hF⟩ := I.fr
  have go : ∀ s', Inv X pins σ H2 s' → wpAny (model X.prog X.w) X.A (call (.ref f) [.ref a, .ref b]) (PySem.W.CmpBack (EP X pins σ Q)) X.xe s' := fun s' I' =>
    wpAny_mono (own_runS (vs := [.ref a, .ref b]) F hbn (hx σ) ⟨hr, rfl⟩ I' (.cons rfl (.cons rfl .nil)) h) (fun r s' z => by
      obtain ⟨v, H', I2, rz, q⟩ := z
      exact SlX.cmpback rz ⟨v, H', I2, rz, q⟩) fun _ _ e => e
  by_cases ne : C = D
  · subst ne
    exact PySem.W.binop_K hF I.ok.mod.kin J J'.type (B.sf C mC) hs hf (go _ I)
  · exact PySem.W.binop_two hF I.ok.mod.kin J J' ne (B.sf C mC) (B.sf D mD) hs (B.no C mC) hs' (B.no D mD) (B.rd D mD) (B.ms D mD) (by decide +kernel) (B.sub C mC D mD) hf (I.ok.hd cl) fun h' tk' k => go _ (I.kept (t' := tk') k)
/-- a call that lets nothing out -/
theorem pass_none : Passes (L2.CX X.prog X.w) X (fun _ _ _ => False) := fun pins σ H s e s' I c => by
  obtain ⟨a, B, sI, ps', σ1, H1, cls, d, _, _, _, _, _, _, _, _, w⟩ := XE.of_call (W := fun _ _ _ _ => False) I (fun _ _ _ h => h) c
  exact w.elim
theorem passAt_none (σ : L2.St) : PassesAt (L2.CX X.prog X.w) X σ (fun _ _ _ => False) := fun pins H s e s' I c => pass_none pins σ H s e s' I c
end
end Nb

set_option Elab.async false
set_option linter.all false
set_option maxRecDepth 100000
set_option maxHeartbeats 4000000
/-! sorted(set(xs)) of a list of texts. -/
namespace Nb
open PySem PySem.Spec PyProof.Rows
open L2 hiding del del_ne del_same
/-- a member of a set of texts, with its hash -/
def TxE (P : Program) (w : World) (e : Int × Value) : Prop := ∃ x t, e = ((PySem.strKind P w).hash x, Value.str x t)
def txOf (e : Int × Value) : Str := match e.2 with | .str x _ => x | _ => ""
/-- the set of texts at a that stands for a list -/
def TxSet (P : Program) (w : World) (h : Heap) (a : Addr) (l : List Str) : Prop :=
  ∃ o es ep t, h.get? a = some o ∧ o.ExactSet ∧ o.data = .set es ep t ∧ (∀ e ∈ es.toList, TxE P w e) ∧ (es.toList.map txOf).Perm l ∧ es.size < scanBound ∧ t.fits es.size = true ∧ Ris t.place.toList ∧ (w.params.followText "set-order" = true ∨ t.led = true)
section
variable {P : Program} {w : World} {A : Around} {E : Value → Shared → Prop} {s : Shared} {a : Addr} {l : List Str}
theorem TxSet.to {h h' : Heap} (x : TxSet P w h a l) (k : ∀ o, h.get? a = some o → h'.get? a = some o) : TxSet P w h' a l :=
  let ⟨o, es, ep, t, e, r⟩ := x
  ⟨o, es, ep, t, k o e, r⟩
theorem txe_is {e : Int × Value} (g : TxE P w e) (x : Str) : (PySem.strKind P w).is x e.2 = true ↔ txOf e = x := by
  obtain ⟨y, t, rfl⟩ := g
  show (Value.isStrOf x (.str y t) = true) ↔ y = x
  simp [Value.isStrOf]
theorem txe_all {l : List (Int × Value)} (g : ∀ e ∈ l, TxE P w e) : ElemsOf (PySem.strKind P w) l := fun e he => by
  obtain ⟨x, t, rfl⟩ := g e he
  exact ⟨⟨x, strKind_is P w x t, rfl⟩, rfl⟩
/-- what is stored behind a new member, and laid anew where the table is too full -/
theorem tx_store {say : Bool → Sem Unit} (hsay : ∀ (b : Bool) (z : Shared) (R : Unit → Shared → Prop), R () z → wpAny (model P w) A (say b) R E z)
    {o : Obj} {es new : Array (Int × Value)} {ep : Nat} {t tab : SetTable} (here : s.heap.get? a = some o) (ex : o.ExactSet) (dat : o.data = .set es ep t)
    (all : ∀ e ∈ new.toList, TxE P w e) (pm : (new.toList.map txOf).Perm l) (few : new.size < scanBound) (fit : tab.fits new.size = true) (ris : Ris tab.place.toList) (led : w.params.followText "set-order" = true ∨ tab.led = true)
    {dummy : Bool} {R : Option Bool → Shared → Prop} (fin : ∀ h', Heap.SameBut a s.heap h' → TxSet P w h' a l → R (some true) { s with heap := h' }) :
    wpAny (model P w) A (do
        storeSet a new tab
        if (!dummy && tab.tooFull) = true then do
            say (relayAll tab new (SetTable.grown new.size)).2.2
            storeSet a (relayAll tab new (SetTable.grown new.size)).1 (relayAll tab new (SetTable.grown new.size)).2.1
            pure (some true)
          else pure (some true)) R E s := by
  have at1 := store_at (es' := new) (t' := tab) here dat
  have but1 := Heap.SameBut.update s.heap a (Obj.putSet new tab)
  refine wpAny_bind (wpAny_storeSet_of here dat ?_ (fits_of_scanBound few))
  by_cases c : (!dummy && tab.tooFull) = true
  · rw [if_pos c]
    have p2 := relayAll_perm tab new (SetTable.grown new.size)
    have fit2 := relayAll_fits tab new (SetTable.grown new.size)
    have ris2 := relayAll_ris tab new (SetTable.grown new.size)
    have led2 := relayAll_led tab new (SetTable.grown new.size)
    obtain ⟨Z, eZ⟩ : ∃ Z, Z = relayAll tab new (SetTable.grown new.size) := ⟨_, rfl⟩
    rw [← eZ] at p2 fit2 ris2 led2 ⊢
    have size2 : Z.1.size = new.size := by
      have := p2.length_eq
      rwa [Array.length_toList, Array.length_toList] at this
    refine wpAny_bind (hsay _ _ _ (wpAny_bind (wpAny_storeSet_of at1 rfl (wpAny_pure (fin _ (but1.trans (Heap.SameBut.update _ a _)) ?_)) (fits_of_scanBound (by rw [size2]; exact few)))))
    refine ⟨_, Z.1, _, Z.2.1, store_at (es' := Z.1) (t' := Z.2.1) at1 rfl, ex, rfl, fun e he => all e (p2.mem_iff.mp he), (p2.map txOf).trans pm, by rw [size2]; exact few, fit2, ris2, ?_⟩
    rw [led2]
    exact led
  · rw [if_neg c]
    exact wpAny_pure (fin _ but1 ⟨_, new, _, tab, at1, ex, rfl, all, pm, few, fit, ris, led⟩)
theorem tx_add {x : Str} {tk : Tok} {Q : Bool → Shared → Prop} (R : TxSet P w s.heap a l) (room : l.length + 1 < scanBound)
    (fin : ∀ (b : Bool) h', Heap.SameBut a s.heap h' → TxSet P w h' a (grow l x) → Q b { s with heap := h' }) :
    wpAny (model P w) A (setAddHashed a (.str x tk) ((PySem.strKind P w).hash x)) Q E s := by
  obtain ⟨o, es, ep, t, here, ex, dat, all, pm, few, fit, ris, led⟩ := R
  have elems := txe_all all
  have scan : (Value.str x tk).scannable = true := rfl
  have size : es.size = l.length := by
    have := pm.length_eq
    rwa [List.length_map, Array.length_toList] at this
  have inL : ∀ y, y ∈ l ↔ ∃ e ∈ es.toList, (PySem.strKind P w).is y e.2 = true := fun y => by
    rw [← pm.mem_iff, List.mem_map]
    exact ⟨fun ⟨e, m, q⟩ => ⟨e, m, (txe_is (all e m) y).2 q⟩, fun ⟨e, m, q⟩ => ⟨e, m, (txe_is (all e m) y).1 q⟩⟩
  unfold setAddHashed setAddHashedIn
  refine wpAny_holding (wpAny_bind (wpAny_setState_of here dat fit ?_))
  dsimp only
  rw [byScan_of scan few elems]
  simp only [↓reduceIte]
  unfold setAddByScan
  refine wpAny_bind (wpAny_bind (wpAny_rule (wpAny_bind (wpAny_setScan_of (strKind_is P w x tk) here dat fit elems ?_))))
  cases find : List.findIdx? (fun e => (PySem.strKind P w).is x e.2) es.toList with
  | some j =>
    dsimp only
    obtain ⟨hj, pj, _⟩ := List.findIdx?_eq_some_iff_getElem.mp find
    have mx : x ∈ l := (inL x).2 ⟨_, List.getElem_mem hj, pj⟩
    have old : grow l x = l := by
      unfold grow
      rw [if_pos (List.any_eq_true.mpr ⟨x, mx, by simp⟩)]
    exact wpAny_pure (wpAny_pure (fin _ s.heap (Heap.SameBut.refl a s.heap) (old.symm ▸ ⟨o, es, ep, t, here, ex, dat, all, pm, few, fit, ris, led⟩)))
  | none =>
    dsimp only
    have out : x ∉ l := fun m => by
      obtain ⟨e, he, q⟩ := (inL x).1 m
      have := List.findIdx?_eq_none_iff.mp find e he
      rw [q] at this
      cases this
    have new : grow l x = l ++ [x] := if_neg fun m => by
      obtain ⟨y, hy, e⟩ := List.any_eq_true.mp m
      rw [eq_of_beq e] at hy
      exact out hy
    rw [new] at fin
    have say1 : ∀ (b : Bool) {z : Shared} {R : Unit → Shared → Prop}, R () z → wpAny (model P w) A (match b with | true => rule "set.scan.the-table-gave-way" | false => pure ()) R E z := fun b z R q => by
      cases b
      · exact wpAny_pure q
      · exact wpAny_rule q
    have p1 := layNew_perm t es ((PySem.strKind P w).hash x) (.str x tk)
    have fit1 := layNew_fits t es ((PySem.strKind P w).hash x) (.str x tk)
    have ris1 := layNew_ris t es ((PySem.strKind P w).hash x) (.str x tk) ris
    have led1 := layNew_led t es ((PySem.strKind P w).hash x) (.str x tk)
    generalize layNew t es ((PySem.strKind P w).hash x) (.str x tk) = Z at p1 fit1 ris1 led1 ⊢
    obtain ⟨es1, t1, dummy, gave⟩ := Z
    dsimp only at p1 fit1 ris1 led1 ⊢
    rw [Array.toList_push] at p1
    have all1 : ∀ e ∈ es1.toList, TxE P w e := fun e he => by
      rcases List.mem_append.mp (p1.mem_iff.mp he) with z | z
      · exact all e z
      · rw [List.mem_singleton.mp z]
        exact ⟨x, tk, rfl⟩
    have pm1 : (es1.toList.map txOf).Perm (l ++ [x]) := by
      have := p1.map txOf
      rw [List.map_append] at this
      exact this.trans (pm.append_right _)
    have few1 : es1.size < scanBound := by
      have := p1.length_eq
      rw [List.length_append, Array.length_toList, Array.length_toList, List.length_singleton] at this
      omega
    have ledA : w.params.followText "set-order" = true ∨ t1.led = true := by rwa [led1]
    refine wpAny_bind (say1 _ ?_)
    split
    · refine wpAny_bind ?_
      rw [hashByValue_scannable 8 scan]
      refine wpAny_pure (tx_store ?_ here ex dat all1 pm1 few1 ?_ ?_ ?_ ?_)
      · intro b z R q
        cases b <;> first | exact wpAny_pure q | exact wpAny_rule q
      · first | (split <;> first | exact fit1 | exact SetTable.fits_plain_off fit1) | exact fit1
      · first | (split <;> exact ris1) | exact ris1
      · first | (split <;> exact ledA) | exact ledA
      · intro h' but r
        dsimp only
        exact wpAny_pure (fin _ h' but r)
    · refine wpAny_bind (wpAny_pure ?_)
      simp only [↓reduceIte]
      refine tx_store ?_ here ex dat all1 pm1 few1 fit1 ris1 ledA ?_
      · intro b z R q
        cases b <;> first | exact wpAny_pure q | exact wpAny_rule q
      · intro h' but r
        dsimp only
        exact wpAny_pure (fin _ h' but r)
/-- the set takes what is walked -/
theorem takes_tx {I : Addr} {fp wr : List Addr} {G : Array GenState → Array GenState → Prop} {n : Nat} {Pv : Nat → Value → Prop} {St : Nat → Shared → Prop} {R : Result → Shared → Prop}
    (W : WalksS P w A.in1 I fp wr G n Pv St) (S : Addr) (apart : S ∉ fp) (xs : List Str) (size : n = xs.length) (few : xs.length + 1 < scanBound) (val : ∀ i v, Pv i v → ∃ x t, xs[i]? = some x ∧ v = .str x t) :
    ∀ (m i : Nat) (s : Shared), m + i = n → St i s → TxSet P w s.heap S (seen (xs.take i)) →
      (∀ s', Moved (S :: wr) G s s' → TxSet P w s'.heap S (seen xs) → R (.ok (.ret .none)) s') → codeAny (model P w) A (.builtin "set.update.loop" ⟨[.ref S, .ref I], []⟩) R s := by
  have out : S ∉ wr := fun z => apart (W.sub _ z)
  have wide : ∀ b ∈ wr, b ∈ S :: wr := fun b z => List.mem_cons_of_mem _ z
  intro m
  induction m with
  | zero =>
    intro i s em here held fin
    refine codeAny_builtin F.entry_set_update_loop (by
      rw [Around.under_plainId F.plain_set_update_loop _]
      refine wpAny_bind (m := pyNext (.ref I)) (W.done s _ _ (by rw [← em, Nat.zero_add]; exact here) fun s' mv => ?_)
      have held' := held.to fun o e => mv.heap S o out e
      rw [List.take_of_length_le (by omega)] at held'
      exact wpAny_pure (fin s' (mv.mono wide) held'))
  | succ m ih =>
    intro i s em here held fin
    refine codeAny_builtin F.entry_set_update_loop (by
      rw [Around.under_plainId F.plain_set_update_loop _]
      refine wpAny_bind (m := pyNext (.ref I)) (W.item i s _ _ (by omega) here fun v s' hv here' mv => ?_)
      obtain ⟨x, t, ex, rfl⟩ := val i v hv
      refine wpAny_bind (m := holding [Value.str x t] (setAdd S (.str x t))) (wpAny_holding ?_)
      unfold setAdd
      refine wpAny_holding (wpAny_bind ((PySem.strKind P w).pyHash (k := x) (strKind_is _ _ _ _) ?_))
      have room : (seen (xs.take i)).length + 1 < scanBound := by
        have := seen_le (xs.take i)
        have : (xs.take i).length ≤ xs.length := List.length_take_le' ..
        omega
      refine tx_add (s := { s' with toks := s'.toks + 1 }) (held.to fun o e => mv.heap S o out e) room fun b h' only more => ?_
      rw [← seen_snoc, show xs.take i ++ [x] = xs.take (i + 1) by rw [List.take_add_one, ex]; rfl] at more
      have still : ∀ b, b ≠ S → ∀ o, s'.heap.get? b = some o → h'.get? b = some o := fun b nb o e => by
        rw [only.2 b nb]
        exact e
      exact wpAny_pure ⟨plainId_quiet F.plain_set_update_loop _, ih (i + 1) _ (by omega) (W.frame _ s' _ _ here' (Nat.le_succ _) fun b hb o e => still b (fun z => apart (z ▸ hb)) o e) more fun s2 mv2 held3 =>
        fin s2 (Moved.trans W.gtrans ((mv.mono wide).then_heap (Nat.le_succ _) fun b o hb e => still b (fun z => hb (z ▸ List.mem_cons_self)) o e) mv2) held3⟩)
/-- the empty set, its table as the world asks -/
abbrev bare1 (w : World) : Obj := bareSet (!w.params.followText "set-order")
theorem bare_tx (h : Heap) (w : World) (P : Program) : TxSet P w (h.push (bare1 w)) h.objs.size [] :=
  ⟨_, #[], 0, _, Heap.get?_push_size _ rfl, ⟨rfl, rfl, rfl⟩, rfl, (fun e he => by simp at he), (by simp), (by decide), (by rfl), List.Pairwise.nil, by
    show _ ∨ (!w.params.followText "set-order") = true
    cases w.params.followText "set-order"
    · exact .inr rfl
    · exact .inl rfl⟩
theorem code_bare (b : Value) {Q : Value → Shared → Prop} (h : Q (.ref s.heap.objs.size) { s with heap := s.heap.push (bare1 w) }) :
    codeAny (model P w) A (.call (.builtin "set.__new__") ⟨[.type "set", b], []⟩) (wants Q E) s := by
  refine codeAny_of_tree ?_
  show wpAny _ A.in1 (do checkBuiltinCall "set.__new__" ⟨[.type "set", b], []⟩; again (.builtin "set.__new__" ⟨[.type "set", b], []⟩)) _ _ s
  refine wpAny_bind (wpAny_of_eq (F.newCall_set_1 b) (wpAny_pure ⟨plainId_quiet F.plain_set_new _, codeAny_builtin F.entry_set_new ?_⟩))
  rw [Around.under_plainId F.plain_set_new _]
  unfold Builtin.«set.__new__» Builtin.Frozenset.newClass
  have g := sub_set_self
  obtain ⟨s1, s2, s3, s4, s5⟩ := s
  dsimp only
  wp_walk
  refine wpAny_askSetting (wpAny_pure ?_)
  dsimp only
  simp only [newObj]
  exact wpAny_bind (wpAny_alloc (wpAny_pure (wpAny_pure h)))
set_option maxHeartbeats 6400000 in
/-- set(xs), xs a list of texts -/
theorem set_of_list {p : Addr} {items : Array Value} {xs : List Str} {Q : Value → Shared → Prop} (calm : A.handled = none) (lis : s.heap.IsList p items) (txt : StrsAre items.toList xs) (few : xs.length + 1 < scanBound)
    (h : ∀ (h' : Heap) (tk : Nat), TxSet P w h' s.heap.objs.size (seen xs) → (∀ b o, s.heap.get? b = some o → h'.get? b = some o) → Q (.ref s.heap.objs.size) { s with heap := h', toks := tk }) :
    wpAny (model P w) A (call (.type "set") [.ref p]) Q E s := by
  have size : items.size = xs.length := by
    have q := StrsAre.len_eq txt
    rw [Array.length_toList] at q
    exact q
  obtain ⟨c, tl, hmro⟩ := F.called_set.mro
  have g1 := F.called_set.made
  have g2 := F.called_set.sub
  have g3 := F.called_set.notType
  have g4 := F.called_set.canCreate
  have g5 := F.typeCall_set_1 (.ref p)
  refine wpAny_call (codeAny_of_tree (show wpAny _ _ (callAny (.type "set") _) _ _ _ from wpAny_pure ⟨Code.quiet_builtin _ (by decide +kernel), codeAny_builtin F.entry_type_call ?_⟩))
  rw [Around.under_plain (weight_type_call_type "set" [.ref p] []) rfl]
  repeat (any_goals (first | assumption | wp_step))
  refine codeAny_mono (code_bare (.ref p) (E := E) (Q := fun obj s₁ => obj = .ref s.heap.objs.size ∧ s₁ = { s with heap := s.heap.push (bare1 w) }) ⟨rfl, rfl⟩) fun r s₁ hr => ?_
  rcases r with e | fl
  · exact hr
  cases fl with
  | ret obj =>
    obtain ⟨rfl, rfl⟩ := hr
    have at0 : (s.heap.push (bare1 w)).get? s.heap.objs.size = some (bare1 w) := Heap.get?_push_size _ rfl
    have ty0 : Shared.TypeIs { s with heap := s.heap.push (bare1 w) } (.ref s.heap.objs.size) "set" := ⟨_, at0, rfl⟩
    have g6 := F.called_set.init.lookup
    have g7 := F.called_set.init.bind (.ref s.heap.objs.size)
    repeat (any_goals (first | assumption | wp_step))
    refine codeAny_mono (codeAny_call_builtin (R := wants (fun r s₂ => r = .none ∧ ∃ h' tk, s₂ = { s with heap := h', toks := tk } ∧ TxSet P w h' s.heap.objs.size (seen xs) ∧ (∀ b o, s.heap.get? b = some o → h'.get? b = some o)) E)
      F.called_set.init.plain F.entry_set_init (check_set_init_1 ty0 ?_)) fun r₂ s₂ hr₂ => ?_
    · obtain ⟨⟨ocls, odict, odata, oslots⟩, ho, hc, nl, hd⟩ := lis
      simp only at hc hd
      subst hc hd
      have ho1 : (s.heap.push (bare1 w)).get? p = some { cls := .type "list", dict := odict, data := .seq items nl, slots := oslots } := Heap.get?_push_of_some _ ho
      have g8 := F.sub_list_set
      have g9 := F.sub_list_frozenset
      have g10 : (Value.type "list" == Value.type "dict") = false := by decide
      have lis1 : (s.heap.push (bare1 w)).IsList p items := ⟨_, ho1, rfl, nl, rfl⟩
      unfold Builtin.«set.__init__» noKeywords Builtin.Frozenset.updateFrom
      generalize hPI : pyIter = PI
      wp_walk
      subst hPI
      refine wpAny_pyIter_list lis1 (wpAny_bind (wpAny_runValue ?_))
      have lt0 : p < s.heap.objs.size := Heap.lt_size ho
      have sz1 : (s.heap.push (bare1 w)).objs.size = s.heap.objs.size + 1 := Heap.size_push ..
      have calm3 : A.in1.in1.in1.handled = none := by simp [calm]
      have ne1 : p ≠ (s.heap.push (bare1 w)).objs.size := by
        rw [sz1]
        exact Nat.ne_of_lt (Nat.lt_succ_of_lt lt0)
      have apart : s.heap.objs.size ∉ [(s.heap.push (bare1 w)).objs.size, p] := fun z => by
        rcases List.mem_cons.mp z with z | z
        · rw [sz1] at z
          exact absurd z (Nat.ne_of_lt (Nat.lt_succ_self _))
        · exact absurd (List.mem_singleton.mp z) (Nat.ne_of_gt lt0)
      refine takes_tx ((Walks.list calm3 _ p ne1 items).toS) s.heap.objs.size apart xs size few (fun i v hv => ?_) items.size 0 _ (by omega) ⟨⟨_, Heap.get?_push_size _ rfl, rfl, rfl⟩, (lis1.push _)⟩ ?start fun s' mv held => ?_
      case start => exact (bare_tx s.heap w P).to fun o e => Heap.get?_push_of_some _ e
      · have hi : i < xs.length := by
          rw [← size]
          exact (Array.getElem?_eq_some_iff.mp hv).1
        obtain ⟨t, e⟩ := SS.strs_at txt i v (by rw [Array.getElem?_toList]; exact hv)
        refine ⟨xs[i], t, List.getElem?_eq_getElem hi, ?_⟩
        rw [e, List.getD_eq_getElem?_getD, List.getElem?_eq_getElem hi]
        rfl
      · obtain ⟨h', gn, dr, tk, os'⟩ := s'
        have eg : gn = s.gens := mv.gens
        have ed : dr = s.drawn := mv.drawn
        have eo : os' = s.os := mv.os
        subst eg ed eo
        refine wpAny_pure ?_
        show wpAny _ _ (ret Value.none) _ _ _
        refine wpAny_pure ⟨rfl, h', tk, rfl, held, fun b o e => ?_⟩
        have lt1 : b < s.heap.objs.size := Heap.lt_size e
        refine mv.heap b o (fun z => ?_) (Heap.get?_push_of_some _ (Heap.get?_push_of_some _ e))
        rcases List.mem_cons.mp z with z | z
        · exact absurd z (Nat.ne_of_lt lt1)
        · rw [List.mem_singleton.mp z, sz1] at lt1
          exact absurd (Nat.lt_of_succ_lt lt1) (Nat.lt_irrefl _)
    · rcases r₂ with e | fl₂
      · exact hr₂
      cases fl₂ with
      | ret r =>
        obtain ⟨rfl, h', tk, rfl, held, kept⟩ := hr₂
        repeat (any_goals (first | assumption | wp_step))
        exact h _ _ held kept
      | _ => exact hr₂.elim
  | _ => exact hr.elim
theorem texts_are : ∀ (vs : List Value), (∀ v ∈ vs, ∃ x t, v = Value.str x t) → ∃ xs, StrsAre vs xs ∧ xs = vs.map fun v => match v with | .str x _ => x | _ => ""
  | [], _ => ⟨[], .nil, rfl⟩
  | v :: vs, h => by
    obtain ⟨x, t, rfl⟩ := h v List.mem_cons_self
    obtain ⟨xs, a, e⟩ := texts_are vs fun u hu => h u (List.mem_cons_of_mem _ hu)
    exact ⟨x :: xs, .cons x t a, by rw [e]; rfl⟩
/-- sorted(S), S a set of texts -/
theorem sort_tx {l : List Str} {Q : Value → Shared → Prop} (R : TxSet P w s.heap a l) (calm : A.handled = none) (h64 : l.length < 64)
    (fin : ∀ s' p (out : Array Value) (c : Nat) (ys : List Str), (∀ b o, s.heap.get? b = some o → s'.heap.get? b = some o) → s'.gens = s.gens → s'.os = s.os → s.heap.objs.size ≤ p →
      s'.heap.get? p = some (seqObj "list" out c) → StrsAre out.toList ys → ys.Perm l → Q (.ref p) s') :
    wpAny (model P w) A (call (.builtin "sorted") [.ref a]) Q E s := by
  obtain ⟨o, es, ep, t, here, ex, dat, all, pm, few, fit, ris, led⟩ := R
  refine Calls.call_function_entry kind_sorted plain_sorted entry_sorted (args_sorted1 _) ?_
  unfold Builtin.«sorted»
  refine wpAny_bind (m := checkCount "sorted" 1 1 _) (wpAny_pure ?_)
  refine wpAny_bind (collect_set (A := A.in1) calm ⟨o, here, ex.1, dat⟩ fit few ris led fun s1 vs keep grown gens1 os1 perm => ?_)
  have lenV : vs.length = l.length := by
    have := pm.length_eq
    rw [List.length_map] at this
    rw [perm.length_eq, List.length_map, this]
  obtain ⟨xs, tx, exs⟩ := texts_are vs fun v hv => by
    obtain ⟨e, he, rfl⟩ := List.mem_map.mp (perm.mem_iff.mp hv)
    obtain ⟨x, tk, rfl⟩ := all e he
    exact ⟨x, tk, rfl⟩
  have permX : xs.Perm l := by
    rw [exs]
    refine (perm.map _).trans ?_
    rw [List.map_map]
    exact pm
  refine wpAny_bind (wpAny_newList ?_ (by rw [lenV, sizeLine_eq]; omega))
  have atL : (s1.heap.push (seqObj "list" vs.toArray 0)).get? s1.heap.objs.size = some (seqObj "list" vs.toArray 0) := Heap.get?_push_size _ rfl
  refine wpAny_bind (wpAny_holding (wpAny_call_entry slot_list_sort ⟨_, atL, rfl⟩ entry_list_sort (list_sort_treeK strKind_oneLt atL tx.keysOf (fun v₁ v₂ rest e => keyKind_strs (by rw [← e]; exact tx)) (by rw [lenV]; exact h64) fun st' a1 a2 => ⟨_, rfl, ?_⟩) (args_list_sort _)))
  obtain ⟨ys, y1, y2, _⟩ := sorted_out_str tx a1 a2
  obtain ⟨c, hc⟩ := sortedHeap_at (vs := vs) (out := (arrOf st').map (·.2)) atL
  refine wpAny_pure ⟨_, rfl, fin _ s1.heap.objs.size _ c ys (fun b u e => ?_) gens1 os1 grown hc y1 (y2.trans permX)⟩
  have lt := Heap.lt_size (keep b u e)
  show (sortedHeap (s1.heap.push (seqObj "list" vs.toArray 0)) s1.heap.objs.size vs ((arrOf st').map (·.2))).get? b = some u
  rw [sortedHeap_old (Nat.ne_of_lt lt) (by rw [size_push']; exact Nat.lt_succ_of_lt lt)]
  exact Heap.get?_push_of_some _ (keep b u e)
end
end Nb

set_option Elab.async false
set_option linter.all false
set_option maxRecDepth 100000
set_option maxHeartbeats 4000000
/-! sorted(set(xs)), an expression. -/
namespace Nb
open PySem PySem.Spec PyProof.Rows
open L2 hiding del del_ne del_same
section
variable {X : Cx}
/-- sorted(set(xs)) -/
def tSortS (K : PySem.W.Frag) (ta : TE) : TE := fun σ H Q => ta σ H fun x H1 => ∃ (l : Addr) (xs : List Str), x = .ref l ∧ SqL K H1 l (xs.map V.str) ∧ xs.length ≤ 4000 ∧ (seen xs).length < 64 ∧
  ∀ H2 (p : Addr) (ys : List Str), Same H1 H2 → H1 p = none → H2 p = some (.lst (ys.map V.str)) → ys.Perm (seen xs) → Q (.ref p) H2
theorem pe_sortS {a : Expr} {ta : TE} {p p2 q pos : Pos} (hg : Gl X "sorted") (hm : X.mg "sorted" = none) (hg2 : Gl X "set") (hm2 : X.mg "set" = none) (ha : PE X a ta) (hc : X.calm = true := by rfl)
    (na : starEach [a] X.env = (false, eval a X.env) :: starEach [] X.env := by rfl) : PE X (.Call (.Name "sorted" p) [.Call (.Name "set" p2) [a] [] q] [] pos) (tSortS X.K ta) := by
  refine ⟨fun pins s σ H Q I h => Call_ (ld_blt I hg hm (show bootBuiltins "sorted" = some (.builtin "sorted") by decide +kernel) (callWith_builtin1 (args_cons (Call_ (ld_blt I hg2 hm2 boot_set ?_)) rfl) rfl rfl))⟩
  refine callWith_type1 (args_cons (thn (ha.run pins s σ H _ I h) fun v s1 ⟨x, H1, I1, r1, q1⟩ => args_nil ?_) na) na rfl
  obtain ⟨l, xs, rfl, hq, hl, h64, q1⟩ := q1
  cases r1
  obtain ⟨its, r, pl, hz⟩ := I1.list hq
  refine set_of_list (I1.ok.hd hc) pl.isList (by simpa using texts_of r) (by unfold scanBound; omega) fun h' tk held kept => args_nil ?_
  have I2 : Inv X pins σ H1 { s1 with heap := h', toks := tk } := I1.kept (t' := tk) kept
  obtain ⟨s2, e2⟩ : ∃ s2 : Shared, s2 = { s1 with heap := h', toks := tk } := ⟨_, rfl⟩
  rw [← e2] at I2 ⊢
  have held : TxSet X.prog X.w s2.heap s1.heap.objs.size (seen xs) := by rw [e2]; exact held
  refine sort_tx held (I2.ok.hd hc) h64 fun s' b out c ys keep2 gens2 os2 far made txt pm => ?_
  have hlen : (ys.map V.str).length ≤ sizeLine := by
    rw [List.length_map, pm.length_eq, sizeLine_eq]
    omega
  have new : H1 b = none := I2.hok.fresh far
  have J : Inv X pins σ (upd H1 b (.lst (ys.map V.str))) { s2 with heap := s'.heap, gens := s'.gens, drawn := s'.drawn, toks := s'.toks } :=
    I2.call (ch := []) (Un.laid keep2 far new) (I2.hok.laid keep2 far ⟨hlen, out.toList, c, vals_of_strs txt, made⟩) (by rw [gens2]; exact I2.bare) (fun _ z => nomatch z)
  have e : s' = { s2 with heap := s'.heap, gens := s'.gens, drawn := s'.drawn, toks := s'.toks } := by
    cases s'
    cases s2
    cases os2
    rfl
  rw [e]
  exact ⟨.ref b, _, J, rfl, q1 _ b ys (same_new new) new upd_same pm⟩
end
end Nb

set_option Elab.async false
set_option linter.all false
set_option maxRecDepth 100000
set_option maxHeartbeats 4000000
/-! Defs with a star whose errors are told. -/
namespace Nb
open PySem PySem.Spec PyProof.Rows
open L2 hiding del del_ne del_same
section
variable {P : Program} {w : World} {K : PySem.W.Frag} {mg : Str → Option Value} {base : Heap} {x qual av pv : Str} {st : Stmt} {f : Addr} {fd : FuncData} {N : List Str} {k : Nat} {sp : Sp}
theorem okStarX (F : Fun K x qual st f fd) (S : FnScope N [pv] (defScope st))
    (hb0 : ∀ (kV doc pm : Value) (an : Option Addr) (cdv ct : Value), bindArgs (PySem.W.fnOf x qual (defArgs st) (defBody st) (defScope st) .none kV doc pm an cdv ct) ⟨[], []⟩ = (newTuple [] >>= fun t => pure [(pv, t)]))
    (hb1 : ∀ (kV doc pm : Value) (an : Option Addr) (cdv ct : Value) (r : Value) (rs : List Value), bindArgs (PySem.W.fnOf x qual (defArgs st) (defBody st) (defScope st) .none kV doc pm an cdv ct) ⟨r :: rs, []⟩ = (newTuple (r :: rs) >>= fun t => pure [(pv, t)]))
    (hbody : ∀ (cdv : Value) (A : Around) (outer : List Env) (s : Shared) (H : Hp) (vs : List V) (Q : VK) (E : XK), Room k (A.deeper (PyProof.Rows.envOfC qual (defScope st) s.heap.objs.size f cdv)) → sp vs H Q E →
      ∃ t, PSs (cxOf (L2.CX P w) P w K mg base N qual (defScope st) f cdv A outer s H E) (defBody st) t ∧ t { nx := fun _ H' => Q .non H', rt := Q } (start N vs) H) : FnR P w K mg base (L2.CX P w) (k + 1) f (spStar sp) := by
  obtain ⟨oc, od, kV, doc, pm, an, cdv, ct, osl, rfl, lk, hcd⟩ := F.ex
  refine (StX.fn_star (ps := []) (sp := sp) lk hcd S StX.cxUp (fun us rest hl => ?_) (fun A outer s H vs Q E hr h => hbody cdv A outer s H vs Q E hr h)).imp fun vs H Q E h => ⟨[], vs, rfl, rfl, line100 h.1, fun p np => h.2 p np⟩
  cases us with
  | cons a as => cases hl
  | nil =>
    cases rest with
    | nil => exact hb0 kV doc pm an cdv ct
    | cons r rs => exact hb1 kV doc pm an cdv ct r rs
theorem okStar1X (F : Fun K x qual st f fd) (S : FnScope N [av, pv] (defScope st))
    (hb0 : ∀ (kV doc pm : Value) (an : Option Addr) (cdv ct : Value) (a : Value), bindArgs (PySem.W.fnOf x qual (defArgs st) (defBody st) (defScope st) .none kV doc pm an cdv ct) ⟨[a], []⟩ = (newTuple [] >>= fun t => pure [(av, a), (pv, t)]))
    (hb1 : ∀ (kV doc pm : Value) (an : Option Addr) (cdv ct : Value) (a r : Value) (rs : List Value), bindArgs (PySem.W.fnOf x qual (defArgs st) (defBody st) (defScope st) .none kV doc pm an cdv ct) ⟨a :: r :: rs, []⟩ = (newTuple (r :: rs) >>= fun t => pure [(av, a), (pv, t)]))
    (hlen : ∀ vs H Q E, sp vs H Q E → vs.length = 2)
    (hbody : ∀ (cdv : Value) (A : Around) (outer : List Env) (s : Shared) (H : Hp) (vs : List V) (Q : VK) (E : XK), Room k (A.deeper (PyProof.Rows.envOfC qual (defScope st) s.heap.objs.size f cdv)) → sp vs H Q E →
      ∃ t, PSs (cxOf (L2.CX P w) P w K mg base N qual (defScope st) f cdv A outer s H E) (defBody st) t ∧ t { nx := fun _ H' => Q .non H', rt := Q } (start N vs) H) : FnR P w K mg base (L2.CX P w) (k + 1) f (spStar1 sp) := by
  obtain ⟨oc, od, kV, doc, pm, an, cdv, ct, osl, rfl, lk, hcd⟩ := F.ex
  refine (StX.fn_star (ps := [av]) (sp := sp) lk hcd S StX.cxUp (fun us rest hl => ?_) (fun A outer s H vs Q E hr h => hbody cdv A outer s H vs Q E hr h)).imp fun vs H Q E ⟨a, rest, e, l, h⟩ => ⟨[a], rest, e, rfl, line100 l, fun p np => h p np⟩
  match us, hl with
  | [a], _ =>
    cases rest with
    | nil => exact hb0 kV doc pm an cdv ct a
    | cons r rs => exact hb1 kV doc pm an cdv ct a r rs
end
end Nb

set_option Elab.async false
set_option linter.all false
set_option maxRecDepth 100000
set_option maxHeartbeats 4000000
/-! A dict comprehension whose values are made anew; a cut of a tuple; what is added to a dict. -/
namespace Nb
open PySem
open L2 hiding del del_ne del_same
section
variable {J : It} {n : Nat} {G : Hp → Prop} {Y : Nat → Hp → V → Hp → Prop} {g : TG} {tt : TT} {tk tv : TE} {vs : List Nat} {σ : L2.St} {H1 : Hp} {D : Addr} {Qd : Hp → Prop}
theorem dcR (w : Walk J n G Y) (key : Nat → Key) (R : Nat → V → Hp → Prop) (hR : ∀ i y H H', Same H H' → R i y H → R i y H') (diff : ∀ i j, i < j → j < n → key i ≠ key j) (hn : n ≤ 100000) (hD : H1 D = none) (hG : ∀ H, Same H1 H → G H)
    (hs : ∀ i x H H' (N : V → V → Hp → Prop), i < n → Same H1 H → H D ≠ none → Y i H x H' → (∀ v H5, Same H H5 → R i v (del H5 D) → N (kV (key i)) v H5) → g x (wipe σ vs) H' fun σ2 H2 => wipe σ2 vs = wipe σ vs ∧ tk σ2 H2 fun y H4 => tv σ2 H4 fun z H5 => N y z H5)
    (hd : ∀ H kvs, Same H1 H → H D = some (.dK kvs) → F2 (fun i (kv : Key × V) => kv.1 = key i ∧ R i kv.2 H) (List.range n) kvs → Qd H) :
    ∃ W : Nat → Nat → Hp → Prop, (∃ m, W 0 m (upd H1 D (.dK []))) ∧ ∀ i m H, W i m H →
      (J.stop i H ∧ Qd H) ∨ (J.go i H ∧ ∃ Nx : Hp → Prop, (∀ H', Nx H' → ∃ m', m' < m ∧ W (i + 1) m' H') ∧ ∀ x H', J.yld i H x H' → g x (wipe σ vs) H' fun σ2 H2 => wipe σ2 vs = wipe σ vs ∧ tYes σ2 H2 fun b H3 =>
        if b = true then tk σ2 H3 fun y H4 => tv σ2 H4 fun z H5 => ∃ kvs k, y = kV k ∧ H5 D = some (.dK kvs) ∧ kvs.length < sizeLine ∧ Nx (upd H5 D (.dK (putK kvs k z))) else Nx H3) := by
  refine ⟨fun i m H => m + i = n ∧ Same H1 H ∧ ∃ kvs, H D = some (.dK kvs) ∧ F2 (fun j (kv : Key × V) => kv.1 = key j ∧ R j kv.2 (del H D)) (List.range i) kvs, ⟨n, rfl, same_new hD, [], upd_same, .nil⟩, fun i m H ⟨em, s, kvs, e, f⟩ => ?_⟩
  by_cases hlt : i < n
  · refine .inr ⟨w.goes i H hlt (hG H s), fun H' => Same H1 H' ∧ ∃ kvs, H' D = some (.dK kvs) ∧ F2 (fun j (kv : Key × V) => kv.1 = key j ∧ R j kv.2 (del H' D)) (List.range (i + 1)) kvs, fun H' p' => ⟨m - 1, by omega, by omega, p'⟩, fun x H' y => ?_⟩
    have un : ∀ {H4 : Hp} {o : HO}, del (upd H4 D o) D = del H4 D := fun {H4 o} => by
      funext b
      by_cases h : b = D
      · rw [h, del_at, del_at]
      · rw [del_ne h, del_ne h, upd_ne h]
    have z := hs i x H H' (fun y z H5 => ∃ kvs k, y = kV k ∧ H5 D = some (.dK kvs) ∧ kvs.length < sizeLine ∧ Same H1 (upd H5 D (.dK (putK kvs k z))) ∧ ∃ kvs', (upd H5 D (.dK (putK kvs k z))) D = some (.dK kvs') ∧ F2 (fun j (kv : Key × V) => kv.1 = key j ∧ R j kv.2 (del (upd H5 D (.dK (putK kvs k z))) D)) (List.range (i + 1)) kvs') hlt s (by rw [e]; exact fun z => nomatch z) (w.yields i H x H' hlt (hG H s) y)
      (fun v H5 s5 r => ⟨_, key i, rfl, s5 _ _ e, ?_, same_at (s.trans s5) hD, _, upd_same, ?_⟩)
    · exact z
    · have := f2_len f
      rw [List.length_range] at this
      exact Nat.lt_of_lt_of_le (show kvs.length < n by omega) (line100 hn)
    · rw [un]
      have v0 : valV kvs (key i) = none := by
        unfold valV
        rw [Option.map_eq_none_iff, List.find?_eq_none]
        intro p hp
        obtain ⟨j, hj⟩ := List.getElem?_of_mem hp
        obtain ⟨j', ej, k1, _⟩ := f2_get f hj
        have lj : j' < i := List.mem_range.mp (List.mem_of_getElem? ej)
        have := diff j' i lj hlt
        rw [← k1] at this
        simpa using this
      rw [putK_new _ v0, List.range_succ]
      exact f2_snoc (f2_imp (fun a b ⟨k1, k2⟩ => ⟨k1, hR _ _ _ _ (same_del (del_same.trans s5) del_at) k2⟩) f) ⟨rfl, r⟩
  · have e2 : i = n := by omega
    subst e2
    exact .inl ⟨w.stops H (hG H s), hd H kvs s e (f2_imp (fun a b ⟨k1, k2⟩ => ⟨k1, hR _ _ _ _ del_same k2⟩) f)⟩
end
/-- a cut of a tuple, told by where it can be read -/
theorem slT {K : PySem.W.Frag} {H : Hp} {a : Addr} {xs : List V} {lo hi : Option Int} {Q : VK} (ha : Rd H a (.tup xs)) (q : ∀ H' p, Same H H' → Rd H' p (.tup (cutV xs lo hi)) → Q (.ref p) H') : rSlA K (.ref a) lo hi H Q := by
  refine ⟨a, xs, rfl, .inl ha, fun ⟨h1, h2⟩ => q H a (Same.refl _) ?_, fun _ p np => q _ p (same_new np) (.inl upd_same)⟩
  have : cutV xs lo hi = xs := by
    unfold cutV
    rw [h1, h2, List.drop_zero, Nat.sub_zero, List.take_length]
  rw [this]
  exact ha
theorem cut_nat (xs : List V) (a e : Nat) (h : e ≤ xs.length) : cutV xs (some (a : Int)) (some (e : Int)) = (xs.take e).drop a := by
  unfold cutV
  rw [HT.sIx_nat, HT.sIx_nat]
  apply List.ext_getElem?
  intro i
  rw [List.getElem?_take, List.getElem?_drop, List.getElem?_drop, List.getElem?_take]
  by_cases c : a ≤ xs.length
  · rw [Nat.min_eq_left c, Nat.min_eq_left h]
    by_cases k : a + i < e
    · rw [if_pos (by omega), if_pos k]
    · rw [if_neg (by omega), if_neg k]
  · have e1 : min a xs.length = xs.length := by omega
    rw [e1, List.getElem?_eq_none_iff.mpr (show xs.length ≤ xs.length + i by omega)]
    have e2 : min e xs.length = e := by omega
    rw [e2, if_neg (show ¬ a + i < e by omega)]
    split <;> rfl
theorem cut_to (xs : List V) (e : Nat) : cutV xs none (some (e : Int)) = xs.take e := by
  unfold cutV
  rw [HT.sIx_none, HT.sIx_nat]
  simp
theorem put_out {kvs : List (Key × V)} {k : Key} (h : k ∉ kvs.map (·.1)) : valV kvs k = none := by
  unfold valV
  rw [Option.map_eq_none_iff, List.find?_eq_none]
  intro p hp
  have : p.1 ≠ k := fun e => h (e ▸ List.mem_map.mpr ⟨p, hp, rfl⟩)
  simpa using this
theorem mergeK_app : ∀ (kvs acc : List (Key × V)), ((acc ++ kvs).map (·.1)).Nodup → mergeK acc kvs = acc ++ kvs
  | [], acc, _ => by rw [List.append_nil]; rfl
  | p :: kvs, acc, h => by
    have e : mergeK acc (p :: kvs) = mergeK (putK acc p.1 p.2) kvs := rfl
    have n : p.1 ∉ acc.map (·.1) := fun m => by
      rw [List.map_append, List.nodup_append] at h
      exact h.2.2 _ m _ (List.mem_cons_self ..) rfl
    rw [e, putK_new _ (put_out n), mergeK_app kvs (acc ++ [(p.1, p.2)]) (by rw [List.append_assoc]; exact h), List.append_assoc]
    rfl
end Nb

set_option Elab.async false
set_option linter.all false
set_option maxRecDepth 100000
set_option maxHeartbeats 4000000
/-! {k: v for a in x if .. for b in y if ..}: two clauses. -/
namespace Nb
open PySem PySem.Spec PyProof.Rows
open L2 hiding del del_ne del_same
/-- a clause's tests, one after another -/
abbrev Tst (ifs : List Expr) (env : Env) : Sem Bool := forIn ifs true fun c r => if r = true then do let ok ← isTrue c env (eval c env); pure (ForInStep.yield ok) else pure (ForInStep.yield r)
abbrev C2 (kx vx t0 i0 t1 i1 : Expr) (f0 f1 : List Expr) (scope : Scope) (pos : Pos) : Expr := .DictComp kx vx [⟨t0, i0, f0, 0⟩, ⟨t1, i1, f1, 0⟩] scope pos
theorem c2_out (kx vx t0 i0 t1 i1 : Expr) (f0 f1 : List Expr) (scope : Scope) (pos : Pos) (it acc : Value) (env : Env) : compTurn (C2 kx vx t0 i0 t1 i1 f0 f1 scope pos) 0 it acc env = (do
    standAt i0.pos
    match ← pyNext it with
    | none => pure (.done .next)
    | some v =>
      letOwnedTupleGo t0 it v; assign t0 env v
      let mut ok := true
      for c in f0 do
        if ok then ok ← isTrue c env (eval c env)
      if ok then
        let x ← eval i1 env
        standAt i1.pos
        let x ← foldedSetIterable i1 env x
        let y ← holding [x] (pyIter x)
        let _ ← runOwn (.compStart (C2 kx vx t0 i0 t1 i1 f0 f1 scope pos) 1 y acc env) env
      again (.compLoop (C2 kx vx t0 i0 t1 i1 f0 f1 scope pos) 0 it acc env)) := by rfl
theorem c2_in (kx vx t0 i0 t1 i1 : Expr) (f0 f1 : List Expr) (scope : Scope) (pos : Pos) (it : Value) (D : Addr) (env : Env) : compTurn (C2 kx vx t0 i0 t1 i1 f0 f1 scope pos) 1 it (.ref D) env = (do
    standAt i1.pos
    match ← pyNext it with
    | none => pure (.done .next)
    | some v =>
      letOwnedTupleGo t1 it v; assign t1 env v
      let mut ok := true
      for c in f1 do
        if ok then ok ← isTrue c env (eval c env)
      if ok then
        (do
          let a ← eval kx env
          let b ← holding [a] (eval vx env)
          standAt { kx.pos with endLine := vx.pos.endLine, endCol := vx.pos.endCol }; holding [a, b] (dictSet D a b))
      again (.compLoop (C2 kx vx t0 i0 t1 i1 f0 f1 scope pos) 1 it (.ref D) env)) := by rfl
section
variable {prog : Program} {w : World} {A : Around} {R : Result → Shared → Prop} {s : Shared} {kx vx t0 i0 t1 i1 : Expr} {f0 f1 : List Expr} {scope : Scope} {pos : Pos} {it : Value} {D : Addr} {env : Env}
/-- an error leaves the loop -/
abbrev Lv (prog : Program) (w : World) (A : Around) (env : Env) (R : Result → Shared → Prop) : Value → Shared → Prop := notedBy (model prog w) A env fun e s' => R (.error e) s'
/-- a turn of the first clause's loop -/
theorem dl_out (hs : ∀ x, foldedSetIterable i1 env x = pure x) (I : Nat → Shared → Prop)
    (turn : ∀ n s, I n s → wpAny (model prog w) A (pyNext it) (fun r s1 => match r with
      | none => R (.ok .next) s1
      | some v => wpAny (model prog w) A (letOwnedTupleGo t0 it v) (fun _ s2 => wpAny (model prog w) A (assign t0 env v) (fun _ s3 => wpAny (model prog w) A (Tst f0 env) (fun ok s4 =>
          if ok = true then wpAny (model prog w) A (eval i1 env) (fun x s5 => wpAny (model prog w) A (pyIter x) (fun y s6 => codeAny (model prog w) A (.compStart (C2 kx vx t0 i0 t1 i1 f0 f1 scope pos) 1 y (.ref D) env)
            (fun r s7 => match r with
              | .ok _ => ∃ m, m < n ∧ I m s7
              | .error _ => False) s6) (Lv prog w A env R) s5) (Lv prog w A env R) s4
          else ∃ m, m < n ∧ I m s4) (Lv prog w A env R) s3) (Lv prog w A env R) s2) (Lv prog w A env R) s1) (Lv prog w A env R) s)
    (n : Nat) (h : I n s) : codeAny (model prog w) A (.compLoop (C2 kx vx t0 i0 t1 i1 f0 f1 scope pos) 0 it (.ref D) env) R s := by
  refine codeAny_loop rfl I (fun n s hI => ?_) n h
  show wpAny _ A ((compTurn (C2 kx vx t0 i0 t1 i1 f0 f1 scope pos) 0 it (.ref D) env).onRaise (fun x => do noteFrame x env; theTreesLotGoes x)) _ _ s
  refine wpAny_noted ?_
  rw [c2_out]
  have up : ∀ {α : Type} {m : Sem α} {P P' : α → Shared → Prop} {s}, wpAny (model prog w) A m P (Lv prog w A env R) s → (∀ a s', P a s' → P' a s') → wpAny (model prog w) A m P' (Lv prog w A env R) s := fun h k => wpAny_mono h k fun _ _ z => z
  refine wpAny_bind (wpAny_standAt (wpAny_bind (up (turn n s hI) fun r s1 h1 => ?_)))
  match r with
  | none => exact wpAny_pure h1
  | some v =>
    refine wpAny_bind (up h1 fun _ s2 h2 => wpAny_bind (up h2 fun _ s3 h3 => wpAny_bind (up h3 fun ok s4 h4 => ?_)))
    match ok with
    | false => exact wpAny_pure ⟨rfl, h4⟩
    | true =>
      refine wpAny_bind (up h4 fun x s5 h5 => wpAny_bind (wpAny_standAt (wpAny_bind (wpAny_of_eq (hs x) (wpAny_bind (wpAny_holding (up h5 fun y s6 h6 => ?_)))))))
      refine wpAny_bind (wpAny_runOwn ?_)
      rw [Around.mark_none]
      refine codeAny_mono h6 fun r s7 hr => ?_
      match r with
      | .ok _ => first | exact wpAny_pure ⟨rfl, hr⟩ | exact wpAny_bind (wpAny_pure (wpAny_pure ⟨rfl, hr⟩))
      | .error _ => exact hr.elim
/-- a turn of the second clause's loop -/
theorem dl_in (I : Nat → Shared → Prop)
    (turn : ∀ n s, I n s → wpAny (model prog w) A (pyNext it) (fun r s1 => match r with
      | none => R (.ok .next) s1
      | some v => wpAny (model prog w) A (letOwnedTupleGo t1 it v) (fun _ s2 => wpAny (model prog w) A (assign t1 env v) (fun _ s3 => wpAny (model prog w) A (Tst f1 env) (fun ok s4 =>
          if ok = true then wpAny (model prog w) A (eval kx env) (fun a s5 => wpAny (model prog w) A (eval vx env) (fun b s6 => wpAny (model prog w) A (dictSet D a b) (fun _ s7 => ∃ m, m < n ∧ I m s7)
            (Lv prog w A env R) s6) (Lv prog w A env R) s5) (Lv prog w A env R) s4
          else ∃ m, m < n ∧ I m s4) (Lv prog w A env R) s3) (Lv prog w A env R) s2) (Lv prog w A env R) s1) (Lv prog w A env R) s)
    (n : Nat) (h : I n s) : codeAny (model prog w) A (.compLoop (C2 kx vx t0 i0 t1 i1 f0 f1 scope pos) 1 it (.ref D) env) R s := by
  refine codeAny_loop rfl I (fun n s hI => ?_) n h
  show wpAny _ A ((compTurn (C2 kx vx t0 i0 t1 i1 f0 f1 scope pos) 1 it (.ref D) env).onRaise (fun x => do noteFrame x env; theTreesLotGoes x)) _ _ s
  refine wpAny_noted ?_
  rw [c2_in]
  have up : ∀ {α : Type} {m : Sem α} {P P' : α → Shared → Prop} {s}, wpAny (model prog w) A m P (Lv prog w A env R) s → (∀ a s', P a s' → P' a s') → wpAny (model prog w) A m P' (Lv prog w A env R) s := fun h k => wpAny_mono h k fun _ _ z => z
  refine wpAny_bind (wpAny_standAt (wpAny_bind (up (turn n s hI) fun r s1 h1 => ?_)))
  match r with
  | none => exact wpAny_pure h1
  | some v =>
    refine wpAny_bind (up h1 fun _ s2 h2 => wpAny_bind (up h2 fun _ s3 h3 => wpAny_bind (up h3 fun ok s4 h4 => ?_)))
    match ok with
    | false => exact wpAny_pure ⟨rfl, h4⟩
    | true => exact wpAny_bind (wpAny_bind (up h4 fun a s5 h5 => wpAny_bind (wpAny_holding (up h5 fun b s6 h6 => wpAny_bind (wpAny_standAt (wpAny_holding (up h6 fun _ s7 h7 => wpAny_pure ⟨rfl, h7⟩)))))))
/-- the second clause's loop begins -/
theorem ds_in (h0 : codeAny (model prog w) A (.compLoop (C2 kx vx t0 i0 t1 i1 f0 f1 scope pos) 1 it (.ref D) env) R s)
    (h : wpAny (model prog w) A (pyIter it) (fun it' s' => codeAny (model prog w) A (.compLoop (C2 kx vx t0 i0 t1 i1 f0 f1 scope pos) 1 it' (.ref D) env) R s') (Lv prog w A env R) s) :
    codeAny (model prog w) A (.compStart (C2 kx vx t0 i0 t1 i1 f0 f1 scope pos) 1 it (.ref D) env) R s := by
  refine codeAny_of_tree ?_
  show wpAny _ _ ((compStart (C2 kx vx t0 i0 t1 i1 f0 f1 scope pos) 1 it (.ref D) env).onRaise (fun x => do noteFrame x env; standAt theWindowsPlace)) _ _ s
  refine wpAny_notedAt ?_
  unfold compStart
  show wpAny _ _ (ask >>= _) _ _ s
  refine wpAny_bind (wpAny_askSetting (wpAny_ite ?_))
  split
  · first | exact wpAny_pure ⟨rfl, h0⟩ | exact wpAny_bind (wpAny_pure (wpAny_pure ⟨rfl, h0⟩))
  · refine wpAny_bind (wpAny_rule ?_)
    show wpAny _ _ (standAt i1.pos >>= _) _ _ s
    exact wpAny_bind (wpAny_standAt (wpAny_bind (wpAny_mono h (fun it' s' h' => wpAny_pure ⟨rfl, h'⟩) fun _ _ x => x)))
end
/-- {k: v for g in wi if tt for g1 in wi1 if tt1}: D is the new dict; vs the slots of the block's names, v1 those of the second target -/
def tDc2 (wi : TI) (g : TG) (tt : TT) (wi1 : TI) (g1 : TG) (tt1 : TT) (tk tv : TE) (vs v1 : List Nat) : TE := fun σ H Q => wi σ H fun J Ha => ∀ D, Ha D = none → ∃ W : Nat → Nat → Hp → Prop, (∃ m, W 0 m (upd Ha D (.dK []))) ∧ ∀ i m H, W i m H →
  (J.stop i H ∧ Q (.ref D) H) ∨ (J.go i H ∧ ∃ Nx : Hp → Prop, (∀ H', Nx H' → ∃ m', m' < m ∧ W (i + 1) m' H') ∧ ∀ x H', J.yld i H x H' → g x (wipe σ vs) H' fun σ2 H2 => wipe σ2 vs = wipe σ vs ∧ tt σ2 H2 fun b H3 =>
    if b = true then wi1 σ2 H3 fun J1 H4 => ∃ W1 : Nat → Nat → Hp → Prop, (∃ m, W1 0 m H4) ∧ ∀ j k H, W1 j k H →
      (J1.stop j H ∧ Nx H) ∨ (J1.go j H ∧ ∃ Nx1 : Hp → Prop, (∀ H', Nx1 H' → ∃ k', k' < k ∧ W1 (j + 1) k' H') ∧ ∀ x H', J1.yld j H x H' → g1 x (wipe σ2 v1) H' fun σ3 H5 => wipe σ3 v1 = wipe σ2 v1 ∧ tt1 σ3 H5 fun b H6 =>
        if b = true then tk σ3 H6 fun y H7 => tv σ3 H7 fun z H8 => ∃ kvs k, y = kV k ∧ H8 D = some (.dK kvs) ∧ kvs.length < sizeLine ∧ Nx1 (upd H8 D (.dK (putK kvs k z))) else Nx1 H6)
    else Nx H3)
section
variable {X : Cx}
/-- a rule that serves in each block of the comprehension -/
abbrev InBlk (X : Cx) (scope : Scope) (p : Cx → Prop) : Prop := ∀ (s : Shared) (H : Hp) (C : Addr) (cl : List (Str × Addr)) (fp : List Addr), p (X.blk s H scope (compEnvC scope cl C X.env) fp)
theorem pe_dc2 {kx vx t0 i0 t1 i1 : Expr} {f0 f1 : List Expr} {scope : Scope} {own : List (Str × Nat)} {v1 : List Nat} {pos : Pos} {wi wi1 : TI} {g g1 : TG} {tt tt1 : TT} {tk tv : TE} (hc : X.calm = true) (hN : X.N.Nodup) (hi : PI X t0 i0 wi) (ok : BlkOk X.N X.env.scope scope own) (hv : ∀ i ∈ v1, i ∈ own.map (·.2))
    (hg : InBlk X scope fun B => PG B t0 g) (ht : InBlk X scope fun B => PTs B f0 tt) (hi1 : InBlk X scope fun B => PI B t1 i1 wi1) (hg1 : InBlk X scope fun B => PG B t1 g1) (ht1 : InBlk X scope fun B => PTs B f1 tt1)
    (hk : InBlk X scope fun B => PE B kx tk) (he : InBlk X scope fun B => PE B vx tv) (hs : ∀ x, foldedSetIterable i0 X.env x = pure x := by intro _; rfl) (hs1 : ∀ env x, foldedSetIterable i1 env x = pure x := by intro _ _; rfl) :
    PE X (C2 kx vx t0 i0 t1 i1 f0 f1 scope pos) (tDc2 wi g tt wi1 g1 tt1 tk tv (own.map (·.2)) v1) := by
  refine ⟨fun pins s σ H Q I h => ?_⟩
  show wpAny _ _ (eval (.DictComp kx vx _ scope pos) X.env) _ _ _
  rw [arm_eval_DictComp]
  refine wpAny_comprehension_free (use := none) rfl hs (closure_ok fun y hy e => (ok.free y hy e).elim (fun k => I.ok.has _ (.inl k)) fun k => I.ok.has _ (.inr k)) ok.kind (fun y hy e => (ok.uniq y hy).trans (by rw [e]))
    (thn (hi.run pins s σ H _ I h) fun xv sa hx => thn hx fun itv sb hb => ?_)
  obtain ⟨it, fp, tn, J, Hb, ei, Ib, T, stb, fb, q⟩ := hb
  subst ei
  refine wpAny_newObj_type (newEnv_comp ?_)
  generalize hD : sb.heap.objs.size = D
  have nD : Hb D = none := Ib.hok.fresh (Nat.le_of_eq hD)
  obtain ⟨W, ⟨m0, w0⟩, turn⟩ := q D nD
  obtain ⟨sc, hsc⟩ : ∃ sc : Shared, sc = { sb with heap := sb.heap.push { cls := .type "dict", data := .dict #[] } } := ⟨_, rfl⟩
  have hsh : sc.heap = sb.heap.push { cls := .type "dict", data := .dict #[] } := congrArg Shared.heap hsc
  have Ic : Inv X pins σ (upd Hb D (.dK [])) sc := hsc ▸ Ib.laid (t' := sb.toks) (fun b o e => Heap.get?_push_of_some _ e) (Nat.le_of_eq hD) (hD ▸ dk_empty sb.heap Ib.big)
  have fc : ∀ b ∈ fp, FpOk X pins (upd Hb D (.dK [])) b ∧ b < sc.heap.objs.size := fun b hb => by
    obtain ⟨o, e, _⟩ := T.obj _ _ stb b hb
    have lt := Heap.lt_size e
    refine ⟨⟨(upd_ne (hD ▸ Nat.ne_of_lt lt)).trans (fb b hb).1, (fb b hb).2⟩, ?_⟩
    rw [hsh, Heap.size_push]
    exact Nat.lt_succ_of_lt lt
  have stc : tn 0 sc.heap := T.keep _ _ _ stb fun b _ o e => hsh ▸ Heap.get?_push_of_some _ e
  have Id := block_start Ic ok hN fc
  rw [← hsc]
  have P0 := hg sc (upd Hb D (.dK [])) sc.heap.objs.size (cellsFrom (sc.heap.objs.size + 1) scope.names (cloFrom X.env.cells scope.names [])) fp
  have P1 := ht sc (upd Hb D (.dK [])) sc.heap.objs.size (cellsFrom (sc.heap.objs.size + 1) scope.names (cloFrom X.env.cells scope.names [])) fp
  have P2 := hi1 sc (upd Hb D (.dK [])) sc.heap.objs.size (cellsFrom (sc.heap.objs.size + 1) scope.names (cloFrom X.env.cells scope.names [])) fp
  have P3 := hg1 sc (upd Hb D (.dK [])) sc.heap.objs.size (cellsFrom (sc.heap.objs.size + 1) scope.names (cloFrom X.env.cells scope.names [])) fp
  have P4 := ht1 sc (upd Hb D (.dK [])) sc.heap.objs.size (cellsFrom (sc.heap.objs.size + 1) scope.names (cloFrom X.env.cells scope.names [])) fp
  have P5 := hk sc (upd Hb D (.dK [])) sc.heap.objs.size (cellsFrom (sc.heap.objs.size + 1) scope.names (cloFrom X.env.cells scope.names [])) fp
  have P6 := he sc (upd Hb D (.dK [])) sc.heap.objs.size (cellsFrom (sc.heap.objs.size + 1) scope.names (cloFrom X.env.cells scope.names [])) fp
  show codeAny _ _ (.compStart (C2 kx vx t0 i0 t1 i1 f0 f1 scope pos) 0 (.ref it) (.ref D) (compEnvC scope (cellsFrom (sc.heap.objs.size + 1) scope.names (cloFrom X.env.cells scope.names [])) sc.heap.objs.size X.env)) _ { sc with heap := pushCells (sc.heap.push { cls := .type "dict", data := .dict #[] }) scope.names }
  generalize hce : compEnvC scope (cellsFrom (sc.heap.objs.size + 1) scope.names (cloFrom X.env.cells scope.names [])) sc.heap.objs.size X.env = ce at Id P0 P1 P2 P3 P4 P5 P6 ⊢
  have cL : ce.locals = sc.heap.objs.size := congrArg Env.locals hce.symm
  generalize upd Hb D (.dK []) = Hc at Ic Id P0 P1 P2 P3 P4 P5 P6 w0 fc
  generalize hsd : ({ sc with heap := pushCells (sc.heap.push { cls := .type "dict", data := .dict #[] }) scope.names } : Shared) = sd at Id ⊢
  have std : tn 0 sd.heap := T.keep _ _ _ stc fun b _ o e => hsd ▸ pushCells_keeps _ _ _ _ (Heap.get?_push_of_some _ e)
  have stat : ∀ {σ' : L2.St} {H' : Hp} {s' : Shared}, Inv (X.blk sc Hc scope ce fp) [] σ' H' s' → (∀ b ∈ fp, H' b = none) → ∀ b ∈ fp, FpOk (X.blk sc Hc scope ce fp) [] H' b :=
    fun {σ' H' s'} I' n b hb => ⟨n b hb, (I'.ok.exf b hb).1, I'.ok.exfs b hb, .inl hb, fun x c e => (I'.ok.exf b hb).2 x c e, fun p hp => nomatch (show p ∈ ([] : List (Addr × Obj)) from hp)⟩
  have loop : codeAny (model X.prog X.w) X.A (.compLoop (C2 kx vx t0 i0 t1 i1 f0 f1 scope pos) 0 (.ref it) (.ref D) ce) (compPost (model X.prog X.w) X.A X.xe none (EP X pins σ Q) (.ref D) sc.heap.objs.size) sd := by
    refine dl_out (hs1 ce) (fun n s' => ∃ i H', Inv (X.blk sc Hc scope ce fp) [] (wipe σ (own.map (·.2))) H' s' ∧ tn i s'.heap ∧ (∀ b ∈ fp, H' b = none) ∧ W i n H') ?_ m0 ⟨0, Hc, Id, std, fun b hb => (fc b hb).1.1, w0⟩
    intro n se ⟨i, He, Ie, ste, ne, we⟩
    rcases turn i n He we with ⟨stop, qq⟩ | ⟨go, Nx, hNx, step⟩
    · refine thnF (T.done (X.blk sc Hc scope ce fp) rfl rfl rfl hc i [] se _ He (fun _ _ => False) Ie (stat Ie ne) ste stop) fun r sf ⟨hr, If⟩ => ?_
      subst hr
      have Ig : Inv X pins σ He sf := Ic.call' (ch := fp) If.os If.base If.hok If.bare fun b hb => let ⟨_, z1, z2, z3, z4, z5⟩ := (fc b hb).1; ⟨z3, z1, z4, z5⟩
      have nC : He sc.heap.objs.size = none := cL ▸ (If.free : He ce.locals = none)
      obtain ⟨m, hn, _⟩ := If.loc
      have hn : sf.heap.Ns sc.heap.objs.size m := cL ▸ (hn : sf.heap.Ns ce.locals m)
      refine ⟨m, hn, fun h'' sb' => ?_⟩
      obtain ⟨z0, z1, z2, z3, z4, z5⟩ := Ic.fpOk (Nat.le_refl _) nC
      exact ⟨.ref D, He, Ig.turned (t' := sf.toks) (fun b o hb e => (sb'.2 b hb).trans e) z0 z1 z3 z4 z5, rfl, qq⟩
    · refine thnF (T.item (X.blk sc Hc scope ce fp) rfl rfl rfl hc i [] se _ He (fun _ _ => False) Ie (stat Ie ne) ste go) fun r sf ⟨u, hr, hf⟩ => ?_
      subst hr
      refine thnF hf fun _ sg ⟨x, Hg, Ig, rg, yg, stg, ng⟩ => ?_
      refine thnF (P0.run _ sg _ Hg x u _ (Ig.pinned (stat Ig ng) (T.obj _ _ stg)) rg (step x Hg yg)) fun _ sh ⟨σh, Hh, Ih, hwh, qh⟩ => ?_
      refine thnF (P1.run _ sh σh Hh _ Ih qh) fun b sj ⟨Hj, Ij, qj⟩ => ?_
      have end0 : ∀ {σ' : L2.St} {s' : Shared} {H' : Hp}, Inv (X.blk sc Hc scope ce fp) ([] ++ pinsAt fp sg.heap) σ' H' s' → (wipe σ (own.map (·.2))).length = σ'.length → (∀ (j : Nat) v, (wipe σ (own.map (·.2)))[j]? = some (some v) → σ'[j]? = some (some v)) → Nx H' →
          ∃ m, m < n ∧ ∃ i H', Inv (X.blk sc Hc scope ce fp) [] (wipe σ (own.map (·.2))) H' s' ∧ tn i s'.heap ∧ (∀ b ∈ fp, H' b = none) ∧ W i m H' := fun {σ' s' H'} I' hl hk nx => by
        obtain ⟨m', hm, w'⟩ := hNx H' nx
        have held : ∀ b ∈ fp, ∀ o, sg.heap.get? b = some o → s'.heap.get? b = some o ∧ H' b = none := fun b hb o e =>
          have z := I'.pin (b, o) (List.mem_append_right _ (List.mem_append_right _ (mem_pinsAt hb e)))
          ⟨z.1, z.2.1⟩
        exact ⟨m', hm, i + 1, H', (I'.unpinned (pins := [])).weak hl hk, T.keep _ _ _ stg fun b hb o e => (held b hb o e).1, fun b hb => let ⟨o, e, _⟩ := T.obj _ _ stg b hb; (held b hb o e).2, w'⟩
      have lh : (wipe σ (own.map (·.2))).length = σh.length := hwh ▸ wipe_length _ _
      have kh : ∀ (j : Nat) v, (wipe σ (own.map (·.2)))[j]? = some (some v) → σh[j]? = some (some v) := fun j v e => (wipe_some (hwh.symm ▸ e)).1
      have kj : ∀ (j : Nat) v, (wipe σ (own.map (·.2)))[j]? = some (some v) → (wipe σh v1)[j]? = some (some v) := fun j v e =>
        let ⟨e1, e2⟩ := wipe_some (hwh.symm ▸ e)
        (wipe_out fun z => e2 (hv j z)).trans e1
      match b with
      | false => exact end0 Ij lh kh (by simpa using qj)
      | true =>
        have qj := (if_pos rfl : (if true = true then _ else _) = _) ▸ qj
        refine thnF (P2.run _ sj σh Hj _ Ij qj) fun xv sk hx => thnF hx fun itv sl hl => ?_
        obtain ⟨it1, fp1, tn1, J1, Hl, e1, Il, T1, stl, fl, W1, ⟨m1, w1⟩, turn1⟩ := hl
        subst e1
        have stat1 : ∀ {H' : Hp}, (∀ b ∈ fp1, H' b = none) → ∀ b ∈ fp1, FpOk (X.blk sc Hc scope ce fp) ([] ++ pinsAt fp sg.heap) H' b := fun n b hb => ⟨n b hb, (fl b hb).2⟩
        have loop1 : codeAny (model X.prog X.w) X.A (.compLoop (C2 kx vx t0 i0 t1 i1 f0 f1 scope pos) 1 (.ref it1) (.ref D) ce)
            (fun r s' => match r with
              | .ok _ => ∃ m, m < n ∧ ∃ i H', Inv (X.blk sc Hc scope ce fp) [] (wipe σ (own.map (·.2))) H' s' ∧ tn i s'.heap ∧ (∀ b ∈ fp, H' b = none) ∧ W i m H'
              | .error _ => False) sl := by
          refine dl_in (fun k s' => ∃ j H', Inv (X.blk sc Hc scope ce fp) ([] ++ pinsAt fp sg.heap) (wipe σh v1) H' s' ∧ tn1 j s'.heap ∧ (∀ b ∈ fp1, H' b = none) ∧ W1 j k H') ?_ m1 ⟨0, Hl, Il.weak (wipe_length _ _) (fun j v e => (wipe_some e).1), stl, fun b hb => (fl b hb).1, w1⟩
          intro k sm ⟨j, Hm, Im, stm, nm, wm⟩
          rcases turn1 j k Hm wm with ⟨stop1, nx1⟩ | ⟨go1, Nx1, hNx1, step1⟩
          · refine thnF (T1.done (X.blk sc Hc scope ce fp) rfl rfl rfl hc j _ sm (wipe σh v1) Hm (fun _ _ => False) Im (stat1 nm) stm stop1) fun r sn ⟨hr, In⟩ => ?_
            subst hr
            exact end0 In (lh.trans (wipe_length σh v1).symm) kj nx1
          · refine thnF (T1.item (X.blk sc Hc scope ce fp) rfl rfl rfl hc j _ sm (wipe σh v1) Hm (fun _ _ => False) Im (stat1 nm) stm go1) fun r sn ⟨u1, hr, hn⟩ => ?_
            subst hr
            refine thnF hn fun _ so ⟨x1, Ho, Io, ro, yo, sto, no⟩ => ?_
            refine thnF (P3.run _ so (wipe σh v1) Ho x1 u1 _ (Io.pinned (stat1 no) (T1.obj _ _ sto)) ro (step1 x1 Ho yo)) fun _ sp ⟨σp, Hp', Ip, hwp, qp⟩ => ?_
            refine thnF (P4.run _ sp σp Hp' _ Ip qp) fun b1 sq ⟨Hq, Iq, qq⟩ => ?_
            have end1 : ∀ {s' : Shared} {H' : Hp}, Inv (X.blk sc Hc scope ce fp) (([] ++ pinsAt fp sg.heap) ++ pinsAt fp1 so.heap) σp H' s' → Nx1 H' → ∃ m, m < k ∧ ∃ j H', Inv (X.blk sc Hc scope ce fp) ([] ++ pinsAt fp sg.heap) (wipe σh v1) H' s' ∧ tn1 j s'.heap ∧ (∀ b ∈ fp1, H' b = none) ∧ W1 j m H' := fun {s' H'} I' nx => by
              obtain ⟨m', hm, w'⟩ := hNx1 H' nx
              have held : ∀ b ∈ fp1, ∀ o, so.heap.get? b = some o → s'.heap.get? b = some o ∧ H' b = none := fun b hb o e =>
                have z := I'.pin (b, o) (List.mem_append_right _ (List.mem_append_right _ (mem_pinsAt hb e)))
                ⟨z.1, z.2.1⟩
              exact ⟨m', hm, j + 1, H', I'.unpinned.weak (hwp ▸ wipe_length _ _) (fun j v e => (wipe_some (hwp.symm ▸ e)).1), T1.keep _ _ _ sto fun b hb o e => (held b hb o e).1, fun b hb => let ⟨o, e, _⟩ := T1.obj _ _ sto b hb; (held b hb o e).2, w'⟩
            match b1 with
            | false => exact end1 Iq (by simpa using qq)
            | true =>
              have qq := (if_pos rfl : (if true = true then _ else _) = _) ▸ qq
              refine thnF (P5.run _ sq σp Hq _ Iq qq) fun z sr ⟨yk, Hr, Ir, rr, qr⟩ => ?_
              refine thnF (P6.run _ sr σp Hr _ Ir qr) fun z2 st ⟨yv, Ht, It, rt, kvs, ky, ek, hDt, hzt, nx⟩ => ?_
              subst ek
              exact d_dictSet (X := X.blk sc Hc scope ce fp) It hDt hzt rr rt fun s' I' => end1 I' nx
        exact ds_in loop1 (T1.self X.A 0 _ _ _ stl loop1)
  exact codeAny_compStart_dict loop (T.self X.A 0 _ _ _ std loop)
end
/-- what the second clause's loop asks, of which Nx is the end -/
def Dc2In (J1 : It) (g1 : TG) (tt1 : TT) (tk tv : TE) (v1 : List Nat) (σ2 : L2.St) (D : Addr) (H4 : Hp) (Nx : Hp → Prop) : Prop := ∃ W1 : Nat → Nat → Hp → Prop, (∃ m, W1 0 m H4) ∧ ∀ j k H, W1 j k H →
      (J1.stop j H ∧ Nx H) ∨ (J1.go j H ∧ ∃ Nx1 : Hp → Prop, (∀ H', Nx1 H' → ∃ k', k' < k ∧ W1 (j + 1) k' H') ∧ ∀ x H', J1.yld j H x H' → g1 x (wipe σ2 v1) H' fun σ3 H5 => wipe σ3 v1 = wipe σ2 v1 ∧ tt1 σ3 H5 fun b H6 =>
        if b = true then tk σ3 H6 fun y H7 => tv σ3 H7 fun z H8 => ∃ kvs k, y = kV k ∧ H8 D = some (.dK kvs) ∧ kvs.length < sizeLine ∧ Nx1 (upd H8 D (.dK (putK kvs k z))) else Nx1 H6)
section
variable {J J1 : It} {n n1 : Nat} {G G1 : Hp → Prop} {Y Y1 : Nat → Hp → V → Hp → Prop} {wi1 : TI} {g g1 : TG} {tt tt1 : TT} {tk tv : TE} {vs v1 : List Nat} {σ σ2 : L2.St} {Ha H4 : Hp} {D : Addr} {Qd Nx : Hp → Prop}
theorem dc2_in (w : Walk J1 n1 G1 Y1) (P : Nat → Hp → Prop) (h0 : P 0 H4) (hG : ∀ j H, j ≤ n1 → P j H → G1 H)
    (hs : ∀ j x H H', j < n1 → P j H → Y1 j H x H' → g1 x (wipe σ2 v1) H' fun σ3 H5 => wipe σ3 v1 = wipe σ2 v1 ∧ tt1 σ3 H5 fun b H6 =>
      if b = true then tk σ3 H6 fun y H7 => tv σ3 H7 fun z H8 => ∃ kvs k, y = kV k ∧ H8 D = some (.dK kvs) ∧ kvs.length < sizeLine ∧ P (j + 1) (upd H8 D (.dK (putK kvs k z))) else P (j + 1) H6)
    (hd : ∀ H, P n1 H → Nx H) : Dc2In J1 g1 tt1 tk tv v1 σ2 D H4 Nx := by
  refine ⟨fun j k H => k + j = n1 ∧ P j H, ⟨n1, rfl, h0⟩, fun j k H ⟨e, p⟩ => ?_⟩
  by_cases lt : j < n1
  · have gg := hG j H (Nat.le_of_lt lt) p
    exact .inr ⟨w.goes j H lt gg, P (j + 1), fun H' p' => ⟨k - 1, by omega, by omega, p'⟩, fun x H' y => hs j x H H' lt p (w.yields j H x H' lt gg y)⟩
  · obtain rfl : j = n1 := by omega
    exact .inl ⟨w.stops H (hG _ H (Nat.le_refl _) p), hd H p⟩
theorem dc2_out (w : Walk J n G Y) (P : Nat → Hp → Prop) (h0 : P 0 (upd Ha D (.dK []))) (hG : ∀ j H, j ≤ n → P j H → G H)
    (hs : ∀ i x H H', i < n → P i H → Y i H x H' → g x (wipe σ vs) H' fun σ2 H2 => wipe σ2 vs = wipe σ vs ∧ tt σ2 H2 fun b H3 =>
      if b = true then wi1 σ2 H3 fun J1 H4 => Dc2In J1 g1 tt1 tk tv v1 σ2 D H4 (P (i + 1)) else P (i + 1) H3)
    (hd : ∀ H, P n H → Qd H) : ∃ W : Nat → Nat → Hp → Prop, (∃ m, W 0 m (upd Ha D (.dK []))) ∧ ∀ i m H, W i m H →
  (J.stop i H ∧ Qd H) ∨ (J.go i H ∧ ∃ Nx : Hp → Prop, (∀ H', Nx H' → ∃ m', m' < m ∧ W (i + 1) m' H') ∧ ∀ x H', J.yld i H x H' → g x (wipe σ vs) H' fun σ2 H2 => wipe σ2 vs = wipe σ vs ∧ tt σ2 H2 fun b H3 =>
    if b = true then wi1 σ2 H3 fun J1 H4 => Dc2In J1 g1 tt1 tk tv v1 σ2 D H4 Nx else Nx H3) := by
  refine ⟨fun i m H => m + i = n ∧ P i H, ⟨n, rfl, h0⟩, fun i m H ⟨e, p⟩ => ?_⟩
  by_cases lt : i < n
  · have gg := hG i H (Nat.le_of_lt lt) p
    exact .inr ⟨w.goes i H lt gg, P (i + 1), fun H' p' => ⟨m - 1, by omega, by omega, p'⟩, fun x H' y => hs i x H H' lt p (w.yields i H x H' lt gg y)⟩
  · obtain rfl : i = n := by omega
    exact .inl ⟨w.stops H (hG _ H (Nat.le_refl _) p), hd H p⟩
end
end Nb

set_option Elab.async false
set_option linter.all false
set_option maxRecDepth 100000
set_option maxHeartbeats 4000000
/-! d.update(d2), of two dicts; {k: v}. -/
namespace Nb
open PySem PySem.Spec PyProof.Rows
open L2 hiding del del_ne del_same
def rDUpd : V → List V → Hp → VK → Prop := fun x xs H Q => ∃ d o kvs more, x = .ref d ∧ xs = [.ref o] ∧ d ≠ o ∧ H d = some (.dK kvs) ∧ H o = some (.dK more) ∧ kvs.length + more.length ≤ 100000 ∧ Q .non (upd H d (.dK (mergeK kvs more)))
theorem mt_dupd {X : Cx} : MtR X "dict.update" rDUpd := by
  intro pins s σ H x xs v us Q I rx rs ⟨d, o, kvs, more, ex, es, ne, ed, eo, hl, q⟩
  subst ex es
  cases rx
  obtain ⟨u, rfl, ru⟩ := vals1 rs
  cases ru
  obtain ⟨z, hd, vs, rel, dd⟩ := dk_of I.hok ed
  obtain ⟨z2, hd2, vs2, rel2, dd2⟩ := dk_of I.hok eo
  have hz : vs.length + vs2.length ≤ sizeLine := by
    have e1 := Paired.length rel
    have e2 := Paired.length rel2
    rw [sizeLine_eq]
    omega
  have hl2 : (mergeK kvs more).length ≤ sizeLine := by
    have := length_mergeK more kvs
    rw [sizeLine_eq]
    omega
  refine call_meetsIn PySem.F.slot_dict_update dd.typeIs PySem.F.entry_dict_update (PySem.F.args_dict_update_2 _ _) (meets_dict_update (mixKind X.prog X.w) d o ne hd2) ⟨vs, vs2, dd, dd2, hz, fun h' dm _ hs => ?_⟩
  have he : ∃ q, h'.get? d = some q := let ⟨q, _, _, hq, _⟩ := dm; ⟨q, hq⟩
  exact ⟨.non, _, d_write I (by rw [ed]; exact True.intro) hs he (dk_new hl2 hd (rel2.merge rel) dm), rfl, q⟩
/-- {k: v}, of a key and a value that change nothing -/
def tDisp1 (tk tv : TE) : TE := fun σ H Q => ∀ H0 p, Same H H0 → H p = none → H0 p = some (.dK []) → tk σ H0 fun x H1 => tv σ H1 fun y H2 => H2 p = some (.dK []) ∧ ∃ k : Key, x = kV k ∧ Q (.ref p) (upd H2 p (.dK [(k, y)]))
theorem pe_disp1 {X : Cx} {pos : Pos} {k v : Expr} {tk tv : TE} (hk : PE X k tk) (hv : PE X v tv) : PE X (.Dict [some k] [v] pos) (tDisp1 tk tv) := by
  refine PE.to (pe_disp (pps_cons (pe_up hk) (pe_up hv) pps_nil) rfl rfl (by simp) (Nat.le_add_left 1 14)) fun σ H Q h p np => ?_
  have h := h _ p (same_new np) np upd_same
  refine ⟨_, h, fun x H1 h2 => ⟨_, h2, fun y H2 ⟨e, k, ex, q⟩ => ⟨e, [(k, y)], by rw [ex]; rfl, Nat.le_add_left 1 14, q⟩⟩⟩
end Nb

set_option linter.all false
set_option maxRecDepth 100000
/-! Rings of steps in rows. No Python here. -/
namespace Nb.Mg
variable {α : Type} [DecidableEq α]
/-- a step: a name, a later one, their row -/
abbrev Stp (α : Type) := α × α × Nat
def Go (rows : List (List α)) (x y : α) (i : Nat) : Prop := ∃ r, rows[i]? = some r ∧ x ∈ r ∧ y ∈ r ∧ r.idxOf x < r.idxOf y
/-- steps one behind the other, among what is not gone -/
def Way (rows : List (List α)) (gone : List α) : α → α → List (Stp α) → Prop
  | x, y, [] => x = y
  | x, y, s :: t => s.1 = x ∧ Go rows s.1 s.2.1 s.2.2 ∧ s.1 ∉ gone ∧ s.2.1 ∉ gone ∧ Way rows gone s.2.1 y t
def Ring (rows : List (List α)) (gone : List α) (p : List (Stp α)) : Prop := p ≠ [] ∧ ∃ x, Way rows gone x x p
section
variable {rows : List (List α)} {gone : List α}
theorem way_app : ∀ {p q : List (Stp α)} {x y : α}, Way rows gone x y (p ++ q) ↔ ∃ z, Way rows gone x z p ∧ Way rows gone z y q
  | [], q, x, y => ⟨fun h => ⟨x, rfl, h⟩, fun ⟨z, e, h⟩ => (show x = z from e) ▸ h⟩
  | s :: p, q, x, y => by
    show (s.1 = x ∧ _ ∧ _ ∧ _ ∧ Way rows gone s.2.1 y (p ++ q)) ↔ _
    rw [way_app]
    constructor
    · rintro ⟨a, b, c, d, z, e, f⟩
      exact ⟨z, ⟨a, b, c, d, e⟩, f⟩
    · rintro ⟨z, ⟨a, b, c, d, e⟩, f⟩
      exact ⟨a, b, c, d, z, e, f⟩
theorem way_one {x y : α} {i : Nat} (g : Go rows x y i) (hx : x ∉ gone) (hy : y ∉ gone) : Way rows gone x y [(x, y, i)] := ⟨rfl, g, hx, hy, rfl⟩
theorem way_mono {gone' : List α} (h : ∀ x, x ∈ gone' → x ∈ gone) : ∀ {p : List (Stp α)} {x y : α}, Way rows gone x y p → Way rows gone' x y p
  | [], _, _, e => e
  | _ :: _, _, _, ⟨a, b, c, d, e⟩ => ⟨a, b, fun m => c (h _ m), fun m => d (h _ m), way_mono h e⟩
theorem way_step : ∀ {p : List (Stp α)} {x y : α}, Way rows gone x y p → ∀ s ∈ p, Go rows s.1 s.2.1 s.2.2 ∧ s.1 ∉ gone ∧ s.2.1 ∉ gone
  | [], _, _, _, s, h => nomatch h
  | t :: p, _, _, ⟨_, b, c, d, e⟩, s, h => (List.mem_cons.mp h).elim (fun q => q ▸ ⟨b, c, d⟩) fun m => way_step e s m
theorem way_off {gone' : List α} : ∀ {p : List (Stp α)} {x y : α}, Way rows gone x y p → (∀ s ∈ p, s.1 ∉ gone' ∧ s.2.1 ∉ gone') → Way rows gone' x y p
  | [], _, _, e, _ => e
  | s :: p, _, _, ⟨a, b, c, d, e⟩, h => ⟨a, b, (h s (List.mem_cons_self ..)).1, (h s (List.mem_cons_self ..)).2, way_off e fun t ht => h t (List.mem_cons_of_mem _ ht)⟩
theorem way_end {p : List (Stp α)} {s : Stp α} {x y : α} (h : Way rows gone x y (p ++ [s])) : Way rows gone x s.1 p ∧ s.2.1 = y := by
  obtain ⟨z, a, b⟩ := way_app.mp h
  obtain ⟨e1, _, _, _, e2⟩ := b
  exact ⟨e1 ▸ a, e2⟩
/-- each name of a ring is led to, and left -/
theorem ring_src {p : List (Stp α)} {x : α} (h : Way rows gone x x p) (s : Stp α) (hs : s ∈ p) : ∃ t ∈ p, t.2.1 = s.1 := by
  obtain ⟨a, b, rfl⟩ := List.append_of_mem hs
  rcases List.eq_nil_or_concat a with rfl | ⟨a, t, rfl⟩
  · rw [List.nil_append] at h ⊢
    have e : s.1 = x := h.1
    rcases List.eq_nil_or_concat b with rfl | ⟨b, t, rfl⟩
    · exact ⟨s, by simp, e ▸ h.2.2.2.2⟩
    · have h2 : Way rows gone x x ((s :: b) ++ [t]) := by simpa using h
      exact ⟨t, by simp, e ▸ (way_end h2).2⟩
  · obtain ⟨z, h1, h2⟩ := way_app.mp h
    have h1 : Way rows gone x z (a ++ [t]) := by simpa using h1
    exact ⟨t, by simp, (way_end h1).2.trans h2.1.symm⟩
theorem ring_tgt {p : List (Stp α)} {x : α} (h : Way rows gone x x p) (s : Stp α) (hs : s ∈ p) : ∃ t ∈ p, t.1 = s.2.1 := by
  obtain ⟨a, b, rfl⟩ := List.append_of_mem hs
  cases b with
  | nil =>
    have h2 := way_end h
    cases a with
    | nil => exact ⟨s, by simp, h.1.trans h2.2.symm⟩
    | cons t a => exact ⟨t, by simp, h.1.trans h2.2.symm⟩
  | cons t b =>
    obtain ⟨z, _, h2⟩ := way_app.mp h
    exact ⟨t, by simp, h2.2.2.2.2.1⟩
/-- a ring begun at one of its names -/
theorem ring_turn {p : List (Stp α)} {x : α} (h : Way rows gone x x p) {s : Stp α} (hs : s ∈ p) : ∃ q, q.length = p.length ∧ Way rows gone s.1 s.1 q := by
  obtain ⟨a, b, rfl⟩ := List.append_of_mem hs
  obtain ⟨z, h1, h2⟩ := way_app.mp h
  have e : s.1 = z := h2.1
  refine ⟨(s :: b) ++ a, by (simp; omega), way_app.mpr ⟨x, e ▸ h2, e ▸ h1⟩⟩
theorem go_ne {x y : α} {i : Nat} (g : Go rows x y i) : x ≠ y := fun e => by
  obtain ⟨r, _, _, _, l⟩ := g
  rw [e] at l
  exact Nat.lt_irrefl _ l
theorem ring_two {p : List (Stp α)} (h : Ring rows gone p) : 2 ≤ p.length := by
  obtain ⟨n, x, w⟩ := h
  match p, n, w with
  | [], n, _ => exact absurd rfl n
  | [s], _, ⟨a, b, _, _, e⟩ => exact absurd (a.trans (show s.2.1 = x from e).symm) (go_ne b)
  | _ :: _ :: _, _, _ => exact Nat.le_add_left ..
end
theorem nodup_le {β : Type} : ∀ {xs ys : List β}, xs.Nodup → (∀ x ∈ xs, x ∈ ys) → xs.length ≤ ys.length
  | [], _, _, _ => Nat.zero_le _
  | x :: xs, ys, nd, h => by
    have nd2 := List.nodup_cons.mp nd
    obtain ⟨a, b, e⟩ := List.append_of_mem (h x (List.mem_cons_self ..))
    have := nodup_le (xs := xs) (ys := a ++ b) nd2.2 fun y hy => by
      have hm := h y (List.mem_cons_of_mem _ hy)
      rw [e] at hm
      rcases List.mem_append.mp hm with z | z
      · exact List.mem_append_left _ z
      · rcases List.mem_cons.mp z with z | z
        · subst z
          exact absurd hy nd2.1
        · exact List.mem_append_right _ z
    rw [e, List.length_append, List.length_cons]
    rw [List.length_append] at this
    rw [List.length_cons]
    omega
theorem nodup_split {β γ : Type} (f : β → γ) : ∀ {l : List β}, (∀ p s q t w, l = p ++ s :: (q ++ t :: w) → f s ≠ f t) → (l.map f).Nodup
  | [], _ => List.nodup_nil
  | s :: l, h => by
    rw [List.map_cons, List.nodup_cons]
    refine ⟨fun m => ?_, nodup_split f fun p a q b w e => h (s :: p) a q b w (by rw [e]; rfl)⟩
    obtain ⟨t, ht, e⟩ := List.mem_map.mp m
    obtain ⟨q, w, rfl⟩ := List.append_of_mem ht
    exact h [] s q t w rfl e.symm
section
variable {rows : List (List α)} {gone : List α}
/-- a shortest ring uses each row once -/
theorem short_ring {p : List (Stp α)} (h : Ring rows gone p) (least : ∀ q, Ring rows gone q → p.length ≤ q.length) : p.length ≤ rows.length := by
  obtain ⟨ne, x, w⟩ := h
  have nd : (p.map fun s => s.2.2).Nodup := by
    refine nodup_split _ fun p1 s p2 t p3 e same => ?_
    subst e
    obtain ⟨z, w1, w2⟩ := way_app.mp w
    obtain ⟨e1, g1, n1, n2, w3⟩ := w2
    obtain ⟨z2, w4, w5⟩ := way_app.mp w3
    obtain ⟨e2, g2, n3, n4, w6⟩ := w5
    subst e1 e2
    obtain ⟨r, er, m1, m2, l1⟩ := g1
    obtain ⟨r2, er2, m3, m4, l2⟩ := g2
    have e3 : r = r2 := by
      have same : s.2.2 = t.2.2 := same
      rw [same, er2] at er
      exact (Option.some.inj er).symm
    subst e3
    by_cases c : r.idxOf s.1 < r.idxOf t.2.1
    · have := least (p1 ++ (s.1, t.2.1, s.2.2) :: p3) ⟨by simp, x, way_app.mpr ⟨_, w1, rfl, ⟨r, er, m1, m4, c⟩, n1, n4, w6⟩⟩
      simp at this
      omega
    · have := least (p2 ++ [(t.1, s.2.1, s.2.2)]) ⟨by simp, s.2.1, way_app.mpr ⟨_, w4, rfl, ⟨r, er, m3, m2, by show r.idxOf t.1 < r.idxOf s.2.1; omega⟩, n3, n2, rfl⟩⟩
      simp at this
      omega
  have := nodup_le nd (ys := List.range rows.length) fun i hi => by
    obtain ⟨s, hs, rfl⟩ := List.mem_map.mp hi
    obtain ⟨⟨r, er, _⟩, _⟩ := way_step w s hs
    exact List.mem_range.mpr (List.getElem?_eq_some_iff.mp er).1
  simpa using this
theorem sub_ord {x y : α} : ∀ {r : List α}, r.Nodup → [x, y].Sublist r → r.idxOf x < r.idxOf y
  | [], _, h => by cases h
  | z :: r, nd, h => by
    obtain ⟨nz, nr⟩ := List.nodup_cons.mp nd
    cases h with
    | cons _ h =>
      have hx : x ∈ r := h.subset (by simp)
      have hy : y ∈ r := h.subset (by simp)
      have a : ¬ z = x := fun e => nz (e ▸ hx)
      have b : ¬ z = y := fun e => nz (e ▸ hy)
      have := sub_ord nr h
      rw [List.idxOf_cons, List.idxOf_cons, beq_false_of_ne a, beq_false_of_ne b]
      simpa using this
    | cons_cons _ h =>
      have hy : y ∈ r := h.subset (by simp)
      have b : ¬ x = y := fun e => nz (e ▸ hy)
      rw [List.idxOf_cons, List.idxOf_cons, beq_self_eq_true, beq_false_of_ne b]
      simp
theorem tail_go {i : Nat} {r : List α} {y : α} (er : rows[i]? = some r) (nd : r.Nodup) (m : y ∈ (r.filter fun x => decide (x ∉ gone)).tail) : ∃ x, Go rows x y i ∧ x ∉ gone := by
  cases e : r.filter fun x => decide (x ∉ gone) with
  | nil =>
    rw [e] at m
    cases m
  | cons x t =>
    rw [e] at m
    have m : y ∈ t := m
    have sb : (x :: t).Sublist r := e ▸ List.filter_sublist
    have hx : x ∈ r.filter fun x => decide (x ∉ gone) := e ▸ List.mem_cons_self ..
    obtain ⟨mx, gx⟩ := List.mem_filter.mp hx
    refine ⟨x, ⟨r, er, mx, sb.subset (List.mem_cons_of_mem _ m), sub_ord nd (List.Sublist.trans ?_ sb)⟩, of_decide_eq_true gx⟩
    exact (List.singleton_sublist.mpr m).cons₂ x
theorem go_tail {i : Nat} {r : List α} {x y : α} (nd : r.Nodup) (mx : x ∈ r) (my : y ∈ r) (l : r.idxOf x < r.idxOf y) (gx : x ∉ gone) (gy : y ∉ gone) : y ∈ (r.filter fun x => decide (x ∉ gone)).tail := by
  have hx : x ∈ r.filter fun x => decide (x ∉ gone) := List.mem_filter.mpr ⟨mx, decide_eq_true gx⟩
  have hy : y ∈ r.filter fun x => decide (x ∉ gone) := List.mem_filter.mpr ⟨my, decide_eq_true gy⟩
  cases e : r.filter fun x => decide (x ∉ gone) with
  | nil =>
    rw [e] at hy
    cases hy
  | cons z t =>
    rw [e] at hx hy
    refine (List.mem_cons.mp hy).resolve_left fun ez => ?_
    have mt : x ∈ t := (List.mem_cons.mp hx).resolve_left fun e2 => by rw [e2, ez] at l; exact Nat.lt_irrefl _ l
    have sb : (z :: t).Sublist r := e ▸ List.filter_sublist
    have := sub_ord nd (((List.singleton_sublist.mpr mt).cons₂ z).trans sb)
    rw [ez] at l
    omega
/-- where no name can be taken and some are left, there is a ring -/
theorem stuck_ring (nd : ∀ r ∈ rows, r.Nodup) (pn : pick (alive gone rows) = none) (some_ : ∃ y ∈ rows.flatten, y ∉ gone) : ∃ p, Ring rows gone p := by
  have pred : ∀ y, y ∈ rows.flatten → y ∉ gone → ∃ x i, Go rows x y i ∧ x ∉ gone := fun y my gy => by
    obtain ⟨r, hr, hy⟩ := List.mem_flatten.mp my
    obtain ⟨i, er⟩ := List.getElem?_of_mem hr
    have fy : y ∈ r.filter fun x => decide (x ∉ gone) := List.mem_filter.mpr ⟨hy, decide_eq_true gy⟩
    cases e : r.filter fun x => decide (x ∉ gone) with
    | nil => rw [e] at fy; cases fy
    | cons z t =>
      rw [e] at fy
      rcases List.mem_cons.mp fy with rfl | m
      · have ng := none_heads pn (List.mem_map.mpr ⟨r, hr, rfl⟩) (y := y) (by rw [e]; rfl)
        have : ∃ r' ∈ alive gone rows, y ∈ r'.tail := Classical.byContradiction fun no => by
          have : good (alive gone rows) y = true := good_not.mpr fun r' hr' hy' => no ⟨r', hr', hy'⟩
          rw [ng] at this
          cases this
        obtain ⟨r', hr', m⟩ := this
        obtain ⟨r2, hr2, rfl⟩ := List.mem_map.mp hr'
        obtain ⟨j, ej⟩ := List.getElem?_of_mem hr2
        obtain ⟨x, g, gx⟩ := tail_go ej (nd r2 hr2) m
        exact ⟨x, j, g, gx⟩
      · obtain ⟨x, g, gx⟩ := tail_go (gone := gone) er (nd r hr) (y := y) (by rw [e]; exact m)
        exact ⟨x, i, g, gx⟩
  obtain ⟨y, my, gy⟩ := some_
  have far : ∀ n, ∃ x p, x ∈ rows.flatten ∧ x ∉ gone ∧ Way rows gone x y p ∧ p.length = n := fun n => by
    induction n with
    | zero => exact ⟨y, [], my, gy, rfl, rfl⟩
    | succ n ih =>
      obtain ⟨x, p, mx, gx, w, l⟩ := ih
      obtain ⟨z, i, g, gz⟩ := pred x mx gx
      obtain ⟨r, er, mz, _⟩ := id g
      exact ⟨z, (z, x, i) :: p, List.mem_flatten.mpr ⟨r, List.mem_of_getElem? er, mz⟩, gz, ⟨rfl, g, gz, gx, w⟩, by rw [List.length_cons, l]⟩
  obtain ⟨x, p, _, _, w, l⟩ := far (rows.flatten.length + 1)
  refine Classical.byContradiction fun no => ?_
  have ndp : (p.map fun s => s.1).Nodup := by
    refine nodup_split _ fun p1 s p2 t p3 e same => no ?_
    subst e
    obtain ⟨z, w1, w2⟩ := way_app.mp w
    have w2 : Way rows gone z y ((s :: p2) ++ t :: p3) := w2
    obtain ⟨z2, w4, w5⟩ := way_app.mp w2
    have e1 : s.1 = z := w4.1
    have e2 : t.1 = z2 := w5.1
    have same : s.1 = t.1 := same
    refine ⟨s :: p2, by simp, z, ?_⟩
    have : z2 = z := by rw [← e1, ← e2, same]
    exact this ▸ w4
  have := nodup_le ndp (ys := rows.flatten) fun i hi => by
    obtain ⟨s, hs, rfl⟩ := List.mem_map.mp hi
    obtain ⟨⟨r, er, m, _⟩, _⟩ := way_step w s hs
    exact List.mem_flatten.mpr ⟨r, List.mem_of_getElem? er, m⟩
  rw [List.length_map, l] at this
  omega
/-- what is taken stands in no ring -/
theorem pick_ring (nd : ∀ r ∈ rows, r.Nodup) {x : α} (pk : pick (alive gone rows) = some x) {p : List (Stp α)} (h : Ring rows gone p) : Ring rows (gone ++ [x]) p := by
  obtain ⟨ne, z, w⟩ := h
  have tgt : ∀ s ∈ p, s.2.1 ≠ x := fun s hs e => by
    obtain ⟨⟨r, er, m1, m2, l⟩, g1, g2⟩ := way_step w s hs
    have hr := List.mem_of_getElem? er
    rw [e] at m2 l g2
    exact pick_good pk _ (List.mem_map.mpr ⟨r, hr, rfl⟩) (go_tail (i := 0) (nd r hr) m1 m2 l g1 g2)
  refine ⟨ne, z, way_off w fun s hs => ?_⟩
  obtain ⟨_, g1, g2⟩ := way_step w s hs
  obtain ⟨t, ht, e⟩ := ring_src w s hs
  refine ⟨fun m => ?_, fun m => ?_⟩
  · rcases List.mem_append.mp m with m | m
    · exact g1 m
    · exact tgt t ht (e.trans (List.mem_singleton.mp m))
  · rcases List.mem_append.mp m with m | m
    · exact g2 m
    · exact tgt s hs (List.mem_singleton.mp m)
theorem draw_ring (nd : ∀ r ∈ rows, r.Nodup) {p : List (Stp α)} (h : Ring rows gone p) : Ring rows (gone ++ drawn (alive gone rows)) p := by
  have main : ∀ R : List (List α), ∀ gone, R = alive gone rows → Ring rows gone p → Ring rows (gone ++ drawn R) p := by
    refine draw_ind (fun R e gone eR h => ?_) fun R x e ih gone eR h => ?_
    · rw [drawn_none e, List.append_nil]
      exact h
    · rw [drawn_some e]
      have h2 := ih (gone ++ [x]) (by rw [eR, without_alive]) (pick_ring nd (eR ▸ e) h)
      rwa [List.append_assoc] at h2
  exact main _ gone rfl h
/-- where all is drawn there is no ring -/
theorem cov_ring (nd : ∀ r ∈ rows, r.Nodup) (c : Cov rows) {p : List (Stp α)} : ¬ Ring rows [] p := fun h => by
  have h2 := draw_ring nd h
  rw [alive_nil, List.nil_append] at h2
  obtain ⟨ne, z, w⟩ := h2
  cases p with
  | nil => exact ne rfl
  | cons s p =>
    obtain ⟨⟨r, er, m1, _⟩, g1, _⟩ := way_step w s (List.mem_cons_self ..)
    exact g1 (c _ (List.mem_flatten.mpr ⟨r, List.mem_of_getElem? er, m1⟩))
end
end Nb.Mg

set_option linter.all false
set_option maxRecDepth 100000
/-! The shortest ring through a name, level by level, and the shortest of all. No Python here. -/
namespace Nb.Mg
variable {α : Type} [DecidableEq α]
/-- reached in so many steps -/
def Far (rows : List (List α)) (gone : List α) (s : α) (n : Nat) (x : α) : Prop := ∃ p, Way rows gone s x p ∧ p.length = n
abbrev Kn (α : Type) := List (α × Option (α × Nat))
def kns (st : Kn α) : List α := st.map fun e => e.1
inductive Back (st : Kn α) : α → List (Stp α) → Prop
  | nil {x} : (x, none) ∈ st → Back st x []
  | snoc {x y i p} : (x, some (y, i)) ∈ st → Back st y p → Back st x (p ++ [(y, x, i)])
theorem back_mono {st st' : Kn α} (h : ∀ e ∈ st, e ∈ st') {x : α} {p : List (Stp α)} (b : Back st x p) : Back st' x p := by
  induction b with
  | nil m => exact .nil (h _ m)
  | snoc m _ ih => exact .snoc (h _ m) ih
/-- the search, when the names at a distance are known -/
structure Bfs (rows : List (List α)) (gone : List α) (s : α) (st : Kn α) (lv : List α) (d : Nat) : Prop where
  nd : (kns st).Nodup
  mem : ∀ x, x ∈ kns st ↔ ∃ n, n ≤ d ∧ Far rows gone s n x
  lev : ∀ x, x ∈ lv ↔ Far rows gone s d x ∧ ∀ n, n < d → ¬ Far rows gone s n x
  back : ∀ x ∈ kns st, ∃ p, Back st x p ∧ Way rows gone s x p ∧ ∀ n, Far rows gone s n x → p.length ≤ n
  few : ∀ n, n < d → ∀ x i, Far rows gone s n x → Go rows x s i → x ∉ gone → False
/-- from which place on all that is alive of a row is known -/
structure Ends (rows : List (List α)) (gone : List α) (es : List Nat) (K : List α) : Prop where
  len : es.length = rows.length
  le : ∀ (i : Nat) (r : List α) (e : Nat), rows[i]? = some r → es[i]? = some e → e ≤ r.length
  past : ∀ (i : Nat) (r : List α) (e : Nat), rows[i]? = some r → es[i]? = some e → ∀ j y, e ≤ j → r[j]? = some y → y ∉ gone → y ∈ K
abbrev Nw (α : Type) := List (α × α × Nat)
def ext (st : Kn α) (new : Nw α) : Kn α := st ++ new.map fun t => (t.1, some (t.2.1, t.2.2))
theorem kns_ext (st : Kn α) (new : Nw α) : kns (ext st new) = kns st ++ new.map fun t => t.1 := by
  unfold kns ext
  rw [List.map_append, List.map_map]
  rfl
structure Mid (rows : List (List α)) (gone : List α) (st : Kn α) (lv : List α) (new : Nw α) : Prop where
  nd : (kns (ext st new)).Nodup
  src : ∀ t ∈ new, t.2.1 ∈ lv ∧ Go rows t.2.1 t.1 t.2.2 ∧ t.1 ∉ gone
section
variable {rows : List (List α)} {gone : List α} {s : α} {st : Kn α} {lv : List α} {d : Nat} {new : Nw α}
theorem far_zero {x : α} : Far rows gone s 0 x ↔ x = s := ⟨fun ⟨p, w, l⟩ => by
  match p, w, l with
  | [], w, _ => exact (show s = x from w).symm, fun e => ⟨[], e.symm, rfl⟩⟩
theorem far_succ {x : α} {n : Nat} : Far rows gone s (n + 1) x ↔ ∃ z i, Far rows gone s n z ∧ Go rows z x i ∧ z ∉ gone ∧ x ∉ gone := by
  constructor
  · rintro ⟨p, w, l⟩
    rcases List.eq_nil_or_concat p with rfl | ⟨p, t, rfl⟩
    · cases l
    · rw [List.concat_eq_append] at w l
      obtain ⟨w1, e⟩ := way_end w
      obtain ⟨g, g1, g2⟩ := way_step w t (by simp)
      subst e
      rw [List.length_append, List.length_singleton] at l
      exact ⟨t.1, t.2.2, ⟨p, w1, by omega⟩, g, g1, g2⟩
  · rintro ⟨z, i, ⟨p, w, l⟩, g, g1, g2⟩
    exact ⟨p ++ [(z, x, i)], way_app.mpr ⟨z, w, way_one g g1 g2⟩, by rw [List.length_append, l]; rfl⟩
theorem far_alive (hs : s ∉ gone) {x : α} {n : Nat} (h : Far rows gone s n x) : x ∉ gone := by
  cases n with
  | zero => rw [far_zero.mp h]; exact hs
  | succ n => obtain ⟨_, _, _, _, _, g⟩ := far_succ.mp h; exact g
theorem far_in (ms : s ∈ rows.flatten) {x : α} {n : Nat} (h : Far rows gone s n x) : x ∈ rows.flatten := by
  cases n with
  | zero => rw [far_zero.mp h]; exact ms
  | succ n => obtain ⟨_, _, _, ⟨r, er, _, m, _⟩, _⟩ := far_succ.mp h; exact List.mem_flatten.mpr ⟨r, List.mem_of_getElem? er, m⟩
theorem bfs_begin : Bfs rows gone s [(s, none)] [s] 0 := by
  refine ⟨by simp [kns], fun x => ?_, fun x => ?_, fun x hx => ?_, fun n h => absurd h (Nat.not_lt_zero n)⟩
  · show x ∈ [s] ↔ _
    rw [List.mem_singleton]
    exact ⟨fun e => ⟨0, Nat.le_refl _, far_zero.mpr e⟩, fun ⟨n, l, f⟩ => by
      have : n = 0 := by omega
      rw [this] at f
      exact far_zero.mp f⟩
  · rw [List.mem_singleton, far_zero]
    exact ⟨fun e => ⟨e, fun n h => absurd h (Nat.not_lt_zero n)⟩, fun h => h.1⟩
  · have e : x = s := by simpa [kns] using hx
    subst e
    exact ⟨[], .nil (List.mem_singleton.mpr rfl), rfl, fun n _ => Nat.zero_le n⟩
theorem ends_begin : Ends rows gone (rows.map List.length) [s] := by
  have at_ : ∀ {i : Nat} {r : List α} {e : Nat}, rows[i]? = some r → (rows.map List.length)[i]? = some e → e = r.length := fun {i r e} e1 e2 => by
    rw [List.getElem?_map, e1] at e2
    exact (Option.some.inj e2).symm
  refine ⟨by simp, fun i r e e1 e2 => by rw [at_ e1 e2]; exact Nat.le_refl _, fun i r e e1 e2 j y l ey => ?_⟩
  have := (List.getElem?_eq_some_iff.mp ey).1
  rw [at_ e1 e2] at l
  omega
theorem mid_begin (h : (kns st).Nodup) : Mid rows gone st lv [] := ⟨by rw [kns_ext]; simpa using h, fun _ h => nomatch h⟩
theorem Mid.add (M : Mid rows gone st lv new) {x : α} (hx : x ∈ lv) {i : Nat} {r : List α} (er : rows[i]? = some r) (nr : r.Nodup) (mx : x ∈ r) (e : Nat) {fnd : List α}
    (ef : fnd = ((r.take e).drop (r.idxOf x + 1)).filter fun y => decide (y ∉ kns (ext st new)) && decide (y ∉ gone)) :
    Mid rows gone st lv (new ++ fnd.map fun y => (y, x, i)) := by
  have sub : fnd.Sublist r := ef ▸ (List.filter_sublist.trans ((List.drop_sublist _ _).trans (List.take_sublist _ _)))
  refine ⟨?_, fun t ht => ?_⟩
  · rw [kns_ext, List.map_append, ← List.append_assoc, ← kns_ext]
    have e2 : (fnd.map fun y => (y, x, i)).map (fun t => t.1) = fnd := by rw [List.map_map]; exact List.map_id _
    rw [e2]
    refine List.nodup_append.mpr ⟨M.nd, nr.sublist sub, fun a ha b hb e => ?_⟩
    subst e
    rw [ef] at hb
    have := (List.mem_filter.mp hb).2
    rw [Bool.and_eq_true, decide_eq_true_eq] at this
    exact this.1 ha
  · rcases List.mem_append.mp ht with h | h
    · exact M.src t h
    · obtain ⟨y, hy, rfl⟩ := List.mem_map.mp h
      have hy2 := hy
      rw [ef] at hy2
      obtain ⟨h1, h2⟩ := List.mem_filter.mp hy2
      rw [Bool.and_eq_true, decide_eq_true_eq, decide_eq_true_eq] at h2
      refine ⟨hx, ⟨r, er, mx, sub.subset hy, ?_⟩, h2.2⟩
      obtain ⟨j, hj⟩ := List.getElem?_of_mem h1
      rw [List.getElem?_drop, List.getElem?_take] at hj
      split at hj
      · show r.idxOf x < r.idxOf y
        rw [idx_of nr hj]
        omega
      · cases hj
theorem Ends.add {es : List Nat} {K : List α} (E : Ends rows gone es K) {x : α} {i : Nat} {r : List α} (er : rows[i]? = some r) {e : Nat} (ee : es[i]? = some e) {fnd : List α}
    (ef : fnd = ((r.take e).drop (r.idxOf x + 1)).filter fun y => decide (y ∉ K) && decide (y ∉ gone)) : Ends rows gone (es.set i (min e (r.idxOf x + 1))) (K ++ fnd) := by
  have lt : i < es.length := (List.getElem?_eq_some_iff.mp ee).1
  refine ⟨by rw [List.length_set]; exact E.len, fun k q e' e1 e2 => ?_, fun k q e' e1 e2 j y l ey gy => ?_⟩
  · by_cases c : k = i
    · subst c
      rw [List.getElem?_set_self lt] at e2
      cases e2
      rw [er] at e1
      cases e1
      have := E.le _ _ _ er ee
      omega
    · rw [List.getElem?_set_ne (Ne.symm c)] at e2
      exact E.le _ _ _ e1 e2
  · by_cases c : k = i
    · subst c
      rw [List.getElem?_set_self lt] at e2
      cases e2
      rw [er] at e1
      cases e1
      by_cases q : y ∈ K
      · exact List.mem_append_left _ q
      · by_cases z : e ≤ j
        · exact absurd (E.past _ _ _ er ee j y z ey gy) q
        · refine List.mem_append_right _ ?_
          rw [ef]
          refine List.mem_filter.mpr ⟨List.mem_of_getElem? (i := j - (r.idxOf x + 1)) ?_, by simp [q, gy]⟩
          rw [List.getElem?_drop, List.getElem?_take, if_pos (by omega), show r.idxOf x + 1 + (j - (r.idxOf x + 1)) = j by omega]
          exact ey
    · rw [List.getElem?_set_ne (Ne.symm c)] at e2
      exact List.mem_append_left _ (E.past _ _ _ e1 e2 j y l ey gy)
/-- behind it, all that a name leads to in its row is known -/
theorem Ends.known {es : List Nat} {K : List α} {x : α} {i e : Nat} {r : List α} (E : Ends rows gone es K) (er : rows[i]? = some r) (ee : es[i]? = some e) (l : e ≤ r.idxOf x + 1) : ∀ y, Go rows x y i → y ∉ gone → y ∈ K := fun y ⟨q, eq, mx, my, lt⟩ gy => by
  rw [er] at eq
  cases eq
  exact E.past _ _ _ er ee _ y (by omega) (at_idx my) gy
theorem Bfs.next (B : Bfs rows gone s st lv d) (M : Mid rows gone st lv new) (hs : s ∉ gone) (done : ∀ x ∈ lv, ∀ y i, Go rows x y i → y ∉ gone → y ∈ kns (ext st new))
    (no : ∀ x ∈ lv, ∀ i, ¬ Go rows x s i) : Bfs rows gone s (ext st new) (new.map fun t => t.1) (d + 1) := by
  have out : ∀ y ∈ new.map (fun t => t.1), y ∉ kns st := fun y hy h => by
    have := M.nd
    rw [kns_ext] at this
    exact (List.nodup_append.mp this).2.2 y h y hy rfl
  have far : ∀ y ∈ new.map (fun t => t.1), Far rows gone s (d + 1) y := fun y hy => by
    obtain ⟨t, ht, rfl⟩ := List.mem_map.mp hy
    obtain ⟨h1, h2, h3⟩ := M.src t ht
    have f := ((B.lev _).mp h1).1
    exact far_succ.mpr ⟨_, _, f, h2, far_alive hs f, h3⟩
  have mem : ∀ x, x ∈ kns (ext st new) ↔ ∃ n, n ≤ d + 1 ∧ Far rows gone s n x := fun x => by
    constructor
    · intro h
      rw [kns_ext] at h
      rcases List.mem_append.mp h with h | h
      · obtain ⟨n, l, f⟩ := (B.mem x).mp h
        exact ⟨n, by omega, f⟩
      · exact ⟨d + 1, Nat.le_refl _, far x h⟩
    · rintro ⟨n, l, f⟩
      have old : ∀ n, n ≤ d → Far rows gone s n x → x ∈ kns (ext st new) := fun n l f => by
        rw [kns_ext]
        exact List.mem_append_left _ ((B.mem x).mpr ⟨n, l, f⟩)
      by_cases c : n ≤ d
      · exact old n c f
      · have : n = d + 1 := by omega
        subst this
        obtain ⟨z, i, fz, g, gz, gx⟩ := far_succ.mp f
        by_cases q : ∃ m, m < d ∧ Far rows gone s m z
        · obtain ⟨m, lm, fm⟩ := q
          exact old (m + 1) (by omega) (far_succ.mpr ⟨z, i, fm, g, gz, gx⟩)
        · exact done z ((B.lev z).mpr ⟨fz, fun m lm fm => q ⟨m, lm, fm⟩⟩) x i g gx
  refine ⟨M.nd, mem, fun x => ?_, fun x hx => ?_, fun n l x i f g gx => ?_⟩
  · constructor
    · intro h
      exact ⟨far x h, fun n l f => out x h ((B.mem x).mpr ⟨n, by omega, f⟩)⟩
    · rintro ⟨f, c⟩
      have := (mem x).mpr ⟨d + 1, Nat.le_refl _, f⟩
      rw [kns_ext] at this
      refine (List.mem_append.mp this).resolve_left fun h => ?_
      obtain ⟨n, l, f⟩ := (B.mem x).mp h
      exact c n (by omega) f
  · rw [kns_ext] at hx
    rcases List.mem_append.mp hx with h | h
    · obtain ⟨p, b, w, m⟩ := B.back x h
      exact ⟨p, back_mono (fun e he => List.mem_append_left _ he) b, w, m⟩
    · have nk := out x h
      obtain ⟨t, ht, rfl⟩ := List.mem_map.mp h
      obtain ⟨h1, h2, h3⟩ := M.src t ht
      have f := (B.lev _).mp h1
      obtain ⟨p, b, w, m⟩ := B.back t.2.1 ((B.mem _).mpr ⟨d, Nat.le_refl _, f.1⟩)
      refine ⟨p ++ [(t.2.1, t.1, t.2.2)], .snoc ?_ (back_mono (fun e he => List.mem_append_left _ he) b), way_app.mpr ⟨_, w, way_one h2 (far_alive hs f.1) h3⟩, fun n fn => ?_⟩
      · exact List.mem_append_right _ (List.mem_map.mpr ⟨t, ht, rfl⟩)
      · have l1 := m d f.1
        have : d < n := Nat.lt_of_not_le fun l => nk ((B.mem _).mpr ⟨n, l, fn⟩)
        rw [List.length_append, List.length_singleton]
        omega
  · by_cases c : n < d
    · exact B.few n c x i f g gx
    · have : n = d := by omega
      subst this
      by_cases q : ∃ m, m < n ∧ Far rows gone s m x
      · obtain ⟨m, lm, fm⟩ := q
        exact B.few m lm x i fm g gx
      · exact no x ((B.lev x).mpr ⟨f, fun m lm fm => q ⟨m, lm, fm⟩⟩) i g
/-- what a search for a ring through a name gives: no step, or a shortest ring -/
def RingRes (rows : List (List α)) (gone : List α) (s : α) (L : Nat) (p : List (Stp α)) : Prop :=
  (p = [] ∧ ∀ q, q ≠ [] → Way rows gone s s q → L < q.length) ∨ (p ≠ [] ∧ Way rows gone s s p ∧ p.length ≤ L ∧ ∀ q, q ≠ [] → Way rows gone s s q → p.length ≤ q.length)
theorem Bfs.least (B : Bfs rows gone s st lv d) {q : List (Stp α)} (ne : q ≠ []) (w : Way rows gone s s q) : d < q.length := by
  rcases List.eq_nil_or_concat q with rfl | ⟨q, t, rfl⟩
  · exact absurd rfl ne
  · rw [List.concat_eq_append] at w ⊢
    obtain ⟨w1, e⟩ := way_end w
    obtain ⟨g, g1, g2⟩ := way_step w t (by simp)
    rw [List.length_append, List.length_singleton]
    refine Nat.lt_of_not_le fun l => B.few q.length (by omega) t.1 t.2.2 ⟨q, w1, rfl⟩ (e ▸ g) g1
theorem Bfs.least2 (B : Bfs rows gone s st lv d) (no : ∀ z ∈ lv, ∀ i, ¬ Go rows z s i) {q : List (Stp α)} (ne : q ≠ []) (w : Way rows gone s s q) : d + 1 < q.length := by
  have l := B.least ne w
  rcases List.eq_nil_or_concat q with rfl | ⟨q, t, rfl⟩
  · exact absurd rfl ne
  · rw [List.concat_eq_append] at w l ⊢
    obtain ⟨w1, e⟩ := way_end w
    obtain ⟨g, g1, g2⟩ := way_step w t (by simp)
    rw [List.length_append, List.length_singleton] at l ⊢
    refine Nat.lt_of_le_of_ne (by omega) fun e2 => ?_
    have e3 : q.length = d := by omega
    have f : Far rows gone s d t.1 := ⟨q, w1, e3⟩
    by_cases c : ∃ m, m < d ∧ Far rows gone s m t.1
    · obtain ⟨m, lm, fm⟩ := c
      exact B.few m lm t.1 t.2.2 fm (e ▸ g) g1
    · exact no t.1 ((B.lev _).mpr ⟨f, fun m lm fm => c ⟨m, lm, fm⟩⟩) t.2.2 (e ▸ g)
theorem Bfs.empty (B : Bfs rows gone s st [] d) {q : List (Stp α)} (ne : q ≠ []) : ¬ Way rows gone s s q := fun w => by
  have ld := B.least ne w
  rcases List.eq_nil_or_concat q with rfl | ⟨q, t, rfl⟩
  · exact absurd rfl ne
  rw [List.concat_eq_append] at w ld
  obtain ⟨w1, e⟩ := way_end w
  obtain ⟨g, g1, g2⟩ := way_step w t (by simp)
  -- the least distance of its last name
  have least : ∀ n, Far rows gone s n t.1 → ∃ m, Far rows gone s m t.1 ∧ ∀ k, k < m → ¬ Far rows gone s k t.1 := by
    intro n
    induction n using Nat.strongRecOn with
    | ind n ih =>
      intro f
      by_cases q : ∃ m, m < n ∧ Far rows gone s m t.1
      · obtain ⟨m, l, f⟩ := q
        exact ih m l f
      · exact ⟨n, f, fun k l f => q ⟨k, l, f⟩⟩
  obtain ⟨m, ⟨p, wp, lp⟩, c⟩ := least _ ⟨q, w1, rfl⟩
  have dm : d ≤ m := Nat.le_of_not_lt fun l => B.few m l t.1 t.2.2 ⟨p, wp, lp⟩ (e ▸ g) g1
  have sp := List.take_append_drop d p
  rw [← sp] at wp
  obtain ⟨z, wa, wb⟩ := way_app.mp wp
  have la : (p.take d).length = d := by rw [List.length_take]; omega
  have lb : (p.drop d).length = m - d := by rw [List.length_drop]; omega
  have : z ∈ ([] : List α) := (B.lev z).mpr ⟨⟨_, wa, la⟩, fun n l ⟨p2, w2, l2⟩ => c (n + (m - d)) (by omega) ⟨p2 ++ p.drop d, way_app.mpr ⟨z, w2, wb⟩, by rw [List.length_append, l2, lb]⟩⟩
  cases this
theorem Bfs.met (B : Bfs rows gone s st lv d) (hs : s ∉ gone) {x : α} (hx : x ∈ lv) {i : Nat} (g : Go rows x s i) : ∃ p, Back st x p ∧ ∀ L, d < L → RingRes rows gone s L (p ++ [(x, s, i)]) := by
  have f := (B.lev x).mp hx
  obtain ⟨p, b, w, m⟩ := B.back x ((B.mem x).mpr ⟨d, Nat.le_refl _, f.1⟩)
  have l := m d f.1
  refine ⟨p, b, fun L hL => .inr ⟨by simp, way_app.mpr ⟨x, w, way_one g (far_alive hs f.1) hs⟩, ?_, fun q ne wq => ?_⟩⟩
  · rw [List.length_append, List.length_singleton]
    omega
  · have := B.least ne wq
    rw [List.length_append, List.length_singleton]
    omega
/-! ### the shortest of all -/
/-- what is known when some names are done with -/
structure Few (rows : List (List α)) (gone : List α) (p : List (Stp α)) (L : Nat) : Prop where
  ok : p ≠ [] → Ring rows [] p
  lim : L = if p = [] then rows.length else p.length - 1
  cov : ∀ q, Ring rows [] q → q.length ≤ rows.length → Ring rows gone q ∨ (p ≠ [] ∧ p.length ≤ q.length)
theorem few_begin (nd : ∀ r ∈ rows, r.Nodup) : Few rows (drawn rows) [] rows.length := ⟨fun h => absurd rfl h, by rw [if_pos rfl], fun q h _ => .inl (by
  have := draw_ring nd h
  rwa [alive_nil, List.nil_append] at this)⟩
theorem Few.step {p r : List (Stp α)} {L : Nat} (F : Few rows gone p L) (nd : ∀ r ∈ rows, r.Nodup) (res : RingRes rows gone s L r) :
    Few rows ((gone ++ [s]) ++ drawn (alive (gone ++ [s]) rows)) (if r = [] then p else r) (if r = [] then L else r.length - 1) := by
  have on : ∀ q, Ring rows gone q → Ring rows ((gone ++ [s]) ++ drawn (alive (gone ++ [s]) rows)) q ∨ ∃ q', q'.length = q.length ∧ q' ≠ [] ∧ Way rows gone s s q' := fun q ⟨ne, x, w⟩ => by
    by_cases c : ∃ t ∈ q, t.1 = s
    · obtain ⟨t, ht, e⟩ := c
      obtain ⟨q', l, w'⟩ := ring_turn w ht
      exact .inr ⟨q', l, fun z => ne (List.length_eq_zero_iff.mp (by rw [← l, z]; rfl)), e ▸ w'⟩
    · refine .inl (draw_ring nd ⟨ne, x, way_off w fun t ht => ?_⟩)
      obtain ⟨_, g1, g2⟩ := way_step w t ht
      obtain ⟨u, hu, eu⟩ := ring_tgt w t ht
      refine ⟨fun m => ?_, fun m => ?_⟩
      · rcases List.mem_append.mp m with m | m
        · exact g1 m
        · exact c ⟨t, ht, List.mem_singleton.mp m⟩
      · rcases List.mem_append.mp m with m | m
        · exact g2 m
        · exact c ⟨u, hu, eu.trans (List.mem_singleton.mp m)⟩
  rcases res with ⟨rfl, none_⟩ | ⟨ner, wr, lr, least⟩
  · rw [if_pos rfl, if_pos rfl]
    refine ⟨F.ok, F.lim, fun q hq lq => ?_⟩
    rcases F.cov q hq lq with h | h
    · rcases on q h with h | ⟨q', l, ne, w⟩
      · exact .inl h
      · have := none_ q' ne w
        have lim := F.lim
        by_cases c : p = []
        · rw [if_pos c] at lim
          omega
        · rw [if_neg c] at lim
          exact .inr ⟨c, by omega⟩
    · exact .inr h
  · rw [if_neg ner, if_neg ner]
    refine ⟨fun _ => ⟨ner, s, way_mono (fun y hy => absurd hy (List.not_mem_nil)) wr⟩, by rw [if_neg ner], fun q hq lq => ?_⟩
    rcases F.cov q hq lq with h | ⟨c, h⟩
    · rcases on q h with h | ⟨q', l, ne, w⟩
      · exact .inl h
      · have := least q' ne w
        exact .inr ⟨ner, by omega⟩
    · have lim := F.lim
      rw [if_neg c] at lim
      exact .inr ⟨ner, by omega⟩
/-- a ring of the least length -/
def Least (rows : List (List α)) (p : List (Stp α)) : Prop := Ring rows [] p ∧ ∀ q, Ring rows [] q → p.length ≤ q.length
theorem least_of (h : ∃ q, Ring rows [] q) : ∃ q, Least rows q := by
  obtain ⟨q, hq⟩ := h
  have main : ∀ n q, Ring rows [] q → q.length = n → ∃ q, Least rows q := by
    intro n
    induction n using Nat.strongRecOn with
    | ind n ih =>
      intro q hq l
      by_cases c : ∃ q', Ring rows [] q' ∧ q'.length < n
      · obtain ⟨q', h', l'⟩ := c
        exact ih _ l' q' h' rfl
      · exact ⟨q, hq, fun q' h' => Nat.le_of_not_lt fun l' => c ⟨q', h', l ▸ l'⟩⟩
  exact main _ q hq rfl
theorem Few.done {p : List (Stp α)} {L : Nat} (F : Few rows gone p L) (ex : ∃ q, Ring rows [] q) (h : L < 2 ∨ ∀ x ∈ rows.flatten, x ∈ gone) : Least rows p := by
  obtain ⟨q, hq, lq⟩ := least_of ex
  have few := short_ring hq lq
  have two := ring_two hq
  have key : p ≠ [] ∧ p.length ≤ q.length := by
    rcases F.cov q hq few with ⟨ne, x, w⟩ | k
    · rcases h with h | h
      · have lim := F.lim
        by_cases c : p = []
        · rw [if_pos c] at lim
          omega
        · rw [if_neg c] at lim
          exact ⟨c, by omega⟩
      · cases q with
        | nil => exact absurd rfl ne
        | cons t q =>
          obtain ⟨⟨r, er, m, _⟩, g, _⟩ := way_step w t (List.mem_cons_self ..)
          exact absurd (h _ (List.mem_flatten.mpr ⟨r, List.mem_of_getElem? er, m⟩)) g
    · exact k
  exact ⟨F.ok key.1, fun q' h' => Nat.le_trans key.2 (lq q' h')⟩
end
end Nb.Mg

set_option Elab.async false
set_option linter.all false
set_option maxRecDepth 100000
set_option maxHeartbeats 4000000
namespace K08
open PySem Nb
open L2 hiding del del_ne del_same
def topS (i : Nat) : Stmt := PySem.Challenge.pw_nextbehind_k08_merging_errors.main.body.getD i (.Pass ⟨0, 0, 0, 0⟩)
def clsAt (s : Stmt) (j : Nat) : Stmt := match s with
  | .ClassDef _ _ _ body _ _ _ _ _ _ _ => body.getD j (.Pass ⟨0, 0, 0, 0⟩)
  | _ => .Pass ⟨0, 0, 0, 0⟩
structure Txt (mg : Str → Option Value) : Prop where
  len : mg "len" = none
  isinstance : mg "isinstance" = none
  str : mg "str" = none
  tuple : mg "tuple" = none
  all : mg "all" = none
  set : mg "set" = none
  list : mg "list" = none
  range : mg "range" = none
  enumerate : mg "enumerate" = none
  repr : mg "repr" = none
  max : mg "max" = none
  min : mg "min" = none
  sorted : mg "sorted" = none
  int : mg "int" = none
  bool : mg "bool" = none
section
variable {P : Program} {w : World} {K : PySem.W.Frag} {mg : Str → Option Value} {base : Heap} {TL : List (Addr × Str)}
abbrev s_h_source : Stmt := topS 24
theorem sc_h_source : FnScope ["_law_script", "_law_k", "_law_cell"] ["_law_script", "_law_k"] (defScope s_h_source) := ⟨rfl, rfl, rfl, by decide +kernel, rfl, by decide +kernel, by decide +kernel⟩
theorem ok_h_source {f : Addr} {fd : FuncData} (F : Fun K "_law_source" "_law_source" s_h_source f fd) (T : Txt mg) : FnOk P w K mg base CX0 1 f fd ["_law_script", "_law_k"] (spSource K) := by
  refine F.ok sc_h_source (fun vs H Q E h => ?_) (fun cdv A outer s H vs Q E hr h => ?_)
  · obtain ⟨a, ns, k, rfl, _⟩ := h
    rfl
  · obtain ⟨a, ns, k, rfl, hS, hlen, hk, q⟩ := h
    refine ⟨_, pss_cons (ps_set (i := 2) sc_h_source.nd rfl (Or.inl rfl) (pe_ifExp (pt_cmpR (op_neD hr.units) (pv 0) (pe_lst pa_nil) (nomark _)) (pe_ix ix_list (pv 0) (pe_op op_modN (pv 1) (pe_callB call_len_seq (by rfl) T.len PySem.boot_len (pa_cons (pv 0) pa_nil))) (fun _ _ => rfl)) pe_int))
        (pss_one (ps_ret (pe_lst (pa_cons (pv 2) (pa_cons (pe_op op_mul pe_int (pv 1)) (pa_cons (pe_ifExp (pt_cmpR op_ge (pv 2) (pe_op op_pow pe_int pe_int) (nomark _)) (pe_op op_fdivW (pv 2) (pe_op op_pow pe_int pe_int)) pe_int) pa_nil)))))), ?_⟩
    refine ⟨_, rfl, Nat.zero_le _, fun l hl => ?_⟩
    have s1 : Same H (upd H l (.lst [])) := same_new hl
    refine ⟨.list (ns.map PyData.int), .list [], .lst (s1.seq hS) (dp_ints ns), .lst (SqL.of upd_same) .nil, (fine_ints ns).shaped (by decide), by decide, _, rfl, ?_⟩

    rw [eqv_nil]
    cases ns with
    | nil =>
      refine iteF ?_
      refine ⟨_, rfl, _, rfl, _, _, rfl, rfl, .inl (by decide), _, rfl, _, _, rfl, rfl, ⟨by decide, by decide, by decide⟩, _, _, rfl, rfl, _, rfl, ?_⟩
      refine iteF ⟨(by show 3 ≤ sizeLine; decide), fun p hp => ?_⟩
      have s2 := s1.trans (same_new (o := .lst [.int 1, .int (3 * (k : Int)), .int 0]) hp)
      exact q _ p s2 (s1.free hp) ⟨1, 3 * (k : Int), 0, upd_same, by omega, by omega⟩
    | cons n ns =>
      refine iteT ?_
      have hl2 : ((k : Int).fmod ((((n :: ns).map V.int).length : Nat) : Int)) < (((n :: ns).map V.int).length : Nat) ∧ 0 ≤ (k : Int).fmod ((((n :: ns).map V.int).length : Nat) : Int) :=
        ⟨(fmod_pos _ (by simp; omega)).2, (fmod_pos _ (by simp; omega)).1⟩
      obtain ⟨j, hj⟩ : ∃ j : Nat, (k : Int).fmod ((((n :: ns).map V.int).length : Nat) : Int) = (j : Int) := ⟨_, (Int.toNat_of_nonneg hl2.2).symm⟩
      have hjl : j < (n :: ns).length := by
        have h1 := hl2.1
        rw [hj] at h1
        simp at h1 ⊢
        omega
      refine ⟨_, rfl, _, rfl, _, rfl, a, _, rfl, .inl (s1.seq hS), _, _, rfl, rfl, (by simp; omega), a, _, _, .int (n :: ns)[j], rfl, rfl, s1.seq hS, ?_, ?_⟩
      · rw [hj]
        refine atI_nat ?_
        rw [List.getElem?_map, List.getElem?_eq_getElem hjl]
        rfl
      · refine ⟨_, rfl, _, rfl, _, _, rfl, rfl, .inl (by decide), _, rfl, _, _, rfl, rfl, ⟨by decide, by decide, by decide⟩, _, _, rfl, rfl, _, rfl, ?_⟩
        refine ite2 (fun _ => ?_) (fun _ => ?_)
        · refine ⟨_, rfl, _, _, rfl, rfl, ⟨by decide, by decide, by decide⟩, _, _, rfl, rfl, wide_div (b := 70) (by decide) (by decide) (by decide) (by decide), (by show 3 ≤ sizeLine; decide), fun p hp => ?_⟩
          exact q _ p (s1.trans (same_new hp)) (s1.free hp) ⟨_, 3 * (k : Int), _, upd_same, by omega, by omega⟩
        · refine ⟨(by show 3 ≤ sizeLine; decide), fun p hp => ?_⟩
          exact q _ p (s1.trans (same_new hp)) (s1.free hp) ⟨_, 3 * (k : Int), _, upd_same, by omega, by omega⟩
abbrev s_h_next : Stmt := topS 25
theorem sc_h_next : FnScope ["_law_source_here", "_law_many", "_law_found", "_law_primes", "_law_prime"] ["_law_source_here", "_law_many"] (defScope s_h_next) := ⟨rfl, rfl, rfl, by decide +kernel, rfl, by decide +kernel, by decide +kernel⟩
theorem ok_h_next {f : Addr} {fd : FuncData} (F : Fun K "_law_next" "_law_next" s_h_next f fd) (T : Txt mg) : FnOk P w K mg base CX0 1 f fd ["_law_source_here", "_law_many"] (spNext) := by
  refine F.ok sc_h_next (fun vs H Q E h => ?_) (fun cdv A outer s H vs Q E hr h => ?_)
  · obtain ⟨p, m, b, G, rfl, _⟩ := h
    rfl
  · obtain ⟨p, m, b, G, rfl, m1, m2, ⟨c, n, r, hp, hn, hb⟩, hB, hG, hs, q⟩ := h
    refine ⟨_, pss_cons (ps_if (pt_cmpR op_gt (pe_ix ix_list (pv 0) pe_int (fun _ _ => rfl)) pe_int (nomark _)) (pss_cons (ps_set (i := 2) sc_h_next.nd rfl (Or.inl rfl) (pe_op op_modN (pe_ix ix_list (pv 0) pe_int (fun _ _ => rfl)) (pv 1)))
        (pss_cons (ps_asg (pe_op op_fdivN (pe_ix ix_list (pv 0) pe_int (fun _ _ => rfl)) (pv 1)) (pg_sub (pv 0) pe_int set_list))
        (pss_one (ps_ret (pv 2))))) pss_nil)
        (pss_cons (ps_asg (pe_op op_add (pe_ix ix_list (pv 0) pe_int (fun _ _ => rfl)) pe_int) (pg_sub (pv 0) pe_int set_list))
        (pss_cons (ps_set (i := 3) sc_h_next.nd rfl (Or.inl rfl) (pe_lst (pa_cons pe_int (pa_cons pe_int (pa_cons pe_int (pa_cons pe_int (pa_cons pe_int (pa_cons pe_int (pa_cons pe_int (pa_cons pe_int pa_nil))))))))))
        (pss_cons (ps_set (i := 4) sc_h_next.nd rfl (Or.inl rfl) (pe_ix ix_list (pe_op op_cat (pv 3) (pe_lst (pa_cons pe_int (pa_cons pe_int (pa_cons pe_int pa_nil))))) (pe_op op_modN (pe_ix ix_list (pv 0) pe_int (fun _ _ => rfl)) pe_int) (fun _ _ => rfl)))
        (pss_one (ps_ret (pe_op op_modN (pe_op op_fdivN (pe_op op_modN (pe_op op_pow (pe_op op_add (pe_op op_add (pe_op op_modN (pe_ix ix_list (pv 0) pe_int (fun _ _ => rfl)) (pv 4)) (pe_op op_mul pe_int (pe_ix ix_list (pv 0) pe_int (fun _ _ => rfl)))) pe_int) pe_int) (pv 4)) pe_int) (pv 1))))))), ?_⟩
    refine ⟨_, rfl, p, _, _, _, rfl, rfl, SqL.of hp, atI_nat (j := 2) rfl, _, _, rfl, rfl, _, rfl, ?_⟩
    refine ite2 (fun _ => ?_) (fun _ => ?_)
    · refine ⟨_, rfl, p, _, _, _, rfl, rfl, SqL.of hp, atI_nat (j := 2) rfl, _, rfl, _, _, rfl, rfl, (by omega), ?_⟩
      refine ⟨_, rfl, p, _, _, _, rfl, rfl, SqL.of hp, atI_nat (j := 2) rfl, _, rfl, _, _, rfl, rfl, ⟨by omega, by omega⟩, _, rfl, p, _, _, 2, rfl, rfl, hp, rfl, _, rfl, ?_⟩
      have f1 := fmod_pos r m1
      exact q _ _ f1.1 f1.2 (same_at hs hG) ⟨c, n, _, upd_same, hn, by omega⟩
    · refine ⟨_, rfl, p, _, _, _, rfl, rfl, SqL.of hp, atI_nat (j := 1) rfl, _, _, rfl, rfl, _, rfl, p, _, _, 1, rfl, rfl, hp, rfl, ?_⟩
      refine ⟨(by show 8 ≤ sizeLine; decide), fun l1 hl1 => ?_⟩
      have npl1 : p ≠ l1 := ne_of_none upd_same hl1
      have hp1 : (upd (upd H p (.lst [.int c, .int (n + 1), .int r])) l1 (.lst ((primes.take 8).map V.int))) p = some (.lst [.int c, .int (n + 1), .int r]) := by
        rw [upd_ne npl1]
        exact upd_same
      refine ⟨_, rfl, (by show 3 ≤ sizeLine; decide), fun l2 hl2 => ?_⟩
      have npl2 : p ≠ l2 := ne_of_none hp1 hl2
      have nl12 : l1 ≠ l2 := ne_of_none upd_same hl2
      refine ⟨l1, l2, _, _, rfl, rfl, (by rw [upd_ne nl12]; exact upd_same), upd_same, (by show 8 + 3 ≤ sizeLine; decide), fun l3 hl3 => ?_⟩
      have hp2 : ∀ o2 : HO, (upd (upd (upd H p (.lst [.int c, .int (n + 1), .int r])) l1 (.lst ((primes.take 8).map V.int))) l2 o2) p = some (.lst [.int c, .int (n + 1), .int r]) := fun o2 => by
        rw [upd_ne npl2]
        exact hp1
      have npl3 : p ≠ l3 := ne_of_none (hp2 _) hl3
      have hp3 : ∀ o2 o3 : HO, (upd (upd (upd (upd H p (.lst [.int c, .int (n + 1), .int r])) l1 (.lst ((primes.take 8).map V.int))) l2 o2) l3 o3) p = some (.lst [.int c, .int (n + 1), .int r]) := fun o2 o3 => by
        rw [upd_ne npl3]
        exact hp2 _
      have f0 := fmod_pos (n + 1) (show (1 : Int) ≤ 11 by decide)
      obtain ⟨pr, ep, pr2, pr31⟩ := prime_at _ f0.1 f0.2
      refine ⟨_, rfl, p, _, _, _, rfl, rfl, SqL.of (hp3 _ _), atI_nat (j := 1) rfl, _, _, rfl, rfl, (by show (11 : Int) ≠ 0; decide), l3, _, _, _, rfl, rfl, SqL.of upd_same, ep, ?_⟩
      have f1 := fmod_pos c (show 1 ≤ pr by omega)
      refine ⟨_, rfl, p, _, _, _, rfl, rfl, SqL.of (hp3 _ _), atI_nat (j := 0) rfl, _, rfl, _, _, rfl, rfl, (by omega), _, rfl, p, _, _, _, rfl, rfl, SqL.of (hp3 _ _), atI_nat (j := 1) rfl, _, _, rfl, rfl, .inl (by decide), _, _, rfl, rfl,
        _, _, rfl, rfl, _, _, rfl, rfl, ⟨by decide, by decide, (by omega)⟩, _, rfl, _, _, rfl, rfl, (by omega), _, _, rfl, rfl, ⟨by decide, by decide⟩, _, rfl, _, _, rfl, rfl, (by omega), ?_⟩
      have f2 := fmod_pos ((((c.fmod pr + 7919 * (n + 1) + 1) ^ (5 : Int).toNat).fmod pr).fdiv 13) m1
      have s1 : Same G (upd H p (.lst [.int c, .int (n + 1), .int r])) := same_at hs hG
      exact q _ _ f2.1 f2.2 (((s1.trans (same_new hl1)).trans (same_new hl2)).trans (same_new hl3)) ⟨c, n + 1, r, hp3 _ _, by omega, by omega⟩
abbrev s_is_name : Stmt := topS 7
theorem sc_is_name : FnScope ["thing", "letter"] ["thing"] (defScope s_is_name) := ⟨rfl, rfl, rfl, by decide +kernel, rfl, by decide +kernel, by decide +kernel⟩
def sx_is_name_0 : Scope := { kind := .function, names := [(".0", .local), ("letter", .local)], isGenerator := false, isCoroutine := false, more := [] }
theorem ok_is_name {f : Addr} {fd : FuncData} (F : Fun K "is_name" "is_name" s_is_name f fd) (T : Txt mg) {t_LONGEST_NAME : Tok} (m_LONGEST_NAME : mg "_LONGEST_NAME" = some (.int 8 t_LONGEST_NAME)) : FnOk P w K mg base CX0 1 f fd ["thing"] (spName K) := by
  refine F.ok sc_is_name (fun vs H Q E h => ?_) (fun cdv A outer s H vs Q E hr h => ?_)
  · obtain ⟨x, rfl, _⟩ := h
    rfl
  · obtain ⟨x, rfl, hx, q⟩ := h
    refine ⟨_, pss_cons (ps_if (PW.pt (pw_or (pt_not (pt_val (pe_callB call_isi (by rfl) T.isinstance (by decide +kernel) (pa_cons (pv 0) (pa_cons (pe_bltn (v := .ty "str") (by rfl) T.str (by decide +kernel) rfl) pa_nil))))) (pw_or1 (pt_not (pt_chain op_le op_le pe_int (pe_callB call_len_str (by rfl) T.len PySem.boot_len (pa_cons (pv 0) pa_nil)) (pe_glob (v := .int 8) (by rfl) m_LONGEST_NAME ⟨_, rfl⟩)))))) (pss_one (ps_ret pe_bl)) pss_nil)
        (pss_one (ps_ret (pe_callB (cr_all rfl) (by rfl) T.all (by decide +kernel) (pa_cons (pe_lc (own := [("letter", 1)]) (g := gName 1) (tt := tYes) rfl sc_is_name.nd (pi_str (pv 0)) (blkOk_by (N := ["thing", "letter"]) (sc := (defScope s_is_name)) (by decide +kernel)) (fun _ _ _ _ _ => (pg_name (i := 1) sc_is_name.nd rfl (Or.inl rfl))) (fun _ _ _ _ _ => pts_nil) (fun _ _ _ _ _ => (pe_chain op_le_str op_le_str pe_str (pv 1) pe_str))) pa_nil)))), ?_⟩
    rcases hx with ⟨z, rfl, hz, _⟩ | ⟨hno, ty, hty, hk⟩
    · refine ⟨_, rfl, _, _, .type "str", _, true, rfl, .ty _, .base (.str z), kit_ty (by decide +kernel), _, rfl, ?_⟩
      refine iteF ⟨_, rfl, z, rfl, Nat.le_of_lt (small1000 hz), ?_⟩
      refine ⟨_, _, rfl, rfl, _, rfl, ?_⟩
      have big : ∀ b : Bool, isNm z = ((decide ((1 : Int) ≤ (z.length : Int)) && decide ((z.length : Int) ≤ 8)) && z.cps.toList.all letterOk) := fun _ => rfl
      by_cases h1 : (1 : Int) ≤ (z.length : Int)
      · rw [decide_eq_true h1]
        refine iteT ?_
        refine ⟨_, _, rfl, rfl, _, rfl, ?_⟩
        by_cases h8 : (z.length : Int) ≤ 8
        · rw [decide_eq_true h8]
          refine iteF ?_
          refine ⟨_, rfl, z, rfl, fun D hD => ?_⟩
          refine lc_str (x := z) (fun i H' => Same H H' ∧ H' D = some (.lst (((z.cps.toList.take i).map letterOk).map V.bl))) ⟨same_new hD, upd_same⟩ (fun i c H' hc ⟨s1, eD⟩ => ?_) (fun H' ⟨s1, eD⟩ => ?_)
          · refine ⟨rfl, ?_⟩
            have hil : i < z.cps.toList.length := (List.getElem?_eq_some_iff.mp hc).1
            have hzl : z.cps.toList.length = z.length := Array.length_toList
            have next : (((z.cps.toList.take i).map letterOk).map V.bl) ++ [V.bl (letterOk c)] = (((z.cps.toList.take (i + 1)).map letterOk).map V.bl) := by
              rw [List.take_add_one, hc]
              simp
            have sm : (((z.cps.toList.take i).map letterOk).map V.bl).length < sizeLine := by
              rw [List.length_map, List.length_map, List.length_take]
              exact Nat.lt_of_le_of_lt (Nat.min_le_left _ _) (small1000 (by omega))
            refine ⟨_, rfl, _, _, rfl, rfl, _, rfl, ?_⟩
            by_cases ha : [c] < lowA
            · rw [decide_eq_true (show ((⟨#[c]⟩ : Str).cps.toList < ("a" : Str).cps.toList) from ha)]
              refine iteF ⟨_, eD, sm, same_at s1 hD, ?_⟩
              have e : letterOk c = false := by
                unfold letterOk
                rw [decide_eq_true ha]
                rfl
              rw [← next, e]
              exact upd_same
            · rw [decide_eq_false (show ¬ ((⟨#[c]⟩ : Str).cps.toList < ("a" : Str).cps.toList) from ha)]
              refine iteT ⟨_, _, rfl, rfl, _, eD, sm, same_at s1 hD, ?_⟩
              have e : letterOk c = !decide (lowZ < [c]) := by
                unfold letterOk
                rw [decide_eq_false ha]
                rfl
              rw [← next, e]
              exact upd_same
          · refine ⟨D, _, rfl, SqL.of eD, ?_⟩
            have e : (((z.cps.toList.take z.cps.toList.length).map letterOk).all id) = isNm z := by
              rw [List.take_length]
              unfold isNm
              rw [decide_eq_true h1, decide_eq_true h8]
              simp [List.all_map]
            rw [e]
            exact q H' s1
        · rw [decide_eq_false h8]
          refine iteT ?_
          have e : nameV (.str z) = false := by
            show isNm z = false
            unfold isNm
            rw [decide_eq_false h8]
            simp
          rw [← e]
          exact q H (Same.refl H)
      · rw [decide_eq_false h1]
        refine iteF ⟨_, rfl, ?_⟩
        refine iteT ?_
        have e : nameV (.str z) = false := by
          show isNm z = false
          unfold isNm
          rw [decide_eq_false h1]
          simp
        rw [← e]
        exact q H (Same.refl H)
    · refine ⟨_, rfl, _, _, .type ty, _, false, rfl, .ty _, hty, kit_ty hk, _, rfl, ?_⟩
      refine iteT ?_
      have e : nameV x = false := by
        cases x with
        | str z => exact absurd rfl (hno z)
        | _ => rfl
      rw [← e]
      exact q H (Same.refl H)
abbrev s_are_names : Stmt := topS 8
theorem sc_are_names : FnScope ["thing", "item"] ["thing"] (defScope s_are_names) := ⟨rfl, rfl, rfl, by decide +kernel, rfl, by decide +kernel, by decide +kernel⟩
def sx_are_names_0 : Scope := { kind := .function, names := [(".0", .local), ("item", .local), ("is_name", .globalImplicit)], isGenerator := false, isCoroutine := false, more := [] }
theorem ok_are_names {f : Addr} {fd : FuncData} (F : Fun K "are_names" "are_names" s_are_names f fd) (T : Txt mg) (D_is_name : Dn P w K mg base CX0 1 "is_name" ["thing"] (spName K)) : FnOk P w K mg base CX0 2 f fd ["thing"] (spOf K namesV) := by
  refine F.ok sc_are_names (fun vs H Q E h => ?_) (fun cdv A outer s H vs Q E hr h => ?_)
  · obtain ⟨x, rfl, _⟩ := h
    rfl
  · obtain ⟨x, rfl, hx, q⟩ := h
    refine ⟨_, pss_one (ps_ret (pe_and (pe_callB call_isi (by rfl) T.isinstance (by decide +kernel) (pa_cons (pv 0) (pa_cons (pe_bltn (v := .ty "tuple") (by rfl) T.tuple (by decide +kernel) rfl) pa_nil))) (pe_one (pe_callB (cr_all rfl) (by rfl) T.all (by decide +kernel) (pa_cons (pe_lc (own := [("item", 1)]) (g := gName 1) (tt := tYes) rfl sc_are_names.nd (pi_tup (pv 0)) (blkOk_by (N := ["thing", "item"]) (sc := (defScope s_are_names)) (by decide +kernel)) (fun _ _ _ _ _ => (pg_name (i := 1) sc_are_names.nd rfl (Or.inl rfl))) (fun _ _ _ _ _ => pts_nil) (fun _ _ _ _ _ => (pe_D D_is_name (hr.mono (by decide)) (by rfl) pass0 (pa_cons (pv 1) pa_nil)))) pa_nil))))), ?_⟩
    rcases hx with ⟨a, xs, rfl, ha, hl, hi⟩ | ⟨ht, ty, hty, hk⟩
    · refine ⟨_, rfl, _, _, .type "tuple", _, true, rfl, .ty _, rd_ty ha, kit_ty (by decide +kernel), _, rfl, ?_⟩
      refine iteT ⟨_, rfl, a, rfl, ⟨_, (.inl ha : SqT K H a xs)⟩, fun D hD => ?_⟩
      refine lc_tup (K := K) (a := a) (xs := xs) (fun i H' => Same H H' ∧ H' D = some (.lst (((xs.take i).map nameV).map V.bl))) ⟨same_new hD, upd_same⟩ (fun i H' _ ⟨s1, _⟩ => (.inl (rd_same s1 ha))) (fun i y H' hy ⟨s1, eD⟩ => ?_) (fun H' ⟨s1, eD⟩ => ?_)
      · refine ⟨rfl, _, rfl, y, rfl, known_same s1 (hi y (List.mem_of_getElem? hy)).1, fun H2 s2 => ?_⟩
        refine ⟨_, s2 _ _ eD, ?_, same_at (s1.trans s2) hD, ?_⟩
        · rw [List.length_map, List.length_map, List.length_take]
          exact Nat.lt_of_le_of_lt (Nat.min_le_right _ _) (small1000 hl)
        · rw [upd_same, List.take_add_one, hy]
          simp
      · refine ⟨D, _, rfl, SqL.of eD, ?_⟩
        have e : ((xs.take xs.length).map nameV).all id = namesV H (.ref a) := by
          unfold namesV
          rw [tupOf_at ha, List.take_length]
          simp [List.all_map]
        rw [e]
        exact q H' s1
    · refine ⟨_, rfl, _, _, .type ty, _, false, rfl, .ty _, hty, kit_ty hk, _, rfl, ?_⟩
      refine iteF ?_
      have e : namesV H x = false := by
        unfold namesV
        rw [ht _ (Same.refl _)]
      rw [← e]
      exact q H (Same.refl H)
abbrev s_are_different_names : Stmt := topS 9
theorem sc_are_different_names : FnScope ["thing"] ["thing"] (defScope s_are_different_names) := ⟨rfl, rfl, rfl, by decide +kernel, rfl, by decide +kernel, by decide +kernel⟩
theorem ok_are_different_names {f : Addr} {fd : FuncData} (F : Fun K "are_different_names" "are_different_names" s_are_different_names f fd) (T : Txt mg) (D_are_names : Dn P w K mg base CX0 2 "are_names" ["thing"] (spOf K namesV)) : FnOk P w K mg base CX0 3 f fd ["thing"] (spOf K diffOf) := by
  refine F.ok sc_are_different_names (fun vs H Q E h => ?_) (fun cdv A outer s H vs Q E hr h => ?_)
  · obtain ⟨x, rfl, _⟩ := h
    rfl
  · obtain ⟨x, rfl, hx, q⟩ := h
    refine ⟨_, pss_one (ps_ret (pe_and (pe_D D_are_names (hr.mono (by decide)) (by rfl) pass0 (pa_cons (pv 0) pa_nil)) (pe_one (pe_cmpR op_eq (pe_manyS (by rfl) T.len (by rfl) T.set (pv 0)) (pe_callB call_len_seq (by rfl) T.len PySem.boot_len (pa_cons (pv 0) pa_nil)) (nomark _))))), ?_⟩
    refine ⟨_, rfl, x, rfl, hx, fun H' s1 => ?_⟩
    refine ⟨_, rfl, ?_⟩
    rcases hx with ⟨a, xs, rfl, ha, hl, hi⟩ | ⟨ht, ty, hty, hk⟩
    · have e1 : namesV H (.ref a) = xs.all nameV := by
        unfold namesV
        rw [tupOf_at ha]
      have e2 : diffOf H (.ref a) = diffV xs := by
        unfold diffOf
        rw [tupOf_at ha]
      rw [e1]
      by_cases hn : xs.all nameV = true
      · rw [hn]
        refine iteT ⟨_, rfl, a, strsOf xs, rfl, ?_, ?_, _, rfl, a, xs, rfl, .inr ((.inl (rd_same s1 ha))), rfl, ?_⟩
        · rw [← strs_map hn]
          exact (.inl (rd_same s1 ha))
        · have : (strsOf xs).length ≤ xs.length := List.length_filterMap_le ..
          omega
        · have e3 : decide (V.int ((seen (strsOf xs)).length : Nat) = V.int (xs.length : Nat)) = diffOf H (.ref a) := by
            rw [e2]
            unfold diffV
            rw [hn, Bool.true_and, Bool.eq_iff_iff]
            simp
          show Q (.bl (decide (V.int ((seen (strsOf xs)).length : Nat) = V.int (xs.length : Nat)))) H'
          rw [e3]
          exact q H' s1
      · have hf : xs.all nameV = false := by simpa using hn
        rw [hf]
        refine iteF ?_
        have e3 : diffOf H (.ref a) = false := by
          rw [e2]
          unfold diffV
          rw [hf]
          rfl
        rw [← e3]
        exact q H' s1
    · have e1 : namesV H x = false := by
        unfold namesV
        rw [ht _ (Same.refl _)]
      have e2 : diffOf H x = false := by
        unfold diffOf
        rw [ht _ (Same.refl _)]
      rw [e1]
      refine iteF ?_
      rw [← e2]
      exact q H' s1
end
end K08

set_option Elab.async false
set_option linter.all false
set_option maxRecDepth 100000
set_option maxHeartbeats 4000000
namespace K08
open PySem Nb
open L2 hiding del del_ne del_same
section
variable {P : Program} {w : World} {K : PySem.W.Frag} {mg : Str → Option Value} {base : Heap} {TL : List (Addr × Str)}
abbrev s_Merge__prepare : Stmt := clsAt (topS 15) 4
theorem sc_Merge__prepare : FnScope ["self", "name"] ["self", "name"] (defScope s_Merge__prepare) := ⟨rfl, rfl, rfl, by decide +kernel, rfl, by decide +kernel, by decide +kernel⟩
theorem ok_Merge__prepare {f : Addr} {fd : FuncData} (F : Fun K "_prepare" "Merge._prepare" s_Merge__prepare f fd) {C_Merge : Addr} (T : Txt mg) (K_Merge : Kl K mg "Merge" C_Merge ["rows", "places", "gone", "heads", "behind", "ready"]) : FnOk P w K mg base CX0 1 f fd ["self", "name"] (spPrepare C_Merge) := by
  refine F.ok sc_Merge__prepare (fun vs H Q E h => ?_) (fun cdv A outer s H vs Q E hr h => ?_)
  · obtain ⟨m, T0, P0, g, hd, b, rows, F0, L, gone, hs, rdy, x, rfl, _⟩ := h
    rfl
  · obtain ⟨m, T0, P0, g, hd, b, rows, F0, L, gone, hs, rdy, x, rfl, M, S, hx, nx, q⟩ := h
    refine ⟨_, pss_one (ps_if (pt_cmpR op_eq (pe_dget (hu_of hr) (pe_fld (pv 0) rfl) (pv 1) (fun _ _ => rfl)) pe_int (nomark _)) (pss_one (ps_fldaug (pv 0) (pe_op op_oneShl pe_int (pe_ix ix_tup (pe_ix ix_list (pe_dget (hu_of hr) (pe_fld (pv 0) rfl) (pv 1) (fun _ _ => rfl)) pe_int (fun _ _ => rfl)) pe_int (fun _ _ => rfl))) in_orI)) pss_nil), ?_⟩
    obtain ⟨dx, ho⟩ := S.obj
    obtain ⟨bs, hb, lb, kb⟩ := S.hb
    obtain ⟨n, hv, hn⟩ := kb x hx
    have hn := hn nx
    subst hn
    refine ⟨_, rfl, m, C_Merge, dx, _, .ref b, rfl, ho, K_Merge.cl, K_Merge.no "behind" (by simp), rfl, _, rfl, b, _, rfl, hv ▸ DGet.k (k := Sum.inr x) hb, rfl, _, rfl, ?_⟩
    by_cases z : Mg.behN rows hs x = 0
    · have e : decide (V.int ((Mg.behN rows hs x : Nat) : Int) = V.int 0) = true := by
        rw [z]
        rfl
      rw [e]
      refine iteT ?_
      have mx : x ∈ rows.flatten := mem_names.mp hx
      have fit := M.fit
      obtain ⟨as, el, f2⟩ := M.pl.l x (by rw [Mg.names_trips]; exact mx)
      rw [Mg.pl_trips x rows 0 fit.nd] at f2
      obtain ⟨a, tl, ep⟩ := Mg.plc_head rows 0 mx
      rw [Nat.zero_add] at ep
      rw [ep] at f2
      cases f2 with
      | @cons t _ ts _ ht f3 =>
        have hp := rd_same S.same M.pl.d
        have dg : DGet H P0 (.str x) (some (.ref (L x))) := by
          have v := val_map (L := L) (x := x) (xs := seen ((Mg.trips 0 rows).map (·.1)))
          rw [if_pos (by rw [Mg.names_trips]; exact hx)] at v
          exact v ▸ (.inl ⟨_, _, hp, rfl, rfl⟩ : DGet H P0 (kV (Sum.inr x)) _)
        have lt : Mg.first rows x ≤ 134217727 := by
          obtain ⟨r, er, _⟩ := Mg.first_at mx
          have := (List.getElem?_eq_some_iff.mp er).1
          have := fit.few
          omega
        refine ⟨_, rfl, m, C_Merge, dx, _, _, rfl, ho, K_Merge.cl, K_Merge.no "ready" (by simp), rfl, ?_⟩
        refine ⟨_, rfl, m, C_Merge, dx, _, .ref P0, rfl, ho, K_Merge.cl, K_Merge.no "places" (by simp), rfl, _, rfl, P0, _, rfl, dg, ?_⟩
        refine ⟨L x, _, _, _, rfl, rfl, SqL.of (S.same _ _ el), atI_nat (j := 0) rfl, t, _, _, _, rfl, rfl, SqT.of (S.same _ _ ht), atI_nat (j := 0) rfl, _, rfl, rfl, lt, _, _, rfl, rfl, dx, _, ho, (by show 6 < 1000; decide), ?_⟩
        have e2 : Builtin.bitOr ((rdy : Nat) : Int) (2 ^ Mg.first rows x) = ((rdy ||| 2 ^ Mg.first rows x : Nat) : Int) := by
          rw [← PySem.W.kbt_cast, or_nat]
        rw [e2]
        have e3 : Mg.bits rows hs rdy (some x) = rdy ||| 2 ^ Mg.first rows x := by
          simp only [Mg.bits]
          rw [if_pos z]
        rw [e3] at q
        exact q _ (S.ready _)
    · have e : decide (V.int ((Mg.behN rows hs x : Nat) : Int) = V.int 0) = false := by
        rw [decide_eq_false_iff_not]
        intro h
        have : ((Mg.behN rows hs x : Nat) : Int) = 0 := by injection h
        omega
      rw [e]
      refine iteF ?_
      have e3 : Mg.bits rows hs rdy (some x) = rdy := by
        simp only [Mg.bits]
        rw [if_neg z]
      rw [e3] at q
      exact q _ S
abbrev s_Merge__advance : Stmt := clsAt (topS 15) 3
theorem sc_Merge__advance : FnScope ["self", "index", "row", "at", "head"] ["self", "index"] (defScope s_Merge__advance) := ⟨rfl, rfl, rfl, by decide +kernel, rfl, by decide +kernel, by decide +kernel⟩
theorem ok_Merge__advance {f : Addr} {fd : FuncData} (F : Fun K "_advance" "Merge._advance" s_Merge__advance f fd) {C_Merge : Addr} (T : Txt mg) (K_Merge : Kl K mg "Merge" C_Merge ["rows", "places", "gone", "heads", "behind", "ready"]) (D_Merge__prepare : Mn P w K mg base CX0 1 C_Merge "_prepare" ["self", "name"] (spPrepare C_Merge)) : FnOk P w K mg base CX0 2 f fd ["self", "index"] (spAdvance C_Merge) := by
  refine F.ok sc_Merge__advance (fun vs H Q E h => ?_) (fun cdv A outer s H vs Q E hr h => ?_)
  · obtain ⟨m, T0, P0, g, hd, b, rows, F0, L, gone, hs, rdy, x, i, r, h, pd, rfl, _⟩ := h
    rfl
  · obtain ⟨m, T0, P0, g, hd, b, rows, F0, L, gone, hs, rdy, x, i, r, h, pd, rfl, M, S, I, er, eh, ex, gx, q⟩ := h
    have hu := hu_of hr
    refine ⟨_, pss_cons (ps_set (i := 2) sc_Merge__advance.nd rfl (Or.inl rfl) (pe_ix ix_tup (pe_fld (pv 0) rfl) (pv 1) (fun _ _ => rfl)))
        (pss_cons (ps_set (i := 3) sc_Merge__advance.nd rfl (Or.inl rfl) (pe_ix ix_list (pe_fld (pv 0) rfl) (pv 1) (fun _ _ => rfl)))
        (pss_cons (ps_while PassesOwn.never (PW.pt (pw_and (pt_cmpR op_lt (pv 3) (pe_callB call_len_seq (by rfl) T.len PySem.boot_len (pa_cons (pv 2) pa_nil)) (nomark _)) (pw_and1 (pt_cmp (pc_din hu (pe_ix ix_tup (pv 2) (pv 3) (fun _ _ => rfl)) (pe_fld (pv 0) rfl)))))) (pss_one (ps_aug (i := 3) sc_Merge__advance.nd rfl (Or.inl rfl) pe_int ip_add)))
        (pss_cons (ps_asg (pv 3) (pg_sub (pe_fld (pv 0) rfl) (pv 1) set_list))
        (pss_one (ps_if (pt_cmpR op_lt (pv 3) (pe_callB call_len_seq (by rfl) T.len PySem.boot_len (pa_cons (pv 2) pa_nil)) (nomark _)) (pss_cons (ps_set (i := 4) sc_Merge__advance.nd rfl (Or.inl rfl) (pe_ix ix_tup (pv 2) (pv 3) (fun _ _ => rfl)))
        (pss_cons (ps_daug (hu_of hr) (pe_fld (pv 0) rfl) (pv 4) pe_int in_sub (fun _ _ _ => rfl))
        (pss_one (ps_expr (pe_M D_Merge__prepare K_Merge.cl (pv 0) (hr.mono (by decide)) pass0 (pa_cons (pv 4) pa_nil)))))) pss_nil))))), ?_⟩
    obtain ⟨dx, ho⟩ := S.obj
    obtain ⟨as, t1, t2, t3⟩ := M.at_
    have fit := M.fit
    have hil : i < rows.length := (List.getElem?_eq_some_iff.mp er).1
    have hih : i < hs.length := (List.getElem?_eq_some_iff.mp eh).1
    obtain ⟨ar, ea⟩ : ∃ ar, as[i]? = some ar := ⟨_, List.getElem?_eq_getElem (by rw [t2]; exact hil)⟩
    have rr := rd_same S.same (t3 i ar r ea er)
    have sq : SqT K H ar (r.map V.str) := .inl rr
    have rl := fit.row (List.mem_of_getElem? er)
    have nr := fit.nd r (List.mem_of_getElem? er)
    refine ⟨_, rfl, m, C_Merge, dx, _, .ref T0, rfl, ho, K_Merge.cl, K_Merge.no "rows" (by simp), rfl, _, rfl, T0, _, _, .ref ar, rfl, rfl, SqT.of (S.same _ _ t1), atI_nat (j := i) (by rw [List.getElem?_map, ea]; rfl), ?_⟩
    refine ⟨_, rfl, m, C_Merge, dx, _, .ref hd, rfl, ho, K_Merge.cl, K_Merge.no "heads" (by simp), rfl, _, rfl, hd, _, _, .int h, rfl, rfl, SqL.of S.hh, atI_nat (j := i) (by rw [List.getElem?_map, eh]; rfl), ?_⟩
    have hr0 := I.le i r h er eh
    refine ⟨fun k σ H' => ∃ j v4, σ = [some (.ref m), some (.int (i : Nat)), some (.ref ar), some (.int ((h + j : Nat))), v4] ∧ H' = H ∧ k = r.length - (h + j) ∧ h + j ≤ r.length ∧ ∀ (j' : Nat) (y : PySem.Str), h ≤ j' → j' < h + j → r[j']? = some y → y ∈ gone,
      ⟨_, 0, none, rfl, rfl, rfl, by omega, fun j' y l1 l2 => by omega⟩, ?_⟩
    rintro k σ H' ⟨j, v4, rfl, rfl, rfl, le, sk⟩
    refine ⟨_, rfl, _, rfl, ar, _, rfl, .inr sq, _, _, rfl, rfl, _, rfl, ?_⟩
    rw [List.length_map]
    by_cases lt : h + j < r.length
    · rw [decide_eq_true (by omega : ((h + j : Nat) : Int) < ((r.length : Nat) : Int))]
      obtain ⟨y, ey⟩ : ∃ y, r[h + j]? = some y := ⟨_, List.getElem?_eq_getElem lt⟩
      have dg : DGet H' g (.str y) (valV (gone.map fun x => ((Sum.inr x : Key), V.bl true)) (Sum.inr y)) := DGet.k (k := Sum.inr y) S.hg
      refine iteT ⟨_, rfl, _, rfl, ar, _, _, .str y, rfl, rfl, sq, atI_nat (j := h + j) (by rw [List.getElem?_map, ey]; rfl), _, rfl, m, C_Merge, dx, _, .ref g, rfl, ho, K_Merge.cl, K_Merge.no "gone" (by simp), rfl, g, _, rfl, dg, _, rfl, ?_⟩
      rw [val_gone]
      by_cases gy : y ∈ gone
      · rw [if_pos gy]
        refine iteT ⟨fun σ' H2 => ∃ v4, σ' = [some (.ref m), some (.int (i : Nat)), some (.ref ar), some (.int ((h + (j + 1) : Nat))), v4] ∧ H2 = H', ?_, ?_⟩
        · rintro σ' H2 ⟨v4, rfl, rfl⟩
          refine ⟨_, ?_, j + 1, v4, rfl, rfl, rfl, by omega, fun j' z l1 l2 ez => ?_⟩
          · omega
          · by_cases q2 : j' < h + j
            · exact sk j' z l1 q2 ez
            · have : j' = h + j := by omega
              subst this
              rw [ey] at ez
              cases ez
              exact gy
        · refine ⟨_, rfl, _, _, rfl, rfl, v4, ?_, rfl⟩
          rfl
      · rw [if_neg gy]
        refine iteF ?_
        have stop : ∀ y, r[h + j]? = some y → y ∉ gone := fun z ez => by
          rw [ey] at ez
          cases ez
          exact gy
        have S' := S
        obtain ⟨bs, hb0, lb, kb⟩ := S.hb
        have gt : h < h + j := by
          apply Nat.lt_of_not_le
          intro z
          have e0 : h + j = h := by omega
          rw [e0] at stop
          exact stop x ex gx
        have hne : ∀ k, k ≠ i → (hs.set i (h + j))[k]? = hs[k]? := fun k n => List.getElem?_set_ne (Ne.symm n)
        have I2 := I.move (h2 := h + j) (pd' := fun k => pd k ∧ k ≠ i) er eh ex gx gt le sk stop fun k p n => ⟨p, n⟩
        have bm := I.beh_move er eh gt sk
        have es : ((hs.map fun n => V.int (n : Nat)).set i (.int ((h + j : Nat)))) = (hs.set i (h + j)).map fun n => V.int (n : Nat) := by rw [List.map_set]
        refine ⟨_, rfl, _, rfl, m, C_Merge, dx, _, .ref hd, rfl, ho, K_Merge.cl, K_Merge.no "heads" (by simp), rfl, _, rfl, hd, _, _, i, rfl, rfl, S.hh, (by rw [List.length_map]; exact ixN_at hih), ?_⟩
        rw [es]
        obtain ⟨n1, n2, n3, n4, n5⟩ := S.nes
        have sq1 : SqT K (upd H' hd (.lst ((hs.set i (h + j)).map fun n => V.int (n : Nat)))) ar (r.map V.str) := .inl (rd_same (same_at S.same S.off.2.2.1) (t3 i ar r ea er))
        have ho1 : (upd H' hd (.lst ((hs.set i (h + j)).map fun n => V.int (n : Nat)))) m = some (.ins C_Merge dx (flds T0 P0 g hd b rdy)) := by rw [upd_ne n2]; exact ho
        refine ⟨_, rfl, _, rfl, ar, _, rfl, .inr sq1, _, _, rfl, rfl, _, rfl, ?_⟩
        rw [List.length_map]
        by_cases lt2 : h + j < r.length
        · rw [decide_eq_true (by omega : ((h + j : Nat) : Int) < ((r.length : Nat) : Int))]
          obtain ⟨y, ey⟩ : ∃ y, r[h + j]? = some y := ⟨_, List.getElem?_eq_getElem lt2⟩
          have gy := stop y ey
          have my : y ∈ names rows := mem_names.mpr (List.mem_flatten.mpr ⟨r, List.mem_of_getElem? er, List.mem_of_getElem? ey⟩)
          obtain ⟨n, hv, hn⟩ := kb y my
          refine iteT ⟨_, rfl, _, rfl, ar, _, _, .str y, rfl, rfl, sq1, atI_nat (j := h + j) (by rw [List.getElem?_map, ey]; rfl), ?_⟩
          have hb1 : (upd H' hd (.lst ((hs.set i (h + j)).map fun n => V.int (n : Nat)))) b = some (.dK bs) := by rw [upd_ne (Ne.symm n5)]; exact hb0
          refine ⟨_, rfl, m, C_Merge, dx, _, .ref b, rfl, ho1, K_Merge.cl, K_Merge.no "behind" (by simp), rfl, _, rfl, b, _, rfl, hv ▸ DGet.k (k := Sum.inr y) hb1, _, _, rfl, rfl, _, DPut.k (k := Sum.inr y) hb1 (Nat.lt_of_le_of_lt lb (by decide)), ?_⟩
          have S2 := S.moved (hs.set i (h + j)) y bs n hb0 lb hv my gy kb fun z gz => by
            have k1 := bm z gz
            rw [ey] at k1
            by_cases q1 : z = y
            · subst q1
              rw [if_pos rfl] at k1 ⊢
              exact k1
            · rw [if_neg q1]
              rw [if_neg (fun e => q1 (Option.some.inj e).symm)] at k1
              exact k1
          obtain ⟨dx2, ho2⟩ := S2.obj
          refine ⟨_, rfl, m, dx2, _, rfl, ho2, rfl, _, rfl, m, T0, P0, g, hd, b, rows, F0, L, gone, hs.set i (h + j), rdy, y, rfl, M, S2, my, gy, fun H3 S3 => ?_⟩
          rw [ey] at I2
          exact q H3 _ _ S3 I2 hne
        · rw [decide_eq_false (by omega : ¬ ((h + j : Nat) : Int) < ((r.length : Nat) : Int))]
          have none' : r[h + j]? = none := List.getElem?_eq_none_iff.mpr (Nat.le_of_not_lt lt2)
          refine iteF ?_
          rw [none'] at I2
          refine q _ _ _ (S.heads (hs.set i (h + j)) fun z gz => ?_) I2 hne
          have k1 := bm z gz
          rw [none'] at k1
          simpa using k1
    · rw [decide_eq_false (by omega : ¬ ((h + j : Nat) : Int) < ((r.length : Nat) : Int))]
      refine iteF ?_
      have stop : ∀ y, r[h + j]? = some y → y ∉ gone := fun z ez => by
        have := (List.getElem?_eq_some_iff.mp ez).1
        omega
      have S' := S
      obtain ⟨bs, hb0, lb, kb⟩ := S.hb
      have gt : h < h + j := by
        apply Nat.lt_of_not_le
        intro z
        have e0 : h + j = h := by omega
        rw [e0] at stop
        exact stop x ex gx
      have hne : ∀ k, k ≠ i → (hs.set i (h + j))[k]? = hs[k]? := fun k n => List.getElem?_set_ne (Ne.symm n)
      have I2 := I.move (h2 := h + j) (pd' := fun k => pd k ∧ k ≠ i) er eh ex gx gt le sk stop fun k p n => ⟨p, n⟩
      have bm := I.beh_move er eh gt sk
      have es : ((hs.map fun n => V.int (n : Nat)).set i (.int ((h + j : Nat)))) = (hs.set i (h + j)).map fun n => V.int (n : Nat) := by rw [List.map_set]
      refine ⟨_, rfl, _, rfl, m, C_Merge, dx, _, .ref hd, rfl, ho, K_Merge.cl, K_Merge.no "heads" (by simp), rfl, _, rfl, hd, _, _, i, rfl, rfl, S.hh, (by rw [List.length_map]; exact ixN_at hih), ?_⟩
      rw [es]
      obtain ⟨n1, n2, n3, n4, n5⟩ := S.nes
      have sq1 : SqT K (upd H' hd (.lst ((hs.set i (h + j)).map fun n => V.int (n : Nat)))) ar (r.map V.str) := .inl (rd_same (same_at S.same S.off.2.2.1) (t3 i ar r ea er))
      have ho1 : (upd H' hd (.lst ((hs.set i (h + j)).map fun n => V.int (n : Nat)))) m = some (.ins C_Merge dx (flds T0 P0 g hd b rdy)) := by rw [upd_ne n2]; exact ho
      refine ⟨_, rfl, _, rfl, ar, _, rfl, .inr sq1, _, _, rfl, rfl, _, rfl, ?_⟩
      rw [List.length_map]
      by_cases lt2 : h + j < r.length
      · rw [decide_eq_true (by omega : ((h + j : Nat) : Int) < ((r.length : Nat) : Int))]
        obtain ⟨y, ey⟩ : ∃ y, r[h + j]? = some y := ⟨_, List.getElem?_eq_getElem lt2⟩
        have gy := stop y ey
        have my : y ∈ names rows := mem_names.mpr (List.mem_flatten.mpr ⟨r, List.mem_of_getElem? er, List.mem_of_getElem? ey⟩)
        obtain ⟨n, hv, hn⟩ := kb y my
        refine iteT ⟨_, rfl, _, rfl, ar, _, _, .str y, rfl, rfl, sq1, atI_nat (j := h + j) (by rw [List.getElem?_map, ey]; rfl), ?_⟩
        have hb1 : (upd H' hd (.lst ((hs.set i (h + j)).map fun n => V.int (n : Nat)))) b = some (.dK bs) := by rw [upd_ne (Ne.symm n5)]; exact hb0
        refine ⟨_, rfl, m, C_Merge, dx, _, .ref b, rfl, ho1, K_Merge.cl, K_Merge.no "behind" (by simp), rfl, _, rfl, b, _, rfl, hv ▸ DGet.k (k := Sum.inr y) hb1, _, _, rfl, rfl, _, DPut.k (k := Sum.inr y) hb1 (Nat.lt_of_le_of_lt lb (by decide)), ?_⟩
        have S2 := S.moved (hs.set i (h + j)) y bs n hb0 lb hv my gy kb fun z gz => by
          have k1 := bm z gz
          rw [ey] at k1
          by_cases q1 : z = y
          · subst q1
            rw [if_pos rfl] at k1 ⊢
            exact k1
          · rw [if_neg q1]
            rw [if_neg (fun e => q1 (Option.some.inj e).symm)] at k1
            exact k1
        obtain ⟨dx2, ho2⟩ := S2.obj
        refine ⟨_, rfl, m, dx2, _, rfl, ho2, rfl, _, rfl, m, T0, P0, g, hd, b, rows, F0, L, gone, hs.set i (h + j), rdy, y, rfl, M, S2, my, gy, fun H3 S3 => ?_⟩
        rw [ey] at I2
        exact q H3 _ _ S3 I2 hne
      · rw [decide_eq_false (by omega : ¬ ((h + j : Nat) : Int) < ((r.length : Nat) : Int))]
        have none' : r[h + j]? = none := List.getElem?_eq_none_iff.mpr (Nat.le_of_not_lt lt2)
        refine iteF ?_
        rw [none'] at I2
        refine q _ _ _ (S.heads (hs.set i (h + j)) fun z gz => ?_) I2 hne
        have k1 := bm z gz
        rw [none'] at k1
        simpa using k1
abbrev s_Merge_drop : Stmt := clsAt (topS 15) 2
theorem sc_Merge_drop : FnScope ["self", "name", "index", "at"] ["self", "name"] (defScope s_Merge_drop) := ⟨rfl, rfl, rfl, by decide +kernel, rfl, by decide +kernel, by decide +kernel⟩
theorem ok_Merge_drop {f : Addr} {fd : FuncData} (F : Fun K "drop" "Merge.drop" s_Merge_drop f fd) {C_Merge : Addr} (T : Txt mg) (K_Merge : Kl K mg "Merge" C_Merge ["rows", "places", "gone", "heads", "behind", "ready"]) (D_Merge__advance : Mn P w K mg base CX0 2 C_Merge "_advance" ["self", "index"] (spAdvance C_Merge)) : FnOk P w K mg base CX0 3 f fd ["self", "name"] (spDrop C_Merge) := by
  refine F.ok sc_Merge_drop (fun vs H Q E h => ?_) (fun cdv A outer s H vs Q E hr h => ?_)
  · obtain ⟨m, T0, P0, g, hd, b, rows, F0, L, gone, hs, rdy, x, rfl, _⟩ := h
    rfl
  · obtain ⟨m, T0, P0, g, hd, b, rows, F0, L, gone, hs, rdy, x, rfl, M, S, hx, nx, gl, I, q⟩ := h
    refine ⟨_, pss_cons (ps_dput (hu_of hr) (pe_fld (pv 0) rfl) (pv 1) pe_bl rfl)
        (pss_one (ps_for PassesOwn.never rfl (pi_list (pe_dget (hu_of hr) (pe_fld (pv 0) rfl) (pv 1) (fun _ _ => rfl))) (pg_tup rfl (pgs_cons (pg_name (i := 2) sc_Merge_drop.nd rfl (Or.inl rfl)) (pgs_cons (pg_name (i := 3) sc_Merge_drop.nd rfl (Or.inl rfl)) pgs_nil))) (pss_one (ps_if (pt_cmpR op_eq (pv 3) (pe_ix ix_list (pe_fld (pv 0) rfl) (pv 2) (fun _ _ => rfl)) (nomark _)) (pss_one (ps_expr (pe_M D_Merge__advance K_Merge.cl (pv 0) (hr.mono (by decide)) pass0 (pa_cons (pv 2) pa_nil)))) pss_nil)))), ?_⟩
    obtain ⟨dx, ho⟩ := S.obj
    have fit := M.fit
    have mx : x ∈ rows.flatten := mem_names.mp hx
    refine ⟨_, rfl, m, C_Merge, dx, _, .ref g, rfl, ho, K_Merge.cl, K_Merge.no "gone" (by simp), rfl, _, rfl, g, _, rfl, DPut.k (k := Sum.inr x) S.hg (by rw [List.length_map]; exact Nat.lt_of_le_of_lt gl (by decide)), ?_⟩
    have S1 := S.dropped nx
    obtain ⟨as, el, f2⟩ := M.pl.l x (by rw [Mg.names_trips]; exact mx)
    rw [Mg.pl_trips x rows 0 fit.nd] at f2
    obtain ⟨ps, eps⟩ : ∃ ps, ps = Mg.plc 0 rows x := ⟨_, rfl⟩
    rw [← eps] at f2
    have rise : ps.Pairwise fun p q => p.1 < q.1 := by
      rw [eps]
      exact Mg.plc_rise rows 0
    have mem : ∀ i a, (i, a) ∈ ps ↔ ∃ r, rows[i]? = some r ∧ x ∈ r ∧ a = r.idxOf x := fun i a => by
      rw [eps, Mg.mem_plc rows 0 i a]
      constructor
      · rintro ⟨r, _, e, k⟩
        exact ⟨r, e, k⟩
      · rintro ⟨r, e, k⟩
        exact ⟨r, Nat.zero_le _, e, k⟩
    have lenp := f2_len f2
    have dg : ∀ {H'}, Same F0 H' → DGet H' P0 (.str x) (some (.ref (L x))) := fun s => by
      have v := val_map (L := L) (x := x) (xs := seen ((Mg.trips 0 rows).map (·.1)))
      rw [if_pos (by rw [Mg.names_trips]; exact hx)] at v
      exact v ▸ (.inl ⟨_, _, rd_same s M.pl.d, rfl, rfl⟩ : DGet _ P0 (kV (Sum.inr x)) _)
    obtain ⟨dx1, ho1⟩ := S1.obj
    refine ⟨_, rfl, m, C_Merge, dx1, _, .ref P0, rfl, ho1, K_Merge.cl, K_Merge.no "places" (by simp), rfl, _, rfl, P0, _, rfl, dg S1.same, ?_⟩
    refine ⟨L x, rfl, ⟨_, SqL.of (S1.same _ _ el)⟩, for_list (K := K) (a := L x) (xs := as.map V.ref) (fun j σ H' => ∃ v2 v3 hs' rdy', σ = [some (.ref m), some (.str x), v2, v3] ∧ MgS C_Merge m T0 P0 g hd b rows F0 H' (gone ++ [x]) hs' rdy' ∧
        Mg.Inv rows (gone ++ [x]) hs' rdy' (some x) (fun i => (∃ a, (i, a) ∈ ps.drop j) ∧ ∃ r h, rows[i]? = some r ∧ hs[i]? = some h ∧ r[h]? = some x) ∧ ∀ p ∈ ps.drop j, hs'[p.1]? = hs[p.1]?)
      ⟨_, _, hs, rdy, rfl, S1, I.weak fun i k => ⟨?_, k⟩, fun _ _ => rfl⟩ (fun j σ H' _ ⟨_, _, _, _, _, S2, _⟩ => SqL.of (S2.same _ _ el)) ?_ ?_⟩
    · obtain ⟨r, h, e1, e2, e3⟩ := k
      exact ⟨_, by rw [List.drop_zero, mem]; exact ⟨r, e1, List.mem_of_getElem? e3, rfl⟩⟩
    · rintro j y σ H' hy ⟨v2, v3, hs', rdy', rfl, S2, I2, ag⟩
      rw [List.getElem?_map] at hy
      obtain ⟨t, et, rfl⟩ : ∃ t, as[j]? = some t ∧ y = .ref t := by
        cases e : as[j]? with
        | none => rw [e] at hy; cases hy
        | some t => rw [e] at hy; exact ⟨t, rfl, (Option.some.inj hy).symm⟩
      obtain ⟨⟨i, a⟩, ep, ht⟩ := f2_getl f2 et
      have lj : j < ps.length := (List.getElem?_eq_some_iff.mp ep).1
      have dj : ps.drop j = (i, a) :: ps.drop (j + 1) := by
        rw [List.drop_eq_getElem_cons lj]
        congr 1
        exact (List.getElem?_eq_some_iff.mp ep).2
      obtain ⟨r, er, mr, ea⟩ := (mem i a).mp (List.mem_of_getElem? ep)
      have lih : i < hs'.length := by
        rw [I2.len]
        exact (List.getElem?_eq_some_iff.mp er).1
      obtain ⟨h, eh'⟩ : ∃ h, hs'[i]? = some h := ⟨_, List.getElem?_eq_getElem lih⟩
      have eh : hs[i]? = some h := by
        rw [← ag (i, a) (by rw [dj]; exact List.mem_cons_self ..)]
        exact eh'
      have later : ∀ p ∈ ps.drop (j + 1), p.1 ≠ i := fun p hp e => by
        have z := rise.drop (i := j)
        rw [dj] at z
        have := (List.pairwise_cons.mp z).1 p hp
        simp only at this
        omega
      have tt := S2.same _ _ ht
      refine ⟨t, [.int (i : Nat), .int (a : Nat)], rfl, SqT.of tt, rfl, .int (i : Nat), [.int (a : Nat)], rfl, .int (a : Nat), [], rfl, rfl, ?_⟩
      obtain ⟨dx2, ho2⟩ := S2.obj
      refine ⟨_, rfl, _, rfl, m, C_Merge, dx2, _, .ref hd, rfl, ho2, K_Merge.cl, K_Merge.no "heads" (by simp), rfl, _, rfl, hd, _, _, .int (h : Nat), rfl, rfl, SqL.of S2.hh, atI_nat (j := i) (by rw [List.getElem?_map, eh']; rfl), rfl, _, rfl, ?_⟩
      have nr := fit.nd r (List.mem_of_getElem? er)
      by_cases e : a = h
      · have ed : decide (V.int ((a : Nat) : Int) = V.int ((h : Nat) : Int)) = true := by
          rw [e]
          exact decide_eq_true rfl
        rw [ed]
        have ex : r[h]? = some x := by
          rw [← e, ea]
          exact Mg.at_idx mr
        refine iteT ⟨_, rfl, m, dx2, _, rfl, ho2, rfl, _, rfl, m, T0, P0, g, hd, b, rows, F0, L, gone ++ [x], hs', rdy', x, i, r, h, _, rfl, M, S2, I2, er, eh', ex, List.mem_append_right _ (by simp), fun H3 hs3 rdy3 S3 I3 ag3 => ?_⟩
        refine ⟨_, _, hs3, rdy3, rfl, S3, I3.weak fun k ⟨⟨⟨a', ha'⟩, k2⟩, k3⟩ => ⟨⟨a', ?_⟩, k2⟩, fun p hp => ?_⟩
        · rw [dj] at ha'
          rcases List.mem_cons.mp ha' with z | z
          · exact absurd (Prod.mk.inj z).1 k3
          · exact z
        · rw [ag3 p.1 (later p hp)]
          exact ag p (by rw [dj]; exact List.mem_cons_of_mem _ hp)
      · have ed : decide (V.int ((a : Nat) : Int) = V.int ((h : Nat) : Int)) = false := by
          rw [decide_eq_false_iff_not]
          intro z
          injection z with z
          omega
        rw [ed]
        refine iteF ?_
        refine ⟨_, _, hs', rdy', rfl, S2, I2.weak fun k ⟨⟨a', ha'⟩, r', h', f1, f2', f3⟩ => ⟨⟨a', ?_⟩, r', h', f1, f2', f3⟩, fun p hp => ag p (by rw [dj]; exact List.mem_cons_of_mem _ hp)⟩
        rw [dj] at ha'
        rcases List.mem_cons.mp ha' with z | z
        · exfalso
          obtain ⟨z1, z2⟩ := Prod.mk.inj z
          subst z1
          rw [er] at f1
          rw [eh] at f2'
          cases f1
          cases f2'
          exact e (ea.trans (Mg.idx_of nr f3))
        · exact z
    · rintro σ H' ⟨v2, v3, hs', rdy', rfl, S2, I2, ag⟩
      refine q H' hs' rdy' S2 (I2.done fun k ⟨⟨a, ha⟩, _⟩ => ?_)
      rw [List.length_map, lenp, List.drop_length] at ha
      cases ha
abbrev s_Merge_draw : Stmt := clsAt (topS 15) 1
theorem sc_Merge_draw : FnScope ["self", "names", "index", "name"] ["self"] (defScope s_Merge_draw) := ⟨rfl, rfl, rfl, by decide +kernel, rfl, by decide +kernel, by decide +kernel⟩
theorem ok_Merge_draw {f : Addr} {fd : FuncData} (F : Fun K "draw" "Merge.draw" s_Merge_draw f fd) {C_Merge : Addr} (T : Txt mg) (K_Merge : Kl K mg "Merge" C_Merge ["rows", "places", "gone", "heads", "behind", "ready"]) (D_Merge_drop : Mn P w K mg base CX0 3 C_Merge "drop" ["self", "name"] (spDrop C_Merge)) : FnOk P w K mg base CX0 4 f fd ["self"] (spDraw C_Merge) := by
  refine F.ok sc_Merge_draw (fun vs H Q E h => ?_) (fun cdv A outer s H vs Q E hr h => ?_)
  · obtain ⟨m, T0, P0, g, hd, b, rows, F0, L, gone, hs, rdy, rfl, _⟩ := h
    rfl
  · obtain ⟨m, T0, P0, g, hd, b, rows, F0, L, gone, hs, rdy, rfl, M, S, gnd, gsub, I, q⟩ := h
    refine ⟨_, pss_cons (ps_set (i := 1) sc_Merge_draw.nd rfl (Or.inl rfl) (pe_lstS pa_nil))
        (pss_cons (ps_while PassesOwn.never (pt_truth (pe_fld (pv 0) rfl) (by intro _; rfl)) (pss_cons (ps_set (i := 2) sc_Merge_draw.nd rfl (Or.inl rfl) (pe_op op_sub (pe_bits (pe_op op_and (pe_fld (pv 0) rfl) (pe_un un_neg (pe_fld (pv 0) rfl)))) pe_int))
        (pss_cons (ps_fldaug (pv 0) (pe_op op_sub (pe_fld (pv 0) rfl) pe_int) in_andI)
        (pss_cons (ps_set (i := 3) sc_Merge_draw.nd rfl (Or.inl rfl) (pe_ix ix_tup (pe_ix ix_tup (pe_fld (pv 0) rfl) (pv 2) (fun _ _ => rfl)) (pe_ix ix_list (pe_fld (pv 0) rfl) (pv 2) (fun _ _ => rfl)) (fun _ _ => rfl)))
        (pss_cons (ps_expr (pe_M D_Merge_drop K_Merge.cl (pv 0) (hr.mono (by decide)) pass0 (pa_cons (pv 3) pa_nil)))
        (pss_one (ps_expr (pe_bm PySem.F.plainAttrs_list PySem.F.slot_list_append PySem.F.type_list_append mt_append (pv 1) (pa_cons (pv 3) pa_nil)))))))))
        (pss_one (ps_ret (pv 1)))), ?_⟩
    have fit := M.fit
    refine ⟨by show 0 ≤ 100000; decide, fun HA l sA nl eA => ?_⟩
    have nF : F0 l = none := S.same.free nl
    have offs : l ≠ m ∧ l ≠ g ∧ l ≠ hd ∧ l ≠ b := by
      obtain ⟨dx, e1⟩ := S.obj
      obtain ⟨bs, e4, _⟩ := S.hb
      exact ⟨Ne.symm (ne_of_none e1 nl), Ne.symm (ne_of_none S.hg nl), Ne.symm (ne_of_none S.hh nl), Ne.symm (ne_of_none e4 nl)⟩
    obtain ⟨n1, n2, n3, n4⟩ := offs
    have SA : MgS C_Merge m T0 P0 g hd b rows F0 HA gone hs rdy := by
      obtain ⟨dx, e1⟩ := S.obj
      obtain ⟨bs, e4, k⟩ := S.hb
      exact ⟨S.same.trans sA, S.off, S.gb, ⟨dx, sA _ _ e1⟩, sA _ _ S.hg, sA _ _ S.hh, bs, sA _ _ e4, k⟩
    refine ⟨fun k σ H' => ∃ v2 v3 ns hs' rdy', σ = [some (.ref m), some (.ref l), v2, v3] ∧ MgS C_Merge m T0 P0 g hd b rows F0 H' (gone ++ ns) hs' rdy' ∧ Mg.Inv rows (gone ++ ns) hs' rdy' none (fun _ => False) ∧ H' l = some (.lst (ns.map V.str)) ∧
        (gone ++ ns).Nodup ∧ (∀ x ∈ gone ++ ns, x ∈ names rows) ∧ Mg.drawn (Mg.alive gone rows) = ns ++ Mg.drawn (Mg.alive (gone ++ ns) rows) ∧ k + (gone ++ ns).length = (names rows).length,
      ⟨(names rows).length - gone.length, none, none, [], hs, rdy, rfl, by rw [List.append_nil]; exact SA, by rw [List.append_nil]; exact I, eA, by rw [List.append_nil]; exact gnd, by rw [List.append_nil]; exact gsub, by rw [List.append_nil]; rfl, ?_⟩, ?_⟩
    · rw [List.append_nil]
      have := nodup_sub gnd gsub
      omega
    rintro k σ H' ⟨v2, v3, ns, hs', rdy', rfl, S2, I2, eL, nd2, sub2, dr, ek⟩
    obtain ⟨dx, ho⟩ := S2.obj
    refine ⟨_, rfl, m, C_Merge, dx, _, .int rdy', rfl, ho, K_Merge.cl, K_Merge.no "ready" (by simp), rfl, (((rdy' : Nat) : Int) != 0), rfl, ?_⟩
    by_cases z : rdy' = 0
    · have ez : (((rdy' : Nat) : Int) != 0) = false := by
        rw [z]
        rfl
      rw [ez]
      refine iteF ?_
      have e0 : Mg.drawn (Mg.alive (gone ++ ns) rows) = [] := Mg.drawn_none (I2.pick_none z)
      rw [e0, List.append_nil] at dr
      refine ⟨_, rfl, ?_⟩
      subst z
      rw [← dr] at S2 I2 eL nd2 sub2
      exact q H' l hs' S2 I2 eL nl nd2 sub2
    · have ez : (((rdy' : Nat) : Int) != 0) = true := by
        simp [z]
      rw [ez]
      obtain ⟨kk, r', b1, b2, b3, b4, b5⟩ := low_of rdy' z
      obtain ⟨x, r, h, pk, er, eh, ex, gx, mx, zx⟩ := I2.pick_low b1 b2
      have mn : x ∈ names rows := mem_names.mpr mx
      refine iteT ⟨fun σ' H2 => ∃ v2 v3 ns hs' rdy', σ' = [some (.ref m), some (.ref l), v2, v3] ∧ MgS C_Merge m T0 P0 g hd b rows F0 H2 (gone ++ ns) hs' rdy' ∧ Mg.Inv rows (gone ++ ns) hs' rdy' none (fun _ => False) ∧ H2 l = some (.lst (ns.map V.str)) ∧
        (gone ++ ns).Nodup ∧ (∀ x ∈ gone ++ ns, x ∈ names rows) ∧ Mg.drawn (Mg.alive gone rows) = ns ++ Mg.drawn (Mg.alive (gone ++ ns) rows) ∧ k + (gone ++ ns).length = (names rows).length + 1, ?_, ?_⟩
      · rintro σ' H2 ⟨w2, w3, ns2, hs2, rdy2, rfl, a1, a2, a3, a4, a5, a6, a7⟩
        have := nodup_sub a4 a5
        exact ⟨k - 1, by omega, w2, w3, ns2, hs2, rdy2, rfl, a1, a2, a3, a4, a5, a6, by omega⟩
      · refine ⟨_, rfl, m, C_Merge, dx, _, .int rdy', rfl, ho, K_Merge.cl, K_Merge.no "ready" (by simp), rfl, _, rfl, m, C_Merge, dx, _, .int rdy', rfl, ho, K_Merge.cl, K_Merge.no "ready" (by simp), rfl, _, rfl, _, _, rfl, rfl, _, rfl, _, _, rfl, rfl, ?_⟩
        have e1 : ((Builtin.Int.intBits (Builtin.bitAnd ((rdy' : Nat) : Int) (-((rdy' : Nat) : Int))) : Nat) : Int) - 1 = (kk : Nat) := by
          rw [b3, bits_pow]
          omega
        dsimp only
        rw [e1]
        refine ⟨_, rfl, m, C_Merge, dx, _, _, rfl, ho, K_Merge.cl, K_Merge.no "ready" (by simp), rfl, _, rfl, m, C_Merge, dx, _, .int rdy', rfl, ho, K_Merge.cl, K_Merge.no "ready" (by simp), rfl, _, _, rfl, rfl, _, _, rfl, rfl, dx, _, ho, (by show 6 < 1000; decide), ?_⟩
        rw [b4]
        have S3 := S2.ready (dx := dx) r'
        obtain ⟨dx3, ho3⟩ := S3.obj
        obtain ⟨as, t1, t2, t3⟩ := M.at_
        have hil : kk < rows.length := (List.getElem?_eq_some_iff.mp er).1
        obtain ⟨ar, ea⟩ : ∃ ar, as[kk]? = some ar := ⟨_, List.getElem?_eq_getElem (by rw [t2]; exact hil)⟩
        refine ⟨_, rfl, m, C_Merge, dx3, _, .ref T0, rfl, ho3, K_Merge.cl, K_Merge.no "rows" (by simp), rfl, _, rfl, T0, _, _, .ref ar, rfl, rfl, SqT.of (S3.same _ _ t1), atI_nat (j := kk) (by rw [List.getElem?_map, ea]; rfl),
          _, rfl, m, C_Merge, dx3, _, .ref hd, rfl, ho3, K_Merge.cl, K_Merge.no "heads" (by simp), rfl, _, rfl, hd, _, _, .int (h : Nat), rfl, rfl, SqL.of S3.hh, atI_nat (j := kk) (by rw [List.getElem?_map, eh]; rfl), ar, _, _, .str x, rfl, rfl, .inl (rd_same S3.same (t3 kk ar r ea er)), atI_nat (j := h) (by rw [List.getElem?_map, ex]; rfl), ?_⟩
        have eL3 : (upd H' m (HO.ins C_Merge dx (putF "ready" (.int (r' : Nat)) (flds T0 P0 g hd b rdy')))) l = some (.lst (ns.map V.str)) := by rw [upd_ne n1]; exact eL
        have S4 := S3.hold eL3 n1 n2 n3 n4
        have M4 : MgF (upd F0 l (.lst (ns.map V.str))) T0 P0 rows L := mgF_same (same_new nF) M
        have lose := I2.lose er eh ex gx zx b1 b5
        have gl : (gone ++ ns).length ≤ 100000 := Nat.le_trans (nodup_sub nd2 sub2) (Nat.le_trans (seen_len _) fit.all)
        refine ⟨_, rfl, m, dx3, _, rfl, ho3, rfl, _, rfl, m, T0, P0, g, hd, b, rows, _, L, gone ++ ns, hs', r', x, rfl, M4, S4, mn, gx, gl, I2.drop r' lose, fun H5 hs5 rdy5 S5 I5 => ?_⟩
        have eL5 : H5 l = some (.lst (ns.map V.str)) := S5.same _ _ upd_same
        have nl2 : ns.length ≤ 100000 := by
          rw [List.length_append] at gl
          omega
        refine ⟨_, rfl, .inl ⟨rfl, _, SqL.of eL5⟩, _, rfl, l, _, _, rfl, rfl, eL5, (by rw [List.length_map]; exact Nat.lt_of_le_of_lt nl2 (by decide)), ?_⟩
        have S6 := (S5.frame ((same_new nF).trans S5.same) S.off).beside (o := .lst (ns.map V.str ++ [.str x])) n1 n2 n3 n4 nF
        rw [List.append_assoc] at S6 I5
        refine ⟨_, _, ns ++ [x], hs5, rdy5, rfl, S6, I5, by rw [upd_same, List.map_append]; rfl, ?_, ?_, ?_, ?_⟩
        · rw [← List.append_assoc]
          exact List.nodup_append.mpr ⟨nd2, by simp, fun a ha c hc e => by
            have : c = x := by simpa using hc
            rw [e, this] at ha
            exact gx ha⟩
        · intro y hy
          rw [← List.append_assoc] at hy
          rcases List.mem_append.mp hy with w | w
          · exact sub2 y w
          · have : y = x := by simpa using w
            rw [this]
            exact mn
        · rw [dr, Mg.drawn_some pk, Mg.without_alive, List.append_assoc, List.append_assoc]
          rfl
        · rw [← List.append_assoc, List.length_append, List.length_singleton]
          omega
end
end K08

set_option Elab.async false
set_option linter.all false
set_option maxRecDepth 100000
set_option maxHeartbeats 4000000
namespace K08
open PySem Nb
open L2 hiding del del_ne del_same
section
variable {P : Program} {w : World} {K : PySem.W.Frag} {mg : Str → Option Value} {base : Heap} {TL : List (Addr × Str)}
abbrev s_places : Stmt := topS 20
theorem sc_places : FnScope ["rows", "places", "index", "row", "at", "name"] ["rows"] (defScope s_places) := ⟨rfl, rfl, rfl, by decide +kernel, rfl, by decide +kernel, by decide +kernel⟩
theorem ok_places {f : Addr} {fd : FuncData} (F : Fun K "_places" "_places" s_places f fd) (T : Txt mg) : FnOk P w K mg base CX0 1 f fd ["rows"] (spPlaces) := by
  refine F.ok sc_places (fun vs H Q E h => ?_) (fun cdv A outer s H vs Q E hr h => ?_)
  · obtain ⟨T0, rows, rfl, _⟩ := h
    rfl
  · obtain ⟨T0, rows, rfl, hR, fit, q⟩ := h
    refine ⟨_, pss_cons (ps_set (i := 1) sc_places.nd rfl (Or.inl rfl) pe_dnewS)
        (pss_cons (ps_for PassesOwn.never rfl (pi_enumT (by rfl) T.enumerate (pa_cons (pv 0) pa_nil)) (pg_tup rfl (pgs_cons (pg_name (i := 2) sc_places.nd rfl (Or.inl rfl)) (pgs_cons (pg_name (i := 3) sc_places.nd rfl (Or.inl rfl)) pgs_nil))) (pss_one (ps_for PassesOwn.never rfl (pi_enumT (by rfl) T.enumerate (pa_cons (pv 3) pa_nil)) (pg_tup rfl (pgs_cons (pg_name (i := 4) sc_places.nd rfl (Or.inl rfl)) (pgs_cons (pg_name (i := 5) sc_places.nd rfl (Or.inl rfl)) pgs_nil))) (pss_one (ps_expr (pe_bm PySem.F.plainAttrs_list PySem.F.slot_list_append PySem.F.type_list_append mt_append (pe_dsetd (pv 1) (pv 5) (pe_lstS pa_nil) ⟨rfl, rfl, rfl, rfl⟩) (pa_cons (pe_tupS (pa_cons (pv 2) (pa_cons (pv 4) pa_nil))) pa_nil)))))))
        (pss_one (ps_ret (pv 1)))), ?_⟩
    obtain ⟨as, t1, t2, t3⟩ := id hR
    refine fun HA D sA nD eD => ?_
    have P0 : Plm H HA D (fun _ => D) [] := ⟨sA, nD, eD, fun x hx => (nomatch hx), fun x hx => (nomatch hx)⟩
    refine ⟨_, rfl, T0, _, rfl, SqT.of (sA _ _ t1), for_it (walk_enumT (K := K) (a := T0) (xs := as.map V.ref)) (fun i σ H' => ∃ v2 v3 v4 v5 L, σ = [some (.ref T0), some (.ref D), v2, v3, v4, v5] ∧ Plm H H' D L (Mg.trips 0 (rows.take i)))
      ⟨_, _, _, _, _, rfl, by rw [List.take_zero]; exact P0⟩ (fun i σ H' _ ⟨_, _, _, _, _, _, p⟩ => SqT.of (p.same _ _ t1)) ?_ ?_⟩
    · rintro i y σ H1 H2 hi ⟨v2, v3, v4, v5, L, rfl, p⟩ ⟨t, y1, y2, rfl, new, rfl, e1, e2⟩
      have ey1 : y1 = .int (i : Nat) := (Option.some.inj e1).symm
      subst ey1
      have e2 : (as.map V.ref)[i]? = some y2 := e2
      rw [List.getElem?_map] at e2
      obtain ⟨a, ea, rfl⟩ : ∃ a, as[i]? = some a ∧ y2 = .ref a := by
        cases e : as[i]? with
        | none => rw [e] at e2; cases e2
        | some a => rw [e] at e2; exact ⟨a, rfl, (Option.some.inj e2).symm⟩
      have hil : i < rows.length := by
        rw [← t2]
        exact (List.getElem?_eq_some_iff.mp ea).1
      have er : rows[i]? = some rows[i] := List.getElem?_eq_getElem hil
      obtain ⟨r, hr_⟩ : ∃ r, rows[i]? = some r := ⟨_, er⟩
      have s2 := same_new (o := HO.tup [.int (i : Nat), .ref a]) new
      have ra := t3 i a r ea hr_
      have p2 : Plm H (upd H1 t (.tup [.int (i : Nat), .ref a])) D L (Mg.trips 0 (rows.take i)) := ⟨p.same.trans s2, p.nd, s2 _ _ p.d, fun x hx => let ⟨n, bs, e, f⟩ := p.l x hx; ⟨n, bs, s2 _ _ e, f2_same s2 f⟩, p.inj⟩
      refine ⟨t, [.int (i : Nat), .ref a], rfl, .inl (.inl upd_same), rfl, .int (i : Nat), [.ref a], rfl, .ref a, [], rfl, rfl, ?_⟩
      refine ⟨_, rfl, a, _, rfl, .inl (rd_same p2.same ra), for_it (walk_enumT (K := K) (a := a) (xs := r.map V.str)) (fun j σ H' => ∃ v4 v5 L, σ = [some (.ref T0), some (.ref D), some (.int (i : Nat)), some (.ref a), v4, v5] ∧ Plm H H' D L (Mg.trips 0 (rows.take i) ++ Mg.row3 i (r.take j)))
        ⟨_, _, _, rfl, by rw [List.take_zero]; show Plm _ _ _ _ (_ ++ []); rw [List.append_nil]; exact p2⟩ (fun j σ H' _ ⟨_, _, _, _, p⟩ => .inl (rd_same p.same ra)) ?_ ?_⟩
      · rintro j y σ H3 H4 hj ⟨w4, w5, L3, rfl, p3⟩ ⟨u, z1, z2, rfl, newu, rfl, f1, f2⟩
        have ez1 : z1 = .int (j : Nat) := (Option.some.inj f1).symm
        subst ez1
        have f2 : (r.map V.str)[j]? = some z2 := f2
        rw [List.getElem?_map] at f2
        obtain ⟨x, ex, rfl⟩ : ∃ x, r[j]? = some x ∧ z2 = .str x := by
          cases e : r[j]? with
          | none => rw [e] at f2; cases f2
          | some x => rw [e] at f2; exact ⟨x, rfl, (Option.some.inj f2).symm⟩
        have s4 := same_new (o := HO.tup [.int (j : Nat), .str x]) newu
        have p4 : Plm H (upd H3 u (.tup [.int (j : Nat), .str x])) D L3 (Mg.trips 0 (rows.take i) ++ Mg.row3 i (r.take j)) := ⟨p3.same.trans s4, p3.nd, s4 _ _ p3.d, fun x hx => let ⟨n, bs, e, f⟩ := p3.l x hx; ⟨n, bs, s4 _ _ e, f2_same s4 f⟩, p3.inj⟩
        obtain ⟨ts, ets⟩ : ∃ ts, ts = Mg.trips 0 (rows.take i) ++ Mg.row3 i (r.take j) := ⟨_, rfl⟩
        have few : ts.length ≤ 100000 := by
          have n1 : ts.length = ((rows.take i).flatten ++ r.take j).length := by
            rw [ets, List.length_append, List.length_append]
            have m1 := congrArg List.length (Mg.names_trips (rows.take i) 0)
            have m2 : (Mg.row3 i (r.take j)).length = (r.take j).length := by
              unfold Mg.row3
              rw [List.length_map, List.length_zipIdx]
            rw [List.length_map] at m1
            omega
          have sub : ((rows.take i).flatten ++ r.take j).length ≤ rows.flatten.length := by
            have e := List.take_append_drop i rows
            have hd : rows.drop i = r :: rows.drop (i + 1) := by
              obtain ⟨l, e⟩ := List.getElem?_eq_some_iff.mp hr_
              rw [List.drop_eq_getElem_cons l, e]
            rw [hd] at e
            have e2 := congrArg List.flatten e
            rw [List.flatten_append, List.flatten_cons] at e2
            have e3 := congrArg List.length e2
            rw [List.length_append, List.length_append] at e3
            have tl : (r.take j).length ≤ r.length := by rw [List.length_take]; omega
            rw [List.length_append]
            omega
          rw [n1]
          exact Nat.le_trans sub fit.all
        have few2 : (seen (ts.map (·.1))).length < sizeLine := by
          have := seen_len (ts.map (·.1))
          rw [List.length_map] at this
          exact Nat.lt_of_le_of_lt (Nat.le_trans this few) (by decide)
        rw [← ets] at p4
        have goal4 : Mg.trips 0 (rows.take i) ++ Mg.row3 i (r.take (j + 1)) = ts ++ [(x, i, j)] := by rw [row3_snoc ex, ets, List.append_assoc]
        refine ⟨u, [.int (j : Nat), .str x], rfl, .inl (.inl upd_same), rfl, .int (j : Nat), [.str x], rfl, .str x, [], rfl, rfl, ?_⟩
        obtain ⟨H5, e5⟩ : ∃ H5, H5 = upd H3 u (HO.tup [.int (j : Nat), .str x]) := ⟨_, rfl⟩
        rw [← e5] at p4 ⊢
        refine ⟨_, rfl, D, rfl, .inl ⟨_, .inl p4.d⟩, _, rfl, (by show 0 ≤ 100000; decide), fun H6 l0 s6 n6 e6 => ?_⟩
        have v := val_map (L := L3) (x := x) (xs := seen (ts.map (·.1)))
        refine ⟨_, Sum.inr x, s6 _ _ p4.d, rfl, (by rw [List.length_map]; exact few2), fun w hw => ?_, fun hw => ?_⟩
        · have mx : x ∈ ts.map (·.1) := by
            apply Classical.byContradiction
            intro k
            rw [if_neg (fun z => k (mem_seen.mp z))] at v
            rw [v] at hw
            cases hw
          rw [if_pos (mem_seen.mpr mx)] at v
          rw [v] at hw
          cases hw
          obtain ⟨_, as1, ea1, _⟩ := p4.l x mx
          refine ⟨.inl ⟨rfl, _, SqL.of (s6 _ _ ea1)⟩, _, rfl, _, rfl, (by show 2 ≤ 100000; decide), fun H7 t7 s7 n7 e7 => ?_⟩
          obtain ⟨as2, ea2, l2, p7⟩ := p4.more mx (s6.trans s7) e7 (s6.free n7)
          refine ⟨L3 x, _, _, rfl, rfl, ea2, (by rw [List.length_map]; exact Nat.lt_of_le_of_lt (Nat.le_trans l2 few) (by decide)), _, _, L3, rfl, ?_⟩
          rw [goal4]
          exact p7
        · have mx : x ∉ ts.map (·.1) := fun k => by
            rw [if_pos (mem_seen.mpr k)] at v
            rw [v] at hw
            cases hw
          have eD6 : l0 ≠ D := fun z => by
            have := p4.d
            rw [← z, n6] at this
            cases this
          refine ⟨.inl ⟨rfl, _, SqL.of (by rw [upd_ne eD6]; exact e6)⟩, _, rfl, _, rfl, (by show 2 ≤ 100000; decide), fun H7 t7 s7 n7 e7 => ?_⟩
          obtain ⟨el0, p7⟩ := p4.fresh mx s6 n6 e6 s7 e7 n7
          refine ⟨l0, _, _, rfl, rfl, el0, (by show 0 < sizeLine; decide), _, _, (fun y => if y = x then l0 else L3 y), rfl, ?_⟩
          rw [goal4]
          exact p7
      · rintro σ H3 ⟨w4, w5, L3, rfl, p3⟩
        refine ⟨_, _, _, _, L3, rfl, ?_⟩
        rw [List.length_map, List.take_length] at p3
        rw [Mg.trips_take rows 0 i r hr_, Nat.zero_add]
        exact p3
    · rintro σ H1 ⟨v2, v3, v4, v5, L, rfl, p⟩
      refine ⟨_, rfl, ?_⟩
      rw [List.length_map, t2, List.take_length] at p
      exact q H1 D L p
abbrev s_Merge___init : Stmt := clsAt (topS 15) 0
theorem sc_Merge___init : FnScope ["self", "rows", "name", "index", "at"] ["self", "rows"] (defScope s_Merge___init) := ⟨rfl, rfl, rfl, by decide +kernel, rfl, by decide +kernel, by decide +kernel⟩
def sx_Merge___init_0 : Scope := { kind := .function, names := [(".0", .local), ("index", .local), ("at", .local)], isGenerator := false, isCoroutine := false, more := [] }
def sx_Merge___init_1 : Scope := { kind := .function, names := [(".0", .local), ("name", .local), ("len", .globalImplicit), ("self", .cell)], isGenerator := false, isCoroutine := false, more := [] }
theorem ok_Merge___init {f : Addr} {fd : FuncData} (F : Fun K "__init__" "Merge.__init__" s_Merge___init f fd) {C_Merge : Addr} (T : Txt mg) (K_Merge : Kl K mg "Merge" C_Merge ["rows", "places", "gone", "heads", "behind", "ready"]) (D_Merge__prepare : Mn P w K mg base CX0 1 C_Merge "_prepare" ["self", "name"] (spPrepare C_Merge)) (D_places : Dn P w K mg base CX0 1 "_places" ["rows"] (spPlaces)) : FnOk P w K mg base CX0 2 f fd ["self", "rows"] (spMInit C_Merge) := by
  refine F.ok sc_Merge___init (fun vs H Q E h => ?_) (fun cdv A outer s H vs Q E hr h => ?_)
  · obtain ⟨m, dx, T0, rows, rfl, _⟩ := h
    rfl
  · obtain ⟨m, dx, T0, rows, rfl, ho, hR, fit, q⟩ := h
    refine ⟨_, pss_cons (ps_fld (pv 0) (pv 1) rfl)
        (pss_cons (ps_fld (pv 0) (pe_D D_places (hr.mono (by decide)) (by rfl) pass0 (pa_cons (pv 1) pa_nil)) rfl)
        (pss_cons (ps_fld (pv 0) pe_dnewS rfl)
        (pss_cons (ps_fld (pv 0) (pe_op op_repS (pe_lstS (pa_cons pe_int pa_nil)) (pe_callB call_len_seq (by rfl) T.len PySem.boot_len (pa_cons (pv 1) pa_nil))) rfl)
        (pss_cons (ps_fld (pv 0) (pe_lock (pe_dc (own := [("name", 2)]) (g := gName 2) (tt := tYes) rfl sc_Merge___init.nd (pi_keys (pe_fld (pv 0) rfl)) (blkOk_by (N := ["self", "rows", "name", "index", "at"]) (sc := (defScope s_Merge___init)) (by decide +kernel)) (fun _ _ _ _ _ => (pg_name (i := 2) sc_Merge___init.nd rfl (Or.inl rfl))) (fun _ _ _ _ _ => pts_nil) (fun _ _ _ _ _ => (pv 2)) (fun _ _ _ _ _ => (pe_callB (call_len_seqK (K := K) rfl) (by rfl) T.len PySem.boot_len (pa_cons (pe_lc (own := [("index", 3), ("at", 4)]) rfl sc_Merge___init.nd (show PI _ _ _ (iList K _) from pi_list (pe_dget (hu_of hr) (pe_fldK (K := K) rfl (pv 0) rfl) (pv 2) (fun _ _ => rfl))) (blkOk_by (N := ["self", "rows", "name", "index", "at"]) (sc := sx_Merge___init_1) (by decide +kernel)) (fun _ _ _ _ _ => (show PG _ _ (gTup K 2 (gCons (gName 3) (gCons (gName 4) gNil))) from pg_tup rfl (pgs_cons (pg_name (i := 3) sc_Merge___init.nd rfl (Or.inl rfl)) (pgs_cons (pg_name (i := 4) sc_Merge___init.nd rfl (Or.inl rfl)) pgs_nil)))) (fun _ _ _ _ _ => (pts_one (pt_cmpR op_gt (pv 4) pe_int (nomark _)))) (fun _ _ _ _ _ => (pv 4))) pa_nil))))) rfl)
        (pss_cons (ps_fld (pv 0) pe_int rfl)
        (pss_one (ps_lock (ps_for PassesOwn.never rfl (pi_keys (pe_fld (pv 0) rfl)) (pg_name (i := 2) sc_Merge___init.nd rfl (Or.inl rfl)) (pss_one (ps_expr (pe_M D_Merge__prepare K_Merge.cl (pv 0) (hr.mono (by decide)) pass0 (pa_cons (pv 2) pa_nil)))))))))))), ?_⟩
    obtain ⟨as, t1, t2, t3⟩ := id hR
    have KI : ∀ f ∈ (["rows", "places", "gone", "heads", "behind", "ready"] : List Str), NoAttr K C_Merge f := K_Merge.no
    -- rows
    refine ⟨_, rfl, _, rfl, m, C_Merge, dx, _, rfl, ho, K_Merge.cl, K_Merge.no "rows" (by simp), (by show 0 < 1000; decide), ?_⟩
    obtain ⟨H1, e1⟩ : ∃ H1, H1 = upd H m (.ins C_Merge dx (putF "rows" (.ref T0) [])) := ⟨_, rfl⟩
    rw [← e1]
    have d1 : Nb.del H1 m = Nb.del H m := by rw [e1]; exact del_upd
    have o1 : H1 m = some (.ins C_Merge dx [("rows", .ref T0)]) := by rw [e1]; exact upd_same
    have R1 : RowsAt H1 T0 rows := rows_same del_same (d1 ▸ hR)
    -- places
    refine ⟨_, rfl, T0, rows, rfl, R1, fit, fun H2 P0 L p2 => ?_⟩
    have o2 : H2 m = some (.ins C_Merge dx [("rows", .ref T0)]) := p2.same _ _ o1
    refine ⟨_, rfl, m, C_Merge, dx, _, rfl, o2, K_Merge.cl, K_Merge.no "places" (by simp), (by show 1 < 1000; decide), ?_⟩
    obtain ⟨H3, e3⟩ : ∃ H3, H3 = upd H2 m (.ins C_Merge dx (putF "places" (.ref P0) [("rows", .ref T0)])) := ⟨_, rfl⟩
    rw [← e3]
    have d3 : Nb.del H3 m = Nb.del H2 m := by rw [e3]; exact del_upd
    have o3 : H3 m = some (.ins C_Merge dx [("rows", .ref T0), ("places", .ref P0)]) := by rw [e3]; exact upd_same
    -- gone
    refine fun H4 g s4 n4 e4 => ?_
    refine ⟨_, rfl, m, C_Merge, dx, _, rfl, s4 _ _ o3, K_Merge.cl, K_Merge.no "gone" (by simp), (by show 2 < 1000; decide), ?_⟩
    obtain ⟨H5, e5⟩ : ∃ H5, H5 = upd H4 m (.ins C_Merge dx (putF "gone" (.ref g) [("rows", .ref T0), ("places", .ref P0)])) := ⟨_, rfl⟩
    rw [← e5]
    have gm : g ≠ m := fun z => by
      rw [z, o3] at n4
      cases n4
    have d5 : Nb.del H5 m = Nb.del H4 m := by rw [e5]; exact del_upd
    have o5 : H5 m = some (.ins C_Merge dx [("rows", .ref T0), ("places", .ref P0), ("gone", .ref g)]) := by rw [e5]; exact upd_same
    have g5 : H5 g = some (.dK []) := by
      rw [e5, upd_ne gm]
      exact e4
    -- what stands still
    obtain ⟨F, eF⟩ : ∃ F, F = Nb.del H3 m := ⟨_, rfl⟩
    have sF : Same (Nb.del H m) F := by
      rw [eF, d3, ← d1]
      exact same_off (H0 := H) p2.same
    have pF : Pl F P0 L (Mg.trips 0 rows) := by
      have off : ∀ {a : Addr} {o : HO}, H2 a = some o → (∀ C dx fs, o ≠ .ins C dx fs) → F a = some o := fun {a o} k n => by
        have : a ≠ m := fun z => by
          rw [z, o2] at k
          cases k
          exact n _ _ _ rfl
        rw [eF, d3, Nb.del_ne this]
        exact k
      refine ⟨.inl (off p2.d (fun _ _ _ z => by cases z)), fun x hx => ?_⟩
      obtain ⟨_, bs, k1, k2⟩ := p2.l x hx
      exact ⟨bs, off k1 (fun _ _ _ z => by cases z), f2_imp (fun a q k => off k (fun _ _ _ z => by cases z)) k2⟩
    have dF : F P0 = some (.dK ((names rows).map fun x => ((Sum.inr x : Key), V.ref (L x)))) := by
      have k := p2.d
      rw [Mg.names_trips] at k
      have : P0 ≠ m := fun z => by
        rw [z, o2] at k
        cases k
      rw [eF, d3, Nb.del_ne this]
      exact k
    have MF : MgF F T0 P0 rows L := ⟨fit, rows_same sF hR, pF⟩
    have F5 : Same F H5 := by
      rw [eF]
      refine (same_off (H0 := H) (m := m) s4).trans ?_
      rw [← d5]
      exact del_same
    have fm : F m = none := by rw [eF]; exact Nb.del_at
    have fg : F g = none := by rw [eF, Nb.del_ne gm]; exact n4
    -- heads
    refine ⟨(by show 1 ≤ 100000; decide), fun H6 l6 s6 n6 e6 => ?_⟩
    refine ⟨_, rfl, T0, _, rfl, .inr (SqT.of (s6 _ _ (F5 _ _ (sF _ _ t1)))), l6, as.length, [.int 0], rfl, by rw [List.length_map], e6, ?_, ?_, fun H7 hd s7 n7 e7 => ?_⟩
    · rw [t2]
      exact Nat.le_trans fit.few (by decide)
    · show 1 * as.length ≤ 100000
      rw [t2]
      have := fit.few
      omega
    have s67 := s6.trans s7
    refine ⟨_, rfl, m, C_Merge, dx, _, rfl, s67 _ _ o5, K_Merge.cl, K_Merge.no "heads" (by simp), (by show 3 < 1000; decide), ?_⟩
    obtain ⟨H8, e8⟩ : ∃ H8, H8 = upd H7 m (.ins C_Merge dx (putF "heads" (.ref hd) [("rows", .ref T0), ("places", .ref P0), ("gone", .ref g)])) := ⟨_, rfl⟩
    rw [← e8]
    have n7' : H5 hd = none := s6.free n7
    have hm : hd ≠ m := fun z => by
      rw [z, o5] at n7'
      cases n7'
    have hg : hd ≠ g := fun z => by
      rw [z, g5] at n7'
      cases n7'
    have o8 : H8 m = some (.ins C_Merge dx [("rows", .ref T0), ("places", .ref P0), ("gone", .ref g), ("heads", .ref hd)]) := by rw [e8]; exact upd_same
    have g8 : H8 g = some (.dK []) := by
      rw [e8, upd_ne gm]
      exact s67 _ _ g5
    have h8 : H8 hd = some (.lst ((List.replicate rows.length 0).map fun n => V.int (n : Nat))) := by
      rw [e8, upd_ne hm, e7, t2]
      congr 1
      congr 1
      rw [List.map_replicate]
      have : ∀ n, (List.replicate n [V.int 0]).flatten = List.replicate n (V.int ((0 : Nat) : Int)) := by
        intro n
        induction n with
        | zero => rfl
        | succ n ih =>
          rw [List.replicate_succ, List.flatten_cons, ih]
          rfl
      exact this _
    have F8 : Same F H8 := by
      rw [e8]
      exact same_at (F5.trans s67) fm
    have fh : F hd = none := F5.free n7'
    -- behind: under the lock
    have lP : H8 P0 = some (.dK ((names rows).map fun x => ((Sum.inr x : Key), V.ref (L x)))) := F8 _ _ dF
    refine ⟨P0, _, lP, trivial, fun od => ?_⟩
    obtain ⟨kvs, ekv⟩ : ∃ kvs, kvs = (names rows).map fun x => ((Sum.inr x : Key), V.ref (L x)) := ⟨_, rfl⟩
    rw [← ekv] at lP dF ⊢
    obtain ⟨H9, e9⟩ : ∃ H9, H9 = upd H8 P0 (.frz od (.dK kvs)) := ⟨_, rfl⟩
    rw [← e9]
    have Pm : P0 ≠ m := fun z => by rw [z, fm] at dF; cases dF
    have Pg : P0 ≠ g := fun z => by rw [z, fg] at dF; cases dF
    have Ph : P0 ≠ hd := fun z => by rw [z, fh] at dF; cases dF
    have o9 : H9 m = some (.ins C_Merge dx [("rows", .ref T0), ("places", .ref P0), ("gone", .ref g), ("heads", .ref hd)]) := by rw [e9, upd_ne (Ne.symm Pm)]; exact o8
    have P9 : H9 P0 = some (.frz od (.dK kvs)) := by rw [e9]; exact upd_same
    have keep9 : ∀ {a : Addr} {o : HO}, H8 a = some o → a ≠ P0 → H9 a = some o := fun {a o} k n => by rw [e9, upd_ne n]; exact k
    have len : kvs.length = (names rows).length := by rw [ekv, List.length_map]
    have lst9 : ∀ x ∈ names rows, ∃ bs : List Addr, H9 (L x) = some (.lst (bs.map V.ref)) ∧ F2 (fun a (p : Nat × Nat) => H9 a = some (.tup [.int p.1, .int p.2])) bs (Mg.plc 0 rows x) := fun x hx => by
      obtain ⟨bs, k1, k2⟩ := pF.l x (by rw [Mg.names_trips]; exact mem_names.mp hx)
      rw [Mg.pl_trips x rows 0 fit.nd] at k2
      have ne : ∀ {a : Addr} {o : HO}, F a = some o → (∀ kvs, o ≠ .dK kvs) → a ≠ P0 := fun {a o} k n z => by
        rw [z, dF] at k
        cases k
        exact n _ rfl
      exact ⟨bs, keep9 (F8 _ _ k1) (ne k1 fun _ z => by cases z), f2_imp (fun a q k => keep9 (F8 _ _ k) (ne k fun _ z => by cases z)) k2⟩
    have small : (names rows).length ≤ 100000 := Nat.le_trans (seen_len _) fit.all
    refine ⟨_, rfl, m, C_Merge, dx, _, .ref P0, rfl, o9, K_Merge.cl, K_Merge.no "places" (by simp), rfl, P0, od, rfl, .inl ⟨kvs, P9, fun b hb => ?_⟩⟩
    refine dcM (walk_keys (kvs := kvs)) (fun i => Sum.inr ((names rows).getD i "")) (fun i => .int (Mg.behN rows (List.replicate rows.length 0) ((names rows).getD i "") : Nat)) (fun i j l1 l2 e => ?_) (by rw [len]; exact small) hb (fun H' s => s _ _ P9) ?_ ?_
    · have e : (names rows).getD i "" = (names rows).getD j "" := by injection e
      rw [len] at l2
      have nd := nodup_seen rows.flatten
      have l1' : i < (names rows).length := by omega
      rw [List.getD_eq_getElem?_getD, List.getD_eq_getElem?_getD, List.getElem?_eq_getElem l1', List.getElem?_eq_getElem l2] at e
      have := (List.getElem_inj nd).mp (show (names rows)[i] = (names rows)[j] from e)
      omega
    · rintro i x H' H2' N hi s ⟨rfl, k, v, ek, rfl⟩ post
      rw [len] at hi
      obtain ⟨z, ez⟩ : ∃ z, (names rows)[i]? = some z := ⟨_, List.getElem?_eq_getElem hi⟩
      have eg : (names rows).getD i "" = z := by
        rw [List.getD_eq_getElem?_getD, ez]
        rfl
      rw [eg] at post
      have kz : k = Sum.inr z ∧ v = .ref (L z) := by
        rw [ekv, List.getElem?_map, ez] at ek
        cases ek
        exact ⟨rfl, rfl⟩
      obtain ⟨rfl, rfl⟩ := kz
      have mz : z ∈ names rows := List.mem_of_getElem? ez
      obtain ⟨bs, k1, k2⟩ := lst9 z mz
      have dg : DGet H2' P0 (.str z) (some (.ref (L z))) := by
        have v := val_map (L := L) (x := z) (xs := names rows)
        rw [if_pos mz] at v
        exact v ▸ (.inl ⟨_, _, .inr ⟨od, by rw [← ekv]; exact s _ _ P9⟩, rfl, rfl⟩ : DGet _ P0 (kV (Sum.inr z)) _)
      refine ⟨rfl, _, rfl, _, rfl, m, C_Merge, dx, _, .ref P0, rfl, s _ _ o9, K_Merge.cl, K_Merge.no "places" (by simp), rfl, _, rfl, P0, _, rfl, dg, L z, rfl, ⟨_, SqL.of (s _ _ k1)⟩, fun D2 hD2 => ?_⟩
      obtain ⟨ps, eps⟩ : ∃ ps, ps = Mg.plc 0 rows z := ⟨_, rfl⟩
      rw [← eps] at k2
      have lb := f2_len k2
      refine lcS (walk_list (xs := bs.map V.ref)) (fun j => decide (0 < (ps.getD j (0, 0)).2)) (fun j => .int ((ps.getD j (0, 0)).2 : Nat)) ?_ hD2 (fun H3 s3 => SqL.of (s3 _ _ (s _ _ k1))) ?_ ?_
      · rw [List.length_map, lb, eps]
        have := Mg.plc_few rows 0 z
        have := fit.few
        omega
      · rintro j y H3 H4 Nx Nf hj s3 ⟨rfl, hy⟩ px pf
        rw [List.getElem?_map] at hy
        obtain ⟨t, et, rfl⟩ : ∃ t, bs[j]? = some t ∧ y = .ref t := by
          cases e : bs[j]? with
          | none => rw [e] at hy; cases hy
          | some t => rw [e] at hy; exact ⟨t, rfl, (Option.some.inj hy).symm⟩
        obtain ⟨⟨pi, pa⟩, ep, ht⟩ := f2_getl k2 et
        have egp : ps.getD j (0, 0) = (pi, pa) := by
          rw [List.getD_eq_getElem?_getD, ep]
          rfl
        rw [egp] at px pf
        refine ⟨t, [.int (pi : Nat), .int (pa : Nat)], rfl, SqT.of (s3 _ _ (s _ _ ht)), rfl, .int (pi : Nat), [.int (pa : Nat)], rfl, .int (pa : Nat), [], rfl, rfl, rfl, ?_⟩
        refine ⟨_, rfl, _, _, rfl, rfl, _, rfl, ?_⟩
        by_cases q : 0 < pa
        · rw [decide_eq_true (by omega : (0 : Int) < ((pa : Nat) : Int))]
          exact iteT ⟨_, rfl, px (decide_eq_true q) _ (Same.refl _)⟩
        · rw [decide_eq_false (by omega : ¬ (0 : Int) < ((pa : Nat) : Int))]
          exact iteF (pf (decide_eq_false q) _ (Same.refl _))
      · intro H3 s3 e3'
        refine ⟨D2, _, rfl, .inl (SqL.of e3'), ?_⟩
        have el : (((List.range (bs.map V.ref).length).filter fun j => decide (0 < (ps.getD j (0, 0)).2)).map fun j => V.int ((ps.getD j (0, 0)).2 : Nat)).length = Mg.behN rows (List.replicate rows.length 0) z := by
          rw [List.length_map, List.length_map, lb, filter_range (0, 0) (fun p : Nat × Nat => decide (0 < p.2)) ps, eps]
          exact Mg.plc_behind rows 0
        rw [el]
        exact post H3 s3
    intro H10 s10 e10
    refine ⟨s10 _ _ P9, ?_⟩
    have fb : F b = none := F8.free (by
      have k := hb
      rw [e9] at k
      by_cases z : b = P0
      · rw [z, upd_same] at k
        cases k
      · rwa [upd_ne z] at k)
    have bP : b ≠ P0 := fun z => by rw [z, dF] at fb; cases fb
    have hb8 : H8 b = none := by
      have k := hb
      rw [e9, upd_ne bP] at k
      exact k
    have bm : b ≠ m := fun z => by rw [z, o8] at hb8; cases hb8
    have bg : b ≠ g := fun z => by rw [z, g8] at hb8; cases hb8
    have bh : b ≠ hd := fun z => by rw [z, h8] at hb8; cases hb8
    obtain ⟨H11, e11⟩ : ∃ H11, H11 = upd H10 P0 (HO.dK kvs) := ⟨_, rfl⟩
    rw [← e11]
    have keep11 : ∀ {a : Addr} {o : HO}, H8 a = some o → a ≠ P0 → H11 a = some o := fun {a o} k n => by rw [e11, upd_ne n]; exact s10 _ _ (keep9 k n)
    have o11 : H11 m = some (.ins C_Merge dx [("rows", .ref T0), ("places", .ref P0), ("gone", .ref g), ("heads", .ref hd)]) := keep11 o8 (Ne.symm Pm)
    have b11 : H11 b = some (.dK ((names rows).map fun x => ((Sum.inr x : Key), V.int (Mg.behN rows (List.replicate rows.length 0) x : Nat)))) := by
      rw [e11, upd_ne bP, e10, len]
      congr 1
      congr 1
      have := congrArg (List.map fun x => ((Sum.inr x : Key), V.int (Mg.behN rows (List.replicate rows.length 0) x : Nat))) (range_getD ("" : Str) (names rows))
      rw [List.map_map] at this
      exact this
    have F11 : Same F H11 := fun a o k => by
      by_cases z : a = P0
      · rw [z, dF] at k
        cases k
        rw [z, e11]
        exact upd_same
      · exact keep11 (F8 _ _ k) z
    refine ⟨_, rfl, m, C_Merge, dx, _, rfl, o11, K_Merge.cl, K_Merge.no "behind" (by simp), (by show 4 < 1000; decide), ?_⟩
    obtain ⟨H12, e12⟩ : ∃ H12, H12 = upd H11 m (.ins C_Merge dx (putF "behind" (.ref b) [("rows", .ref T0), ("places", .ref P0), ("gone", .ref g), ("heads", .ref hd)])) := ⟨_, rfl⟩
    rw [← e12]
    have o12 : H12 m = some (.ins C_Merge dx [("rows", .ref T0), ("places", .ref P0), ("gone", .ref g), ("heads", .ref hd), ("behind", .ref b)]) := by rw [e12]; exact upd_same
    -- ready
    refine ⟨_, rfl, m, C_Merge, dx, _, rfl, o12, K_Merge.cl, K_Merge.no "ready" (by simp), (by show 5 < 1000; decide), ?_⟩
    obtain ⟨H13, e13⟩ : ∃ H13, H13 = upd H12 m (.ins C_Merge dx (putF "ready" (.int 0) [("rows", .ref T0), ("places", .ref P0), ("gone", .ref g), ("heads", .ref hd), ("behind", .ref b)])) := ⟨_, rfl⟩
    rw [← e13]
    have up : ∀ {a : Addr} {o : HO}, H11 a = some o → a ≠ m → H13 a = some o := fun {a o} k n => by rw [e13, upd_ne n, e12, upd_ne n]; exact k
    have S13 : MgS C_Merge m T0 P0 g hd b rows F H13 [] (List.replicate rows.length 0) 0 := by
      refine ⟨fun a o k => up (F11 _ _ k) (fun z => by rw [z, fm] at k; cases k), ⟨fm, fg, fh, fb⟩, Ne.symm bg, ⟨dx, by rw [e13]; exact upd_same⟩, up (keep11 g8 (Ne.symm Pg)) gm, up (keep11 h8 (Ne.symm Ph)) hm, _, up b11 bm, by rw [List.length_map]; exact small, fun x hx => ?_⟩
      refine ⟨_, val_int hx, fun _ => rfl⟩
    -- the loop, under the lock
    have P13 : H13 P0 = some (.dK kvs) := S13.same _ _ dF
    refine ⟨P0, _, P13, trivial, fun od2 => ?_⟩
    obtain ⟨H14, e14⟩ : ∃ H14, H14 = upd H13 P0 (.frz od2 (.dK kvs)) := ⟨_, rfl⟩
    rw [← e14]
    obtain ⟨F2', eF2⟩ : ∃ F2', F2' = upd F P0 (.frz od2 (.dK kvs)) := ⟨_, rfl⟩
    have S14 : MgS C_Merge m T0 P0 g hd b rows F2' H14 [] (List.replicate rows.length 0) 0 := by
      rw [e14, eF2]
      exact S13.locked Pm Pg Ph (Ne.symm bP)
    have M14 : MgF F2' T0 P0 rows L := by
      rw [eF2]
      exact MF.locked dF ekv
    obtain ⟨dx14, o14⟩ := S14.obj
    refine ⟨_, rfl, m, C_Merge, dx14, _, .ref P0, rfl, o14, K_Merge.cl, K_Merge.no "places" (by simp), rfl, P0, od2, rfl, .inl ⟨kvs, by rw [e14]; exact upd_same, ?_⟩⟩
    refine for_it (walk_keys (kvs := kvs)) (fun i σ H' => ∃ v2 rdy, σ = [some (.ref m), some (.ref T0), v2, none, none] ∧ MgS C_Merge m T0 P0 g hd b rows F2' H' [] (List.replicate rows.length 0) rdy ∧
        ∀ j, rdy.testBit j = true ↔ ∃ x, x ∈ (names rows).take i ∧ Mg.behN rows (List.replicate rows.length 0) x = 0 ∧ Mg.first rows x = j)
      ⟨_, 0, rfl, S14, fun j => by simp⟩ (fun i σ H' _ ⟨_, _, _, S, _⟩ => S.same _ _ (by rw [eF2]; exact upd_same)) ?_ ?_
    · rintro i y σ H' H'' hi ⟨v2, rdy, rfl, S, bits⟩ ⟨rfl, k, v, ek, rfl⟩
      rw [len] at hi
      obtain ⟨z, ez⟩ : ∃ z, (names rows)[i]? = some z := ⟨_, List.getElem?_eq_getElem hi⟩
      have kz : k = Sum.inr z := by
        rw [ekv, List.getElem?_map, ez] at ek
        cases ek
        rfl
      subst kz
      obtain ⟨dx5, o5'⟩ := S.obj
      refine ⟨_, rfl, m, dx5, _, rfl, o5', rfl, _, rfl, m, T0, P0, g, hd, b, rows, F2', L, [], List.replicate rows.length 0, rdy, z, rfl, M14, S, List.mem_of_getElem? ez, (fun h => nomatch h), fun H3 S3 => ?_⟩
      refine ⟨_, _, rfl, S3, fun j => ?_⟩
      have step : (∃ x, x ∈ (names rows).take (i + 1) ∧ Mg.behN rows (List.replicate rows.length 0) x = 0 ∧ Mg.first rows x = j) ↔ (∃ x, x ∈ (names rows).take i ∧ Mg.behN rows (List.replicate rows.length 0) x = 0 ∧ Mg.first rows x = j) ∨ (Mg.behN rows (List.replicate rows.length 0) z = 0 ∧ Mg.first rows z = j) := by
        rw [List.take_add_one, ez]
        constructor
        · rintro ⟨x, hx, a, b⟩
          rcases List.mem_append.mp hx with h | h
          · exact .inl ⟨x, h, a, b⟩
          · have : x = z := by simpa using h
            subst this
            exact .inr ⟨a, b⟩
        · rintro (⟨x, hx, a, b⟩ | ⟨a, b⟩)
          · exact ⟨x, List.mem_append_left _ hx, a, b⟩
          · exact ⟨z, List.mem_append_right _ (by simp), a, b⟩
      rw [step, ← bits j]
      simp only [Mg.bits]
      by_cases q : Mg.behN rows (List.replicate rows.length 0) z = 0
      · rw [if_pos q, Nat.testBit_or, Nat.testBit_two_pow]
        simp [q]
      · rw [if_neg q]
        simp [q]
    · rintro σ H' ⟨v2, rdy, rfl, S, bits⟩
      refine ⟨S.same _ _ (by rw [eF2]; exact upd_same), ?_⟩
      rw [len, List.take_length] at bits
      have SF : MgS C_Merge m T0 P0 g hd b rows F (upd H' P0 (.dK kvs)) [] (List.replicate rows.length 0) rdy := by
        rw [eF2] at S
        exact S.unlocked dF Pm Pg Ph (Ne.symm bP)
      refine q _ P0 g hd b L F rdy sF MF SF (Mg.inv_begin fit.nd fun j => ?_) (by rw [← ekv]; exact dF)
      rw [bits j]
      constructor
      · rintro ⟨x, hx, r⟩
        exact ⟨x, mem_names.mp hx, r⟩
      · rintro ⟨x, hx, r⟩
        exact ⟨x, mem_names.mpr hx, r⟩
end
end K08

set_option Elab.async false
set_option linter.all false
set_option maxRecDepth 100000
set_option maxHeartbeats 4000000
namespace K08
open PySem Nb
open L2 hiding del del_ne del_same
/-- a step, as the program tells it -/
def stV (s : Mg.Stp Str) : HO := .tup [.str s.1, .str s.2.1, .int (s.2.2 : Nat)]
def StsAt (H : Hp) (r : Addr) (p : List (Mg.Stp Str)) : Prop := ∃ ts : List Addr, H r = some (.tup (ts.map V.ref)) ∧ F2 (fun t s => H t = some (stV s)) ts p
theorem sts_same {H H' : Hp} {r : Addr} {p : List (Mg.Stp Str)} (s : Same H H') (h : StsAt H r p) : StsAt H' r p := let ⟨ts, e, f⟩ := h; ⟨ts, s _ _ e, f2_imp (fun _ _ k => s _ _ k) f⟩
/-- the dict of what a search has reached -/
def KnR (H : Hp) (kv : Key × V) (e : Str × Option (Str × Nat)) : Prop := kv.1 = Sum.inr e.1 ∧ match e.2 with
  | none => kv.2 = .non
  | some (y, i) => ∃ t, kv.2 = .ref t ∧ H t = some (stV (y, e.1, i))
def KnAt (H : Hp) (kvs : List (Key × V)) (st : Mg.Kn Str) : Prop := F2 (KnR H) kvs st
theorem knR_same {H H' : Hp} (s : Same H H') {kv : Key × V} {e : Str × Option (Str × Nat)} (h : KnR H kv e) : KnR H' kv e := by
  obtain ⟨a, b⟩ := h
  refine ⟨a, ?_⟩
  obtain ⟨x, o⟩ := e
  cases o with
  | none => exact b
  | some q => obtain ⟨t, b1, b2⟩ := b; exact ⟨t, b1, s _ _ b2⟩
theorem kn_same {H H' : Hp} (s : Same H H') {kvs : List (Key × V)} {st : Mg.Kn Str} (h : KnAt H kvs st) : KnAt H' kvs st := f2_imp (fun _ _ k => knR_same s k) h
theorem kn_look {H : Hp} {x : Str} {o : Option (Str × Nat)} : ∀ {kvs : List (Key × V)} {st : Mg.Kn Str}, KnAt H kvs st → (Mg.kns st).Nodup → (x, o) ∈ st → ∃ v, valV kvs (Sum.inr x) = some v ∧ KnR H (Sum.inr x, v) (x, o)
  | _, _, .nil, _, m => nomatch m
  | (k, v) :: kvs, (y, q) :: st, .cons a t, nd, m => by
    have nd2 := List.nodup_cons.mp nd
    obtain ⟨a1, a2⟩ := id a
    have a1 : k = Sum.inr y := a1
    subst a1
    rcases List.mem_cons.mp m with e | m
    · cases e
      exact ⟨v, by simp [valV], a⟩
    · have ne : y ≠ x := fun z => nd2.1 (z ▸ List.mem_map.mpr ⟨_, m, rfl⟩)
      obtain ⟨w, e1, e2⟩ := kn_look t nd2.2 m
      refine ⟨w, ?_, e2⟩
      have e3 : valV ((Sum.inr y, v) :: kvs) (Sum.inr x) = valV kvs (Sum.inr x) := by simp [valV, ne]
      rw [e3]
      exact e1
theorem kn_some {H : Hp} {x : Str} : ∀ {kvs : List (Key × V)} {st : Mg.Kn Str}, KnAt H kvs st → (valV kvs (Sum.inr x)).isSome = decide (x ∈ Mg.kns st)
  | _, _, .nil => by simp [valV, Mg.kns]
  | (k, v) :: kvs, (y, q) :: st, .cons ⟨a1, _⟩ t => by
    have a1 : k = Sum.inr y := a1
    subst a1
    have ih := kn_some (x := x) t
    by_cases e : y = x
    · subst e
      have : valV ((Sum.inr y, v) :: kvs) (Sum.inr y) = some v := by simp [valV]
      rw [this, decide_eq_true (show y ∈ Mg.kns ((y, q) :: st) from List.mem_cons_self ..)]
      rfl
    · have e3 : valV ((Sum.inr y, v) :: kvs) (Sum.inr x) = valV kvs (Sum.inr x) := by simp [valV, e]
      rw [e3, ih]
      have : (x ∈ Mg.kns ((y, q) :: st)) ↔ x ∈ Mg.kns st := by
        show x ∈ y :: Mg.kns st ↔ _
        rw [List.mem_cons]
        exact ⟨fun h => h.resolve_left (Ne.symm e), .inr⟩
      simp [this]
theorem kn_len {H : Hp} {kvs : List (Key × V)} {st : Mg.Kn Str} (h : KnAt H kvs st) : kvs.length = st.length := f2_len h
theorem f2_app {α β : Type} {R : α → β → Prop} : ∀ {xs : List α} {ys : List β} {zs : List α} {ws : List β}, F2 R xs ys → F2 R zs ws → F2 R (xs ++ zs) (ys ++ ws)
  | _, _, _, _, .nil, h => h
  | _, _, _, _, .cons a b, h => .cons a (f2_app b h)
theorem f2_rev {α β : Type} {R : α → β → Prop} : ∀ {xs : List α} {ys : List β}, F2 R xs ys → F2 R xs.reverse ys.reverse
  | _, _, .nil => .nil
  | _, _, .cons a b => by
    rw [List.reverse_cons, List.reverse_cons]
    exact f2_snoc (f2_rev b) a
theorem iteF0 {b : Bool} {p q : Prop} (e : b = false) (h : q) : if b = true then p else q := by rwa [e, if_neg (by decide)]
theorem iteT0 {b : Bool} {p q : Prop} (e : b = true) (h : p) : if b = true then p else q := by rwa [e, if_pos rfl]
def spStepsTo : Sp := fun vs H Q _ => ∃ (d : Addr) (x : Str) (kvs : List (Key × V)) (st : Mg.Kn Str) (p : List (Mg.Stp Str)), vs = [.ref d, .str x] ∧ H d = some (.dK kvs) ∧ KnAt H kvs st ∧ (Mg.kns st).Nodup ∧ Mg.Back st x p ∧ p.length ≤ 1000 ∧
  ∀ H' r, Same H H' → StsAt H' r p → Q (.ref r) H'
section
variable {P : Program} {w : World} {K : PySem.W.Frag} {mg : Str → Option Value} {base : Heap} {TL : List (Addr × Str)}
abbrev s_steps_to : Stmt := topS 22
theorem sc_steps_to : FnScope ["steps", "name", "path"] ["steps", "name"] (defScope s_steps_to) := ⟨rfl, rfl, rfl, by decide +kernel, rfl, by decide +kernel, by decide +kernel⟩
theorem ok_steps_to {f : Addr} {fd : FuncData} (F : Fun K "_steps_to" "_steps_to" s_steps_to f fd) (T : Txt mg) : FnOk P w K mg base CX0 1 f fd ["steps", "name"] (spStepsTo) := by
  refine F.ok sc_steps_to (fun vs H Q E h => ?_) (fun cdv A outer s H vs Q E hr h => ?_)
  · obtain ⟨d, x, kvs, st, p, rfl, _⟩ := h
    rfl
  · obtain ⟨d, x, kvs, st, p, rfl, hd, hK, nd, hB, hl, q⟩ := h
    refine ⟨_, pss_cons (ps_set (i := 2) sc_steps_to.nd rfl (Or.inl rfl) (pe_lstS pa_nil))
        (pss_cons (ps_while PassesOwn.never (pt_cmpR op_notN (pe_dget (hu_of hr) (pv 0) (pv 1) (fun _ _ => rfl)) pe_non (nomark _)) (pss_cons (ps_expr (pe_bm PySem.F.plainAttrs_list PySem.F.slot_list_append PySem.F.type_list_append mt_append (pv 2) (pa_cons (pe_dget (hu_of hr) (pv 0) (pv 1) (fun _ _ => rfl)) pa_nil)))
        (pss_one (ps_set (i := 1) sc_steps_to.nd rfl (Or.inl rfl) (pe_ix ix_tup (pe_dget (hu_of hr) (pv 0) (pv 1) (fun _ _ => rfl)) pe_int (fun _ _ => rfl))))))
        (pss_one (ps_ret (pe_callTy cr_tupleS (by rfl) T.tuple (by decide +kernel) (pa_cons (pe_revL (pv 2)) pa_nil))))), ?_⟩
    have look : ∀ {z : Str} {o : Option (Str × Nat)} {H' : Hp}, (z, o) ∈ st → Same H H' → ∃ v, DGet H' d (.str z) (some v) ∧ KnR H (Sum.inr z, v) (z, o) := fun {z o H'} m s' => by
      obtain ⟨v, e1, e2⟩ := kn_look hK nd m
      exact ⟨v, e1 ▸ DGet.k (k := (Sum.inr z : Key)) (s' _ _ hd), e2⟩
    refine ⟨by decide, fun H1 l s1 n1 e1 => ?_⟩
    refine ⟨fun k σ H' => ∃ z qs suf ts, σ = [some (.ref d), some (.str z), some (.ref l)] ∧ Same H H' ∧ H' l = some (.lst ((ts : List Addr).map V.ref)) ∧ F2 (fun t s => H t = some (stV s)) ts suf ∧ Mg.Back st z qs ∧ p = qs ++ suf.reverse ∧ k = qs.length,
      ⟨p.length, x, p, [], [], rfl, s1, e1, .nil, hB, by simp, rfl⟩, ?_⟩
    rintro k σ H' ⟨z, qs, suf, ts, rfl, s2, e2, f2, hz, ep, rfl⟩
    cases hz with
    | nil m =>
      obtain ⟨v, g, _, ev⟩ := look m s2
      have ev : v = .non := ev
      subst ev
      refine ⟨_, rfl, _, rfl, d, _, rfl, g, rfl, _, rfl, iteF0 (by decide) ?_⟩
      refine ⟨_, rfl, l, _, rfl, SqL.of e2, fun p0 np => ⟨p0, _, rfl, .inl upd_same, fun H2 r s3 e3 => q H2 r ((s2.trans (same_new np)).trans s3) ⟨ts.reverse, ?_, ?_⟩⟩⟩
      · rw [e3, List.map_reverse]
      · rw [ep, List.nil_append]
        exact f2_imp (fun _ _ k => s3 _ _ ((same_new np) _ _ (s2 _ _ k))) (f2_rev f2)
    | @snoc _ y i q' m b =>
      obtain ⟨v, g, _, t, ev, et⟩ := look m s2
      have ev : v = .ref t := ev
      subst ev
      have lt := congrArg List.length ep
      rw [List.length_append, List.length_append, List.length_singleton, List.length_reverse] at lt
      have ll := f2_len f2
      refine ⟨_, rfl, _, rfl, d, _, rfl, g, rfl, _, rfl, iteT0 rfl ?_⟩
      refine ⟨fun σ' H2 => ∃ z qs suf ts, σ' = [some (.ref d), some (.str z), some (.ref l)] ∧ Same H H2 ∧ H2 l = some (.lst ((ts : List Addr).map V.ref)) ∧ F2 (fun t s => H t = some (stV s)) ts suf ∧ Mg.Back st z qs ∧ p = qs ++ suf.reverse ∧ qs.length = q'.length,
        fun σ' H2 ⟨z', qs', suf', ts', a1, a2, a3, a4, a5, a6, a7⟩ => ⟨qs'.length, by rw [a7, List.length_append, List.length_singleton]; exact Nat.lt_succ_self _, z', qs', suf', ts', a1, a2, a3, a4, a5, a6, rfl⟩, ?_⟩
      have s3 : Same H (upd H' l (.lst (ts.map V.ref ++ [.ref t]))) := same_at s2 n1
      obtain ⟨v2, g2, _, t2, ev2, et2⟩ := look m s3
      have ev2 : v2 = .ref t2 := ev2
      subst ev2
      refine ⟨_, rfl, .inl ⟨rfl, _, SqL.of e2⟩, _, rfl, _, rfl, d, _, rfl, g, l, _, _, rfl, rfl, e2, ?_, ?_⟩
      · rw [List.length_map]
        exact Nat.lt_of_lt_of_le (show ts.length < 100000 by omega) (line100 (Nat.le_refl _))
      refine ⟨_, rfl, _, rfl, d, _, rfl, g2, t2, _, 0, _, rfl, rfl, SqT.of (s3 _ _ et2), atI_nat (j := 0) rfl, ?_⟩
      refine ⟨y, q', suf ++ [(y, z, i)], ts ++ [t], rfl, s3, by rw [upd_same, List.map_append]; rfl, f2_snoc f2 et, b, ?_, rfl⟩
      rw [ep, List.reverse_append, List.append_assoc]
      rfl
end
end K08

set_option Elab.async false
set_option linter.all false
set_option maxRecDepth 100000
set_option maxHeartbeats 4000000
namespace K08
open PySem Nb
open L2 hiding del del_ne del_same
theorem yesIf2 {σ : L2.St} {H : Hp} {A B : Hp → Prop} (h : A H) : tYes σ H (fun b H' => if b = true then A H' else B H') := by
  show if true = true then A H else B H
  exact iteT h
/-- what a dict tells of the names ahead of a name -/
structure LaOk (rows : Rows) (x : Str) (H : Hp) (mk : List (Key × V)) (ok : Str → Prop) : Prop where
  val : ∀ z v, valV mk (Sum.inr z) = some v → ∃ t k, v = .ref t ∧ H t = some (stV (z, x, k)) ∧ Mg.Go rows z x k
  all : ∀ z, ok z → (valV mk (Sum.inr z)).isSome = true
theorem put_len2 (mk : List (Key × V)) (k : Key) (v : V) : (putK mk k v).length ≤ mk.length + 1 := by
  unfold putK
  by_cases e : (mk.any fun kv => decide (kv.1 = k)) = true
  · rw [if_pos e, List.length_map]
    omega
  · rw [if_neg e, List.length_append]
    exact Nat.le_refl _
/-- tuples of steps stay -/
def TK (H H' : Hp) : Prop := ∀ t s, H t = some (stV s) → H' t = some (stV s)
theorem tk_same {H H' : Hp} (s : Same H H') : TK H H' := fun _ _ e => s _ _ e
theorem TK.trans {H H' G : Hp} (s : TK H H') (t : TK H' G) : TK H G := fun a u e => t _ _ (s a u e)
theorem tk_upd {H : Hp} {l : Addr} {u w : HO} (e : H l = some u) (n : ∀ s, u ≠ stV s) : TK H (upd H l w) := fun t s k => by
  rw [upd_ne (fun z => by rw [z, e] at k; exact n s (Option.some.inj k))]
  exact k
theorem tk_del {H : Hp} {l : Addr} {u : HO} (e : H l = some u) (n : ∀ s, u ≠ stV s) : TK H (Nb.del H l) := fun t s k => by
  rw [Nb.del_ne (fun z => by rw [z, e] at k; exact n s (Option.some.inj k))]
  exact k
theorem knR_tk {H H' : Hp} (s : TK H H') {kv : Key × V} {e : Str × Option (Str × Nat)} (h : KnR H kv e) : KnR H' kv e := by
  obtain ⟨a, b⟩ := h
  refine ⟨a, ?_⟩
  obtain ⟨x, o⟩ := e
  cases o with
  | none => exact b
  | some q => obtain ⟨t, b1, b2⟩ := b; exact ⟨t, b1, s _ _ b2⟩
theorem kn_tk {H H' : Hp} (s : TK H H') {kvs : List (Key × V)} {st : Mg.Kn Str} (h : KnAt H kvs st) : KnAt H' kvs st := f2_imp (fun _ _ k => knR_tk s k) h
theorem lst_st {xs : List V} (s : Mg.Stp Str) : HO.lst xs ≠ stV s := fun z => nomatch z
theorem dk_st {kvs : List (Key × V)} (s : Mg.Stp Str) : HO.dK kvs ≠ stV s := fun z => nomatch z
theorem sel_map2 {α β : Type} (d : α) (p : α → Bool) (g : α → β) (xs : List α) : ((List.range xs.length).filter fun i => p (xs.getD i d)).map (fun i => g (xs.getD i d)) = (xs.filter p).map g := by
  have e : xs.filter p = ((List.range xs.length).map fun i => xs.getD i d).filter p := by rw [range_getD]
  rw [e, List.filter_map, List.map_map]
  rfl
theorem f2_made2 {α β γ : Type} {P : α → γ} {R : β → γ → Prop} : ∀ {is : List α} {ys : List β}, F2 (fun i y => R y (P i)) is ys → F2 R ys (is.map P)
  | _, _, .nil => .nil
  | _, _, .cons a b => .cons a (f2_made2 b)
theorem kn_keys {H : Hp} : ∀ {kvs : List (Key × V)} {st : Mg.Kn Str}, KnAt H kvs st → kvs.map (·.1) = (Mg.kns st).map Sum.inr
  | _, _, .nil => rfl
  | _, _, .cons ⟨a, _⟩ t => congr (congrArg List.cons a) (kn_keys t)
/-- a level under way -/
structure Lvl (G H : Hp) (en sd fr : Addr) (rows : Rows) (gone : List Str) (st : Mg.Kn Str) (lvs : List Str) (es : List Nat) (kvs : List (Key × V)) (new : Mg.Nw Str) : Prop where
  same : Same G H
  en : H en = some (.lst (es.map fun n => V.int (n : Nat)))
  sd : H sd = some (.dK kvs)
  fr : H fr = some (.lst ((new.map fun t => t.1).map V.str))
  kn : KnAt H kvs (Mg.ext st new)
  mid : Mg.Mid rows gone st lvs new
  ends : Mg.Ends rows gone es (Mg.kns (Mg.ext st new))
def spRing (C : Addr) : Sp := fun vs H Q _ => ∃ (m T P g hd b : Addr) (rows : Rows) (F : Hp) (L : Str → Addr) (gone : List Str) (hs : List Nat) (rdy : Nat) (x : Str) (lim : Nat), vs = [.ref m, .str x, .int lim] ∧ (∀ r ∈ rows, r.length ≤ 1000) ∧ MgF F T P rows L ∧ MgS C m T P g hd b rows F H gone hs rdy ∧ x ∈ names rows ∧ x ∉ gone ∧ 1 ≤ lim ∧ lim ≤ 1000 ∧
  ∀ H' r p, Same H H' → StsAt H' r p → Mg.RingRes rows gone x lim p → Q (.ref r) H'
section
variable {P : Program} {w : World} {K : PySem.W.Frag} {mg : Str → Option Value} {base : Heap} {TL : List (Addr × Str)}
abbrev s_Merge_ring : Stmt := clsAt (topS 15) 5
theorem sc_Merge_ring : FnScope ["self", "start", "limit", "index", "at", "name", "last", "ends", "steps", "level", "met", "fresh", "tail", "found", "row", "item"] ["self", "start", "limit"] (defScope s_Merge_ring) := ⟨rfl, rfl, rfl, by decide +kernel, rfl, by decide +kernel, by decide +kernel⟩
def sx_Merge_ring_0 : Scope := { kind := .function, names := [(".0", .local), ("index", .local), ("at", .local), ("name", .local), ("self", .cell), ("start", .cell)], isGenerator := false, isCoroutine := false, more := [] }
def sx_Merge_ring_1 : Scope := { kind := .function, names := [(".0", .local), ("row", .local), ("len", .globalImplicit)], isGenerator := false, isCoroutine := false, more := [] }
def sx_Merge_ring_2 : Scope := { kind := .function, names := [(".0", .local), ("name", .local), ("last", .cell)], isGenerator := false, isCoroutine := false, more := [] }
def sx_Merge_ring_3 : Scope := { kind := .function, names := [(".0", .local), ("item", .local), ("self", .cell), ("steps", .cell)], isGenerator := false, isCoroutine := false, more := [] }
def sx_Merge_ring_4 : Scope := { kind := .function, names := [(".0", .local), ("item", .local), ("index", .cell), ("name", .cell)], isGenerator := false, isCoroutine := false, more := [] }
theorem ok_Merge_ring {f : Addr} {fd : FuncData} (F : Fun K "ring" "Merge.ring" s_Merge_ring f fd) {C_Merge : Addr} (T : Txt mg) (K_Merge : Kl K mg "Merge" C_Merge ["rows", "places", "gone", "heads", "behind", "ready"]) (D_steps_to : Dn P w K mg base CX0 1 "_steps_to" ["steps", "name"] (spStepsTo)) : FnOk P w K mg base CX0 2 f fd ["self", "start", "limit"] (spRing C_Merge) := by
  refine F.ok sc_Merge_ring (fun vs H Q E h => ?_) (fun cdv A outer s H vs Q E hr h => ?_)
  · obtain ⟨m, T0, P0, g, hd, b, rows, F, L, gone, hs, rdy, x, lim, rfl, _⟩ := h
    rfl
  · obtain ⟨m, T0, P0, g, hd, b, rows, F, L, gone, hs, rdy, x, lim, rfl, short, M, S, hx, nx, l1, l2, q⟩ := h
    have hu := hu_of hr
    refine ⟨_, pss_cons (ps_set (i := 6) sc_Merge_ring.nd rfl (Or.inr rfl) (pe_dc2 (own := [("index", 3), ("at", 4), ("name", 5)]) (v1 := [5]) rfl sc_Merge_ring.nd (pi_list (pe_dget (hu_of hr) (pe_fld (pv 0) rfl) (pv 1) (fun _ _ => rfl))) (blkOk_by (N := ["self", "start", "limit", "index", "at", "name", "last", "ends", "steps", "level", "met", "fresh", "tail", "found", "row", "item"]) (sc := (defScope s_Merge_ring)) (by decide +kernel)) (by decide) (fun _ _ _ _ _ => (show PG _ _ (gTup K 2 (gCons (gName 3) (gCons (gName 4) gNil))) from pg_tup rfl (pgs_cons (pg_name (i := 3) sc_Merge_ring.nd rfl (Or.inl rfl)) (pgs_cons (pg_name (i := 4) sc_Merge_ring.nd rfl (Or.inl rfl)) pgs_nil)))) (fun _ _ _ _ _ => pts_nil) (fun _ _ _ _ _ => (show PI _ _ _ (iTup K _) from pi_tup (pe_slice (r := rSlA K) sl_tupA (pe_ix (r := rIxT K) ix_tup (pe_fldK (K := K) rfl (pv 0) rfl) (pv 3) (fun _ _ => rfl)) po_none (po_some (pv 4))))) (fun _ _ _ _ _ => (pg_name (i := 5) sc_Merge_ring.nd rfl (Or.inl rfl))) (fun _ _ _ _ _ => pts_nil) (fun _ _ _ _ _ => (pv 5)) (fun _ _ _ _ _ => (pe_tupS (pa_cons (pv 5) (pa_cons (pv 1) (pa_cons (pv 3) pa_nil)))))))
        (pss_cons (ps_setLc (i := 7) (own := [("row", 14)]) (g := gName 14) (tt := tYes) rfl sc_Merge_ring.nd rfl rfl (sw_true rfl rfl rfl (by decide +kernel)) (pi_tup (pe_fld (pv 0) rfl)) (blkOk_by (N := ["self", "start", "limit", "index", "at", "name", "last", "ends", "steps", "level", "met", "fresh", "tail", "found", "row", "item"]) (sc := (defScope s_Merge_ring)) (by decide +kernel)) (fun _ _ _ _ _ => (pg_name (i := 14) sc_Merge_ring.nd rfl (Or.inl rfl))) (fun _ _ _ _ _ => pts_nil) (fun _ _ _ _ _ => (pe_callB (call_len_seqK (K := K) rfl) (by rfl) T.len PySem.boot_len (pa_cons (pv 14) pa_nil))))
        (pss_cons (ps_set (i := 8) sc_Merge_ring.nd rfl (Or.inr rfl) (pe_disp1 (pv 1) pe_non))
        (pss_cons (ps_set (i := 9) sc_Merge_ring.nd rfl (Or.inl rfl) (pe_lstS (pa_cons (pv 1) pa_nil)))
        (pss_cons (ps_while PassesOwn.never (pt_truth (pv 9) (by intro _; rfl)) (pss_cons (ps_setLc (i := 10) (own := [("name", 5)]) (g := gName 5) rfl sc_Merge_ring.nd rfl rfl (sw_true rfl rfl rfl (by decide +kernel)) (pi_list (pv 9)) (blkOk_by (N := ["self", "start", "limit", "index", "at", "name", "last", "ends", "steps", "level", "met", "fresh", "tail", "found", "row", "item"]) (sc := (defScope s_Merge_ring)) (by decide +kernel)) (fun _ _ _ _ _ => (pg_name (i := 5) sc_Merge_ring.nd rfl (Or.inl rfl))) (fun _ _ _ _ _ => (pts_one (pt_cmp (pc_din hu (pv 5) (pv 6))))) (fun _ _ _ _ _ => (pv 5)))
        (pss_cons (ps_if (pt_truth (pv 10) (by intro _; rfl)) (pss_one (ps_ret (pe_op op_catT' (pe_D D_steps_to (hr.mono (by decide)) (by rfl) pass0 (pa_cons (pv 8) (pa_cons (pe_ix ix_list (pv 10) pe_int (fun _ _ => rfl)) pa_nil))) (pe_tupS (pa_cons (pe_dget (hu_of hr) (pv 6) (pe_ix ix_list (pv 10) pe_int (fun _ _ => rfl)) (fun _ _ => rfl)) pa_nil))))) pss_nil)
        (pss_cons (ps_aug (i := 2) sc_Merge_ring.nd rfl (Or.inl rfl) pe_int ip_sub)
        (pss_cons (ps_if (pt_cmpR op_eq (pv 2) pe_int (nomark _)) (pss_one ps_break) pss_nil)
        (pss_cons (ps_set (i := 11) sc_Merge_ring.nd rfl (Or.inl rfl) (pe_lstS pa_nil))
        (pss_cons (ps_for PassesOwn.never rfl (pi_list (pv 9)) (pg_name (i := 5) sc_Merge_ring.nd rfl (Or.inr rfl)) (pss_one (ps_for PassesOwn.never rfl (pi_list (pe_dget (hu_of hr) (pe_fld (pv 0) rfl) (pv 5) (fun _ _ => rfl))) (pg_tup rfl (pgs_cons (pg_name (i := 3) sc_Merge_ring.nd rfl (Or.inr rfl)) (pgs_cons (pg_name (i := 4) sc_Merge_ring.nd rfl (Or.inl rfl)) pgs_nil))) (pss_cons (ps_set (i := 12) sc_Merge_ring.nd rfl (Or.inl rfl) (pe_slice sl_tupA (pe_ix ix_tup (pe_fld (pv 0) rfl) (pv 3) (fun _ _ => rfl)) (po_some (pe_op op_add (pv 4) pe_int)) (po_some (pe_ix ix_list (pv 7) (pv 3) (fun _ _ => rfl)))))
        (pss_cons (ps_setLc (i := 13) (own := [("item", 15)]) (g := gName 15) rfl sc_Merge_ring.nd rfl rfl (sw_true rfl rfl rfl (by decide +kernel)) (pi_tup (pv 12)) (blkOk_by (N := ["self", "start", "limit", "index", "at", "name", "last", "ends", "steps", "level", "met", "fresh", "tail", "found", "row", "item"]) (sc := (defScope s_Merge_ring)) (by decide +kernel)) (fun _ _ _ _ _ => (pg_name (i := 15) sc_Merge_ring.nd rfl (Or.inl rfl))) (fun _ _ _ _ _ => (pts_one (PW.pt (pw_and (pt_cmp (pc_dnotin hu (pv 15) (pv 8))) (pw_and1 (pt_cmp (pc_dnotin hu (pv 15) (pe_fldK (K := K) rfl (pv 0) rfl)))))))) (fun _ _ _ _ _ => (pv 15)))
        (pss_cons (ps_expr (pe_bm PySem.F.plainAttrs_dict PySem.F.slot_dict_update PySem.F.type_dict_update mt_dupd (pv 8) (pa_cons (pe_dc (own := [("item", 15)]) (g := gName 15) (tt := tYes) rfl sc_Merge_ring.nd (pi_list (pv 13)) (blkOk_by (N := ["self", "start", "limit", "index", "at", "name", "last", "ends", "steps", "level", "met", "fresh", "tail", "found", "row", "item"]) (sc := (defScope s_Merge_ring)) (by decide +kernel)) (fun _ _ _ _ _ => (pg_name (i := 15) sc_Merge_ring.nd rfl (Or.inl rfl))) (fun _ _ _ _ _ => pts_nil) (fun _ _ _ _ _ => (pv 15)) (fun _ _ _ _ _ => (pe_tupS (pa_cons (pv 5) (pa_cons (pv 15) (pa_cons (pv 3) pa_nil)))))) pa_nil)))
        (pss_cons (ps_expr (pe_bm PySem.F.plainAttrs_list PySem.F.slot_list_extend PySem.F.type_list_extend mt_extend (pv 11) (pa_cons (pv 13) pa_nil)))
        (pss_one (ps_asg (pe_callB (call_min2 rfl) (by rfl) T.min (by decide +kernel) (pa_cons (pe_ix ix_list (pv 7) (pv 3) (fun _ _ => rfl)) (pa_cons (pe_op op_add (pv 4) pe_int) pa_nil))) (pg_sub (pv 7) (pv 3) set_list))))))))))
        (pss_one (ps_set (i := 9) sc_Merge_ring.nd rfl (Or.inl rfl) (pv 11))))))))))
        (pss_one (ps_ret (pe_tupS pa_nil))))))), ?_⟩
    obtain ⟨dx, ho⟩ := S.obj
    obtain ⟨ra, t1, t2, t3⟩ := id M.at_
    have fit := M.fit
    have pls : ∀ {y : Str}, y ∈ names rows → ∃ as : List Addr, F (L y) = some (.lst (as.map V.ref)) ∧ F2 (fun a (p : Nat × Nat) => F a = some (.tup [.int p.1, .int p.2])) as (Mg.plc 0 rows y) := fun {y} my => by
      obtain ⟨as, el, f2⟩ := M.pl.l y (by rw [Mg.names_trips]; exact mem_names.mp my)
      rw [Mg.pl_trips y rows 0 fit.nd] at f2
      exact ⟨as, el, f2⟩
    have dg : ∀ {y : Str} {H' : Hp}, y ∈ names rows → Same F H' → DGet H' P0 (.str y) (some (.ref (L y))) := fun {y H'} my s => by
      have v := val_map (L := L) (x := y) (xs := seen ((Mg.trips 0 rows).map (·.1)))
      rw [if_pos (by rw [Mg.names_trips]; exact my)] at v
      exact v ▸ (.inl ⟨_, _, rd_same s M.pl.d, rfl, rfl⟩ : DGet _ P0 (kV (Sum.inr y)) _)
    have rowat : ∀ {i : Nat} {r : List Str}, rows[i]? = some r → ∃ ar, (ra.map V.ref)[i]? = some (.ref ar) ∧ Rd F ar (.tup (r.map V.str)) := fun {i r} er => by
      have il : i < ra.length := by
        rw [t2]
        exact (List.getElem?_eq_some_iff.mp er).1
      exact ⟨ra[i], by rw [List.getElem?_map, List.getElem?_eq_getElem il]; rfl, t3 i ra[i] r (List.getElem?_eq_getElem il) er⟩
    have mplc : ∀ {y : Str} {i a : Nat}, (i, a) ∈ Mg.plc 0 rows y ↔ ∃ r, rows[i]? = some r ∧ y ∈ r ∧ a = r.idxOf y := fun {y i a} => by
      rw [Mg.mem_plc rows 0 i a]
      constructor
      · rintro ⟨r, _, e, k⟩
        exact ⟨r, e, k⟩
      · rintro ⟨r, e, k⟩
        exact ⟨r, Nat.zero_le _, e, k⟩
    -- what is directly ahead of the name
    obtain ⟨as, el, f2⟩ := pls hx
    have las := f2_len f2
    have lps := Mg.plc_few rows 0 x
    have few := fit.few
    refine ⟨_, rfl, m, C_Merge, dx, _, .ref P0, rfl, ho, K_Merge.cl, K_Merge.no "places" (by simp), rfl, _, rfl, P0, _, rfl, dg hx S.same, L x, rfl, ⟨_, SqL.of (S.same _ _ el)⟩, fun D nD => ?_⟩
    refine dc2_out (walk_list (xs := as.map V.ref)) (fun i H' => Same H H' ∧ ∃ mk : List (Key × V), H' D = some (.dK mk) ∧ mk.length ≤ 1000 * i ∧ LaOk rows x (Nb.del H' D) mk (fun z => ∃ q ∈ (Mg.plc 0 rows x).take i, ∃ r, rows[q.1]? = some r ∧ z ∈ r.take q.2))
      ⟨same_new nD, [], upd_same, by decide, fun z v e => by simp [valV] at e, fun z ⟨q, hq, _⟩ => by simp at hq⟩ (fun i H' _ ⟨s, _⟩ => SqL.of (s _ _ (S.same _ _ el))) ?_ ?_
    · rintro i y H3 H4 hi ⟨s3, mk, e3, l3, k3⟩ ⟨rfl, ey⟩
      rw [List.length_map, las] at hi
      rw [List.getElem?_map] at ey
      obtain ⟨t, et, rfl⟩ : ∃ t, as[i]? = some t ∧ y = .ref t := by
        cases e : as[i]? with
        | none => rw [e] at ey; cases ey
        | some t => rw [e] at ey; exact ⟨t, rfl, (Option.some.inj ey).symm⟩
      obtain ⟨⟨pi, pa⟩, ep, ht⟩ := f2_getl f2 et
      obtain ⟨r, er, mr, ea⟩ := mplc.mp (List.mem_of_getElem? ep)
      obtain ⟨ar, e1, e2⟩ := rowat er
      have sF3 : Same F H4 := S.same.trans s3
      refine ⟨t, [.int (pi : Nat), .int (pa : Nat)], rfl, SqT.of (sF3 _ _ ht), rfl, .int (pi : Nat), [.int (pa : Nat)], rfl, .int (pa : Nat), [], rfl, rfl, rfl, yesIf2 ?_⟩
      refine ⟨_, rfl, m, C_Merge, dx, _, .ref T0, rfl, s3 _ _ ho, K_Merge.cl, K_Merge.no "rows" (by simp), rfl, _, rfl, T0, _, _, .ref ar, rfl, rfl, SqT.of (sF3 _ _ t1), atI_nat (j := pi) e1, _, rfl, _, rfl, slT (rd_same sF3 e2) fun H5 p s5 hp => ?_⟩
      rw [cut_to, ← List.map_take] at hp
      refine ⟨p, rfl, ⟨_, (.inl hp : SqT K H5 p _)⟩, ?_⟩
      have rl : r.length ≤ 1000 := short r (List.mem_of_getElem? er)
      have nr := fit.nd r (List.mem_of_getElem? er)
      refine dc2_in (walk_tup (K := K) (a := p) (xs := (r.take pa).map V.str)) (fun j H' => Same H H' ∧ Rd H' p (.tup ((r.take pa).map V.str)) ∧ ∃ mk : List (Key × V), H' D = some (.dK mk) ∧ mk.length ≤ 1000 * i + j ∧ LaOk rows x (Nb.del H' D) mk (fun z => (∃ q ∈ (Mg.plc 0 rows x).take i, ∃ r, rows[q.1]? = some r ∧ z ∈ r.take q.2) ∨ z ∈ (r.take pa).take j))
        ⟨s3.trans s5, hp, mk, s5 _ _ e3, l3, ⟨fun z v e => ?_, fun z hz => k3.all z (hz.elim id fun h => by simp at h)⟩⟩ (fun j H' _ ⟨_, h, _⟩ => .inl h) ?_ ?_
      · obtain ⟨t', k, a1, a2, a3⟩ := k3.val z v e
        exact ⟨t', k, a1, (same_del (del_same.trans s5) del_at) _ _ a2, a3⟩
      · rintro j y H6 H7 hj ⟨s6, hp6, m6, e6, l6, k6⟩ ⟨rfl, ey⟩
        rw [List.length_map, List.length_take] at hj
        rw [List.getElem?_map] at ey
        obtain ⟨u, eu, rfl⟩ : ∃ u, (r.take pa)[j]? = some u ∧ y = .str u := by
          cases e : (r.take pa)[j]? with
          | none => rw [e] at ey; cases ey
          | some t => rw [e] at ey; exact ⟨t, rfl, (Option.some.inj ey).symm⟩
        have eu2 : r[j]? = some u := by
          rw [List.getElem?_take] at eu
          split at eu
          · exact eu
          · cases eu
        have ju := Mg.idx_of nr eu2
        have go : Mg.Go rows u x pi := ⟨r, er, List.mem_of_getElem? eu2, mr, by omega⟩
        refine ⟨rfl, yesIf2 ⟨_, rfl, _, rfl, _, rfl, _, rfl, (by show 3 ≤ 100000; decide), fun H8 t8 s8 n8 e8 => ⟨m6, .inr u, rfl, s8 _ _ e6, ?_, same_at (s6.trans s8) nD, ?_, _, upd_same, ?_, ?_⟩⟩⟩
        · rw [sizeLine_eq]
          omega
        · refine rd_same (H := Nb.del H8 D) (fun b o z => by
            rw [upd_ne (fun q => by rw [q, Nb.del_at] at z; cases z)]
            exact del_same _ _ z) ?_
          have ne : p ≠ D := fun q => by
            rw [q] at hp6
            rcases hp6 with h | ⟨o, h⟩ <;> rw [e6] at h <;> cases h
          rcases rd_same s8 hp6 with h | ⟨o, h⟩
          · exact .inl ((Nb.del_ne ne).trans h)
          · exact .inr ⟨o, (Nb.del_ne ne).trans h⟩
        · have := put_len2 m6 (Sum.inr u) (.ref t8)
          omega
        · have d8 : Nb.del (upd H8 D (.dK (putK m6 (Sum.inr u) (.ref t8)))) D = Nb.del H8 D := del_upd
          rw [d8]
          have n8D : t8 ≠ D := fun q => by rw [q, e6] at n8; cases n8
          refine ⟨fun z v e => ?_, fun z hz => ?_⟩
          · rw [valV_put] at e
            by_cases c : (Sum.inr z : Key) = Sum.inr u
            · rw [if_pos c] at e
              cases e
              cases c
              exact ⟨t8, pi, rfl, (Nb.del_ne n8D).trans e8, go⟩
            · rw [if_neg c] at e
              obtain ⟨t', k, a1, a2, a3⟩ := k6.val z v e
              exact ⟨t', k, a1, (same_del (del_same.trans s8) del_at) _ _ a2, a3⟩
          · rw [valV_put]
            by_cases c : (Sum.inr z : Key) = Sum.inr u
            · rw [if_pos c]
              rfl
            · rw [if_neg c]
              refine k6.all z (hz.imp id fun h => ?_)
              rw [List.take_add_one, eu] at h
              rcases List.mem_append.mp h with h | h
              · exact h
              · exact absurd (congrArg Sum.inr (by simpa using h)) c
      · rintro H6 ⟨s6, _, m6, e6, l6, k6⟩
        rw [List.length_map, List.length_take] at l6
        refine ⟨s6, m6, e6, by omega, ⟨k6.val, fun z ⟨q, hq, r', er', hz⟩ => k6.all z ?_⟩⟩
        rw [List.take_add_one, ep] at hq
        rcases List.mem_append.mp hq with h | h
        · exact .inl ⟨q, h, r', er', hz⟩
        · have eq : q = (pi, pa) := by simpa using h
          subst eq
          rw [er] at er'
          cases er'
          refine .inr ?_
          rw [List.length_map, List.take_length]
          exact hz
    rintro H1 ⟨s1, mk, e1, lmk, kmk⟩
    rw [List.length_map, las] at lmk
    have la : LaOk rows x H1 mk (fun z => ∃ k, Mg.Go rows z x k) := by
      refine ⟨fun z v e => ?_, fun z ⟨k, r, er, mz, mx, lt⟩ => kmk.all z ⟨(k, r.idxOf x), ?_, r, er, ?_⟩⟩
      · obtain ⟨t', k, a1, a2, a3⟩ := kmk.val z v e
        exact ⟨t', k, a1, del_same _ _ a2, a3⟩
      · rw [List.length_map, las, List.take_length]
        exact mplc.mpr ⟨r, er, mx, rfl⟩
      · have := Mg.at_idx mz
        exact List.mem_of_getElem? (i := r.idxOf z) (by rw [List.getElem?_take, if_pos lt]; exact this)
    clear kmk
    -- the ends
    refine ⟨_, rfl, m, C_Merge, dx, _, .ref T0, rfl, s1 _ _ ho, K_Merge.cl, K_Merge.no "rows" (by simp), rfl, T0, rfl, ⟨_, SqT.of (s1 _ _ (S.same _ _ t1))⟩, fun en nen => ?_⟩
    refine lcM (walk_tup (K := K) (a := T0) (xs := ra.map V.ref)) (fun i => .int ((rows.getD i []).length : Nat)) (by rw [List.length_map, t2]; omega) nen (fun H' s => SqT.of (s _ _ (s1 _ _ (S.same _ _ t1)))) ?_ ?_
    · rintro i y H3 H4 Nx hi s3 ⟨rfl, ey⟩ k1
      rw [List.length_map, t2] at hi
      have er : rows[i]? = some rows[i] := List.getElem?_eq_getElem hi
      obtain ⟨ar, e2, e3⟩ := rowat er
      rw [e2] at ey
      cases ey
      have eg : (rows.getD i []) = rows[i] := by rw [List.getD_eq_getElem?_getD, er]; rfl
      rw [eg] at k1
      refine ⟨rfl, _, rfl, ar, _, rfl, .inr (.inl (rd_same ((S.same.trans s1).trans s3) e3)), ?_⟩
      rw [List.length_map]
      exact k1 _ (Same.refl _)
    intro H2 s2 e2
    have ee : (List.range (ra.map V.ref).length).map (fun i => V.int ((rows.getD i []).length : Nat)) = (rows.map List.length).map fun n => V.int (n : Nat) := by
      have := congrArg (List.map fun r : List Str => V.int (r.length : Nat)) (range_getD ([] : List Str) rows)
      rw [List.map_map] at this
      rw [List.length_map, t2, List.map_map]
      exact this
    rw [ee] at e2
    refine fun H3 sd s3 n3 e3 => ⟨_, rfl, e3, .inr x, rfl, ?_⟩
    obtain ⟨H4, eH4⟩ : ∃ H4, H4 = upd H3 sd (.dK [((Sum.inr x : Key), V.non)]) := ⟨_, rfl⟩
    rw [← eH4]
    have s4 : Same H2 H4 := by rw [eH4]; exact same_at s3 n3
    have e4 : H4 sd = some (.dK [((Sum.inr x : Key), V.non)]) := by rw [eH4]; exact upd_same
    refine ⟨_, rfl, (by show 1 ≤ 100000; decide), fun H5 lv s5 n5 e5 => ?_⟩
    -- the levels
    have s15 : Same H1 H5 := (s2.trans s4).trans s5
    have nsd : H1 sd = none := s2.free n3
    have nsd2 : en ≠ sd := fun z => by rw [← z, e2] at n3; cases n3
    have nlv : lv ≠ en := fun z => by rw [z, s4 _ _ e2] at n5; cases n5
    obtain ⟨W, eW⟩ : ∃ W : Nat → L2.St → Hp → Prop, W = fun k σ H' => ∃ v3 v4 v5 v10 v11 v12 v13 lv lvs kvs st es dd, σ = [some (.ref m), some (.str x), some (.int ((lim : Int) - dd)), v3, v4, v5, some (.ref D), some (.ref en), some (.ref sd), some (.ref lv), v10, v11, v12, v13, none, none] ∧
        Same H1 H' ∧ H' en = some (.lst ((es : List Nat).map fun n => V.int (n : Nat))) ∧ H' sd = some (.dK kvs) ∧ KnAt H' kvs st ∧ H' lv = some (.lst ((lvs : List Str).map V.str)) ∧ lv ≠ en ∧ Mg.Bfs rows gone x st lvs dd ∧ Mg.Ends rows gone es (Mg.kns st) ∧ k = lim - dd ∧ dd < lim ∧ lvs.Nodup := ⟨_, rfl⟩
    refine ⟨W, ⟨lim, by
      rw [eW]
      exact ⟨none, none, none, none, none, none, none, lv, [x], _, [(x, none)], rows.map List.length, 0, by rw [Int.natCast_zero, Int.sub_zero]; rfl, s15, s5 _ _ (s4 _ _ e2), s5 _ _ e4, .cons ⟨rfl, rfl⟩ .nil, e5, nlv, Mg.bfs_begin, Mg.ends_begin, by omega, by omega, by simp⟩⟩, ?_⟩
    rintro k σ H6 hW
    rw [eW] at hW
    obtain ⟨v3, v4, v5, v10, v11, v12, v13, lv, lvs, kvs, st, es, dd, rfl, s6, e6n, e6s, K6, e6l, nl6, B, En, rfl, ld, ndl⟩ := hW
    have HH6 : Same H H6 := s1.trans s6
    have nrm : ∀ H7, Same H H7 → (∀ p, p ≠ [] → Mg.Way rows gone x x p → lim < p.length) → ∀ H8 r, Same H7 H8 → H8 r = some (.tup []) → Q (.ref r) H8 := fun H7 s7 no H8 r s8 e8 => q H8 r [] (s7.trans s8) ⟨[], e8, .nil⟩ (.inl ⟨rfl, no⟩)
    refine ⟨_, rfl, !(lvs.map V.str).isEmpty, .inl ⟨_, SqL.of e6l, rfl⟩, ?_⟩
    by_cases hl0 : lvs = []
    · subst hl0
      refine iteF ⟨by decide, fun H7 r s7 n7 e7 => nrm H6 HH6 (fun p ne w => (B.empty ne w).elim) H7 r s7 e7⟩
    refine iteT0 (by cases lvs with | nil => exact absurd rfl hl0 | cons => rfl) ⟨W (lim - (dd + 1)), fun σ' H' w => ⟨_, by omega, w⟩, ?_⟩
    have inN : ∀ {y}, y ∈ lvs → y ∈ names rows := fun {y} hy => mem_names.mpr (Mg.far_in (mem_names.mp hx) ((B.lev y).mp hy).1)
    have small : (names rows).length ≤ 100000 := Nat.le_trans (seen_len _) fit.all
    have lvn : lvs.length ≤ 100000 := Nat.le_trans (nodup_sub ndl fun y hy => inN hy) small
    -- those that are directly ahead
    refine ⟨_, rfl, lv, rfl, ⟨_, SqL.of e6l⟩, fun M1 nM1 => ?_⟩
    refine lcS (walk_list (xs := lvs.map V.str)) (fun i => (valV mk (Sum.inr (lvs.getD i ""))).isSome) (fun i => .str (lvs.getD i "")) (by rw [List.length_map]; exact lvn) nM1 (fun H' s => SqL.of (s _ _ e6l)) ?_ ?_
    · rintro i y H7 H8 Nx Nf hi s7 ⟨rfl, ey⟩ k1 k2
      rw [List.getElem?_map] at ey
      obtain ⟨z, ez, rfl⟩ : ∃ z, lvs[i]? = some z ∧ y = .str z := by
        cases e : lvs[i]? with
        | none => rw [e] at ey; cases ey
        | some t => rw [e] at ey; exact ⟨t, rfl, (Option.some.inj ey).symm⟩
      have eg : lvs.getD i "" = z := by rw [List.getD_eq_getElem?_getD, ez]; rfl
      rw [eg] at k1 k2
      refine ⟨rfl, _, rfl, _, rfl, D, _, rfl, DGet.k (k := (Sum.inr z : Key)) (s7 _ _ (s6 _ _ e1)), _, rfl, ?_⟩
      cases c : (valV mk (Sum.inr z)).isSome with
      | true => exact iteT ⟨_, rfl, k1 c _ (Same.refl _)⟩
      | false => exact iteF (k2 c _ (Same.refl _))
    intro H7 s7 e7
    rw [List.length_map, sel_map2 ("" : Str) (fun z => (valV mk (Sum.inr z)).isSome) V.str lvs] at e7
    obtain ⟨met, em⟩ : ∃ met, met = lvs.filter fun z => (valV mk (Sum.inr z)).isSome := ⟨_, rfl⟩
    rw [← em] at e7
    have s17 : Same H1 H7 := s6.trans s7
    refine ⟨_, rfl, !(met.map V.str).isEmpty, .inl ⟨_, SqL.of e7, rfl⟩, ?_⟩
    cases met with
    | cons z0 zs =>
      have mz : z0 ∈ lvs.filter fun z => (valV mk (Sum.inr z)).isSome := em ▸ List.mem_cons_self ..
      obtain ⟨mz1, mz2⟩ := List.mem_filter.mp mz
      obtain ⟨v, ev⟩ := Option.isSome_iff_exists.mp mz2
      obtain ⟨t, k, rfl, et, go⟩ := la.val z0 v ev
      obtain ⟨p, bk, res⟩ := B.met nx mz1 go
      have res := res lim ld
      have lp : p.length + 1 ≤ lim := by
        rcases res with ⟨h, _⟩ | ⟨_, _, h, _⟩
        · exact absurd h (by simp)
        · simpa using h
      refine iteT ⟨_, rfl, _, rfl, M1, _, 0, _, rfl, rfl, SqL.of e7, atI_nat (j := 0) rfl, sd, z0, kvs, st, p, rfl, s7 _ _ e6s, kn_same s7 K6, B.nd, bk, by omega, fun H8 r8 s8 st8 => ?_⟩
      obtain ⟨ts, er8, f8⟩ := st8
      have e8D : H8 D = some (.dK mk) := s8 _ _ (s17 _ _ e1)
      refine ⟨_, rfl, _, rfl, M1, _, 0, _, rfl, rfl, SqL.of (s8 _ _ e7), atI_nat (j := 0) rfl, D, _, rfl, ev ▸ DGet.k (k := (Sum.inr z0 : Key)) e8D, (by show 1 ≤ 100000; decide), fun H9 t9 s9 n9 e9 => ?_⟩
      refine ⟨r8, t9, _, _, rfl, rfl, s9 _ _ er8, e9, ?_, fun H10 u s10 e10 => q H10 u _ ((((HH6.trans s7).trans s8).trans s9).trans s10) ⟨ts ++ [t], by rw [e10, List.map_append]; rfl, f2_snoc (f2_imp (fun _ _ k => s10 _ _ (s9 _ _ k)) f8) (s10 _ _ (s9 _ _ (s8 _ _ (s17 _ _ et))))⟩ res⟩
      have := f2_len f8
      rw [List.length_map]
      show ts.length + 1 ≤ 100000
      omega
    | nil =>
    have no : ∀ z ∈ lvs, ∀ i, ¬ Mg.Go rows z x i := fun z hz i go => by
      have h1 := la.all z ⟨i, go⟩
      have h2 : z ∈ lvs.filter fun z => (valV mk (Sum.inr z)).isSome := List.mem_filter.mpr ⟨hz, h1⟩
      rw [← em] at h2
      cases h2
    refine iteF ⟨_, rfl, _, _, rfl, rfl, ?_⟩
    refine ⟨_, rfl, rfl, _, rfl, ?_⟩
    by_cases zl : dd + 1 = lim
    · refine iteT0 (decide_eq_true (congrArg V.int (show (lim : Int) - dd - 1 = 0 by omega))) ⟨by decide, fun H8 r s8 n8 e8 => nrm H7 (HH6.trans s7) (fun p ne w => by have := B.least2 no ne w; omega) H8 r s8 e8⟩
    refine iteF0 (decide_eq_false fun e => by
      have e : (lim : Int) - dd - 1 = 0 := V.int.inj e
      omega) ?_
    -- one level more
    refine ⟨by decide, fun H8 fr s8 n8 e8 => ?_⟩
    have s18 := s17.trans s8
    have e8n : H8 en = _ := s8 _ _ (s7 _ _ e6n)
    have e8s : H8 sd = _ := s8 _ _ (s7 _ _ e6s)
    have e8l : H8 lv = _ := s8 _ _ (s7 _ _ e6l)
    have nfr : H1 fr = none := s17.free n8
    have nef : en ≠ fr := fun z => by rw [← z, s7 _ _ e6n] at n8; cases n8
    have nsf : sd ≠ fr := fun z => by rw [← z, s7 _ _ e6s] at n8; cases n8
    have nlf : lv ≠ fr := fun z => by rw [← z, s7 _ _ e6l] at n8; cases n8
    have nls : lv ≠ sd := fun z => by rw [z, e6s] at e6l; cases e6l
    obtain ⟨G0, eG⟩ : ∃ G0, G0 = Nb.del (Nb.del (Nb.del H8 en) sd) fr := ⟨_, rfl⟩
    have s1G : Same H1 G0 := by
      rw [eG]
      exact same_upd (same_upd (same_upd s18 nen) nsd) nfr
    have sG8 : Same G0 H8 := by
      rw [eG]
      exact (del_same.trans del_same).trans del_same
    have eGl : G0 lv = some (.lst (lvs.map V.str)) := by rw [eG, Nb.del_ne nlf, Nb.del_ne nls, Nb.del_ne nl6]; exact e8l
    have gn : G0 en = none := by rw [eG, Nb.del_ne nef, Nb.del_ne nsd2, Nb.del_at]
    have gs : G0 sd = none := by rw [eG, Nb.del_ne nsf, Nb.del_at]
    have gf : G0 fr = none := by rw [eG, Nb.del_at]
    have Lv0 : Lvl G0 H8 en sd fr rows gone st lvs es kvs [] := ⟨sG8, e8n, e8s, e8, by rw [show Mg.ext st [] = st from List.append_nil _]; exact kn_same (s7.trans s8) K6, Mg.mid_begin B.nd, by rw [show Mg.ext st [] = st from List.append_nil _]; exact En⟩
    have SFG : Same F G0 := (S.same.trans s1).trans s1G
    refine ⟨_, rfl, lv, rfl, ⟨_, SqL.of e8l⟩, for_it (walk_list (xs := lvs.map V.str)) (fun i σ H' => ∃ v3 v4 v5 v12 v13 es kvs new, σ = [some (.ref m), some (.str x), some (.int ((lim : Int) - dd - 1)), v3, v4, v5, some (.ref D), some (.ref en), some (.ref sd), some (.ref lv), some (.ref M1), some (.ref fr), v12, v13, none, none] ∧
        Lvl G0 H' en sd fr rows gone st lvs es kvs new ∧ ∀ y ∈ lvs.take i, ∀ z k, Mg.Go rows y z k → z ∉ gone → z ∈ Mg.kns (Mg.ext st new))
      ⟨_, _, _, _, _, es, kvs, [], rfl, Lv0, fun y hy => by simp at hy⟩ (fun i σ H' _ ⟨_, _, _, _, _, _, _, _, _, l, _⟩ => SqL.of (l.same _ _ eGl)) ?_ ?_⟩
    · rintro i yv σ H9 H10 hi ⟨w3, w4, w5, w12, w13, es9, kvs9, new9, rfl, L9, dn9⟩ ⟨rfl, ey⟩
      rw [List.getElem?_map] at ey
      obtain ⟨y, ey2, rfl⟩ : ∃ y, lvs[i]? = some y ∧ yv = .str y := by
        cases e : lvs[i]? with
        | none => rw [e] at ey; cases ey
        | some t => rw [e] at ey; exact ⟨t, rfl, (Option.some.inj ey).symm⟩
      have my : y ∈ lvs := List.mem_of_getElem? ey2
      have mny := inN my
      obtain ⟨as2, el2, f22⟩ := pls mny
      have SF9 := SFG.trans L9.same
      have ho9 := L9.same _ _ (s1G _ _ (s1 _ _ ho))
      refine ⟨_, rfl, m, C_Merge, dx, _, .ref P0, rfl, ho9, K_Merge.cl, K_Merge.no "places" (by simp), rfl, _, rfl, P0, _, rfl, dg mny SF9, L y, rfl, ⟨_, SqL.of (SF9 _ _ el2)⟩,
        for_it (walk_list (xs := as2.map V.ref)) (fun j σ H' => ∃ v3 v4 v12 v13 es kvs new, σ = [some (.ref m), some (.str x), some (.int ((lim : Int) - dd - 1)), v3, v4, some (.str y), some (.ref D), some (.ref en), some (.ref sd), some (.ref lv), some (.ref M1), some (.ref fr), v12, v13, none, none] ∧
          Lvl G0 H' en sd fr rows gone st lvs es kvs new ∧ (∀ y ∈ lvs.take i, ∀ z k, Mg.Go rows y z k → z ∉ gone → z ∈ Mg.kns (Mg.ext st new)) ∧ ∀ q ∈ (Mg.plc 0 rows y).take j, ∀ z, Mg.Go rows y z q.1 → z ∉ gone → z ∈ Mg.kns (Mg.ext st new))
        ⟨_, _, _, _, es9, kvs9, new9, rfl, L9, dn9, fun q hq => by simp at hq⟩ (fun j σ H' _ ⟨_, _, _, _, _, _, _, _, l, _⟩ => SqL.of (l.same _ _ (SFG _ _ el2))) ?_ ?_⟩
      · rintro j tv σ H11 H12 hj ⟨u3, u4, u12, u13, es1, kvs1, new1, rfl, L1, dn1, dq1⟩ ⟨rfl, ev⟩
        rw [List.getElem?_map] at ev
        obtain ⟨t, et, rfl⟩ : ∃ t, as2[j]? = some t ∧ tv = .ref t := by
          cases e : as2[j]? with
          | none => rw [e] at ev; cases ev
          | some t => rw [e] at ev; exact ⟨t, rfl, (Option.some.inj ev).symm⟩
        obtain ⟨⟨pi, pa⟩, ep, ht⟩ := f2_getl f22 et
        obtain ⟨r, er, mr, ea⟩ := mplc.mp (List.mem_of_getElem? ep)
        obtain ⟨ar, ea1, ea2⟩ := rowat er
        have nr := fit.nd r (List.mem_of_getElem? er)
        have SF := SFG.trans L1.same
        have hoc := L1.same _ _ (s1G _ _ (s1 _ _ ho))
        obtain ⟨e, ee1⟩ : ∃ e, es1[pi]? = some e := ⟨_, List.getElem?_eq_getElem (by rw [L1.ends.len]; exact (List.getElem?_eq_some_iff.mp er).1)⟩
        have le1 := L1.ends.le pi r e er ee1
        refine ⟨t, [.int (pi : Nat), .int (pa : Nat)], rfl, SqT.of (SF _ _ ht), rfl, .int (pi : Nat), [.int (pa : Nat)], rfl, .int (pa : Nat), [], rfl, rfl, ?_⟩
        refine ⟨_, rfl, m, C_Merge, dx, _, .ref T0, rfl, hoc, K_Merge.cl, K_Merge.no "rows" (by simp), rfl, _, rfl, T0, _, _, .ref ar, rfl, rfl, SqT.of (SF _ _ t1), atI_nat (j := pi) ea1, _, rfl, _, _, rfl, rfl, _, rfl, _, rfl, _, rfl, en, _, _, .int (e : Nat), rfl, rfl, SqL.of L1.en, atI_nat (j := pi) (by rw [List.getElem?_map, ee1]; rfl), _, rfl, slT (rd_same SF ea2) fun H13 p s13 hp => ?_⟩
        have hp : Rd H13 p (.tup (cutV (r.map V.str) (some ((pa + 1 : Nat) : Int)) (some (e : Int)))) := hp
        rw [cut_nat _ _ _ (by rw [List.length_map]; exact le1), ← List.map_take, ← List.map_drop] at hp
        obtain ⟨K0, eK0⟩ : ∃ K0, K0 = Mg.kns (Mg.ext st new1) := ⟨_, rfl⟩
        obtain ⟨cut, ecut⟩ : ∃ cut, cut = (r.take e).drop (pa + 1) := ⟨_, rfl⟩
        rw [← ecut] at hp
        refine ⟨_, rfl, p, rfl, ⟨_, (.inl hp : SqT K H13 p _)⟩, fun Df nDf => ?_⟩
        have cutl : cut.length ≤ 1000 := by
          rw [ecut, List.length_drop, List.length_take]
          have := short r (List.mem_of_getElem? er)
          omega
        have some1 : ∀ z, (valV kvs1 (Sum.inr z)).isSome = decide (z ∈ K0) := fun z => by rw [eK0]; exact kn_some L1.kn
        have hg13 := s13 _ _ (L1.same _ _ (by
          show G0 g = _
          exact s1G _ _ (s1 _ _ S.hg)))
        refine lcS (walk_tup (K := K) (a := p) (xs := cut.map V.str)) (fun i => decide (cut.getD i "" ∉ K0) && decide (cut.getD i "" ∉ gone)) (fun i => .str (cut.getD i "")) (by rw [List.length_map]; omega) nDf (fun H' s => .inl (rd_same s hp)) ?_ ?_
        · rintro l yv H14 H15 Nx Nf hl s14 ⟨rfl, ey⟩ k1 k2
          rw [List.getElem?_map] at ey
          obtain ⟨z, ez, rfl⟩ : ∃ z, cut[l]? = some z ∧ yv = .str z := by
            cases e : cut[l]? with
            | none => rw [e] at ey; cases ey
            | some t => rw [e] at ey; exact ⟨t, rfl, (Option.some.inj ey).symm⟩
          have eg : cut.getD l "" = z := by rw [List.getD_eq_getElem?_getD, ez]; rfl
          rw [eg] at k1 k2
          refine ⟨rfl, _, rfl, _, rfl, sd, _, rfl, DGet.k (k := (Sum.inr z : Key)) (s14 _ _ (s13 _ _ L1.sd)), _, rfl, ?_⟩
          have sz := some1 z
          by_cases c : z ∈ K0
          · have e1 : (!(valV kvs1 (Sum.inr z)).isSome) = false := by rw [sz, decide_eq_true c]; rfl
            refine iteF0 e1 (iteF0 (by rfl) (k2 (by simp [c]) _ (Same.refl _)))
          · have e1 : (!(valV kvs1 (Sum.inr z)).isSome) = true := by rw [sz, decide_eq_false c]; rfl
            refine iteT0 e1 ⟨_, rfl, _, rfl, m, C_Merge, dx, _, .ref g, rfl, s14 _ _ (s13 _ _ hoc), K_Merge.cl, K_Merge.no "gone" (by simp), rfl, g, _, rfl, DGet.k (k := (Sum.inr z : Key)) (s14 _ _ hg13), _, rfl, ?_⟩
            rw [val_gone]
            by_cases c2 : z ∈ gone
            · rw [if_pos c2]
              exact iteF (k2 (by simp [c2]) _ (Same.refl _))
            · rw [if_neg c2]
              exact iteT ⟨_, rfl, k1 (by simp [c, c2]) _ (Same.refl _)⟩
        intro H14 s14 e14
        rw [List.length_map, sel_map2 ("" : Str) (fun z => decide (z ∉ K0) && decide (z ∉ gone)) V.str cut] at e14
        obtain ⟨fnd, efd⟩ : ∃ fnd, fnd = cut.filter fun z => decide (z ∉ K0) && decide (z ∉ gone) := ⟨_, rfl⟩
        rw [← efd] at e14
        have efd2 : fnd = ((r.take e).drop (r.idxOf y + 1)).filter fun y => decide (y ∉ Mg.kns (Mg.ext st new1)) && decide (y ∉ gone) := by rw [efd, ecut, eK0, ea]
        have M2 := L1.mid.add my er nr mr e efd2
        have E2 := L1.ends.add (x := y) er ee1 efd2
        have ndf : fnd.Nodup := by
          rw [efd, ecut]
          exact nr.sublist (List.filter_sublist.trans ((List.drop_sublist _ _).trans (List.take_sublist _ _)))
        have lfd : fnd.length ≤ 1000 := by
          rw [efd]
          exact Nat.le_trans (List.length_filter_le _ _) cutl
        have s1c : Same H13 H14 := s14
        have e14s : H14 sd = _ := s14 _ _ (s13 _ _ L1.sd)
        refine ⟨_, rfl, .inr (.inr (.inl ⟨rfl, .inl ⟨_, e14s⟩⟩)), _, rfl, Df, rfl, ⟨_, SqL.of e14⟩, fun Du nDu => ?_⟩
        refine dcR (walk_list (xs := fnd.map V.str)) (fun i => Sum.inr (fnd.getD i "")) (fun i v H => ∃ t, v = .ref t ∧ H t = some (stV (y, fnd.getD i "", pi))) (fun i v H1 H2 s ⟨t, a, b⟩ => ⟨t, a, s _ _ b⟩) (fun i j l1 l2 e => ?_) (by rw [List.length_map]; omega) nDu (fun H' s => SqL.of (s _ _ e14)) ?_ ?_
        · rw [List.length_map] at l2
          have e : fnd.getD i "" = fnd.getD j "" := Sum.inr.inj e
          rw [List.getD_eq_getElem?_getD, List.getD_eq_getElem?_getD, List.getElem?_eq_getElem (by omega : i < fnd.length), List.getElem?_eq_getElem l2] at e
          have := (List.getElem_inj ndf).mp (show fnd[i] = fnd[j] from e)
          omega
        · rintro l xv H15 H16 N hl s15 nD ⟨rfl, ey⟩ kk
          rw [List.getElem?_map] at ey
          obtain ⟨z, ez, rfl⟩ : ∃ z, fnd[l]? = some z ∧ xv = .str z := by
            cases e : fnd[l]? with
            | none => rw [e] at ey; cases ey
            | some t => rw [e] at ey; exact ⟨t, rfl, (Option.some.inj ey).symm⟩
          have eg : fnd.getD l "" = z := by rw [List.getD_eq_getElem?_getD, ez]; rfl
          rw [eg] at kk
          refine ⟨rfl, _, rfl, _, rfl, _, rfl, _, rfl, (by show 3 ≤ 100000; decide), fun H17 t17 s17 n17 e17 => kk _ H17 s17 ⟨t17, rfl, ?_⟩⟩
          exact (Nb.del_ne (fun q => nD (by rw [← q]; exact n17))).trans e17
        intro H15 kvu s15 e15 f15
        have fu : F2 (KnR H15) kvu (fnd.map fun z => (z, some (y, pi))) := by
          have := f2_made2 (P := fun i => (fnd.getD i "", some (y, pi))) (R := fun (kv : Key × V) (e : Str × Option (Str × Nat)) => KnR H15 kv e) (f2_imp (fun i kv ⟨a, t, b, c⟩ => ⟨a, t, b, c⟩) f15)
          rw [List.length_map] at this
          have e2 := congrArg (List.map fun z : Str => (z, some (y, pi))) (range_getD ("" : Str) fnd)
          rw [List.map_map] at e2
          rw [← e2]
          exact this
        obtain ⟨new2, en2⟩ : ∃ new2, new2 = new1 ++ fnd.map fun z => (z, y, pi) := ⟨_, rfl⟩
        have ext2 : Mg.ext st new2 = Mg.ext st new1 ++ fnd.map fun z => (z, some (y, pi)) := by
          rw [en2]
          unfold Mg.ext
          rw [List.map_append, List.map_map, List.append_assoc]
          rfl
        have kn2 : Mg.kns (Mg.ext st new2) = K0 ++ fnd := by
          rw [ext2, eK0]
          unfold Mg.kns
          rw [List.map_append, List.map_map]
          congr 1
          exact List.map_id _
        rw [← en2] at M2
        rw [← eK0, ← kn2] at E2
        have KA : KnAt H15 (kvs1 ++ kvu) (Mg.ext st new2) := by
          rw [ext2]
          exact f2_app (kn_same ((s13.trans s14).trans s15) L1.kn) fu
        have ndk : ((kvs1 ++ kvu).map (·.1)).Nodup := by
          rw [kn_keys KA]
          exact List.pairwise_map.mpr (M2.nd.imp fun h z => h (Sum.inr.inj z))
        have kl : kvs1.length + kvu.length ≤ 100000 := by
          have e1 : (kvs1 ++ kvu).length = (Mg.kns (Mg.ext st new2)).length := by
            have := congrArg List.length (kn_keys KA)
            rwa [List.length_map, List.length_map] at this
          rw [List.length_append] at e1
          rw [e1]
          refine Nat.le_trans (nodup_sub M2.nd fun z hz => ?_) small
          rw [Mg.kns_ext] at hz
          rcases List.mem_append.mp hz with h | h
          · obtain ⟨n, _, f⟩ := (B.mem z).mp h
            exact mem_names.mpr (Mg.far_in (mem_names.mp hx) f)
          · obtain ⟨t, ht, rfl⟩ := List.mem_map.mp h
            obtain ⟨_, ⟨r', er', _, m', _⟩, _⟩ := M2.src t ht
            exact mem_names.mpr (List.mem_flatten.mpr ⟨r', List.mem_of_getElem? er', m'⟩)
        have sG15 : Same G0 H15 := ((L1.same.trans s13).trans s14).trans s15
        have e15s : H15 sd = some (.dK kvs1) := s15 _ _ e14s
        have e15n : H15 en = _ := s15 _ _ (s14 _ _ (s13 _ _ L1.en))
        have e15f : H15 fr = _ := s15 _ _ (s14 _ _ (s13 _ _ L1.fr))
        have e15d : H15 Df = _ := s15 _ _ e14
        have nsu : sd ≠ Du := fun z => by rw [← z, e14s] at nDu; cases nDu
        have nds : Df ≠ sd := fun z => by rw [z, e15s] at e15d; cases e15d
        refine ⟨sd, Du, kvs1, kvu, rfl, rfl, nsu, e15s, e15, kl, ?_⟩
        rw [mergeK_app _ _ ndk]
        obtain ⟨H16, eH16⟩ : ∃ H16, H16 = upd H15 sd (.dK (kvs1 ++ kvu)) := ⟨_, rfl⟩
        rw [← eH16]
        have e16f : H16 fr = some (.lst ((new1.map fun t => t.1).map V.str)) := by rw [eH16, upd_ne (Ne.symm nsf)]; exact e15f
        have e16d : H16 Df = some (.lst (fnd.map V.str)) := by rw [eH16, upd_ne nds]; exact e15d
        have e16n : H16 en = some (.lst (es1.map fun n => V.int (n : Nat))) := by rw [eH16, upd_ne nsd2]; exact e15n
        have nl : (new1.map fun t => t.1).length + fnd.length ≤ 100000 := by
          have e1 : (Mg.kns (Mg.ext st new2)).length = (Mg.kns st).length + ((new1.map fun t => t.1).length + fnd.length) := by
            rw [kn2, eK0, Mg.kns_ext, List.length_append, List.length_append]
            show (Mg.kns st).length + _ + _ = (Mg.kns st).length + _
            omega
          have e2 := congrArg List.length (kn_keys KA)
          rw [List.length_map, List.length_map, List.length_append] at e2
          omega
        refine ⟨_, rfl, .inl ⟨rfl, _, SqL.of e16f⟩, _, rfl, fr, Df, _, _, rfl, rfl, e16f, e16d, ?_, ?_⟩
        · have nl2 := nl
          rw [List.length_map] at nl2
          rw [List.length_map, List.length_map, List.length_map]
          exact line100 nl2
        obtain ⟨H17, eH17⟩ : ∃ H17, H17 = upd H16 fr (.lst ((new1.map fun t => t.1).map V.str ++ fnd.map V.str)) := ⟨_, rfl⟩
        rw [← eH17]
        have e17n : H17 en = some (.lst (es1.map fun n => V.int (n : Nat))) := by rw [eH17, upd_ne nef]; exact e16n
        have lt1 : pi < es1.length := (List.getElem?_eq_some_iff.mp ee1).1
        refine ⟨_, rfl, _, rfl, en, _, _, .int (e : Nat), rfl, rfl, SqL.of e17n, atI_nat (j := pi) (by rw [List.getElem?_map, ee1]; rfl), _, rfl, _, _, rfl, rfl, _, _, rfl, _, rfl, _, rfl, en, _, _, pi, rfl, rfl, e17n, (by rw [List.length_map]; exact ixN_at lt1), ?_⟩
        have emin : (if (fun i j => i + j) (pa : Int) 1 < ((e : Nat) : Int) then (fun i j => i + j) (pa : Int) 1 else ((e : Nat) : Int)) = ((min e (r.idxOf y + 1) : Nat) : Int) := by
          rw [← ea]
          show (if (pa : Int) + 1 < (e : Int) then (pa : Int) + 1 else (e : Int)) = _
          split <;> omega
        rw [emin]
        obtain ⟨es2, ees2⟩ : ∃ es2, es2 = es1.set pi (min e (r.idxOf y + 1)) := ⟨_, rfl⟩
        rw [← ees2] at E2
        have L2' : Lvl G0 (upd H17 en (.lst ((es1.map fun n => V.int (n : Nat)).set pi (.int ((min e (r.idxOf y + 1) : Nat) : Int))))) en sd fr rows gone st lvs es2 (kvs1 ++ kvu) new2 := by
          refine ⟨?_, ?_, ?_, ?_, ?_, M2, E2⟩
          · rw [eH17, eH16]
            exact same_at (same_at (same_at sG15 gs) gf) gn
          · rw [upd_same, ees2, List.map_set]
          · rw [upd_ne (Ne.symm nsd2), eH17, upd_ne nsf, eH16, upd_same]
          · rw [upd_ne (Ne.symm nef), eH17, upd_same, en2, List.map_append, List.map_append]
            have e3 : (fnd.map fun z => (z, y, pi)).map (fun t => t.1) = fnd := by rw [List.map_map]; exact List.map_id _
            rw [e3]
          · have t1 : TK H15 H16 := by rw [eH16]; exact tk_upd e15s dk_st
            have t2 : TK H16 H17 := by rw [eH17]; exact tk_upd e16f lst_st
            exact kn_tk ((t1.trans t2).trans (tk_upd e17n lst_st)) KA
        have more : ∀ z, z ∈ Mg.kns (Mg.ext st new1) → z ∈ Mg.kns (Mg.ext st new2) := fun z hz => by
          rw [kn2, eK0]
          exact List.mem_append_left _ hz
        refine ⟨_, _, _, _, es2, kvs1 ++ kvu, new2, rfl, L2', fun y' hy' z k go gz => more z (dn1 y' hy' z k go gz), fun q' hq' z go gz => ?_⟩
        rw [List.take_add_one, ep] at hq'
        rcases List.mem_append.mp hq' with h | h
        · exact more z (dq1 q' h z go gz)
        · have eq : q' = (pi, pa) := by simpa using h
          subst eq
          exact E2.known er (by rw [ees2, List.getElem?_set_self lt1]) (Nat.min_le_right _ _) z go gz
      · rintro σ H11 ⟨u3, u4, u12, u13, es1, kvs1, new1, rfl, L1, dn1, dq1⟩
        refine ⟨_, _, _, _, _, es1, kvs1, new1, rfl, L1, fun y' hy' z k go gz => ?_⟩
        rw [List.take_add_one, ey2] at hy'
        rcases List.mem_append.mp hy' with h | h
        · exact dn1 y' h z k go gz
        · have eq : y' = y := by simpa using h
          subst eq
          obtain ⟨r, er, m1, _⟩ := id go
          refine dq1 (k, r.idxOf y') ?_ z go gz
          rw [List.length_map, f2_len f22, List.take_length]
          exact mplc.mpr ⟨r, er, m1, rfl⟩
    rintro σ H9 ⟨w3, w4, w5, w12, w13, es9, kvs9, new9, rfl, L9, dn9⟩
    rw [List.length_map, List.take_length] at dn9
    refine ⟨_, rfl, ?_⟩
    rw [eW]
    have nd9 : (new9.map fun t => t.1).Nodup := by
      have := L9.mid.nd
      rw [Mg.kns_ext] at this
      exact (List.nodup_append.mp this).2.1
    refine ⟨w3, w4, w5, some (.ref M1), some (.ref fr), w12, w13, fr, new9.map fun t => t.1, kvs9, Mg.ext st new9, es9, dd + 1, ?_, s1G.trans L9.same, L9.en, L9.sd, L9.kn, L9.fr, Ne.symm nef, B.next L9.mid nx dn9 no, L9.ends, rfl, by omega, nd9⟩
    rw [show (lim : Int) - dd - 1 = lim - ((dd + 1 : Nat) : Int) by omega]
    rfl
end
end K08

set_option Elab.async false
set_option linter.all false
set_option maxRecDepth 100000
set_option maxHeartbeats 4000000
namespace K08
open PySem Nb
open L2 hiding del del_ne del_same
theorem _root_.Nb.MgS.later {C m T P g hd b : Addr} {rows : Rows} {F H H' : Hp} {gone : List Str} {hs : List Nat} {rdy : Nat} (S : MgS C m T P g hd b rows F H gone hs rdy) (s : Same H H') : MgS C m T P g hd b rows F H' gone hs rdy := by
  obtain ⟨dx, e1⟩ := S.obj
  obtain ⟨bs, e4, k⟩ := S.hb
  exact ⟨S.same.trans s, S.off, S.gb, ⟨dx, s _ _ e1⟩, s _ _ S.hg, s _ _ S.hh, bs, s _ _ e4, k⟩
/-- all but what a merge changes -/
def off4 (H : Hp) (m g hd b : Addr) : Hp := Nb.del (Nb.del (Nb.del (Nb.del H m) g) hd) b
theorem off4_keep {H : Hp} {m g hd b a : Addr} {o : HO} (e : H a = some o) (n1 : a ≠ m) (n2 : a ≠ g) (n3 : a ≠ hd) (n4 : a ≠ b) : off4 H m g hd b a = some o := by
  unfold off4
  rw [Nb.del_ne n4, Nb.del_ne n3, Nb.del_ne n2, Nb.del_ne n1]
  exact e
theorem off4_back {H : Hp} {m g hd b : Addr} : Same (off4 H m g hd b) H := ((del_same.trans del_same).trans del_same).trans del_same
theorem _root_.Nb.MgS.wide {C m T P g hd b : Addr} {rows : Rows} {F H : Hp} {gone : List Str} {hs : List Nat} {rdy : Nat} (S : MgS C m T P g hd b rows F H gone hs rdy) : MgS C m T P g hd b rows (off4 H m g hd b) H gone hs rdy ∧ Same F (off4 H m g hd b) := by
  obtain ⟨n1, n2, n3, n4, n5⟩ := S.nes
  refine ⟨S.frame off4_back ⟨?_, ?_, ?_, ?_⟩, same_upd (same_upd (same_upd (same_upd S.same S.off.1) S.off.2.1) S.off.2.2.1) S.off.2.2.2⟩
  · unfold off4; rw [Nb.del_ne n3, Nb.del_ne n2, Nb.del_ne n1, Nb.del_at]
  · unfold off4; rw [Nb.del_ne S.gb, Nb.del_ne n4, Nb.del_at]
  · unfold off4; rw [Nb.del_ne n5, Nb.del_at]
  · unfold off4; rw [Nb.del_at]
theorem sts_wide {C m T P g hd b r : Addr} {rows : Rows} {F H : Hp} {gone : List Str} {hs : List Nat} {rdy : Nat} {p : List (Mg.Stp Str)} (S : MgS C m T P g hd b rows F H gone hs rdy) (h : StsAt H r p) : StsAt (off4 H m g hd b) r p := by
  obtain ⟨dx, e1⟩ := S.obj
  obtain ⟨bs, e4, _⟩ := S.hb
  have keep : ∀ {a : Addr} {xs : List V}, H a = some (.tup xs) → off4 H m g hd b a = some (.tup xs) := fun {a xs} e => off4_keep e (fun z => by rw [z, e1] at e; cases e) (fun z => by rw [z, S.hg] at e; cases e) (fun z => by rw [z, S.hh] at e; cases e) (fun z => by rw [z, e4] at e; cases e)
  obtain ⟨ts, et, f⟩ := h
  exact ⟨ts, keep et, f2_imp (fun _ _ k => keep k) f⟩
theorem sts_upd {H : Hp} {r l : Addr} {u o : HO} {p : List (Mg.Stp Str)} (h : StsAt H r p) (e : H l = some u) (n : ∀ xs, u ≠ .tup xs) : StsAt (upd H l o) r p := by
  obtain ⟨ts, et, f⟩ := h
  have keep : ∀ {a : Addr} {xs : List V}, H a = some (.tup xs) → (upd H l o) a = some (.tup xs) := fun {a xs} k => by
    rw [upd_ne (fun z => by rw [z, e] at k; exact n _ (Option.some.inj k))]
    exact k
  exact ⟨ts, keep et, f2_imp (fun _ _ k => keep k) f⟩
def spFewest (C : Addr) : Sp := fun vs H Q _ => ∃ (m T P g hd b : Addr) (rows : Rows) (F : Hp) (L : Str → Addr) (hs : List Nat), vs = [.ref m] ∧ (∀ r ∈ rows, r.length ≤ 1000) ∧ MgF F T P rows L ∧ MgS C m T P g hd b rows F H (Mg.drawn rows) hs 0 ∧ (Mg.drawn rows).Nodup ∧ (∀ x ∈ Mg.drawn rows, x ∈ names rows) ∧
  Mg.Inv rows (Mg.drawn rows) hs 0 none (fun _ => False) ∧ F P = some (.dK ((names rows).map fun x => ((Sum.inr x : Key), V.ref (L x)))) ∧ (∃ y ∈ rows.flatten, y ∉ Mg.drawn rows) ∧
  ∀ H' r p, Same F H' → StsAt H' r p → Mg.Least rows p → Q (.ref r) H'
section
variable {P : Program} {w : World} {K : PySem.W.Frag} {mg : Str → Option Value} {base : Heap} {TL : List (Addr × Str)}
abbrev s_fewest_clash : Stmt := topS 21
theorem sc_fewest_clash : FnScope ["merge", "clash", "limit", "name", "ring"] ["merge"] (defScope s_fewest_clash) := ⟨rfl, rfl, rfl, by decide +kernel, rfl, by decide +kernel, by decide +kernel⟩
theorem ok_fewest_clash {f : Addr} {fd : FuncData} (F : Fun K "_fewest_clash" "_fewest_clash" s_fewest_clash f fd) {C_Merge : Addr} (T : Txt mg) (K_Merge : Kl K mg "Merge" C_Merge ["rows", "places", "gone", "heads", "behind", "ready"]) (D_Merge_drop : Mn P w K mg base CX0 3 C_Merge "drop" ["self", "name"] (spDrop C_Merge)) (D_Merge_draw : Mn P w K mg base CX0 4 C_Merge "draw" ["self"] (spDraw C_Merge)) (D_Merge_ring : Mn P w K mg base CX0 2 C_Merge "ring" ["self", "start", "limit"] (spRing C_Merge)) {t_FEWEST_STEPS : Tok} (m_FEWEST_STEPS : mg "_FEWEST_STEPS" = some (.int 2 t_FEWEST_STEPS)) : FnOk P w K mg base CX0 5 f fd ["merge"] (spFewest C_Merge) := by
  refine F.ok sc_fewest_clash (fun vs H Q E h => ?_) (fun cdv A outer s H vs Q E hr h => ?_)
  · obtain ⟨m, T0, P0, g, hd, b, rows, F, L, hs, rfl, _⟩ := h
    rfl
  · obtain ⟨m, T0, P0, g, hd, b, rows, F, L, hs, rfl, short, M, S, nd, sub, I, eP, some_, q⟩ := h
    have hu := hu_of hr
    refine ⟨_, pss_cons (ps_set (i := 1) sc_fewest_clash.nd rfl (Or.inl rfl) (pe_tupS pa_nil))
        (pss_cons (ps_set (i := 2) sc_fewest_clash.nd rfl (Or.inl rfl) (pe_callB call_len_seq (by rfl) T.len PySem.boot_len (pa_cons (pe_fld (pv 0) rfl) pa_nil)))
        (pss_cons (ps_lock (ps_for PassesOwn.never rfl (pi_keys (pe_fld (pv 0) rfl)) (pg_name (i := 3) sc_fewest_clash.nd rfl (Or.inl rfl)) (pss_cons (ps_if (pt_cmpR op_lt (pv 2) (pe_glob (v := .int 2) (by rfl) m_FEWEST_STEPS ⟨_, rfl⟩) (nomark _)) (pss_one ps_break) pss_nil)
        (pss_cons (ps_if (pt_cmp (pc_din hu (pv 3) (pe_fld (pv 0) rfl))) (pss_one ps_continue) pss_nil)
        (pss_cons (ps_set (i := 4) sc_fewest_clash.nd rfl (Or.inl rfl) (pe_M D_Merge_ring K_Merge.cl (pv 0) (hr.mono (by decide)) pass0 (pa_cons (pv 3) (pa_cons (pv 2) pa_nil))))
        (pss_cons (ps_if (pt_truth (pv 4) (by intro _; rfl)) (pss_cons (ps_set (i := 1) sc_fewest_clash.nd rfl (Or.inl rfl) (pv 4))
        (pss_one (ps_set (i := 2) sc_fewest_clash.nd rfl (Or.inl rfl) (pe_op op_sub (pe_callB call_len_seq (by rfl) T.len PySem.boot_len (pa_cons (pv 4) pa_nil)) pe_int)))) pss_nil)
        (pss_cons (ps_expr (pe_M D_Merge_drop K_Merge.cl (pv 0) (hr.mono (by decide)) pass0 (pa_cons (pv 3) pa_nil)))
        (pss_one (ps_expr (pe_M0 D_Merge_draw K_Merge.cl (pv 0) (hr.mono (by decide)) pass0))))))))))
        (pss_one (ps_ret (pv 1))))), ?_⟩
    obtain ⟨dx, ho⟩ := S.obj
    obtain ⟨ra, t1, t2, t3⟩ := id M.at_
    have fit := M.fit
    have ndr := fit.nd
    have ex : ∃ q, Mg.Ring rows [] q := by
      obtain ⟨p, ne, x, w⟩ := Mg.stuck_ring ndr (I.pick_none rfl) some_
      exact ⟨p, ne, x, Mg.way_mono (fun y hy => absurd hy (List.not_mem_nil)) w⟩
    refine ⟨by decide, fun H1 ca s1 n1 e1 => ?_⟩
    have S1 := S.later s1
    obtain ⟨dx1, ho1⟩ := S1.obj
    refine ⟨_, rfl, m, C_Merge, dx1, _, .ref T0, rfl, ho1, K_Merge.cl, K_Merge.no "rows" (by simp), rfl, T0, _, rfl, .inr (SqT.of (S1.same _ _ t1)), ?_⟩
    rw [List.length_map, t2]
    obtain ⟨kvs, ekv⟩ : ∃ kvs, kvs = (names rows).map fun x => ((Sum.inr x : Key), V.ref (L x)) := ⟨_, rfl⟩
    rw [← ekv] at eP
    have len : kvs.length = (names rows).length := by rw [ekv, List.length_map]
    have P1 : H1 P0 = some (.dK kvs) := S1.same _ _ eP
    have Pm : P0 ≠ m := fun z => by rw [z, S.off.1] at eP; cases eP
    have Pg : P0 ≠ g := fun z => by rw [z, S.off.2.1] at eP; cases eP
    have Ph : P0 ≠ hd := fun z => by rw [z, S.off.2.2.1] at eP; cases eP
    have Pb : P0 ≠ b := fun z => by rw [z, S.off.2.2.2] at eP; cases eP
    have Pc : ca ≠ P0 := fun z => by rw [z, S.same _ _ eP] at n1; cases n1
    refine ⟨P0, _, P1, trivial, fun od => ?_⟩
    obtain ⟨H2, e2⟩ : ∃ H2, H2 = upd H1 P0 (.frz od (.dK kvs)) := ⟨_, rfl⟩
    rw [← e2]
    obtain ⟨F2', eF2⟩ : ∃ F2', F2' = upd F P0 (.frz od (.dK kvs)) := ⟨_, rfl⟩
    have S2 : MgS C_Merge m T0 P0 g hd b rows F2' H2 (Mg.drawn rows) hs 0 := by
      rw [e2, eF2]
      exact S1.locked Pm Pg Ph Pb
    have M2 : MgF F2' T0 P0 rows L := by
      rw [eF2]
      exact M.locked eP ekv
    obtain ⟨dx2, ho2⟩ := S2.obj
    have fP : F2' P0 = some (.frz od (.dK kvs)) := by rw [eF2]; exact upd_same
    refine ⟨_, rfl, m, C_Merge, dx2, _, .ref P0, rfl, ho2, K_Merge.cl, K_Merge.no "places" (by simp), rfl, P0, od, rfl, .inl ⟨kvs, by rw [e2]; exact upd_same, ?_⟩⟩
    have fin : ∀ {H' : Hp} {ca : Addr} {p : List (Mg.Stp Str)} {lim : Nat} {gone : List Str} {hs : List Nat}, MgS C_Merge m T0 P0 g hd b rows F2' H' gone hs 0 → StsAt H' ca p → Mg.Few rows gone p lim → (lim < 2 ∨ ∀ x ∈ rows.flatten, x ∈ gone) → Q (.ref ca) (upd H' P0 (.dK kvs)) := fun {H' ca p lim gone hs} S st Fw h => by
      have SF : MgS C_Merge m T0 P0 g hd b rows F (upd H' P0 (.dK kvs)) gone hs 0 := by
        have S := S
        rw [eF2] at S
        exact S.unlocked eP Pm Pg Ph Pb
      exact q _ ca p SF.same (sts_upd st (S.same _ _ fP) fun _ z => nomatch z) (Fw.done ex h)
    refine for_it (walk_keys (kvs := kvs)) (fun i σ H' => ∃ v3 v4 ca p lim gone hs, σ = [some (.ref m), some (.ref ca), some (.int (lim : Nat)), v3, v4] ∧ MgS C_Merge m T0 P0 g hd b rows F2' H' gone hs 0 ∧ Mg.Inv rows gone hs 0 none (fun _ => False) ∧ gone.Nodup ∧ (∀ x ∈ gone, x ∈ names rows) ∧ StsAt H' ca p ∧ Mg.Few rows gone p lim ∧ lim ≤ rows.length ∧ ∀ x ∈ (names rows).take i, x ∈ gone)
      ⟨none, none, ca, [], rows.length, Mg.drawn rows, hs, rfl, S2, I, nd, sub, ⟨[], by rw [e2, upd_ne Pc]; exact e1, .nil⟩, Mg.few_begin ndr, Nat.le_refl _, fun x hx => by simp at hx⟩ (fun i σ H' _ ⟨_, _, _, _, _, _, _, _, S, _⟩ => S.same _ _ fP) ?_ ?_
    · rintro i y σ H' H'' hi ⟨v3, v4, ca3, p3, lim3, gone, hs3, rfl, S3, I3, nd3, sub3, st3, F3, lm3, dn3⟩ ⟨rfl, k, v, ek, rfl⟩
      rw [len] at hi
      obtain ⟨z, ez⟩ : ∃ z, (names rows)[i]? = some z := ⟨_, List.getElem?_eq_getElem hi⟩
      have kz : k = Sum.inr z := by
        rw [ekv, List.getElem?_map, ez] at ek
        cases ek
        rfl
      subst kz
      have mz : z ∈ names rows := List.mem_of_getElem? ez
      refine ⟨_, rfl, _, _, rfl, rfl, _, rfl, ?_⟩
      by_cases lt : lim3 < 2
      · exact iteT0 (decide_eq_true (by omega)) ⟨S3.same _ _ fP, _, rfl, fin S3 st3 F3 (.inl lt)⟩
      refine iteF0 (decide_eq_false (by omega)) ?_
      obtain ⟨dx3, ho3⟩ := S3.obj
      refine ⟨_, rfl, _, rfl, m, C_Merge, dx3, _, .ref g, rfl, ho3, K_Merge.cl, K_Merge.no "gone" (by simp), rfl, g, _, rfl, DGet.k (k := (Sum.inr z : Key)) S3.hg, _, rfl, ?_⟩
      rw [val_gone]
      by_cases zg : z ∈ gone
      · rw [if_pos zg]
        refine iteT ⟨_, _, ca3, p3, lim3, gone, hs3, rfl, S3, I3, nd3, sub3, st3, F3, lm3, fun x hx => ?_⟩
        rw [List.take_add_one, ez] at hx
        rcases List.mem_append.mp hx with h | h
        · exact dn3 x h
        · have : x = z := by simpa using h
          exact this ▸ zg
      rw [if_neg zg]
      refine iteF ⟨_, rfl, m, dx3, _, rfl, ho3, rfl, _, rfl, _, rfl, m, T0, P0, g, hd, b, rows, F2', L, gone, hs3, 0, z, lim3, rfl, short, M2, S3, mz, zg, by omega, by have := fit.few; omega, fun H4 r rp s4 st4 res => ?_⟩
      have S4 := S3.later s4
      obtain ⟨F4, eF4⟩ : ∃ F4, F4 = off4 H4 m g hd b := ⟨_, rfl⟩
      have S4w : MgS C_Merge m T0 P0 g hd b rows F4 H4 gone hs3 0 := by rw [eF4]; exact S4.wide.1
      have SF4 : Same F2' F4 := by rw [eF4]; exact S4.wide.2
      have M4 : MgF F4 T0 P0 rows L := mgF_same SF4 M2
      have gl : gone.length ≤ 100000 := Nat.le_trans (nodup_sub nd3 sub3) (Nat.le_trans (seen_len _) fit.all)
      have Idr : Mg.Inv rows (gone ++ [z]) hs3 0 (some z) (fun i => ∃ r h, rows[i]? = some r ∧ hs3[i]? = some h ∧ r[h]? = some z) := I3.drop 0 fun j => ⟨fun h => by simp at h, fun ⟨y, n, my, zy, fy⟩ => (I3.rd j).mpr ⟨y, fun k => n (List.mem_append_left _ k), my, zy, fy⟩⟩
      have nd5 : (gone ++ [z]).Nodup := List.nodup_append.mpr ⟨nd3, by simp, fun a ha c hc e => by
        have : c = z := by simpa using hc
        rw [e, this] at ha
        exact zg ha⟩
      have sub5 : ∀ x ∈ gone ++ [z], x ∈ names rows := fun x hx => (List.mem_append.mp hx).elim (sub3 x) fun h => by
        have : x = z := by simpa using h
        exact this ▸ mz
      obtain ⟨rts, er, frt⟩ := id st4
      refine ⟨_, rfl, !(rts.map V.ref).isEmpty, .inr (.inl ⟨_, SqT.of er, rfl⟩), ?_⟩
      by_cases nr : rp = []
      · subst nr
        cases frt
        refine iteF ?_

        obtain ⟨dx4, ho4⟩ := S4.obj
        refine ⟨_, rfl, m, dx4, _, rfl, ho4, rfl, _, rfl, m, T0, P0, g, hd, b, rows, F4, L, gone, hs3, 0, z, rfl, M4, S4w, mz, zg, gl, Idr, fun H5 hs5 rdy5 S5 I5 => ?_⟩
        obtain ⟨dx5, ho5⟩ := S5.obj
        refine ⟨_, rfl, m, dx5, _, rfl, ho5, rfl, m, T0, P0, g, hd, b, rows, F4, L, gone ++ [z], hs5, rdy5, rfl, M4, S5, nd5, sub5, I5, fun H6 l6 hs6 S6 I6 _ _ nd6 sub6 => ?_⟩
        refine ⟨_, _, ca3, p3, lim3, _, hs6, rfl, S6.frame (SF4.trans S6.same) S3.off, I6, nd6, sub6, sts_same S6.same (by rw [eF4]; exact sts_wide S4 (sts_same s4 st3)), ?_, ?_, fun x hx => ?_⟩
        · have := F3.step ndr res
          rw [if_pos rfl, if_pos rfl] at this
          exact this
        · exact lm3
        · rw [List.take_add_one, ez] at hx
          rcases List.mem_append.mp hx with h | h
          · exact List.mem_append_left _ (List.mem_append_left _ (dn3 x h))
          · exact List.mem_append_left _ (List.mem_append_right _ (by simpa using h))

      have lr := f2_len frt
      refine iteT0 (by cases rts with | nil => exact absurd (List.length_eq_zero_iff.mp lr.symm) nr | cons => rfl) ?_
      refine ⟨_, rfl, _, rfl, r, _, rfl, .inr (SqT.of er), _, _, rfl, rfl, ?_⟩
      have rl : rp.length ≤ lim3 ∧ 1 ≤ rp.length := by
        rcases res with ⟨h, _⟩ | ⟨_, _, h, _⟩
        · exact absurd h nr
        · exact ⟨h, Nat.pos_of_ne_zero fun z => nr (List.length_eq_zero_iff.mp z)⟩
      have ei : (((rts.map V.ref).length : Nat) : Int) - 1 = ((rp.length - 1 : Nat) : Int) := by
        rw [List.length_map, lr]
        omega
      dsimp only
      rw [ei]

      obtain ⟨dx4, ho4⟩ := S4.obj
      refine ⟨_, rfl, m, dx4, _, rfl, ho4, rfl, _, rfl, m, T0, P0, g, hd, b, rows, F4, L, gone, hs3, 0, z, rfl, M4, S4w, mz, zg, gl, Idr, fun H5 hs5 rdy5 S5 I5 => ?_⟩
      obtain ⟨dx5, ho5⟩ := S5.obj
      refine ⟨_, rfl, m, dx5, _, rfl, ho5, rfl, m, T0, P0, g, hd, b, rows, F4, L, gone ++ [z], hs5, rdy5, rfl, M4, S5, nd5, sub5, I5, fun H6 l6 hs6 S6 I6 _ _ nd6 sub6 => ?_⟩
      refine ⟨_, _, r, rp, (rp.length - 1), _, hs6, rfl, S6.frame (SF4.trans S6.same) S3.off, I6, nd6, sub6, sts_same S6.same (by rw [eF4]; exact sts_wide S4 st4), ?_, ?_, fun x hx => ?_⟩
      · have := F3.step ndr res
        rw [if_neg nr, if_neg nr] at this
        exact this
      · omega
      · rw [List.take_add_one, ez] at hx
        rcases List.mem_append.mp hx with h | h
        · exact List.mem_append_left _ (List.mem_append_left _ (dn3 x h))
        · exact List.mem_append_left _ (List.mem_append_right _ (by simpa using h))

    · rintro σ H' ⟨v3, v4, ca3, p3, lim3, gone, hs3, rfl, S3, I3, nd3, sub3, st3, F3, lm3, dn3⟩
      rw [len, List.take_length] at dn3
      exact ⟨S3.same _ _ fP, _, rfl, fin S3 st3 F3 (.inr fun x hx => dn3 x (mem_names.mpr hx))⟩
end
end K08

set_option Elab.async false
set_option linter.all false
set_option maxRecDepth 100000
set_option maxHeartbeats 4000000
namespace K08
open PySem Nb
open L2 hiding del del_ne del_same
def spCheck : Sp := fun vs H Q _ => ∃ (r : Addr) (rows : List (List Str)), vs = [.ref r] ∧ RowsAt H r rows ∧ (∀ row ∈ rows, GoodRow row) ∧ rows.length ≤ 100 ∧ ∀ H', Same H H' → Q .non H'
theorem flat_len {rows : List (List Str)} : (∀ row ∈ rows, GoodRow row) → rows.flatten.length ≤ 8 * rows.length := by
  induction rows with
  | nil => exact fun _ => Nat.le_refl _
  | cons r rs ih =>
    intro h
    have h1 := (h r (List.mem_cons_self ..)).2.2
    have h2 := ih fun x hx => h x (List.mem_cons_of_mem _ hx)
    rw [List.flatten_cons, List.length_append, List.length_cons]
    omega
theorem fit_good {rows : List (List Str)} (h : ∀ row ∈ rows, GoodRow row) (l : rows.length ≤ 100) : Fit rows := ⟨fun r hr => (h r hr).1, by omega, by have := flat_len h; omega⟩
/-- the merge exists -/
def Full (rows : List (List Str)) : Prop := (Mg.drawn rows).length = (names rows).length

theorem not_full {rows : List (List Str)} (h : ¬ Full rows) : ∃ y ∈ rows.flatten, y ∉ Mg.drawn rows := Classical.byContradiction fun no => h (Nat.le_antisymm (nodup_sub (Mg.drawn_nodup rows) fun z hz => mem_names.mpr (Mg.drawn_in rows z hz)) (nodup_sub (nodup_seen _) fun z hz => Classical.byContradiction fun k => no ⟨z, mem_names.mp hz, k⟩))
def spMergedX (C : Addr) : Sp := fun vs H Q E => ∃ (T0 : Addr) (rows : List (List Str)), vs = [.ref T0] ∧ RowsAt H T0 rows ∧ (∀ row ∈ rows, GoodRow row) ∧ rows.length ≤ 100 ∧
  (Full rows → ∀ H' r o, Same H H' → H' r = some (.frz o (.tup ((Mg.drawn rows).map V.str))) → TupObj o → Q (.ref r) H') ∧
  (¬ Full rows → ∀ H' r p d, Same H H' → StsAt H' r p → Mg.Least rows p → H' d = some (.xd [("steps", .ref r), ("tuples", .ref T0), ("name", .non)]) → E (.ref C) (some d) H')
section
variable {P : Program} {w : World} {K : PySem.W.Frag} {mg : Str → Option Value} {base : Heap} {TL : List (Addr × Str)}
abbrev sI_BadTuple : Stmt := clsAt (topS 3) 0
theorem scI_BadTuple : FnScope ["self", "index"] ["self", "index"] (defScope sI_BadTuple) := ⟨rfl, rfl, rfl, by decide +kernel, rfl, by decide +kernel, by decide +kernel⟩
theorem okI_BadTuple {f : Addr} {fd : FuncData} (F : Fun K "__init__" "BadTuple.__init__" sI_BadTuple f fd) : FnOk P w K mg base CX0 1 f fd ["self", "index"] (spMk K ["index"]) := by
  refine F.ok scI_BadTuple (fun vs H Q E h => ?_) (fun cdv A outer s H vs Q E hr h => ?_)
  · obtain ⟨a, C, H0, ws, rfl, l, _⟩ := h
    exact congrArg (· + 1) l
  · obtain ⟨a, C, H0, ws, rfl, l, hC, hn, mk, q⟩ := h
    match ws, l with
    | [v1], _ =>
      refine ⟨_, pss_one (ps_put (pv 0) (pv 1)), ?_⟩
      refine ⟨_, rfl, _, rfl, a, C, H0, [], rfl, hC, hn "index" (by simp), (by show 0 ≤ 900; decide), mk, fun H1 mk1 => ?_⟩
      exact q _ mk1
abbrev sI_Clash : Stmt := clsAt (topS 4) 0
theorem scI_Clash : FnScope ["self", "name", "tuples", "steps"] ["self", "name", "tuples", "steps"] (defScope sI_Clash) := ⟨rfl, rfl, rfl, by decide +kernel, rfl, by decide +kernel, by decide +kernel⟩
theorem okI_Clash {f : Addr} {fd : FuncData} (F : Fun K "__init__" "Clash.__init__" sI_Clash f fd) : FnOk P w K mg base CX0 1 f fd ["self", "name", "tuples", "steps"] (spMk K ["name", "tuples", "steps"]) := by
  refine F.ok scI_Clash (fun vs H Q E h => ?_) (fun cdv A outer s H vs Q E hr h => ?_)
  · obtain ⟨a, C, H0, ws, rfl, l, _⟩ := h
    exact congrArg (· + 1) l
  · obtain ⟨a, C, H0, ws, rfl, l, hC, hn, mk, q⟩ := h
    match ws, l with
    | [v1, v2, v3], _ =>
      refine ⟨_, pss_cons (ps_put (pv 0) (pv 1)) (pss_cons (ps_put (pv 0) (pv 2)) (pss_one (ps_put (pv 0) (pv 3)))), ?_⟩
      refine ⟨_, rfl, _, rfl, a, C, H0, [], rfl, hC, hn "name" (by simp), (by show 0 ≤ 900; decide), mk, fun H1 mk1 => ?_⟩
      refine ⟨_, rfl, _, rfl, a, C, H0, _, rfl, hC, hn "tuples" (by simp), (by show 1 ≤ 900; decide), mk1, fun H2 mk2 => ?_⟩
      refine ⟨_, rfl, _, rfl, a, C, H0, _, rfl, hC, hn "steps" (by simp), (by show 2 ≤ 900; decide), mk2, fun H3 mk3 => ?_⟩
      exact q _ mk3
abbrev s_check_tuples : Stmt := topS 18
theorem sc_check_tuples : FnScope ["tuples", "index", "row"] ["tuples"] (defScope s_check_tuples) := ⟨rfl, rfl, rfl, by decide +kernel, rfl, by decide +kernel, by decide +kernel⟩
theorem ok_check_tuples {f : Addr} {fd : FuncData} (F : Fun K "_check_tuples" "_check_tuples" s_check_tuples f fd) (T : Txt mg) (D_are_different_names : Dn P w K mg base CX0 3 "are_different_names" ["thing"] (spOf K diffOf)) : FnOk P w K mg base CX0 4 f fd ["tuples"] (spCheck) := by
  refine F.ok sc_check_tuples (fun vs H Q E h => ?_) (fun cdv A outer s H vs Q E hr h => ?_)
  · obtain ⟨r, rows, rfl, _⟩ := h
    rfl
  · obtain ⟨r, rows, rfl, hR, hg, hl, q⟩ := h
    refine ⟨_, pss_one (ps_for PassesOwn.never rfl (pi_enumT (by rfl) T.enumerate (pa_cons (pv 0) pa_nil)) (pg_tup rfl (pgs_cons (pg_name (i := 1) sc_check_tuples.nd rfl (Or.inl rfl)) (pgs_cons (pg_name (i := 2) sc_check_tuples.nd rfl (Or.inl rfl)) pgs_nil))) (pss_one (ps_if (pt_not (pt_val (pe_D D_are_different_names (hr.mono (by decide)) (by rfl) pass0 (pa_cons (pv 2) pa_nil)))) (pss_one ps_never) pss_nil))), ?_⟩
    obtain ⟨as, h1, h2, h3⟩ := id hR
    refine ⟨_, rfl, r, _, rfl, SqT.of h1, for_it (walk_enumT (K := K) (a := r) (xs := as.map V.ref)) (fun i σ H' => ∃ v1 v2, σ = [some (.ref r), v1, v2] ∧ Same H H')
      ⟨_, _, rfl, Same.refl _⟩ (fun i σ H' _ ⟨_, _, _, s1⟩ => SqT.of (s1 _ _ h1)) ?_ ?_⟩
    · rintro i x σ H1 H2 hi ⟨v1, v2, rfl, s1⟩ ⟨t, x1, x2, rfl, new, rfl, e1, e2⟩
      have ex1 : x1 = .int (i : Nat) := (Option.some.inj e1).symm
      subst ex1
      have e2 : (as.map V.ref)[i]? = some x2 := e2
      rw [List.getElem?_map] at e2
      obtain ⟨a, ea, rfl⟩ : ∃ a, as[i]? = some a ∧ x2 = .ref a := by
        cases e : as[i]? with
        | none =>
          rw [e] at e2
          cases e2
        | some a =>
          rw [e] at e2
          exact ⟨a, rfl, (Option.some.inj e2).symm⟩
      have hil : i < rows.length := by
        rw [← h2]
        exact (List.getElem?_eq_some_iff.mp ea).1
      have er : rows[i]? = some rows[i] := List.getElem?_eq_getElem hil
      have gr := hg rows[i] (List.getElem_mem hil)
      have s2 : Same H (upd H1 t (.tup [.int (i : Nat), .ref a])) := s1.trans (same_new new)
      have ha := rd_same s2 (h3 i a rows[i] ea er)
      refine ⟨t, [.int (i : Nat), .ref a], rfl, .inl (.inl upd_same), rfl, .int (i : Nat), [.ref a], rfl, .ref a, [], rfl, rfl, ?_⟩
      refine ⟨_, rfl, .ref a, rfl, good_thing gr ha, fun H3 s3 => ⟨_, rfl, ?_⟩⟩
      have e3 : diffOf (upd H1 t (.tup [.int (i : Nat), .ref a])) (.ref a) = true := by
        unfold diffOf
        rw [tupOf_at ha]
        exact good_diff gr
      rw [e3]
      refine iteF ?_
      exact ⟨_, _, rfl, s2.trans s3⟩
    · rintro σ H' ⟨v1, v2, rfl, s1⟩
      exact q H' s1
abbrev s_merged : Stmt := topS 16
theorem sc_merged : FnScope ["tuples", "merge", "names"] ["tuples"] (defScope s_merged) := ⟨rfl, rfl, rfl, by decide +kernel, rfl, by decide +kernel, by decide +kernel⟩
theorem ok_merged {f : Addr} {fd : FuncData} (F : Fun K "merged" "merged" s_merged f fd) {C_Clash : Addr} {C_Merge : Addr} (T : Txt mg) (K_Merge : Kl K mg "Merge" C_Merge ["rows", "places", "gone", "heads", "behind", "ready"]) (D_Merge_draw : Mn P w K mg base CX0 4 C_Merge "draw" ["self"] (spDraw C_Merge)) (D_Merge___init : Mi P w K mg base CX0 2 C_Merge ["self", "rows"] (spMInit C_Merge)) (D_fewest_clash : Dn P w K mg base CX0 5 "_fewest_clash" ["merge"] (spFewest C_Merge)) (D_check_tuples : Dn P w K mg base CX0 4 "_check_tuples" ["tuples"] (spCheck)) (E_Clash : Er P w K mg base "Clash" C_Clash ["name", "tuples", "steps"]) : FnR P w K mg base (L2.CX P w) 6 f (spStar (spMergedX C_Clash)) := by
  refine okStarX F sc_merged (fun _ _ _ _ _ _ => rfl) (fun _ _ _ _ _ _ _ _ => rfl) (fun cdv A outer s H vs Q E hr h => ?_)
  obtain ⟨T0, rows, rfl, hR, hg, hl, q1, q2⟩ := h
  have tk := takes_of (X := cxOf (L2.CX P w) P w K mg base ["tuples", "merge", "names"] "merged" (defScope s_merged) f cdv A outer s H E) (E := E) rfl rfl rfl rfl
  refine ⟨_, pss_cons (ps_expr (pe_D D_check_tuples (hr.mono (by decide)) (by rfl) pass0 (pa_cons (pv 0) pa_nil)))
        (pss_cons (ps_set (i := 1) sc_merged.nd rfl (Or.inl rfl) (pe_Mi D_Merge___init (hr.mono (by decide)) (by rfl) K_Merge.g pass0 (pa_cons (pv 0) pa_nil)))
        (pss_cons (ps_set (i := 2) sc_merged.nd rfl (Or.inl rfl) (pe_M0 D_Merge_draw K_Merge.cl (pv 1) (hr.mono (by decide)) pass0))
        (pss_cons (ps_if (pt_cmpR op_lt (pe_callB call_len_seq (by rfl) T.len PySem.boot_len (pa_cons (pv 2) pa_nil)) (pe_callB call_lenD (by rfl) T.len PySem.boot_len (pa_cons (pe_fld (pv 1) rfl) pa_nil)) (nomark _)) (pss_one (ps_raise rfl tk (pmk_err E_Clash (hr.mono (by decide)) (by rfl) (pa_cons pe_non (pa_cons (pv 0) (pa_cons (pe_D D_fewest_clash (hr.mono (by decide)) (by rfl) pass0 (pa_cons (pv 1) pa_nil)) pa_nil)))))) pss_nil)
        (pss_one (ps_ret (pe_callTy cr_tupleFS (by rfl) T.tuple (by decide +kernel) (pa_cons (pv 2) pa_nil))))))), ?_⟩
  refine ⟨_, rfl, T0, rows, rfl, hR, hg, hl, fun H1 s1 => ?_⟩
  have fit := fit_good hg hl
  refine ⟨_, rfl, fun m dx hm hdx ne => ?_⟩
  obtain ⟨H2, e2⟩ : ∃ H2, H2 = upd (upd H1 dx (.own m)) m (.ins C_Merge dx []) := ⟨_, rfl⟩
  rw [← e2]
  have s2 : Same H (Nb.del H2 m) := fun a o k => by
    have k1 := s1 _ _ k
    have am : a ≠ m := fun z => by
      rw [z, hm] at k1
      cases k1
    have ad : a ≠ dx := fun z => by
      rw [z, hdx] at k1
      cases k1
    rw [Nb.del_ne am, e2, upd_ne am, upd_ne ad]
    exact k1
  refine ⟨m, dx, T0, rows, rfl, by rw [e2]; exact upd_same, rows_same s2 hR, fit, ?_⟩
  intro H3 P0 g hd b L F rdy s3 MF S I eP
  refine ⟨rfl, ?_⟩
  obtain ⟨dx3, o3⟩ := S.obj
  refine ⟨_, rfl, m, dx3, _, rfl, o3, rfl, m, T0, P0, g, hd, b, rows, F, L, [], List.replicate rows.length 0, rdy, rfl, MF, S, List.nodup_nil, (fun x h => nomatch h), I, ?_⟩
  intro H4 l hs' S4 I4 el _ nd4 sub4
  rw [Mg.alive_nil, List.nil_append] at S4 I4 nd4 sub4
  rw [Mg.alive_nil] at el
  obtain ⟨dx4, o4⟩ := S4.obj
  have P4 : H4 P0 = some (.dK ((names rows).map fun x => ((Sum.inr x : Key), V.ref (L x)))) := S4.same _ _ eP
  refine ⟨_, rfl, l, _, rfl, .inl (SqL.of el), _, rfl, m, C_Merge, dx4, _, .ref P0, rfl, o4, K_Merge.cl, K_Merge.no "places" (by simp), rfl, P0, _, rfl, P4, ?_⟩
  refine ⟨_, _, rfl, rfl, _, rfl, ?_⟩
  have sHF : Same H F := s2.trans s3
  by_cases full : Full rows
  · refine iteF0 ?_ ⟨_, rfl, l, _, rfl, SqL.of el, fun H5 r o s5 _ e5 t5 => q1 full H5 r o ((sHF.trans S4.same).trans s5) e5 t5⟩
    rw [decide_eq_false_iff_not, List.length_map, List.length_map]
    unfold Full at full
    rw [full]
    exact Int.lt_irrefl _
  · refine iteT0 ?_ ⟨_, rfl, _, rfl, m, T0, P0, g, hd, b, rows, F, L, hs', rfl, fun r hr => Nat.le_trans (hg r hr).2.2 (by decide), MF, S4, nd4, sub4, I4, eP, not_full full, fun H5 r p s5 st5 lst => ⟨rfl, fun d nd => ?_⟩⟩
    · rw [decide_eq_true_iff, List.length_map, List.length_map]
      have := nodup_sub (Mg.drawn_nodup rows) fun z hz => mem_names.mpr (Mg.drawn_in rows z hz)
      unfold Full at full
      omega
    · exact q2 full _ r p d ((sHF.trans s5).trans (same_new nd)) (sts_same (same_new nd) st5) lst upd_same
end
end K08

set_option Elab.async false
set_option linter.all false
set_option maxRecDepth 100000
set_option maxHeartbeats 4000000
namespace K08
open PySem Nb
open L2 hiding del del_ne del_same
section
variable {P : Program} {w : World} {K : PySem.W.Frag} {mg : Str → Option Value} {base : Heap} {TL : List (Addr × Str)}
abbrev s_h_mixed : Stmt := topS 27
theorem sc_h_mixed : FnScope ["_law_source_here", "_law_items", "_law_rest", "_law_found"] ["_law_source_here", "_law_items"] (defScope s_h_mixed) := ⟨rfl, rfl, rfl, by decide +kernel, rfl, by decide +kernel, by decide +kernel⟩
theorem ok_h_mixed {f : Addr} {fd : FuncData} (F : Fun K "_law_mixed" "_law_mixed" s_h_mixed f fd) (T : Txt mg) (D_h_next : Dn P w K mg base CX0 1 "_law_next" ["_law_source_here", "_law_many"] (spNext)) : FnOk P w K mg base CX0 2 f fd ["_law_source_here", "_law_items"] (spMixed) := by
  refine F.ok sc_h_mixed (fun vs H Q E h => ?_) (fun cdv A outer s H vs Q E hr h => ?_)
  · obtain ⟨p, l, zs, b, G, rfl, _⟩ := h
    rfl
  · obtain ⟨p, l, zs, b, G, rfl, hl, hlen, hw, hS, hB, hG, hs, q⟩ := h
    refine ⟨_, pss_cons (ps_par (i := 2) (j := 3) rfl sc_h_mixed.nd rfl rfl (by decide) rfl rfl (pa_cons (pe_callTy call_list_of (by rfl) T.list (by decide +kernel) (pa_cons (pv 1) pa_nil)) (pa_cons (pe_lst pa_nil) pa_nil)) rfl)
        (pss_cons (ps_while PassesOwn.never (pt_cmpR (op_neD hr.units) (pv 2) (pe_lst pa_nil) (nomark _)) (pss_one (ps_expr (pe_bm PySem.F.plainAttrs_list PySem.F.slot_list_append PySem.F.type_list_append mt_append (pv 3) (pa_cons (pe_bm PySem.F.plainAttrs_list PySem.F.slot_list_pop PySem.F.type_list_pop mt_popAt (pv 2) (pa_cons (pe_D D_h_next (hr.mono (by decide)) (by rfl) pass0 (pa_cons (pv 0) (pa_cons (pe_callB call_len_seq (by rfl) T.len PySem.boot_len (pa_cons (pv 2) pa_nil)) pa_nil))) pa_nil)) pa_nil)))))
        (pss_one (ps_ret (pv 3)))), ?_⟩
    refine ⟨_, rfl, l, _, rfl, .inl (SqL.of (hs _ _ hl)), fun r hr0 => ?_⟩
    refine ⟨Nat.zero_le _, fun o ho => ?_⟩
    have nrp : r ≠ p := src_fresh hS hr0
    have S1 := src_new (o := HO.lst (zs.map V.str)) hS hr0
    have nop : o ≠ p := src_fresh S1 ho
    have nro : r ≠ o := ne_of_none upd_same ho
    have Gr : G r = none := hs.free hr0
    have Go : G o = none := (hs.trans (same_new hr0)).free ho
    refine ⟨_, _, rfl, while_by (fun σ H' => ∃ rs fs : List Str, σ = [some (.ref p), some (.ref l), some (.ref r), some (.ref o)] ∧ Same G H' ∧ H' r = some (.lst (rs.map V.str)) ∧ H' o = some (.lst (fs.map V.str)) ∧ (fs ++ rs).Perm zs ∧ Src H' p (b + fs.length))
      (fun σ H' => match H' r with | some (.lst xs) => xs.length | _ => 0) ?_ ?_ ?_⟩
    · refine ⟨zs, [], rfl, (hs.trans (same_new hr0)).trans (same_new ho), by rw [upd_ne nro]; exact upd_same, upd_same, List.Perm.refl _, src_new S1 ho⟩
    · rintro σ H' ⟨rs, fs, rfl, s1, er, eo, pm, S'⟩
      have lrs : fs.length + rs.length = zs.length := by rw [← List.length_append]; exact pm.length_eq
      have wrs : ∀ z ∈ rs, Word z := fun z hz => hw z (pm.subset (List.mem_append_right _ hz))
      refine ⟨_, rfl, Nat.zero_le _, fun e he => ?_⟩
      have ner : r ≠ e := ne_of_none er he
      have neo : o ≠ e := ne_of_none eo he
      have s2 : Same H' (upd H' e (.lst [])) := same_new he
      refine ⟨.list (rs.map PyData.str), .list [], .lst (SqL.of (s2 _ _ er)) (dps_strs rs), .lst (SqL.of upd_same) .nil, (fine_strs wrs).shaped (by decide), by decide, _, rfl, ?_⟩
      rw [eqv_nil]
      cases rs with
      | nil =>
        refine iteF ?_
        refine ⟨_, rfl, ?_⟩
        refine q _ o fs (s1.trans s2) Go nop (by rw [upd_ne neo]; exact eo) (by simpa using pm) ?_
        have : fs.length = zs.length := by simpa using lrs
        rw [← this]
        exact src_new S' he
      | cons z0 rs =>
        refine iteT ?_
        have S2 := src_new (o := HO.lst []) S' he
        have m0 : (match (upd H' e (.lst [])) r with | some (.lst xs) => xs.length | _ => 0) = (z0 :: rs).length := by
          rw [upd_ne ner, er]
          simp
        refine ⟨_, rfl, .inl ⟨rfl, _, SqL.of (s2 _ _ eo)⟩, _, rfl, .inl ⟨rfl, _, SqL.of (s2 _ _ er)⟩, _, rfl, _, rfl, r, _, rfl, .inl (SqL.of (s2 _ _ er)), p, _, _, del (upd H' e (.lst [])) p, rfl, by simp; omega, by simp at lrs ⊢; omega, S2, by omega, del_at, del_same, fun H2 k k0 k1 s3 S3 => ?_⟩
        have er2 := del_get s3 nrp (s2 _ _ er)
        have eo2 := del_get s3 nop (s2 _ _ eo)
        obtain ⟨j, rfl⟩ : ∃ j : Nat, k = (j : Int) := ⟨_, (Int.toNat_of_nonneg k0).symm⟩
        have hj : j < (z0 :: rs).length := by simp at k1 ⊢; omega
        have hjl : j < 1000 := by simp at hj lrs; omega
        refine ⟨r, _, _, j, .str (z0 :: rs)[j], rfl, rfl, er2, by omega, by omega, ?_, ?_, ?_⟩
        · exact seqIx (by rw [List.length_map]; exact hj)
        · rw [List.getElem?_map, List.getElem?_eq_getElem hj]
          rfl
        · rw [erase_map]
          have lr2 : ((z0 :: rs).eraseIdx j).length = rs.length := by rw [List.length_eraseIdx_of_lt hj]; rfl
          have nor : o ≠ r := nro.symm
          have eo3 : (upd H2 r (.lst (((z0 :: rs).eraseIdx j).map V.str))) o = some (.lst (fs.map V.str)) := by rw [upd_ne nor]; exact eo2
          refine ⟨o, _, _, rfl, rfl, eo3, ?_, ?_, ?_⟩
          · rw [List.length_map]
            exact small1000 (by omega)
          · refine ⟨(z0 :: rs).eraseIdx j, fs ++ [(z0 :: rs)[j]], rfl, ?_, ?_, ?_, ?_, ?_⟩
            · have s4 : Same G H2 := (same_del (s1.trans s2) hG).trans s3
              exact same_at (same_at s4 Gr) Go
            · rw [upd_ne nro]
              exact upd_same
            · rw [upd_same]
              simp
            · refine List.Perm.trans ?_ pm
              rw [List.append_assoc]
              exact List.Perm.append_left fs (erase_perm hj)
            · have := src_at (src_at S3 nrp.symm) nop.symm (o := HO.lst (fs.map V.str ++ [V.str (z0 :: rs)[j]])) (H := upd H2 r (.lst (((z0 :: rs).eraseIdx j).map V.str)))
              refine this.mono ?_
              rw [List.length_append]
              simp
              omega
          · show (match (upd (upd H2 r _) o _) r with | some (.lst xs) => xs.length | _ => 0) < (match H' r with | some (.lst xs) => xs.length | _ => 0)
            rw [upd_ne nro, upd_same, er]
            simp only [List.length_map]
            rw [lr2]
            exact Nat.lt_succ_self _
    · rintro σ' H1 Q1 Q2 hq ⟨v, ev, lv, kv⟩
      exact ⟨v, ev, lv, fun p hp => let ⟨d, e, a1, a2, a3, a4, c, ec, qq⟩ := kv p hp; ⟨d, e, a1, a2, a3, a4, c, ec, hq _ _ qq⟩⟩
abbrev s_h_name_rows : Stmt := topS 29
theorem sc_h_name_rows : FnScope ["_law_source_here", "_law_many", "_law_most", "_law_is_free", "_law_whole", "_law_found", "_law_turn", "_law_some", "_law_item"] ["_law_source_here", "_law_many", "_law_most", "_law_is_free"] (defScope s_h_name_rows) := ⟨rfl, rfl, rfl, by decide +kernel, rfl, by decide +kernel, by decide +kernel⟩
def sx_h_name_rows_0 : Scope := { kind := .function, names := [(".0", .local), ("_law_item", .local), ("_law_next", .globalImplicit), ("_law_source_here", .cell)], isGenerator := false, isCoroutine := false, more := [] }
theorem ok_h_name_rows {f : Addr} {fd : FuncData} (F : Fun K "_law_name_rows" "_law_name_rows" s_h_name_rows f fd) (T : Txt mg) (D_h_next : Dn P w K mg base CX0 1 "_law_next" ["_law_source_here", "_law_many"] (spNext)) (D_h_mixed : Dn P w K mg base CX0 2 "_law_mixed" ["_law_source_here", "_law_items"] (spMixed)) : FnOk P w K mg base CX0 3 f fd ["_law_source_here", "_law_many", "_law_most", "_law_is_free"] (spRows) := by
  refine F.ok sc_h_name_rows (fun vs H Q E h => ?_) (fun cdv A outer s H vs Q E hr h => ?_)
  · obtain ⟨p, m, t, free, b, G, rfl, _⟩ := h
    rfl
  · obtain ⟨p, m, t, free, b, G, rfl, hm, ht, hS, hB, hG, hs, q⟩ := h
    refine ⟨_, pss_cons (ps_par (i := 4) (j := 5) rfl sc_h_name_rows.nd rfl rfl (by decide) rfl rfl (pa_cons (pe_slice sl_list (pe_D D_h_mixed (hr.mono (by decide)) (by rfl) pass0 (pa_cons (pv 0) (pa_cons (pe_lst (pa_cons pe_str (pa_cons pe_str (pa_cons pe_str (pa_cons pe_str (pa_cons pe_str (pa_cons pe_str (pa_cons pe_str (pa_cons pe_str pa_nil))))))))) pa_nil))) po_none (po_some (pv 2))) (pa_cons (pe_lst pa_nil) pa_nil)) rfl)
        (pss_cons (ps_for PassesOwn.never rfl (pi_range1 (by rfl) T.range (pa_cons (pv 1) pa_nil)) (pg_name (i := 6) sc_h_name_rows.nd rfl (Or.inl rfl)) (pss_cons (ps_set (i := 7) sc_h_name_rows.nd rfl (Or.inl rfl) (pe_ifExp (PW.pt (pw_or (pt_not (pt_val (pv 3))) (pw_or1 (pt_cmpR op_eq (pe_D D_h_next (hr.mono (by decide)) (by rfl) pass0 (pa_cons (pv 0) (pa_cons pe_int pa_nil))) pe_int (nomark _))))) (pv 4) (pe_D D_h_mixed (hr.mono (by decide)) (by rfl) pass0 (pa_cons (pv 0) (pa_cons (pv 4) pa_nil)))))
        (pss_one (ps_expr (pe_bm PySem.F.plainAttrs_list PySem.F.slot_list_append PySem.F.type_list_append mt_append (pv 5) (pa_cons (pe_callTy cr_tupleF (by rfl) T.tuple (by decide +kernel) (pa_cons (pe_lc (own := [("_law_item", 8)]) (g := gName 8) rfl sc_h_name_rows.nd (pi_list (pv 7)) (blkOk_by (N := ["_law_source_here", "_law_many", "_law_most", "_law_is_free", "_law_whole", "_law_found", "_law_turn", "_law_some", "_law_item"]) (sc := (defScope s_h_name_rows)) (by decide +kernel)) (fun _ _ _ _ _ => (pg_name (i := 8) sc_h_name_rows.nd rfl (Or.inl rfl))) (fun _ _ _ _ _ => (pts_one (pt_cmpR op_gt (pe_D D_h_next (hr.mono (by decide)) (by rfl) pass0 (pa_cons (pv 0) (pa_cons pe_int pa_nil))) pe_int (nomark _)))) (fun _ _ _ _ _ => (pv 8))) pa_nil)) pa_nil))))))
        (pss_one (ps_ret (pv 5)))), ?_⟩
    have hr1 := hr.mono (show 1 ≤ _ by decide)
    refine ⟨_, rfl, (by show 8 ≤ sizeLine; decide), fun l0 hl0 => ?_⟩
    have n0 : l0 ≠ p := src_fresh hS hl0
    refine ⟨p, l0, eight, b, upd G l0 (.lst (eight.map V.str)), rfl, upd_same, by decide, good_words good_eight, src_new hS hl0, by omega, grow_at hG hS hl0, grow_up hs, fun H1 l1 ys s1 f1 n1 e1 pm S1 => ?_⟩
    have sG1 : Same G H1 := (grow_same hs hl0).trans s1
    refine ⟨_, rfl, _, rfl, l1, _, rfl, SqL.of e1, fun W hW => ?_⟩
    obtain ⟨ws, ews, sub⟩ := cut_strs ys none (some (t : Int))
    have gws : GoodRow ws := good_sub (good_perm good_eight pm) sub
    have nWp : W ≠ p := src_fresh S1 hW
    have S2 := src_new (o := HO.lst (cutV (ys.map V.str) none (some (t : Int)))) S1 hW
    refine ⟨Nat.zero_le _, fun o ho => ?_⟩
    have nop : o ≠ p := src_fresh S2 ho
    have nWo : W ≠ o := ne_of_none upd_same ho
    have GW : G W = none := sG1.free hW
    have Go : G o = none := (sG1.trans (same_new hW)).free ho
    refine ⟨_, _, rfl, ?_⟩
    refine ⟨_, rfl, m, rfl, by omega, by omega, for_range (lo := 0) (n := ((m : Nat) : Int).toNat) (fun i σ H' => ∃ v6 v7, σ = [some (.ref p), some (.int m), some (.int t), some (.bl free), some (.ref W), some (.ref o), v6, v7, none] ∧ Same G H' ∧ H' W = some (.lst (ws.map V.str)) ∧ Src H' p (b + 8 + 17 * i) ∧
      ∃ (as : List Addr) (rows : List (List Str)), H' o = some (.lst (as.map V.ref)) ∧ RowsL H' as rows ∧ rows.length = i ∧ ∀ row ∈ rows, GoodRow row) ?_ ?_ ?_⟩
    · refine ⟨_, _, rfl, (sG1.trans (same_new hW)).trans (same_new ho), by rw [upd_ne nWo, upd_same, ews], (src_new S2 ho).mono (by simp [eight]), [], [], upd_same, ⟨rfl, fun k a row e _ => by simp at e⟩, rfl, fun row h => by cases h⟩
    · rintro i σ H2 hi ⟨v6, v7, rfl, s2, eW, S2', as, rows, eo, hR, lr, hg⟩
      have hi10 : i < 10 := by omega
      have las : as.length = i := by rw [hR.1, lr]
      refine ⟨_, rfl, _, rfl, ?_⟩
      have same1 : ∃ (wl : Addr) (us : List Str) (H3 : Hp), wl = W ∧ H3 = H2 ∧ Same G H3 ∧ H3 wl = some (.lst (us.map V.str)) ∧ wl ≠ p ∧ GoodRow us ∧ H3 W = some (.lst (ws.map V.str)) ∧ H3 o = some (.lst (as.map V.ref)) ∧ RowsL H3 as rows ∧ Src H3 p (b + 8 + 17 * i + 9) :=
        ⟨W, ws, H2, rfl, rfl, s2, eW, nWp, gws, eW, eo, hR, S2'.mono (by omega)⟩
      cases free with
      | false =>
        refine iteT ⟨_, rfl, ?_⟩
        obtain ⟨wl, us, H3, ew, eh, s3, ewl, nwl, gus, eW3, eo3, hR3, S3⟩ := same1
        rw [← ew, ← eh]
        refine ⟨_, rfl, .inl ⟨rfl, _, SqL.of eo3⟩, _, rfl, wl, rfl, ⟨_, SqL.of ewl⟩, fun D hD => ?_⟩
        have nDp : D ≠ p := src_fresh S3 hD
        have nlD : wl ≠ D := ne_of_none ewl hD
        have nWD : W ≠ D := ne_of_none eW3 hD
        have noD : o ≠ D := ne_of_none eo3 hD
        have l8 := gus.2.2
        refine lc_list (K := K) (a := wl) (xs := us.map V.str) (fun j H4 => Same G H4 ∧ H4 wl = some (.lst (us.map V.str)) ∧ H4 W = some (.lst (ws.map V.str)) ∧ H4 o = some (.lst (as.map V.ref)) ∧ RowsL H4 as rows ∧ Src H4 p (b + 8 + 17 * i + 9 + j) ∧ ∃ kept : List Str, H4 D = some (.lst (kept.map V.str)) ∧ kept.Sublist (us.take j))
          ⟨s3.trans (same_new hD), by rw [upd_ne nlD]; exact ewl, by rw [upd_ne nWD]; exact eW3, by rw [upd_ne noD]; exact eo3, rowsL_same (same_new hD) hR3, src_new S3 hD, [], upd_same, List.Sublist.refl _⟩ (fun j H4 _ ⟨_, q1, _⟩ => SqL.of q1) (fun j y H4 hy ⟨r1, r2, r3, r4, r5, r6, kept, r7, r8⟩ => ?_) (fun H4 ⟨r1, r2, r3, r4, r5, r6, kept, r7, r8⟩ => ?_)
        · have hjl : j < us.length := by
            have := (List.getElem?_eq_some_iff.mp hy).1
            simpa using this
          have ey : y = V.str us[j] := by
            rw [List.getElem?_map, List.getElem?_eq_getElem hjl] at hy
            exact (Option.some.inj hy).symm
          subst ey
          refine ⟨rfl, _, rfl, p, 3, _, del H4 p, rfl, by decide, by decide, r6, by omega, del_at, del_same, fun H5 k k0 k1 s5 S5 => ?_⟩
          have u1 : Same G H5 := (same_del r1 hG).trans s5
          have u2 := del_get s5 nwl r2
          have u3 := del_get s5 nWp r3
          have u4 := del_get s5 nop r4
          have u5 := rowsL_del r6 s5 r5
          have u7 := del_get s5 nDp r7
          have tk : us.take (j + 1) = us.take j ++ [us[j]] := by
            rw [List.take_add_one, List.getElem?_eq_getElem hjl]
            rfl
          have GD : G D = none := s3.free hD
          refine ⟨_, _, rfl, rfl, _, rfl, ite2 (fun _ => ?_) (fun _ => ?_)⟩
          · refine ⟨_, rfl, _, u7, ?_, same_at u1 GD, by rw [upd_ne nlD]; exact u2, by rw [upd_ne nWD]; exact u3, by rw [upd_ne noD]; exact u4, ?_, src_at S5 nDp.symm, kept ++ [us[j]], ?_, ?_⟩
            · rw [List.length_map]
              have := r8.length_le
              rw [List.length_take] at this
              exact small1000 (by omega)
            · refine ⟨u5.1, fun k a row e1 e2 => ?_⟩
              obtain ⟨ob, e3, e4⟩ := u5.2 k a row e1 e2
              have naD : a ≠ D := fun z => by
                rw [z, u7] at e3
                cases e3
              exact ⟨ob, by rw [upd_ne naD]; exact e3, e4⟩
            · rw [upd_same]
              simp
            · rw [tk]
              exact r8.append (List.Sublist.refl _)
          · exact ⟨u1, u2, u3, u4, u5, S5, kept, u7, by rw [tk]; exact r8.trans (List.sublist_append_left _ _)⟩
        · refine ⟨D, _, rfl, SqL.of r7, fun tq ob htq tob => ?_⟩
          have noq : o ≠ tq := ne_of_none r4 htq
          have nWq : W ≠ tq := ne_of_none r3 htq
          have v4 : (upd H4 tq (.frz ob (.tup (kept.map V.str)))) o = some (.lst (as.map V.ref)) := by rw [upd_ne noq]; exact r4
          have sub8 : kept.Sublist us := r8.trans (List.take_sublist _ _)
          have tR : RowsL (upd H4 tq (.frz ob (.tup (kept.map V.str)))) (as ++ [tq]) (rows ++ [kept]) := rowsL_snoc (rowsL_same (same_new htq) r5) upd_same tob
          refine ⟨o, _, _, rfl, rfl, v4, ?_, ?_⟩
          · rw [List.length_map, las]
            exact small1000 (by omega)
          · refine ⟨_, _, rfl, same_at (r1.trans (same_new htq)) Go, by first | (rw [upd_ne nWo, upd_ne nWq]; exact r3) | (rw [ew, upd_ne nWo, upd_ne nWq]; exact r3), (src_at (src_new r6 htq) nop.symm).mono (by simp; omega), as ++ [tq], rows ++ [kept], ?_, ?_, by simp [lr], fun row hrow => ?_⟩
            · rw [upd_same]
              simp
            · refine ⟨tR.1, fun k a row e1 e2 => ?_⟩
              obtain ⟨ob2, e3, e4⟩ := tR.2 k a row e1 e2
              have nao : a ≠ o := fun z => by
                rw [z, v4] at e3
                cases e3
              exact ⟨ob2, by rw [upd_ne nao]; exact e3, e4⟩
            · rcases List.mem_append.mp hrow with hrow | hrow
              · exact hg row hrow
              · rw [List.mem_singleton.mp hrow]
                exact good_sub gus sub8
      | true =>
        refine iteF ⟨_, rfl, p, 2, _, del H2 p, rfl, by decide, by decide, S2', by omega, del_at, del_same, fun H25 k k0 k1 s25 S25 => ?_⟩
        have t25 : Same G H25 := (same_del s2 hG).trans s25
        have eW25 := del_get s25 nWp eW
        have eo25 := del_get s25 nop eo
        have hR25 := rowsL_del S2' s25 hR
        refine ⟨rfl, _, rfl, ite2 (fun _ => ?_) (fun _ => ?_)⟩
        · refine ⟨_, rfl, ?_⟩
          obtain ⟨wl, us, H3, ew, eh, s3, ewl, nwl, gus, eW3, eo3, hR3, S3⟩ : ∃ (wl : Addr) (us : List Str) (H3 : Hp), wl = W ∧ H3 = H25 ∧ Same G H3 ∧ H3 wl = some (.lst (us.map V.str)) ∧ wl ≠ p ∧ GoodRow us ∧ H3 W = some (.lst (ws.map V.str)) ∧ H3 o = some (.lst (as.map V.ref)) ∧ RowsL H3 as rows ∧ Src H3 p (b + 8 + 17 * i + 9) :=
            ⟨W, ws, H25, rfl, rfl, t25, eW25, nWp, gws, eW25, eo25, hR25, S25.mono (by omega)⟩
          rw [← ew, ← eh]
          refine ⟨_, rfl, .inl ⟨rfl, _, SqL.of eo3⟩, _, rfl, wl, rfl, ⟨_, SqL.of ewl⟩, fun D hD => ?_⟩
          have nDp : D ≠ p := src_fresh S3 hD
          have nlD : wl ≠ D := ne_of_none ewl hD
          have nWD : W ≠ D := ne_of_none eW3 hD
          have noD : o ≠ D := ne_of_none eo3 hD
          have l8 := gus.2.2
          refine lc_list (K := K) (a := wl) (xs := us.map V.str) (fun j H4 => Same G H4 ∧ H4 wl = some (.lst (us.map V.str)) ∧ H4 W = some (.lst (ws.map V.str)) ∧ H4 o = some (.lst (as.map V.ref)) ∧ RowsL H4 as rows ∧ Src H4 p (b + 8 + 17 * i + 9 + j) ∧ ∃ kept : List Str, H4 D = some (.lst (kept.map V.str)) ∧ kept.Sublist (us.take j))
            ⟨s3.trans (same_new hD), by rw [upd_ne nlD]; exact ewl, by rw [upd_ne nWD]; exact eW3, by rw [upd_ne noD]; exact eo3, rowsL_same (same_new hD) hR3, src_new S3 hD, [], upd_same, List.Sublist.refl _⟩ (fun j H4 _ ⟨_, q1, _⟩ => SqL.of q1) (fun j y H4 hy ⟨r1, r2, r3, r4, r5, r6, kept, r7, r8⟩ => ?_) (fun H4 ⟨r1, r2, r3, r4, r5, r6, kept, r7, r8⟩ => ?_)
          · have hjl : j < us.length := by
              have := (List.getElem?_eq_some_iff.mp hy).1
              simpa using this
            have ey : y = V.str us[j] := by
              rw [List.getElem?_map, List.getElem?_eq_getElem hjl] at hy
              exact (Option.some.inj hy).symm
            subst ey
            refine ⟨rfl, _, rfl, p, 3, _, del H4 p, rfl, by decide, by decide, r6, by omega, del_at, del_same, fun H5 k k0 k1 s5 S5 => ?_⟩
            have u1 : Same G H5 := (same_del r1 hG).trans s5
            have u2 := del_get s5 nwl r2
            have u3 := del_get s5 nWp r3
            have u4 := del_get s5 nop r4
            have u5 := rowsL_del r6 s5 r5
            have u7 := del_get s5 nDp r7
            have tk : us.take (j + 1) = us.take j ++ [us[j]] := by
              rw [List.take_add_one, List.getElem?_eq_getElem hjl]
              rfl
            have GD : G D = none := s3.free hD
            refine ⟨_, _, rfl, rfl, _, rfl, ite2 (fun _ => ?_) (fun _ => ?_)⟩
            · refine ⟨_, rfl, _, u7, ?_, same_at u1 GD, by rw [upd_ne nlD]; exact u2, by rw [upd_ne nWD]; exact u3, by rw [upd_ne noD]; exact u4, ?_, src_at S5 nDp.symm, kept ++ [us[j]], ?_, ?_⟩
              · rw [List.length_map]
                have := r8.length_le
                rw [List.length_take] at this
                exact small1000 (by omega)
              · refine ⟨u5.1, fun k a row e1 e2 => ?_⟩
                obtain ⟨ob, e3, e4⟩ := u5.2 k a row e1 e2
                have naD : a ≠ D := fun z => by
                  rw [z, u7] at e3
                  cases e3
                exact ⟨ob, by rw [upd_ne naD]; exact e3, e4⟩
              · rw [upd_same]
                simp
              · rw [tk]
                exact r8.append (List.Sublist.refl _)
            · exact ⟨u1, u2, u3, u4, u5, S5, kept, u7, by rw [tk]; exact r8.trans (List.sublist_append_left _ _)⟩
          · refine ⟨D, _, rfl, SqL.of r7, fun tq ob htq tob => ?_⟩
            have noq : o ≠ tq := ne_of_none r4 htq
            have nWq : W ≠ tq := ne_of_none r3 htq
            have v4 : (upd H4 tq (.frz ob (.tup (kept.map V.str)))) o = some (.lst (as.map V.ref)) := by rw [upd_ne noq]; exact r4
            have sub8 : kept.Sublist us := r8.trans (List.take_sublist _ _)
            have tR : RowsL (upd H4 tq (.frz ob (.tup (kept.map V.str)))) (as ++ [tq]) (rows ++ [kept]) := rowsL_snoc (rowsL_same (same_new htq) r5) upd_same tob
            refine ⟨o, _, _, rfl, rfl, v4, ?_, ?_⟩
            · rw [List.length_map, las]
              exact small1000 (by omega)
            · refine ⟨_, _, rfl, same_at (r1.trans (same_new htq)) Go, by first | (rw [upd_ne nWo, upd_ne nWq]; exact r3) | (rw [ew, upd_ne nWo, upd_ne nWq]; exact r3), (src_at (src_new r6 htq) nop.symm).mono (by simp; omega), as ++ [tq], rows ++ [kept], ?_, ?_, by simp [lr], fun row hrow => ?_⟩
              · rw [upd_same]
                simp
              · refine ⟨tR.1, fun k a row e1 e2 => ?_⟩
                obtain ⟨ob2, e3, e4⟩ := tR.2 k a row e1 e2
                have nao : a ≠ o := fun z => by
                  rw [z, v4] at e3
                  cases e3
                exact ⟨ob2, by rw [upd_ne nao]; exact e3, e4⟩
              · rcases List.mem_append.mp hrow with hrow | hrow
                · exact hg row hrow
                · rw [List.mem_singleton.mp hrow]
                  exact good_sub gus sub8
        · refine ⟨_, rfl, _, rfl, p, W, ws, _, del H25 p, rfl, by rw [del_ne nWp]; exact eW25, Nat.le_trans gws.2.2 (by decide), good_words gws, S25, by omega, del_at, del_same, fun H3 wl us s3' f3 nwl ewl pm3 S3' => ?_⟩
          have s3 : Same G H3 := (same_del t25 hG).trans s3'
          have gus : GoodRow us := good_perm gws pm3
          have eW3 := del_get s3' nWp eW25
          have eo3 := del_get s3' nop eo25
          have hR3 := rowsL_del S25 s3' hR25
          have S3 : Src H3 p (b + 8 + 17 * i + 9) := S3'.mono (by have := gws.2.2; omega)
          refine ⟨_, rfl, .inl ⟨rfl, _, SqL.of eo3⟩, _, rfl, wl, rfl, ⟨_, SqL.of ewl⟩, fun D hD => ?_⟩
          have nDp : D ≠ p := src_fresh S3 hD
          have nlD : wl ≠ D := ne_of_none ewl hD
          have nWD : W ≠ D := ne_of_none eW3 hD
          have noD : o ≠ D := ne_of_none eo3 hD
          have l8 := gus.2.2
          refine lc_list (K := K) (a := wl) (xs := us.map V.str) (fun j H4 => Same G H4 ∧ H4 wl = some (.lst (us.map V.str)) ∧ H4 W = some (.lst (ws.map V.str)) ∧ H4 o = some (.lst (as.map V.ref)) ∧ RowsL H4 as rows ∧ Src H4 p (b + 8 + 17 * i + 9 + j) ∧ ∃ kept : List Str, H4 D = some (.lst (kept.map V.str)) ∧ kept.Sublist (us.take j))
            ⟨s3.trans (same_new hD), by rw [upd_ne nlD]; exact ewl, by rw [upd_ne nWD]; exact eW3, by rw [upd_ne noD]; exact eo3, rowsL_same (same_new hD) hR3, src_new S3 hD, [], upd_same, List.Sublist.refl _⟩ (fun j H4 _ ⟨_, q1, _⟩ => SqL.of q1) (fun j y H4 hy ⟨r1, r2, r3, r4, r5, r6, kept, r7, r8⟩ => ?_) (fun H4 ⟨r1, r2, r3, r4, r5, r6, kept, r7, r8⟩ => ?_)
          · have hjl : j < us.length := by
              have := (List.getElem?_eq_some_iff.mp hy).1
              simpa using this
            have ey : y = V.str us[j] := by
              rw [List.getElem?_map, List.getElem?_eq_getElem hjl] at hy
              exact (Option.some.inj hy).symm
            subst ey
            refine ⟨rfl, _, rfl, p, 3, _, del H4 p, rfl, by decide, by decide, r6, by omega, del_at, del_same, fun H5 k k0 k1 s5 S5 => ?_⟩
            have u1 : Same G H5 := (same_del r1 hG).trans s5
            have u2 := del_get s5 nwl r2
            have u3 := del_get s5 nWp r3
            have u4 := del_get s5 nop r4
            have u5 := rowsL_del r6 s5 r5
            have u7 := del_get s5 nDp r7
            have tk : us.take (j + 1) = us.take j ++ [us[j]] := by
              rw [List.take_add_one, List.getElem?_eq_getElem hjl]
              rfl
            have GD : G D = none := s3.free hD
            refine ⟨_, _, rfl, rfl, _, rfl, ite2 (fun _ => ?_) (fun _ => ?_)⟩
            · refine ⟨_, rfl, _, u7, ?_, same_at u1 GD, by rw [upd_ne nlD]; exact u2, by rw [upd_ne nWD]; exact u3, by rw [upd_ne noD]; exact u4, ?_, src_at S5 nDp.symm, kept ++ [us[j]], ?_, ?_⟩
              · rw [List.length_map]
                have := r8.length_le
                rw [List.length_take] at this
                exact small1000 (by omega)
              · refine ⟨u5.1, fun k a row e1 e2 => ?_⟩
                obtain ⟨ob, e3, e4⟩ := u5.2 k a row e1 e2
                have naD : a ≠ D := fun z => by
                  rw [z, u7] at e3
                  cases e3
                exact ⟨ob, by rw [upd_ne naD]; exact e3, e4⟩
              · rw [upd_same]
                simp
              · rw [tk]
                exact r8.append (List.Sublist.refl _)
            · exact ⟨u1, u2, u3, u4, u5, S5, kept, u7, by rw [tk]; exact r8.trans (List.sublist_append_left _ _)⟩
          · refine ⟨D, _, rfl, SqL.of r7, fun tq ob htq tob => ?_⟩
            have noq : o ≠ tq := ne_of_none r4 htq
            have nWq : W ≠ tq := ne_of_none r3 htq
            have v4 : (upd H4 tq (.frz ob (.tup (kept.map V.str)))) o = some (.lst (as.map V.ref)) := by rw [upd_ne noq]; exact r4
            have sub8 : kept.Sublist us := r8.trans (List.take_sublist _ _)
            have tR : RowsL (upd H4 tq (.frz ob (.tup (kept.map V.str)))) (as ++ [tq]) (rows ++ [kept]) := rowsL_snoc (rowsL_same (same_new htq) r5) upd_same tob
            refine ⟨o, _, _, rfl, rfl, v4, ?_, ?_⟩
            · rw [List.length_map, las]
              exact small1000 (by omega)
            · refine ⟨_, _, rfl, same_at (r1.trans (same_new htq)) Go, by first | (rw [upd_ne nWo, upd_ne nWq]; exact r3) | (rw [ew, upd_ne nWo, upd_ne nWq]; exact r3), (src_at (src_new r6 htq) nop.symm).mono (by simp; omega), as ++ [tq], rows ++ [kept], ?_, ?_, by simp [lr], fun row hrow => ?_⟩
              · rw [upd_same]
                simp
              · refine ⟨tR.1, fun k a row e1 e2 => ?_⟩
                obtain ⟨ob2, e3, e4⟩ := tR.2 k a row e1 e2
                have nao : a ≠ o := fun z => by
                  rw [z, v4] at e3
                  cases e3
                exact ⟨ob2, by rw [upd_ne nao]; exact e3, e4⟩
              · rcases List.mem_append.mp hrow with hrow | hrow
                · exact hg row hrow
                · rw [List.mem_singleton.mp hrow]
                  exact good_sub gus sub8
    · rintro σ H2 ⟨v6, v7, rfl, s2, eW, S2', as, rows, eo, hR, lr, hg⟩
      rw [Int.toNat_natCast] at lr S2'
      exact ⟨_, rfl, q H2 o as rows s2 Go nop eo hR lr hg S2'⟩
abbrev s_h_pick : Stmt := topS 26
theorem sc_h_pick : FnScope ["_law_source_here", "_law_items"] ["_law_source_here", "_law_items"] (defScope s_h_pick) := ⟨rfl, rfl, rfl, by decide +kernel, rfl, by decide +kernel, by decide +kernel⟩
theorem ok_h_pick {f : Addr} {fd : FuncData} (F : Fun K "_law_pick" "_law_pick" s_h_pick f fd) (T : Txt mg) (D_h_next : Dn P w K mg base CX0 1 "_law_next" ["_law_source_here", "_law_many"] (spNext)) : FnOk P w K mg base CX0 2 f fd ["_law_source_here", "_law_items"] (spPick) := by
  refine F.ok sc_h_pick (fun vs H Q E h => ?_) (fun cdv A outer s H vs Q E hr h => ?_)
  · obtain ⟨p, l, xs, b, G, rfl, _⟩ := h
    rfl
  · obtain ⟨p, l, xs, b, G, rfl, hl, h1, h2, hS, hB, hG, hs, q⟩ := h
    refine ⟨_, pss_one (ps_ret (pe_ix ix_list (pv 1) (pe_D D_h_next (hr.mono (by decide)) (by rfl) pass0 (pa_cons (pv 0) (pa_cons (pe_callB call_len_seq (by rfl) T.len PySem.boot_len (pa_cons (pv 1) pa_nil)) pa_nil))) (fun _ _ => rfl))), ?_⟩
    refine ⟨_, rfl, _, rfl, _, rfl, l, xs, rfl, .inl (SqL.of (hs _ _ hl)), p, _, b, G, rfl, (by omega), (by omega), hS, hB, hG, hs, fun H1 k k0 k1 s1 S1 => ?_⟩
    obtain ⟨j, rfl⟩ : ∃ j : Nat, k = (j : Int) := ⟨_, (Int.toNat_of_nonneg k0).symm⟩
    have hj : j < xs.length := by omega
    exact ⟨l, _, _, xs[j], rfl, rfl, SqL.of (s1 _ _ hl), atI_nat (List.getElem?_eq_getElem hj), q H1 _ (List.getElem_mem hj) s1 S1⟩
end
end K08

set_option Elab.async false
set_option linter.all false
set_option maxRecDepth 100000
set_option maxHeartbeats 4000000
namespace K08
open PySem Nb
open L2 hiding del del_ne del_same
/-- lists of names, in a list -/
def LsAt (H : Hp) (l : Addr) (vs : List V) (rows : List (List Str)) : Prop := H l = some (.lst vs) ∧ F2 (fun v (r : List Str) => ∃ a, v = .ref a ∧ H a = some (.lst (r.map V.str))) vs rows
theorem ls_same {H H' : Hp} {l : Addr} {vs : List V} {rows : List (List Str)} (s : Same H H') (h : LsAt H l vs rows) : LsAt H' l vs rows := ⟨s _ _ h.1, f2_imp (fun _ _ ⟨a, e, k⟩ => ⟨a, e, s _ _ k⟩) h.2⟩
theorem ls_get {H : Hp} {l : Addr} {vs : List V} {rows : List (List Str)} (h : LsAt H l vs rows) {i : Nat} {y : V} (e : vs[i]? = some y) : ∃ a, y = .ref a ∧ H a = some (.lst ((rows.getD i []).map V.str)) ∧ vs.getD i .non = y ∧ rows[i]? = some (rows.getD i []) := by
  obtain ⟨r, er, a, ea, k⟩ := f2_getl h.2 e
  refine ⟨a, ea, ?_, ?_, ?_⟩
  · rw [List.getD_eq_getElem?_getD, er]
    exact k
  · rw [List.getD_eq_getElem?_getD, e]
    rfl
  · rw [List.getD_eq_getElem?_getD, er]
    rfl
theorem ls_len {H : Hp} {l : Addr} {vs : List V} {rows : List (List Str)} (h : LsAt H l vs rows) : vs.length = rows.length := f2_len h.2
theorem dp_sel {K : PySem.W.Frag} {H : Hp} {l : Addr} {vs : List V} {rows : List (List Str)} (h : LsAt H l vs rows) : ∀ is : List Nat, (∀ i ∈ is, i < vs.length) → DpAll K H (is.map fun i => vs.getD i .non) (is.map fun i => .list ((rows.getD i []).map PyData.str))
  | [], _ => .nil
  | i :: is, k => by
    have lt := k i (List.mem_cons_self ..)
    obtain ⟨a, ea, ha, eg, _⟩ := ls_get h (List.getElem?_eq_getElem lt)
    refine .cons ?_ (dp_sel h is fun j hj => k j (List.mem_cons_of_mem _ hj))
    show Dp K H (vs.getD i .non) _
    rw [eg, ea]
    exact .lst (SqL.of ha) (dps_strs _)
theorem fine_sel {rows : List (List Str)} (hw : ∀ r ∈ rows, ∀ z ∈ r, Word z) (is : List Nat) : Fine 2 (.list (is.map fun i => .list ((rows.getD i []).map PyData.str))) := fine_list fun d hd => by
  obtain ⟨i, _, rfl⟩ := List.mem_map.mp hd
  refine fine_strs fun z hz => ?_
  rw [List.getD_eq_getElem?_getD] at hz
  cases e : rows[i]? with
  | none =>
    rw [e] at hz
    cases hz
  | some r =>
    rw [e] at hz
    exact hw r (List.mem_of_getElem? e) z hz
theorem ne_nil {K : PySem.W.Frag} {H : Hp} {l b : Addr} {ds : List PyData} {n : Nat} {Q : VK} (hd : Dp K H (.ref l) (.list ds)) (hf : Fine n (.list ds)) (ln : n ≤ 64) (eb : H b = some (.lst [])) (q : Q (.bl (!ds.isEmpty)) H) : rNeD K (.ref l) (.ref b) H Q :=
  ⟨.list ds, .list [], hd, .lst (SqL.of eb) .nil, hf.shaped ln, by decide, by rw [eqv_nil]; exact q⟩
theorem eq_nil {K : PySem.W.Frag} {H : Hp} {l b : Addr} {ds : List PyData} {n : Nat} {Q : VK} (hd : Dp K H (.ref l) (.list ds)) (hf : Fine n (.list ds)) (ln : n ≤ 64) (eb : H b = some (.lst [])) (q : Q (.bl ds.isEmpty) H) : rEqD K (.ref l) (.ref b) H Q :=
  ⟨.list ds, .list [], hd, .lst (SqL.of eb) .nil, hf.shaped ln, by decide, by rw [eqv_nil]; exact q⟩
theorem cr_listSK {X : Cx} {K : PySem.W.Frag} (hK : X.K = K) : CallR X (.type "list") (fun xs H Q => ∃ p ys, xs = [.ref p] ∧ (SqL K H p ys ∨ SqT K H p ys) ∧ ∀ H2 l, Same H H2 → H l = none → H2 l = some (.lst ys) → Q (.ref l) H2) := by
  subst hK
  exact cr_listS
/-- the rows of a comprehension over lists, each made anew -/
theorem f2_made {P : Nat → List Str} {R : V → List Str → Prop} : ∀ {is : List Nat} {ys : List V}, F2 (fun i y => R y (P i)) is ys → F2 R ys (is.map P)
  | _, _, .nil => .nil
  | _, _, .cons a b => .cons a (f2_made b)
theorem sel_map {α β : Type} (d : α) (p : α → Bool) (g : α → β) (xs : List α) : ((List.range xs.length).filter fun i => p (xs.getD i d)).map (fun i => g (xs.getD i d)) = (xs.filter p).map g := by
  have e : xs.filter p = ((List.range xs.length).map fun i => xs.getD i d).filter p := by rw [range_getD]
  rw [e, List.filter_map, List.map_map]
  rfl
theorem heads_filter : ∀ rows : List (List Str), (rows.filter fun r => decide (r ≠ [])).map (fun r => r.headD "") = rows.filterMap List.head?
  | [] => rfl
  | [] :: rows => by
    rw [List.filter_cons_of_neg (by simp), List.filterMap_cons_none (by rfl)]
    exact heads_filter rows
  | (x :: r) :: rows => by
    rw [List.filter_cons_of_pos (by simp), List.map_cons, List.filterMap_cons_some (by rfl), heads_filter rows]
    rfl
theorem tail_cut (r : List Str) : cutV (r.map V.str) (some 1) none = r.tail.map V.str := by
  unfold cutV
  cases r with
  | nil => rfl
  | cons x r =>
    have e : HT.sIx ((x :: r).map V.str).length 0 (some 1) = 1 := by
      rw [show (some (1 : Int)) = some ((1 : Nat) : Int) from rfl, HT.sIx_nat, List.length_map, List.length_cons]
      omega
    rw [e, HT.sIx_none, List.map_cons]
    show ((r.map V.str)).take _ = _
    rw [List.take_of_length_le]
    · rfl
    · rw [List.length_cons]
      omega
theorem in_strs (z : Str) (r : List Str) : inV (.str z) (r.map V.str) = decide (z ∈ r) := by
  unfold inV
  rw [List.any_map, Bool.eq_iff_iff, List.any_eq_true, decide_eq_true_eq]
  constructor
  · rintro ⟨y, hy, e⟩
    have : y = z := by simpa [eqV] using e
    exact this ▸ hy
  · intro h
    exact ⟨z, h, by simp [eqV]⟩
theorem yesT {te : TE} {σ : L2.St} {H : Hp} {Nx : VK} {Nf : Hp → Prop} (h : te σ H Nx) : tYes σ H (fun b H3 => if b = true then te σ H3 Nx else Nf H3) := by
  show if true = true then te σ H Nx else Nf H
  exact iteT h
structure LMI (rows : List (List Str)) (fk : List Str) : Prop where
  nd : fk.Nodup
  sub : ∀ x ∈ fk, x ∈ rows.flatten
  eq : Mg.drawn rows = fk ++ Mg.drawn (Mg.alive fk rows)
  ord : ∀ r ∈ rows, r.Sublist (fk ++ r.filter fun x => decide (x ∉ fk))
theorem lmi_0 (rows : List (List Str)) : LMI rows [] := ⟨List.nodup_nil, (fun x h => nomatch h), by rw [Mg.alive_nil]; rfl, fun r _ => by
  have e : (r.filter fun x => decide (x ∉ ([] : List Str))) = r := List.filter_eq_self.mpr fun x _ => by simp
  rw [e]
  exact List.Sublist.refl _⟩
theorem alive_mem {fk : List Str} {rows : List (List Str)} {x : Str} (h : x ∈ (Mg.alive fk rows).flatten) : x ∈ rows.flatten ∧ x ∉ fk := by
  obtain ⟨a, ha, hx⟩ := List.mem_flatten.mp h
  obtain ⟨r, hr, rfl⟩ := List.mem_map.mp ha
  obtain ⟨h1, h2⟩ := List.mem_filter.mp hx
  exact ⟨List.mem_flatten.mpr ⟨r, hr, h1⟩, of_decide_eq_true h2⟩
theorem lmi_step {rows : List (List Str)} {fk : List Str} {x : Str} (M : LMI rows fk) (p : Mg.pick (Mg.alive fk rows) = some x) : LMI rows (fk ++ [x]) := by
  obtain ⟨m1, m2⟩ := alive_mem (Mg.pick_mem p)
  refine ⟨?_, fun y hy => ?_, ?_, fun r hr => ?_⟩
  · rw [List.nodup_append]
    refine ⟨M.nd, by simp, fun a ha b hb => ?_⟩
    have : b = x := by simpa using hb
    subst this
    exact fun e => m2 (e ▸ ha)
  · rcases List.mem_append.mp hy with h | h
    · exact M.sub y h
    · have : y = x := by simpa using h
      exact this ▸ m1
  · rw [M.eq, Mg.drawn_some p, Mg.without_alive, List.append_assoc]
    rfl
  · have g : Mg.good (Mg.alive fk rows) x = true := List.find?_some p
    have g1 := List.all_eq_true.mp g (r.filter fun y => decide (y ∉ fk)) (List.mem_map.mpr ⟨r, hr, rfl⟩)
    have g2 : x ∉ (r.filter fun y => decide (y ∉ fk)).tail := of_decide_eq_true g1
    have e : (r.filter fun y => decide (y ∉ fk ++ [x])) = (r.filter fun y => decide (y ∉ fk)).filter fun y => decide (y ≠ x) := by
      rw [List.filter_filter]
      congr 1
      funext y
      rw [Bool.eq_iff_iff]
      simp
      constructor
      · rintro ⟨a, b⟩
        exact ⟨b, a⟩
      · rintro ⟨a, b⟩
        exact ⟨b, a⟩
    have o := M.ord r hr
    rw [e]
    generalize (r.filter fun y => decide (y ∉ fk)) = a at g2 o
    cases a with
    | nil =>
      rw [List.append_nil] at o
      rw [List.filter_nil, List.append_nil]
      exact o.trans (List.sublist_append_left _ _)
    | cons y t =>
      have nt : (t.filter fun y => decide (y ≠ x)) = t := List.filter_eq_self.mpr fun z hz => decide_eq_true fun e => g2 (e ▸ hz)
      by_cases h : y = x
      · subst h
        rw [List.filter_cons_of_neg (by simp), nt, List.append_assoc]
        exact o
      · rw [List.filter_cons_of_pos (by simpa using h), nt]
        refine o.trans ?_
        rw [List.append_assoc]
        exact (List.Sublist.refl fk).append (List.sublist_cons_self x _)
theorem lmi_end {rows : List (List Str)} {fk : List Str} (M : LMI rows fk) (all : ∀ r ∈ Mg.alive fk rows, r = []) : Mg.drawn rows = fk ∧ Full rows ∧ ∀ r ∈ rows, r.Sublist (Mg.drawn rows) := by
  have pn : Mg.pick (Mg.alive fk rows) = none := by
    have e : (Mg.alive fk rows).filterMap List.head? = [] := List.filterMap_eq_nil_iff.mpr fun r hr => by rw [all r hr]; rfl
    unfold Mg.pick
    rw [e]
    rfl
  have ed : Mg.drawn rows = fk := by rw [M.eq, Mg.drawn_none pn, List.append_nil]
  have gone : ∀ r ∈ rows, (r.filter fun x => decide (x ∉ fk)) = [] := fun r hr => all _ (List.mem_map.mpr ⟨r, hr, rfl⟩)
  refine ⟨ed, ?_, fun r hr => ?_⟩
  · unfold Full
    rw [ed]
    refine Nat.le_antisymm (nodup_sub M.nd fun x hx => mem_names.mpr (M.sub x hx)) (nodup_sub (nodup_seen _) fun x hx => ?_)
    obtain ⟨r, hr, h⟩ := List.mem_flatten.mp (mem_names.mp hx)
    by_cases q : x ∈ fk
    · exact q
    · have : x ∈ r.filter fun x => decide (x ∉ fk) := List.mem_filter.mpr ⟨h, decide_eq_true q⟩
      rw [gone r hr] at this
      cases this
  · have o := M.ord r hr
    rw [gone r hr, List.append_nil] at o
    rw [ed]
    exact o
/-- where no name can be taken and some are left, there is no merge -/
theorem lmi_stuck {rows : List (List Str)} {fk : List Str} (M : LMI rows fk) (pn : Mg.pick (Mg.alive fk rows) = none) (some_ : ¬ ∀ r ∈ Mg.alive fk rows, r = []) : ¬ Full rows := by
  intro fu
  have ed : Mg.drawn rows = fk := by rw [M.eq, Mg.drawn_none pn, List.append_nil]
  unfold Full at fu
  rw [ed] at fu
  refine some_ fun r hr => ?_
  obtain ⟨r0, h0, rfl⟩ := List.mem_map.mp hr
  refine List.filter_eq_nil_iff.mpr fun x hx => ?_
  have hn : x ∈ names rows := mem_names.mpr (List.mem_flatten.mpr ⟨r0, h0, hx⟩)
  intro nx
  have nx : x ∉ fk := of_decide_eq_true nx
  have nd : (x :: fk).Nodup := List.nodup_cons.mpr ⟨nx, M.nd⟩
  have := nodup_sub nd fun y hy => (List.mem_cons.mp hy).elim (fun e => e ▸ hn) fun m => mem_names.mpr (M.sub y m)
  rw [List.length_cons] at this
  omega
def spLMerged : Sp := fun vs H Q _ => ∃ (l : Addr) (as : List Addr) (rows : List (List Str)), vs = [.ref l] ∧ H l = some (.lst (as.map V.ref)) ∧ RowsL H as rows ∧ (∀ row ∈ rows, GoodRow row) ∧ rows.length ≤ 10 ∧
  (∀ H' r, Same H H' → Full rows → (Mg.drawn rows).Nodup → (∀ x ∈ rows, x.Sublist (Mg.drawn rows)) → H' r = some (.tup ((Mg.drawn rows).map V.str)) → Q (.ref r) H') ∧ (¬ Full rows → ∀ H', Same H H' → Q .non H')
section
variable {P : Program} {w : World} {K : PySem.W.Frag} {mg : Str → Option Value} {base : Heap} {TL : List (Addr × Str)}
abbrev s_h_merged : Stmt := topS 28
theorem sc_h_merged : FnScope ["_law_lists", "_law_found", "_law_heads", "_law_good", "_law_one", "_law_head", "_law_name"] ["_law_lists"] (defScope s_h_merged) := ⟨rfl, rfl, rfl, by decide +kernel, rfl, by decide +kernel, by decide +kernel⟩
def sx_h_merged_0 : Scope := { kind := .function, names := [(".0", .local), ("_law_one", .local), ("list", .globalImplicit)], isGenerator := false, isCoroutine := false, more := [] }
def sx_h_merged_1 : Scope := { kind := .function, names := [(".0", .local), ("_law_one", .local)], isGenerator := false, isCoroutine := false, more := [] }
def sx_h_merged_2 : Scope := { kind := .function, names := [(".0", .local), ("_law_one", .local)], isGenerator := false, isCoroutine := false, more := [] }
def sx_h_merged_3 : Scope := { kind := .function, names := [(".0", .local), ("_law_one", .local), ("_law_head", .cell)], isGenerator := false, isCoroutine := false, more := [] }
def sx_h_merged_4 : Scope := { kind := .function, names := [(".0", .local), ("_law_head", .cell), ("_law_lists", .cell)], isGenerator := false, isCoroutine := false, more := [] }
def sx_h_merged_5 : Scope := { kind := .function, names := [(".0", .local), ("_law_name", .local), ("_law_good", .cell)], isGenerator := false, isCoroutine := false, more := [] }
def sx_h_merged_6 : Scope := { kind := .function, names := [(".0", .local), ("_law_one", .local), ("_law_good", .cell)], isGenerator := false, isCoroutine := false, more := [] }
theorem ok_h_merged {f : Addr} {fd : FuncData} (F : Fun K "_law_merged" "_law_merged" s_h_merged f fd) (T : Txt mg) : FnOk P w K mg base CX0 1 f fd ["_law_lists"] (spLMerged) := by
  refine F.ok sc_h_merged (fun vs H Q E h => ?_) (fun cdv A outer s H vs Q E hr h => ?_)
  · obtain ⟨l, as, rows, rfl, _⟩ := h
    rfl
  · obtain ⟨l, as, rows, rfl, hl, hR, hg, h10, q1, q2⟩ := h
    refine ⟨_, pss_cons (ps_asg (pe_tupS (pa_cons (pe_lc (own := [("_law_one", 4)]) (g := gName 4) (tt := tYes) rfl sc_h_merged.nd (pi_list (pv 0)) (blkOk_by (N := ["_law_lists", "_law_found", "_law_heads", "_law_good", "_law_one", "_law_head", "_law_name"]) (sc := (defScope s_h_merged)) (by decide +kernel)) (fun _ _ _ _ _ => (pg_name (i := 4) sc_h_merged.nd rfl (Or.inl rfl))) (fun _ _ _ _ _ => pts_nil) (fun _ _ _ _ _ => (pe_callTy (cr_listSK (K := K) rfl) (by rfl) T.list (by decide +kernel) (pa_cons (pv 4) pa_nil)))) (pa_cons (pe_lstS pa_nil) pa_nil))) (pg_tup rfl (pgs_cons (pg_name (i := 0) sc_h_merged.nd rfl (Or.inr rfl)) (pgs_cons (pg_name (i := 1) sc_h_merged.nd rfl (Or.inl rfl)) pgs_nil))))
        (pss_cons (ps_while PassesOwn.never (pt_up (pt_cmpR (op_neD hr.units) (pe_lc (own := [("_law_one", 4)]) (g := gName 4) rfl sc_h_merged.nd (pi_list (pv 0)) (blkOk_by (N := ["_law_lists", "_law_found", "_law_heads", "_law_good", "_law_one", "_law_head", "_law_name"]) (sc := (defScope s_h_merged)) (by decide +kernel)) (fun _ _ _ _ _ => (pg_name (i := 4) sc_h_merged.nd rfl (Or.inl rfl))) (fun _ _ _ _ _ => (pts_one (pt_cmpR (r := rNeD K) (op_neD hr.units) (pv 4) (pe_lstS pa_nil) (nomark _)))) (fun _ _ _ _ _ => (pv 4))) (pe_lstS pa_nil) (nomark _))) (pss_cons (ps_setLc (i := 2) (own := [("_law_one", 4)]) (g := gName 4) rfl sc_h_merged.nd rfl rfl (sw_true rfl rfl rfl (by decide +kernel)) (pi_list (pv 0)) (blkOk_by (N := ["_law_lists", "_law_found", "_law_heads", "_law_good", "_law_one", "_law_head", "_law_name"]) (sc := (defScope s_h_merged)) (by decide +kernel)) (fun _ _ _ _ _ => (pg_name (i := 4) sc_h_merged.nd rfl (Or.inl rfl))) (fun _ _ _ _ _ => (pts_one (pt_cmpR (r := rNeD K) (op_neD hr.units) (pv 4) (pe_lstS pa_nil) (nomark _)))) (fun _ _ _ _ _ => (pe_ix (r := rIxL K) ix_list (pv 4) pe_int (fun _ _ => rfl))))
        (pss_cons (ps_set (i := 3) sc_h_merged.nd rfl (Or.inr rfl) (pe_lc (own := [("_law_head", 5)]) (g := gName 5) rfl sc_h_merged.nd (pi_list (pv 2)) (blkOk_by (N := ["_law_lists", "_law_found", "_law_heads", "_law_good", "_law_one", "_law_head", "_law_name"]) (sc := (defScope s_h_merged)) (by decide +kernel)) (fun _ _ _ _ _ => (pg_name (i := 5) sc_h_merged.nd rfl (Or.inr rfl))) (fun _ _ _ _ _ => (pts_one (pt_cmpR (r := rEqD K) (op_eqD hr.units) (pe_lc (own := [("_law_one", 4)]) (g := gName 4) rfl sc_h_merged.nd (show PI _ _ _ (iList K _) from pi_list (pv 0)) (blkOk_by (N := ["_law_lists", "_law_found", "_law_heads", "_law_good", "_law_one", "_law_head", "_law_name"]) (sc := sx_h_merged_4) (by decide +kernel)) (fun _ _ _ _ _ => (pg_name (i := 4) sc_h_merged.nd rfl (Or.inl rfl))) (fun _ _ _ _ _ => (pts_one (pt_cmpR (r := rIn K false) op_in_seq (pv 5) (pe_slice (r := rSlL K) sl_list (pv 4) (po_some pe_int) po_none) (by rfl)))) (fun _ _ _ _ _ => (pv 4))) (pe_lstS pa_nil) (nomark _)))) (fun _ _ _ _ _ => (pv 5))))
        (pss_cons (ps_if (pt_cmpR (op_eqD hr.units) (pv 3) (pe_lstS pa_nil) (nomark _)) (pss_one (ps_ret pe_non)) pss_nil)
        (pss_cons (ps_expr (pe_bm PySem.F.plainAttrs_list PySem.F.slot_list_append PySem.F.type_list_append mt_append (pv 1) (pa_cons (pe_ix ix_list (pv 3) pe_int (fun _ _ => rfl)) pa_nil)))
        (pss_one (ps_set (i := 0) sc_h_merged.nd rfl (Or.inr rfl) (pe_lc (own := [("_law_one", 4)]) (g := gName 4) (tt := tYes) rfl sc_h_merged.nd (pi_list (pv 0)) (blkOk_by (N := ["_law_lists", "_law_found", "_law_heads", "_law_good", "_law_one", "_law_head", "_law_name"]) (sc := (defScope s_h_merged)) (by decide +kernel)) (fun _ _ _ _ _ => (pg_name (i := 4) sc_h_merged.nd rfl (Or.inl rfl))) (fun _ _ _ _ _ => pts_nil) (fun _ _ _ _ _ => (pe_lc (own := [("_law_name", 6)]) (g := gName 6) rfl sc_h_merged.nd (show PI _ _ _ (iList K _) from pi_list (pv 4)) (blkOk_by (N := ["_law_lists", "_law_found", "_law_heads", "_law_good", "_law_one", "_law_head", "_law_name"]) (sc := sx_h_merged_6) (by decide +kernel)) (fun _ _ _ _ _ => (pg_name (i := 6) sc_h_merged.nd rfl (Or.inl rfl))) (fun _ _ _ _ _ => (pts_one (pt_cmpR op_ne (pv 6) (pe_ix (r := rIxL K) ix_list (pv 3) pe_int (fun _ _ => rfl)) (nomark _)))) (fun _ _ _ _ _ => (pv 6))))))))))))
        (pss_one (ps_ret (pe_callTy cr_tupleS (by rfl) T.tuple (by decide +kernel) (pa_cons (pv 1) pa_nil))))), ?_⟩
    have la : as.length = rows.length := hR.1
    have words : ∀ r ∈ rows, ∀ z ∈ r, Word z := fun r hr => good_words (hg r hr)
    refine ⟨_, rfl, l, rfl, ⟨_, SqL.of hl⟩, fun D hD => ?_⟩
    refine lcR (walk_list (xs := as.map V.ref)) (fun _ => true) (fun i y H => ∃ a, y = .ref a ∧ H a = some (.lst ((rows.getD i []).map V.str))) (fun i y H1 H2 s ⟨a, e, k⟩ => ⟨a, e, s _ _ k⟩) (by rw [List.length_map]; omega) hD (fun H2 s => SqL.of (s _ _ hl)) ?_ ?_
    · rintro i x H1 H2 Nx Nf hi s1 nD ⟨rfl, ex⟩ k1 k2
      rw [List.getElem?_map] at ex
      obtain ⟨a, ea, rfl⟩ : ∃ a, as[i]? = some a ∧ x = .ref a := by
        cases e : as[i]? with
        | none => rw [e] at ex; cases ex
        | some a => rw [e] at ex; exact ⟨a, rfl, (Option.some.inj ex).symm⟩
      have il : i < rows.length := by
        rw [← la]
        exact (List.getElem?_eq_some_iff.mp ea).1
      obtain ⟨o, ho, _⟩ := hR.2 i a rows[i] ea (List.getElem?_eq_getElem il)
      have eg : rows.getD i [] = rows[i] := by
        rw [List.getD_eq_getElem?_getD, List.getElem?_eq_getElem il]
        rfl
      refine ⟨rfl, yesT ⟨_, rfl, a, _, rfl, .inr (.inl (.inr ⟨o, s1 _ _ ho⟩)), fun H3 l3 s3 n3 e3 => k1 rfl _ H3 s3 ⟨l3, rfl, ?_⟩⟩⟩
      rw [Nb.del_ne (fun z => nD (by rw [← z]; exact n3)), e3, eg]
    rintro H1 ys s1 e1 f1
    have L1 : LsAt H1 D ys rows := by
      refine ⟨e1, ?_⟩
      have f2 := f2_made (P := fun i => rows.getD i []) (R := fun v (r : List Str) => ∃ a, v = .ref a ∧ H1 a = some (.lst (r.map V.str))) f1
      rw [List.filter_eq_self.mpr (fun _ _ => rfl), List.length_map, la, range_getD] at f2
      exact f2
    refine ⟨by decide, fun H2 fo s2 n2 e2 => ⟨(by show 2 ≤ 100000; decide), fun H3 t s3 n3 e3 => ?_⟩⟩
    refine ⟨t, [.ref D, .ref fo], rfl, .inl (.inl e3), rfl, .ref D, [.ref fo], rfl, .ref fo, [], rfl, rfl, ?_⟩
    refine while_by (fun σ H' => ∃ ls fk vs v2 v3, σ = [some (.ref ls), some (.ref fo), v2, v3, none, none, none] ∧ Same H H' ∧ LsAt (Nb.del H' fo) ls vs (Mg.alive fk rows) ∧ H' fo = some (.lst (fk.map V.str)) ∧ LMI rows fk)
      (fun σ H' => match H' fo with | some (.lst xs) => rows.flatten.length - xs.length | _ => 0) ?_ ?_ (fun σ H Q Q' k z => tUp_mono σ H Q Q' k z)
    · refine ⟨D, [], ys, none, none, rfl, (s1.trans s2).trans s3, ?_, s3 _ _ e2, lmi_0 rows⟩
      rw [Mg.alive_nil]
      exact ls_same (same_del (s2.trans s3) n2) L1
    rintro σ H4 ⟨ls, fk, vs, v2, v3, rfl, s4, hL, eF, M⟩
    have fits : ∀ r ∈ Mg.alive fk rows, r.length ≤ 8 ∧ ∀ z ∈ r, Word z := fun r hr => by
      obtain ⟨r0, h0, rfl⟩ := List.mem_map.mp hr
      exact ⟨Nat.le_trans (List.length_filter_le _ _) (hg r0 h0).2.2, fun z hz => words r0 h0 z (List.mem_filter.mp hz).1⟩
    have lrk : (Mg.alive fk rows).length = rows.length := List.length_map ..
    have step : ∀ x, Mg.pick (Mg.alive fk rows) = some x → LMI rows (fk ++ [x]) := fun x p => lmi_step M p
    have fin : (∀ r ∈ Mg.alive fk rows, r = []) → Mg.drawn rows = fk ∧ Full rows ∧ ∀ r ∈ rows, r.Sublist (Mg.drawn rows) := lmi_end M
    have stuck : Mg.pick (Mg.alive fk rows) = none → ¬ (∀ r ∈ Mg.alive fk rows, r = []) → ¬ Full rows := fun p n => lmi_stuck M p n
    have wo : ∀ x, Mg.without x (Mg.alive fk rows) = Mg.alive (fk ++ [x]) rows := fun x => Mg.without_alive fk rows x
    generalize Mg.alive fk rows = rk at hL fits lrk step fin stuck wo
    have lv : vs.length = rk.length := ls_len hL
    have hL4 : LsAt H4 ls vs rk := ls_same del_same hL
    have wk : ∀ r ∈ rk, ∀ z ∈ r, Word z := fun r hr => (fits r hr).2
    have n100 : vs.length ≤ 100000 := by omega
    refine ⟨_, ⟨_, rfl, ls, rfl, ⟨vs, SqL.of hL4.1⟩, fun D hD => ?_⟩, fun _ _ z => z⟩
    refine lcS (walk_list (xs := vs)) (fun i => decide (rk.getD i [] ≠ [])) (fun i => vs.getD i .non) n100 hD (fun H5 s5 => SqL.of (s5 _ _ hL4.1)) ?_ ?_
    · rintro i x H5 H6 Nx Nf hi s5 ⟨rfl, ex⟩ k1 k2
      obtain ⟨a, rfl, ha, eg, er⟩ := ls_get (ls_same s5 hL4) ex
      refine ⟨rfl, _, rfl, by decide, fun H7 e s7 n7 e7 => ne_nil (.lst (SqL.of (s7 _ _ ha)) (dps_strs _)) (fine_strs (wk _ (List.mem_of_getElem? er))) (by decide) e7 ⟨_, rfl, ?_⟩⟩
      cases q : rk.getD i [] with
      | nil => exact iteF (k2 (by simp only [q]; decide) H7 s7)
      | cons z zs =>
        refine iteT ⟨_, rfl, ?_⟩
        have := k1 (by simp only [q]; simp) H7 s7
        rw [eg] at this
        exact this
    rintro H5 s5 e5
    refine ⟨by decide, fun H6 e s6 n6 e6 => ne_nil (.lst (SqL.of (s6 _ _ e5)) (dp_sel (ls_same (s5.trans s6) hL4) _ fun i hi => List.mem_range.mp (List.mem_filter.mp hi).1)) (fine_sel wk _) (by decide) e6 ⟨_, rfl, ?_⟩⟩
    by_cases all : ∀ r ∈ rk, r = []
    · have none_ : (List.range vs.length).filter (fun i => decide (rk.getD i [] ≠ [])) = [] := List.filter_eq_nil_iff.mpr fun i hi => by
        have lt := List.mem_range.mp hi
        obtain ⟨_, _, _, _, er⟩ := ls_get hL4 (List.getElem?_eq_getElem lt)
        rw [all _ (List.mem_of_getElem? er)]
        simp
      rw [none_]
      refine iteF ?_
      obtain ⟨g1, g2, g3⟩ := fin all
      exact ⟨_, rfl, fo, _, rfl, .inl (s6 _ _ (s5 _ _ eF)), fun H7 r s7 e7 => q1 H7 r (((s4.trans s5).trans s6).trans s7) g2 (by rw [g1]; exact M.nd) g3 (by rw [g1]; exact e7)⟩
    have some_ : ∃ i is, (List.range vs.length).filter (fun i => decide (rk.getD i [] ≠ [])) = i :: is := by
      cases q : (List.range vs.length).filter (fun i => decide (rk.getD i [] ≠ [])) with
      | cons i is => exact ⟨i, is, rfl⟩
      | nil =>
        refine (all fun r hr => ?_).elim
        obtain ⟨i, er⟩ := List.getElem?_of_mem hr
        have lt : i < vs.length := by
          rw [lv]
          exact (List.getElem?_eq_some_iff.mp er).1
        have := List.filter_eq_nil_iff.mp q i (List.mem_range.mpr lt)
        rw [List.getD_eq_getElem?_getD, er] at this
        simpa using this
    obtain ⟨i0, is0, q0⟩ := some_
    rw [q0]
    refine iteT ?_
    have L6 : LsAt (Nb.del H6 fo) ls vs rk := ls_same (del_mono (s5.trans s6)) hL
    have F6 : H6 fo = some (.lst (fk.map V.str)) := s6 _ _ (s5 _ _ eF)
    have S6 : Same H H6 := (s4.trans s5).trans s6
    have L6' : LsAt H6 ls vs rk := ls_same del_same L6
    -- the heads
    refine ⟨_, rfl, ls, rfl, ⟨vs, SqL.of L6'.1⟩, fun D2 hD2 => ?_⟩
    refine lcS (walk_list (xs := vs)) (fun i => decide (rk.getD i [] ≠ [])) (fun i => .str ((rk.getD i []).headD "")) n100 hD2 (fun H5 s5 => SqL.of (s5 _ _ L6'.1)) ?_ ?_
    · rintro i x H7 H8 Nx Nf hi s7 ⟨rfl, ex⟩ k1 k2
      obtain ⟨a, rfl, ha, eg, er⟩ := ls_get (ls_same s7 L6') ex
      refine ⟨rfl, _, rfl, by decide, fun H9 e s9 n9 e9 => ne_nil (.lst (SqL.of (s9 _ _ ha)) (dps_strs _)) (fine_strs (wk _ (List.mem_of_getElem? er))) (by decide) e9 ⟨_, rfl, ?_⟩⟩
      cases q : rk.getD i [] with
      | nil => exact iteF (k2 (by simp only [q]; decide) H9 s9)
      | cons z zs =>
        rw [q] at ha
        refine iteT ⟨_, rfl, a, _, _, _, rfl, rfl, SqL.of (s9 _ _ ha), atI_nat (j := 0) rfl, ?_⟩
        have := k1 (by simp only [q]; simp) H9 s9
        simp only [q] at this
        exact this
    rintro H7 s7 e7
    obtain ⟨hs, ehs⟩ : ∃ hs, hs = rk.filterMap List.head? := ⟨_, rfl⟩
    have e7' : H7 D2 = some (.lst (hs.map V.str)) := by
      have z := sel_map ([] : List Str) (fun r => decide (r ≠ [])) (fun r => r.headD "") rk
      rw [heads_filter, ← ehs, ← lv] at z
      rw [e7, ← z, List.map_map]
      rfl
    have lh : hs.length ≤ 10 := by
      rw [ehs]
      exact Nat.le_trans (List.length_filterMap_le _ _) (by omega)
    have wh : ∀ z ∈ hs, Word z := fun z hz => by
      rw [ehs] at hz
      obtain ⟨r, hr, h2⟩ := List.mem_filterMap.mp hz
      exact wk r hr z (List.mem_of_head? h2)
    have L7 : LsAt H7 ls vs rk := ls_same s7 L6'
    -- the good ones
    refine ⟨_, rfl, D2, rfl, ⟨_, SqL.of e7'⟩, fun D3 hD3 => ?_⟩
    refine lcS (walk_list (xs := hs.map V.str)) (fun i => Mg.good rk (hs.getD i "")) (fun i => .str (hs.getD i "")) (by rw [List.length_map]; omega) hD3 (fun H5 s5 => SqL.of (s5 _ _ e7')) ?_ ?_
    · rintro i x H8 H9 Nx Nf hi s8 ⟨rfl, ex⟩ k1 k2
      rw [List.getElem?_map] at ex
      obtain ⟨z, ez, rfl⟩ : ∃ z, hs[i]? = some z ∧ x = .str z := by
        cases e : hs[i]? with
        | none => rw [e] at ex; cases ex
        | some a => rw [e] at ex; exact ⟨a, rfl, (Option.some.inj ex).symm⟩
      have eg : hs.getD i "" = z := by
        rw [List.getD_eq_getElem?_getD, ez]
        rfl
      rw [eg] at k1 k2
      have L9 : LsAt H9 ls vs rk := ls_same s8 L7
      refine ⟨rfl, _, rfl, ls, rfl, ⟨vs, SqL.of L9.1⟩, fun D4 hD4 => ?_⟩
      refine lcS (walk_list (xs := vs)) (fun j => decide (z ∈ (rk.getD j []).tail)) (fun j => vs.getD j .non) n100 hD4 (fun H5 s5 => SqL.of (s5 _ _ L9.1)) ?_ ?_
      · rintro j y Ha Hb Ny Nn hj sa ⟨rfl, ey⟩ m1 m2
        obtain ⟨a, rfl, ha, eg2, er⟩ := ls_get (ls_same sa L9) ey
        refine ⟨rfl, _, rfl, _, rfl, _, rfl, a, _, rfl, SqL.of ha, fun p hp => ?_⟩
        refine ⟨p, _, rfl, .inl (SqL.of upd_same), rfl, ?_, _, rfl, ?_⟩
        · rw [tail_cut]
          exact List.all_eq_true.mpr fun v hv => by
            obtain ⟨w, _, rfl⟩ := List.mem_map.mp hv
            rfl
        · rw [tail_cut, if_neg (by decide), in_strs]
          by_cases q : z ∈ (rk.getD j []).tail
          · rw [decide_eq_true q]
            refine iteT ⟨_, rfl, ?_⟩
            have := m1 (decide_eq_true q) _ (same_new (o := HO.lst ((rk.getD j []).tail.map V.str)) hp)
            rw [eg2] at this
            exact this
          · rw [decide_eq_false q]
            exact iteF (m2 (decide_eq_false q) _ (same_new hp))
      rintro Ha sa ea
      refine ⟨by decide, fun Hb e sb nb eb => eq_nil (.lst (SqL.of (sb _ _ ea)) (dp_sel (ls_same (sa.trans sb) L9) _ fun i hi => List.mem_range.mp (List.mem_filter.mp hi).1)) (fine_sel wk _) (by decide) eb ⟨_, rfl, ?_⟩⟩
      have key : ((List.range vs.length).filter (fun j => decide (z ∈ (rk.getD j []).tail))).map (fun i => PyData.list ((rk.getD i []).map PyData.str)) = ((rk.filter fun r => decide (z ∈ r.tail))).map fun r => PyData.list (r.map PyData.str) := by
        rw [lv]
        exact sel_map ([] : List Str) (fun r => decide (z ∈ r.tail)) (fun r => PyData.list (r.map PyData.str)) rk
      rw [key]
      by_cases g : Mg.good rk z = true
      · have e0 : (rk.filter fun r => decide (z ∈ r.tail)) = [] := List.filter_eq_nil_iff.mpr fun r hr => by
          have := of_decide_eq_true (List.all_eq_true.mp g r hr)
          simpa using this
        rw [e0]
        exact iteT ⟨_, rfl, k1 g Hb (sa.trans sb)⟩
      · have e0 : ∃ r rs, (rk.filter fun r => decide (z ∈ r.tail)) = r :: rs := by
          cases q : rk.filter fun r => decide (z ∈ r.tail) with
          | cons r rs => exact ⟨r, rs, rfl⟩
          | nil =>
            refine (g (List.all_eq_true.mpr fun r hr => ?_)).elim
            have := List.filter_eq_nil_iff.mp q r hr
            simpa using this
        obtain ⟨r, rs, e0⟩ := e0
        rw [e0]
        exact iteF (k2 (by simpa using g) Hb (sa.trans sb))
    rintro H8 s8 e8
    obtain ⟨gs, egs⟩ : ∃ gs, gs = hs.filter (Mg.good rk) := ⟨_, rfl⟩
    have e8' : H8 D3 = some (.lst (gs.map V.str)) := by
      have z := sel_map ("" : Str) (Mg.good rk) V.str hs
      rw [← egs] at z
      rw [e8, List.length_map, z]
    have pk : Mg.pick rk = gs.head? := by
      rw [egs, List.head?_filter]
      unfold Mg.pick
      rw [ehs]
    have wg : ∀ z ∈ gs, Word z := fun z hz => by
      rw [egs] at hz
      exact wh z (List.mem_filter.mp hz).1
    refine ⟨_, rfl, by decide, fun H9 e s9 n9 e9 => eq_nil (.lst (SqL.of (s9 _ _ e8')) (dps_strs _)) (fine_strs wg) (by decide) e9 ⟨_, rfl, ?_⟩⟩
    have S9 : Same H H9 := ((S6.trans s7).trans s8).trans s9
    cases gs with
    | nil => exact iteT (q2 (stuck pk all) _ S9)
    | cons x gs =>
    refine iteF ?_
    have D39 : H9 D3 = some (.lst ((x :: gs).map V.str)) := s9 _ _ e8'
    have F9 : H9 fo = some (.lst (fk.map V.str)) := ((s7.trans s8).trans s9) _ _ F6
    have p : Mg.pick rk = some x := pk
    have M2 := step x p
    have lf : (fk ++ [x]).length ≤ rows.flatten.length := nodup_sub M2.nd M2.sub
    have lr := flat_len hg
    refine ⟨_, rfl, .inl ⟨rfl, _, SqL.of F9⟩, _, rfl, D3, _, _, _, rfl, rfl, SqL.of D39, atI_nat (j := 0) rfl, fo, _, _, rfl, rfl, F9, ?_, ?_⟩
    · rw [List.length_map]
      rw [List.length_append] at lf
      exact small1000 (by omega)
    have nd3 : D3 ≠ fo := ne_of (s8.trans s9 |> fun _ => D39) F9 |> fun _ => fun z => by
      rw [z] at hD3
      rw [s7 _ _ F6] at hD3
      cases hD3
    obtain ⟨Ha, ea⟩ : ∃ Ha, Ha = upd H9 fo (.lst (fk.map V.str ++ [.str x])) := ⟨_, rfl⟩
    rw [← ea]
    have La : LsAt (Nb.del Ha fo) ls vs rk := by
      rw [ea, del_upd]
      exact ls_same (del_mono ((s7.trans s8).trans s9)) L6
    have Fa : Ha fo = some (.lst ((fk ++ [x]).map V.str)) := by
      rw [ea, upd_same, List.map_append]
      rfl
    have Da : Ha D3 = some (.lst ((x :: gs).map V.str)) := by
      rw [ea, upd_ne nd3]
      exact D39
    have La' : LsAt Ha ls vs rk := ls_same del_same La
    have nfo : H fo = none := (s1.free n2)
    have Sa : Same H Ha := by
      rw [ea]
      exact same_at S9 nfo
    refine ⟨_, rfl, ls, rfl, ⟨vs, SqL.of La'.1⟩, fun D5 hD5 => ?_⟩
    have n5 : D5 ≠ fo := fun z => by
      rw [z, Fa] at hD5
      cases hD5
    refine lcR (walk_list (xs := vs)) (fun _ => true) (fun i y H => ∃ a, y = .ref a ∧ Nb.del H fo a = some (.lst (((rk.getD i []).filter fun y => decide (y ≠ x)).map V.str))) (fun i y H1 H2 s ⟨a, e, k⟩ => ⟨a, e, del_mono s _ _ k⟩) n100 hD5 (fun H5 s5 => SqL.of (s5 _ _ La'.1)) ?_ ?_
    · rintro i y Hb Hc Nx Nf hi sb nb ⟨rfl, ey⟩ k1 k2
      obtain ⟨a, rfl, ha, eg, er⟩ := ls_get (ls_same sb La') ey
      have l8 := (fits _ (List.mem_of_getElem? er)).1
      refine ⟨rfl, yesT ⟨_, rfl, a, rfl, ⟨_, SqL.of ha⟩, fun D6 hD6 => ?_⟩⟩
      refine lcS (walk_list (xs := (rk.getD i []).map V.str)) (fun j => decide ((rk.getD i []).getD j "" ≠ x)) (fun j => .str ((rk.getD i []).getD j "")) (by rw [List.length_map]; omega) hD6 (fun H5 s5 => SqL.of (s5 _ _ ha)) ?_ ?_
      · rintro j v Hd He Ny Nn hj sd ⟨rfl, ev⟩ m1 m2
        rw [List.getElem?_map] at ev
        obtain ⟨w, ew, rfl⟩ : ∃ w, (rk.getD i [])[j]? = some w ∧ v = .str w := by
          cases e : (rk.getD i [])[j]? with
          | none => rw [e] at ev; cases ev
          | some a => rw [e] at ev; exact ⟨a, rfl, (Option.some.inj ev).symm⟩
        have egw : (rk.getD i []).getD j "" = w := by
          rw [List.getD_eq_getElem?_getD, ew]
          rfl
        rw [egw] at m1 m2
        refine ⟨rfl, _, rfl, _, rfl, D3, _, _, _, rfl, rfl, SqL.of (sd _ _ (sb _ _ Da)), atI_nat (j := 0) rfl, rfl, _, rfl, ?_⟩
        by_cases q : w = x
        · rw [q, decide_eq_true (rfl : V.str x = V.str x)]
          exact iteF (m2 (by simp [q]) _ (Same.refl _))
        · rw [decide_eq_false (show ¬ V.str w = V.str x from fun z => q (V.str.inj z))]
          exact iteT ⟨_, rfl, m1 (by simp [q]) _ (Same.refl _)⟩
      rintro Hd sd ed
      have z := sel_map ("" : Str) (fun y => decide (y ≠ x)) V.str (rk.getD i [])
      rw [List.length_map, z] at ed
      have f6 : D6 ≠ fo := fun z => by
        rw [z, sb _ _ Fa] at hD6
        cases hD6
      have f5 : D6 ≠ D5 := fun z => nb (by rw [← z]; exact hD6)
      refine k1 rfl (.ref D6) Hd sd ⟨D6, rfl, ?_⟩
      rw [Nb.del_ne f6, Nb.del_ne f5]
      exact ed
    rintro Hb ys sb eb fb
    refine ⟨⟨D5, fk ++ [x], ys, _, _, rfl, Sa.trans sb, ⟨?_, ?_⟩, sb _ _ Fa, M2⟩, ?_⟩
    · rw [Nb.del_ne n5]
      exact eb
    · rw [← wo x]
      have f2 := f2_made (P := fun i => (rk.getD i []).filter fun y => decide (y ≠ x)) (R := fun v (r : List Str) => ∃ a, v = .ref a ∧ Nb.del Hb fo a = some (.lst (r.map V.str))) fb
      rw [List.filter_eq_self.mpr (fun _ _ => rfl), lv] at f2
      have e3 : (List.range rk.length).map (fun i => (rk.getD i []).filter fun y => decide (y ≠ x)) = Mg.without x rk := by
        have := congrArg (List.map fun r : List Str => r.filter fun y => decide (y ≠ x)) (range_getD ([] : List Str) rk)
        rw [List.map_map] at this
        exact this
      rw [e3] at f2
      exact f2
    · show (match Hb fo with | some (.lst xs) => rows.flatten.length - xs.length | _ => 0) < (match H4 fo with | some (.lst xs) => rows.flatten.length - xs.length | _ => 0)
      rw [sb _ _ Fa, eF]
      simp only [List.length_map]
      rw [List.length_append] at lf ⊢
      simp only [List.length_cons, List.length_nil] at lf ⊢
      omega
end
end K08

set_option Elab.async false
set_option linter.all false
set_option maxRecDepth 100000
set_option maxHeartbeats 4000000
namespace K08
open PySem Nb
open L2 hiding del del_ne del_same
theorem dps_rows {K : PySem.W.Frag} {H : Hp} : ∀ {as : List Addr} {rows : List (List Str)}, RowsL H as rows → DpAll K H (as.map V.ref) (rows.map fun r => PyData.tuple (r.map PyData.str))
  | [], [], _ => .nil
  | [], _ :: _, h => nomatch h.1
  | _ :: _, [], h => nomatch h.1
  | a :: as, r :: rows, h => by
    obtain ⟨o, e, _⟩ := h.2 0 a r rfl rfl
    exact .cons (.tup (.inl (.inr ⟨o, e⟩)) (dps_strs r)) (dps_rows ⟨by have := h.1; simpa using this, fun k b s e1 e2 => h.2 (k + 1) b s e1 e2⟩)
theorem fine_rows {rows : List (List Str)} (hg : ∀ r ∈ rows, GoodRow r) : Fine 2 (.list (rows.map fun r => PyData.tuple (r.map PyData.str))) := fine_list fun d hd => by
  obtain ⟨r, hr, rfl⟩ := List.mem_map.mp hd
  exact fine_row (good_words (hg r hr))
theorem nil0 {rows : List (List Str)} (h : ([] : List Addr).length = rows.length) : (rows.map fun r => PyData.tuple (r.map PyData.str)) = [] := by
  cases rows with
  | nil => rfl
  | cons r rs => cases h
theorem cons0 {a : Addr} {as : List Addr} {rows : List (List Str)} (h : (a :: as).length = rows.length) : ∃ d ds, (rows.map fun r => PyData.tuple (r.map PyData.str)) = d :: ds := by
  cases rows with
  | nil => cases h
  | cons r rs => exact ⟨_, _, rfl⟩
theorem iteB {b : Bool} {A B : Prop} (e : b = true) (h : A) : if b = true then A else B := by rw [if_pos e]; exact h
theorem iteN {b : Bool} {A B : Prop} (e : b = false) (h : B) : if b = true then A else B := by rw [e]; exact iteF h

theorem star_mergedX {C : Addr} {H : Hp} {as : List Addr} {rows : List (List Str)} {Q : VK} {E : XK} (hR : RowsL H as rows) (hg : ∀ r ∈ rows, GoodRow r) (few : rows.length ≤ 100)
    (q1 : Full rows → ∀ H' r o, Same H H' → H' r = some (.frz o (.tup ((Mg.drawn rows).map V.str))) → TupObj o → Q (.ref r) H')
    (q2 : ¬ Full rows → ∀ H' T0 r p d, Same H H' → H' T0 = some (.tup (as.map V.ref)) → StsAt H' r p → Mg.Least rows p → H' d = some (.xd [("steps", .ref r), ("tuples", .ref T0), ("name", .non)]) → E (.ref C) (some d) H') : spStar (spMergedX C) (as.map V.ref) H Q E :=
  ⟨by rw [List.length_map, hR.1]; omega, fun p np => ⟨p, rows, rfl, ⟨as, upd_same, hR.1, fun k a row e1 e2 => let ⟨o, e, _⟩ := hR.2 k a row e1 e2; .inr ⟨o, same_new np _ _ e⟩⟩, hg, few, fun full H' r o s e t => q1 full H' r o ((same_new np).trans s) e t, fun nf H' r pp d s st l e => q2 nf H' p r pp d ((same_new np).trans s) (s _ _ upd_same) st l e⟩⟩
def spByX (C : Addr) : Sp := fun vs H Q E => ∃ (l : Addr) (as : List Addr) (rows : List (List Str)), vs = [.ref l] ∧ H l = some (.lst (as.map V.ref)) ∧ RowsL H as rows ∧ (∀ row ∈ rows, GoodRow row) ∧ rows.length ≤ 5 ∧
  (Full rows → ∀ H' r o, Same H H' → H' r = some (.frz o (.tup ((Mg.drawn rows).map V.str))) → TupObj o → Q (.ref r) H') ∧
  (¬ Full rows → ∀ H' T0 r p d, Same H H' → H' T0 = some (.tup (as.map V.ref)) → StsAt H' r p → Mg.Least rows p → H' d = some (.xd [("steps", .ref r), ("tuples", .ref T0), ("name", .non)]) → E (.ref C) (some d) H')
section
variable {P : Program} {w : World} {K : PySem.W.Frag} {mg : Str → Option Value} {base : Heap} {TL : List (Addr × Str)}
abbrev s_h_merged_by : Stmt := topS 30
theorem sc_h_merged_by : FnScope ["_law_rows"] ["_law_rows"] (defScope s_h_merged_by) := ⟨rfl, rfl, rfl, by decide +kernel, rfl, by decide +kernel, by decide +kernel⟩
theorem ok_h_merged_by {f : Addr} {fd : FuncData} (F : Fun K "_law_merged_by" "_law_merged_by" s_h_merged_by f fd) (T : Txt mg) (D_merged : Dr P w K mg base (L2.CX P w) 6 "merged" (spStar (spMergedX C_Clash))) : FnOk P w K mg base (L2.CX P w) 7 f fd ["_law_rows"] (spByX C_Clash) := by
  refine F.okX sc_h_merged_by (fun vs H Q E h => ?_) (fun cdv A outer s H vs Q E hr h => ?_)
  · obtain ⟨l, as, rows, rfl, _⟩ := h
    rfl
  · obtain ⟨l, as, rows, rfl, hl, hR, hg, h5, q1, q2⟩ := h
    have tk := takes_of (X := cxOf (L2.CX P w) P w K mg base ["_law_rows"] "_law_merged_by" (defScope s_h_merged_by) f cdv A outer s H E) (E := E) rfl rfl rfl rfl
    refine ⟨_, pss_cons (ps_if (pt_cmpR op_lt (pe_callB call_len_seq (by rfl) T.len PySem.boot_len (pa_cons (pv 0) pa_nil)) pe_int (nomark _)) (pss_one (ps_ret (pe_ifExp (pt_cmpR (op_neD hr.units) (pv 0) (pe_lstS pa_nil) (nomark _)) (pe_R D_merged (hr.mono (by decide)) (by rfl) (passes_call tk fun _ _ _ _ h => h) (pa_cons (pe_ix ix_list (pv 0) pe_int (fun _ _ => rfl)) pa_nil)) (pe_R0 D_merged (hr.mono (by decide)) (by rfl) (passes_call tk fun _ _ _ _ h => h))))) pss_nil)
        (pss_cons (ps_if (pt_cmpR op_eq (pe_callB call_len_seq (by rfl) T.len PySem.boot_len (pa_cons (pv 0) pa_nil)) pe_int (nomark _)) (pss_one (ps_ret (pe_R D_merged (hr.mono (by decide)) (by rfl) (passes_call tk fun _ _ _ _ h => h) (pa_cons (pe_ix ix_list (pv 0) pe_int (fun _ _ => rfl)) (pa_cons (pe_ix ix_list (pv 0) pe_int (fun _ _ => rfl)) pa_nil))))) pss_nil)
        (pss_cons (ps_if (pt_cmpR op_eq (pe_callB call_len_seq (by rfl) T.len PySem.boot_len (pa_cons (pv 0) pa_nil)) pe_int (nomark _)) (pss_one (ps_ret (pe_R D_merged (hr.mono (by decide)) (by rfl) (passes_call tk fun _ _ _ _ h => h) (pa_cons (pe_ix ix_list (pv 0) pe_int (fun _ _ => rfl)) (pa_cons (pe_ix ix_list (pv 0) pe_int (fun _ _ => rfl)) (pa_cons (pe_ix ix_list (pv 0) pe_int (fun _ _ => rfl)) pa_nil)))))) pss_nil)
        (pss_cons (ps_if (pt_cmpR op_eq (pe_callB call_len_seq (by rfl) T.len PySem.boot_len (pa_cons (pv 0) pa_nil)) pe_int (nomark _)) (pss_one (ps_ret (pe_R D_merged (hr.mono (by decide)) (by rfl) (passes_call tk fun _ _ _ _ h => h) (pa_cons (pe_ix ix_list (pv 0) pe_int (fun _ _ => rfl)) (pa_cons (pe_ix ix_list (pv 0) pe_int (fun _ _ => rfl)) (pa_cons (pe_ix ix_list (pv 0) pe_int (fun _ _ => rfl)) (pa_cons (pe_ix ix_list (pv 0) pe_int (fun _ _ => rfl)) pa_nil))))))) pss_nil)
        (pss_one (ps_ret (pe_R D_merged (hr.mono (by decide)) (by rfl) (passes_call tk fun _ _ _ _ h => h) (pa_cons (pe_ix ix_list (pv 0) pe_int (fun _ _ => rfl)) (pa_cons (pe_ix ix_list (pv 0) pe_int (fun _ _ => rfl)) (pa_cons (pe_ix ix_list (pv 0) pe_int (fun _ _ => rfl)) (pa_cons (pe_ix ix_list (pv 0) pe_int (fun _ _ => rfl)) (pa_cons (pe_ix ix_list (pv 0) pe_int (fun _ _ => rfl)) pa_nil))))))))))), ?_⟩
    have h1 := hR.1
    rcases as with _ | ⟨a0, _ | ⟨a1, _ | ⟨a2, _ | ⟨a3, _ | ⟨a4, _ | ⟨a5, as⟩⟩⟩⟩⟩⟩
    · refine ⟨_, rfl, l, _, rfl, .inl (SqL.of hl), _, _, rfl, rfl, _, rfl, iteT ?_⟩
      exact ⟨_, rfl, by decide, fun H2 e s2 n2 e2 => ne_nil (.lst (SqL.of (s2 _ _ hl)) (dps_rows (rowsL_same s2 hR))) (fine_rows hg) (by decide) e2 ⟨_, rfl, by rw [nil0 hR.1]; exact iteF (star_mergedX (as := []) (rowsL_same s2 hR) hg (by omega) (fun full H3 r o s3 => q1 full H3 r o (s2.trans s3)) (fun nf H3 T0 r p d s3 => q2 nf H3 T0 r p d (s2.trans s3)))⟩⟩
    · refine ⟨_, rfl, l, _, rfl, .inl (SqL.of hl), _, _, rfl, rfl, _, rfl, iteT ?_⟩
      refine ⟨_, rfl, by decide, fun H2 e s2 n2 e2 => ne_nil (.lst (SqL.of (s2 _ _ hl)) (dps_rows (rowsL_same s2 hR))) (fine_rows hg) (by decide) e2 ⟨_, rfl, ?_⟩⟩
      obtain ⟨r0, rs, er⟩ := cons0 hR.1
      rw [er]
      exact iteT ⟨_, rfl, l, _, _, _, rfl, rfl, SqL.of (s2 _ _ hl), atI_nat (j := 0) rfl, star_mergedX (as := [a0]) (rowsL_same s2 hR) hg (by omega) (fun full H3 r o s3 => q1 full H3 r o (s2.trans s3)) (fun nf H3 T0 r p d s3 => q2 nf H3 T0 r p d (s2.trans s3))⟩
    · refine ⟨_, rfl, l, _, rfl, .inl (SqL.of hl), _, _, rfl, rfl, _, rfl, iteF ?_⟩
      refine ⟨_, rfl, l, _, rfl, .inl (SqL.of hl), rfl, _, rfl, ?_⟩
      refine iteB (b := decide (V.int ((2 : Nat) : Int) = V.int 2)) (decide_eq_true rfl) ?_
      exact ⟨_, rfl, l, _, _, _, rfl, rfl, SqL.of hl, atI_nat (j := 0) rfl, _, rfl, l, _, _, _, rfl, rfl, SqL.of hl, atI_nat (j := 1) rfl, star_mergedX (as := [a0, a1]) hR hg (by omega) q1 q2⟩
    · refine ⟨_, rfl, l, _, rfl, .inl (SqL.of hl), _, _, rfl, rfl, _, rfl, iteF ?_⟩
      refine ⟨_, rfl, l, _, rfl, .inl (SqL.of hl), rfl, _, rfl, ?_⟩
      refine iteN (b := decide (V.int ((3 : Nat) : Int) = V.int 2)) (decide_eq_false (by decide)) ?_
      refine ⟨_, rfl, l, _, rfl, .inl (SqL.of hl), rfl, _, rfl, ?_⟩
      refine iteB (b := decide (V.int ((3 : Nat) : Int) = V.int 3)) (decide_eq_true rfl) ?_
      exact ⟨_, rfl, l, _, _, _, rfl, rfl, SqL.of hl, atI_nat (j := 0) rfl, _, rfl, l, _, _, _, rfl, rfl, SqL.of hl, atI_nat (j := 1) rfl, _, rfl, l, _, _, _, rfl, rfl, SqL.of hl, atI_nat (j := 2) rfl, star_mergedX (as := [a0, a1, a2]) hR hg (by omega) q1 q2⟩
    · refine ⟨_, rfl, l, _, rfl, .inl (SqL.of hl), _, _, rfl, rfl, _, rfl, iteF ?_⟩
      refine ⟨_, rfl, l, _, rfl, .inl (SqL.of hl), rfl, _, rfl, ?_⟩
      refine iteN (b := decide (V.int ((4 : Nat) : Int) = V.int 2)) (decide_eq_false (by decide)) ?_
      refine ⟨_, rfl, l, _, rfl, .inl (SqL.of hl), rfl, _, rfl, ?_⟩
      refine iteN (b := decide (V.int ((4 : Nat) : Int) = V.int 3)) (decide_eq_false (by decide)) ?_
      refine ⟨_, rfl, l, _, rfl, .inl (SqL.of hl), rfl, _, rfl, ?_⟩
      refine iteB (b := decide (V.int ((4 : Nat) : Int) = V.int 4)) (decide_eq_true rfl) ?_
      exact ⟨_, rfl, l, _, _, _, rfl, rfl, SqL.of hl, atI_nat (j := 0) rfl, _, rfl, l, _, _, _, rfl, rfl, SqL.of hl, atI_nat (j := 1) rfl, _, rfl, l, _, _, _, rfl, rfl, SqL.of hl, atI_nat (j := 2) rfl, _, rfl, l, _, _, _, rfl, rfl, SqL.of hl, atI_nat (j := 3) rfl, star_mergedX (as := [a0, a1, a2, a3]) hR hg (by omega) q1 q2⟩
    · refine ⟨_, rfl, l, _, rfl, .inl (SqL.of hl), _, _, rfl, rfl, _, rfl, iteF ?_⟩
      refine ⟨_, rfl, l, _, rfl, .inl (SqL.of hl), rfl, _, rfl, ?_⟩
      refine iteN (b := decide (V.int ((5 : Nat) : Int) = V.int 2)) (decide_eq_false (by decide)) ?_
      refine ⟨_, rfl, l, _, rfl, .inl (SqL.of hl), rfl, _, rfl, ?_⟩
      refine iteN (b := decide (V.int ((5 : Nat) : Int) = V.int 3)) (decide_eq_false (by decide)) ?_
      refine ⟨_, rfl, l, _, rfl, .inl (SqL.of hl), rfl, _, rfl, ?_⟩
      refine iteN (b := decide (V.int ((5 : Nat) : Int) = V.int 4)) (decide_eq_false (by decide)) ?_
      exact ⟨_, rfl, l, _, _, _, rfl, rfl, SqL.of hl, atI_nat (j := 0) rfl, _, rfl, l, _, _, _, rfl, rfl, SqL.of hl, atI_nat (j := 1) rfl, _, rfl, l, _, _, _, rfl, rfl, SqL.of hl, atI_nat (j := 2) rfl, _, rfl, l, _, _, _, rfl, rfl, SqL.of hl, atI_nat (j := 3) rfl, _, rfl, l, _, _, _, rfl, rfl, SqL.of hl, atI_nat (j := 4) rfl, star_mergedX (as := [a0, a1, a2, a3, a4]) hR hg (by omega) q1 q2⟩
    · simp only [List.length_cons] at h1
      omega
end
end K08

set_option Elab.async false
set_option linter.all false
set_option maxRecDepth 100000
set_option maxHeartbeats 4000000
namespace K08
open PySem Nb
open L2 hiding del del_ne del_same
open LamX
def Rz (E : XK) (H : Hp) (C : Addr) (fs : List (Str × V)) : Prop := ∀ H' d, Same H H' → H' d = some (.xd fs) → E (.ref C) (some d) H'
theorem rz_same {E : XK} {H H' : Hp} {C : Addr} {fs : List (Str × V)} (s : Same H H') (h : Rz E H C fs) : Rz E H' C fs := fun G d s2 e => h G d (s.trans s2) e
theorem rz_use {E : XK} {H H1 : Hp} {C d : Addr} {fs : List (Str × V)} (h : Rz E H C fs) (s : Same H H1) (n : H1 d = none) : E (.ref C) (some d) (upd H1 d (.xd fs)) := h _ d (s.trans (same_new n)) upd_same
theorem diff_same {K : PySem.W.Frag} {H H' : Hp} (s : Same H H') {x : V} (h : Thing K H x) : diffOf H' x = diffOf H x := by
  unfold diffOf
  rw [thing_tup s h]
/-- the first that is no tuple of different names -/
def FirstBad (H : Hp) (xs : List V) (i : Nat) : Prop := (∃ x, xs[i]? = some x ∧ diffOf H x = false) ∧ ∀ j y, j < i → xs[j]? = some y → diffOf H y = true
def BadSp (CB : Addr) (H : Hp) (E : XK) (xs : List V) (ok : Prop) : Prop := (∀ i, FirstBad H xs i → Rz E H CB [("index", .int (i : Nat))]) ∧ ((∀ x ∈ xs, diffOf H x = true) → ok)
def spCheckX (K : PySem.W.Frag) (CB : Addr) : Sp := fun vs H Q E => ∃ (r : Addr) (xs : List V), vs = [.ref r] ∧ Rd H r (.tup xs) ∧ xs.length ≤ 100 ∧ (∀ x ∈ xs, Thing K H x) ∧ BadSp CB H E xs (∀ H', Same H H' → Q .non H')
theorem bad_same {K : PySem.W.Frag} {CB : Addr} {H H' : Hp} {E : XK} {xs : List V} {ok ok' : Prop} (s : Same H H') (th : ∀ x ∈ xs, Thing K H x) (h : BadSp CB H E xs ok) (k : ok → ok') : BadSp CB H' E xs ok' :=
  ⟨fun i ⟨⟨x, e, d⟩, b⟩ => rz_same s (h.1 i ⟨⟨x, e, (diff_same s (th x (List.mem_of_getElem? e))).symm.trans d⟩, fun j y l ey => (diff_same s (th y (List.mem_of_getElem? ey))).symm.trans (b j y l ey)⟩), fun g => k (h.2 fun x hx => (diff_same s (th x hx)).symm.trans (g x hx))⟩
section
variable {P : Program} {w : World} {K : PySem.W.Frag} {mg : Str → Option Value} {base : Heap} {TL : List (Addr × Str)}
abbrev s_check_tuples_x : Stmt := topS 18
theorem sc_check_tuples_x : FnScope ["tuples", "index", "row"] ["tuples"] (defScope s_check_tuples_x) := ⟨rfl, rfl, rfl, by decide +kernel, rfl, by decide +kernel, by decide +kernel⟩
theorem ok_check_tuples_x {f : Addr} {fd : FuncData} (F : Fun K "_check_tuples" "_check_tuples" s_check_tuples_x f fd) {C_BadTuple : Addr} (T : Txt mg) (D_are_different_names : Dn P w K mg base CX0 3 "are_different_names" ["thing"] (spOf K diffOf)) (E_BadTuple : Er P w K mg base "BadTuple" C_BadTuple ["index"]) : FnOk P w K mg base (L2.CX P w) 4 f fd ["tuples"] (spCheckX K C_BadTuple) := by
  refine F.okX sc_check_tuples_x (fun vs H Q E h => ?_) (fun cdv A outer s H vs Q E hr h => ?_)
  · obtain ⟨r, xs, rfl, _⟩ := h
    rfl
  · obtain ⟨r, xs, rfl, h1, hl, th, qb, qg⟩ := h
    have tk := takes_of (X := cxOf (L2.CX P w) P w K mg base ["tuples", "index", "row"] "_check_tuples" (defScope s_check_tuples_x) f cdv A outer s H E) (E := E) rfl rfl rfl rfl
    refine ⟨_, pss_one (ps_for (passes_of rfl) rfl (pi_enumT (by rfl) T.enumerate (pa_cons (pv 0) pa_nil)) (pg_tup rfl (pgs_cons (pg_name (i := 1) sc_check_tuples_x.nd rfl (Or.inl rfl)) (pgs_cons (pg_name (i := 2) sc_check_tuples_x.nd rfl (Or.inl rfl)) pgs_nil))) (pss_one (ps_if (pt_not (pt_val (pe_D D_are_different_names (hr.mono (by decide)) (by rfl) pass0 (pa_cons (pv 2) pa_nil)))) (pss_one (ps_raise rfl tk (pmk_err E_BadTuple (hr.mono (by decide)) (by rfl) (pa_cons (pv 1) pa_nil)))) pss_nil))), ?_⟩
    refine ⟨_, rfl, r, _, rfl, .inl h1, for_it (walk_enumT (K := K) (a := r) (xs := xs)) (fun i σ H' => ∃ v1 v2, σ = [some (.ref r), v1, v2] ∧ Same H H' ∧ ∀ j y, j < i → xs[j]? = some y → diffOf H y = true)
      ⟨_, _, rfl, Same.refl _, fun j y l => absurd l (Nat.not_lt_zero _)⟩ (fun i σ H' _ ⟨_, _, _, s1, _⟩ => (.inl (rd_same s1 h1))) ?_ ?_⟩
    · rintro i x σ H1 H2 hi ⟨v1, v2, rfl, s1, ok⟩ ⟨t, x1, x2, rfl, new, rfl, e1, e2⟩
      have ex1 : x1 = .int (i : Nat) := (Option.some.inj e1).symm
      subst ex1
      have e2 : xs[i]? = some x2 := e2
      have tx := th x2 (List.mem_of_getElem? e2)
      have s2 : Same H (upd H1 t (.tup [.int (i : Nat), x2])) := s1.trans (same_new new)
      refine ⟨t, [.int (i : Nat), x2], rfl, .inl (.inl upd_same), rfl, .int (i : Nat), [x2], rfl, x2, [], rfl, rfl, ?_⟩
      refine ⟨_, rfl, x2, rfl, thing_same s2 tx, fun H3 s3 => ⟨_, rfl, ?_⟩⟩
      rw [diff_same s2 tx]
      cases hd : diffOf H x2 with
      | false =>
        refine iteT0 rfl ?_
        exact ⟨_, rfl, rfl, fun d nd => rz_use (qb i ⟨⟨x2, e2, hd⟩, ok⟩) (s2.trans s3) nd⟩
      | true =>
        refine iteF0 rfl ⟨_, _, rfl, s2.trans s3, fun j y l ey => ?_⟩
        rcases Nat.lt_succ_iff_lt_or_eq.mp l with l | rfl
        · exact ok j y l ey
        · rw [e2] at ey
          cases ey
          exact hd
    · rintro σ H' ⟨v1, v2, rfl, s1, ok⟩
      refine qg (fun x hx => ?_) H' s1
      obtain ⟨j, lj, ej⟩ := List.mem_iff_getElem.mp hx
      exact ok j x lj (List.getElem?_eq_some_iff.mpr ⟨lj, ej⟩)
end
end K08

set_option Elab.async false
set_option linter.all false
set_option maxRecDepth 100000
set_option maxHeartbeats 4000000
namespace K08
open PySem Nb
open L2 hiding del del_ne del_same
open LamX
theorem fb_same {K : PySem.W.Frag} {H H' : Hp} {xs : List V} {i : Nat} (s : Same H H') (th : ∀ x ∈ xs, Thing K H x) (h : FirstBad H xs i) : FirstBad H' xs i :=
  let ⟨⟨x, e, d⟩, b⟩ := h; ⟨⟨x, e, (diff_same s (th x (List.mem_of_getElem? e))).trans d⟩, fun j y l ey => (diff_same s (th y (List.mem_of_getElem? ey))).trans (b j y l ey)⟩
theorem fb_uniq {H : Hp} {xs : List V} {i j : Nat} (h : FirstBad H xs i) (k : FirstBad H xs j) : i = j := by
  obtain ⟨⟨x, e, d⟩, b⟩ := h
  obtain ⟨⟨y, f, g⟩, c⟩ := k
  rcases Nat.lt_trichotomy i j with l | l | l
  · rw [c i x l e] at d; cases d
  · exact l
  · rw [b j y l f] at g; cases g
theorem fb_bad {H : Hp} {xs : List V} {i : Nat} (h : FirstBad H xs i) : ¬ ∀ x ∈ xs, diffOf H x = true := fun g => by
  obtain ⟨⟨x, e, d⟩, _⟩ := h
  rw [g x (List.mem_of_getElem? e)] at d
  cases d
def spBadM (K : PySem.W.Frag) (CB : Addr) : Sp := fun vs H Q E => ∃ (T0 : Addr) (xs : List V) (i : Nat), vs = [.ref T0] ∧ H T0 = some (.tup xs) ∧ xs.length ≤ 100 ∧ (∀ x ∈ xs, Thing K H x) ∧ FirstBad H xs i ∧ Rz E H CB [("index", .int (i : Nat))]
def spByB (K : PySem.W.Frag) (CB : Addr) : Sp := fun vs H Q E => ∃ (l : Addr) (xs : List V) (i : Nat), vs = [.ref l] ∧ H l = some (.lst xs) ∧ xs.length ≤ 5 ∧ (∀ x ∈ xs, Thing K H x) ∧ FirstBad H xs i ∧ Rz E H CB [("index", .int (i : Nat))]
theorem star_bad {K : PySem.W.Frag} {CB : Addr} {H H' : Hp} {xs : List V} {i : Nat} {Q : VK} {E : XK} (s : Same H H') (hl : xs.length ≤ 5) (th : ∀ x ∈ xs, Thing K H x) (fb : FirstBad H xs i) (rz : Rz E H CB [("index", .int (i : Nat))]) : spStar (spBadM K CB) xs H' Q E :=
  ⟨by omega, fun p np => ⟨p, xs, i, rfl, upd_same, by omega, fun x hx => thing_same (s.trans (same_new np)) (th x hx), fb_same (s.trans (same_new np)) th fb, rz_same (s.trans (same_new np)) rz⟩⟩
section
variable {P : Program} {w : World} {K : PySem.W.Frag} {mg : Str → Option Value} {base : Heap} {TL : List (Addr × Str)}
abbrev s_merged_b : Stmt := topS 16
theorem sc_merged_b : FnScope ["tuples", "merge", "names"] ["tuples"] (defScope s_merged_b) := ⟨rfl, rfl, rfl, by decide +kernel, rfl, by decide +kernel, by decide +kernel⟩
theorem ok_merged_b {f : Addr} {fd : FuncData} (F : Fun K "merged" "merged" s_merged_b f fd) {C_BadTuple : Addr} (T : Txt mg) (D_check_tuples_x : Dn P w K mg base (L2.CX P w) 4 "_check_tuples" ["tuples"] (spCheckX K C_BadTuple)) : FnR P w K mg base (L2.CX P w) 5 f (spStar (spBadM K C_BadTuple)) := by
  refine okStarX F sc_merged_b (fun _ _ _ _ _ _ => rfl) (fun _ _ _ _ _ _ _ _ => rfl) (fun cdv A outer s H vs Q E hr h => ?_)
  obtain ⟨T0, xs, i, rfl, h1, hl, th, fb, rz⟩ := h
  have tk := takes_of (X := cxOf (L2.CX P w) P w K mg base ["tuples", "merge", "names"] "merged" (defScope s_merged_b) f cdv A outer s H E) (E := E) rfl rfl rfl rfl
  refine ⟨_, pss_cons (ps_expr (pe_D D_check_tuples_x (hr.mono (by decide)) (by rfl) (passes_call tk fun _ _ _ _ h => h) (pa_cons (pv 0) pa_nil)))
        (pss_cons ps_never
        (pss_cons ps_never
        (pss_cons ps_never
        (pss_one ps_never)))), ?_⟩
  exact ⟨_, rfl, T0, xs, rfl, .inl h1, hl, th, fun j fj => by rw [fb_uniq fj fb]; exact rz, fun g => absurd g (fb_bad fb)⟩
abbrev s_h_merged_by_b : Stmt := topS 30
theorem sc_h_merged_by_b : FnScope ["_law_rows"] ["_law_rows"] (defScope s_h_merged_by_b) := ⟨rfl, rfl, rfl, by decide +kernel, rfl, by decide +kernel, by decide +kernel⟩
theorem ok_h_merged_by_b {f : Addr} {fd : FuncData} (F : Fun K "_law_merged_by" "_law_merged_by" s_h_merged_by_b f fd) {C_BadTuple : Addr} (T : Txt mg) (D_merged_b : Dr P w K mg base (L2.CX P w) 5 "merged" (spStar (spBadM K C_BadTuple))) : FnOk P w K mg base (L2.CX P w) 6 f fd ["_law_rows"] (spByB K C_BadTuple) := by
  refine F.okX sc_h_merged_by_b (fun vs H Q E h => ?_) (fun cdv A outer s H vs Q E hr h => ?_)
  · obtain ⟨l, xs, i, rfl, _⟩ := h
    rfl
  · obtain ⟨l, xs, i, rfl, hl, hx, th, fb, rz⟩ := h
    have tk := takes_of (X := cxOf (L2.CX P w) P w K mg base ["_law_rows"] "_law_merged_by" (defScope s_h_merged_by_b) f cdv A outer s H E) (E := E) rfl rfl rfl rfl
    refine ⟨_, pss_cons (ps_if (pt_cmpR op_lt (pe_callB call_len_seq (by rfl) T.len PySem.boot_len (pa_cons (pv 0) pa_nil)) pe_int (nomark _)) (pss_one (ps_ret (pe_ifExp (pt_cmpR (op_neL0 hr.units) (pv 0) (pe_lstS pa_nil) (nomark _)) (pe_R D_merged_b (hr.mono (by decide)) (by rfl) (passes_call tk fun _ _ _ _ h => h) (pa_cons (pe_ix ix_list (pv 0) pe_int (fun _ _ => rfl)) pa_nil)) (pe_R0 D_merged_b (hr.mono (by decide)) (by rfl) (passes_call tk fun _ _ _ _ h => h))))) pss_nil)
        (pss_cons (ps_if (pt_cmpR op_eq (pe_callB call_len_seq (by rfl) T.len PySem.boot_len (pa_cons (pv 0) pa_nil)) pe_int (nomark _)) (pss_one (ps_ret (pe_R D_merged_b (hr.mono (by decide)) (by rfl) (passes_call tk fun _ _ _ _ h => h) (pa_cons (pe_ix ix_list (pv 0) pe_int (fun _ _ => rfl)) (pa_cons (pe_ix ix_list (pv 0) pe_int (fun _ _ => rfl)) pa_nil))))) pss_nil)
        (pss_cons (ps_if (pt_cmpR op_eq (pe_callB call_len_seq (by rfl) T.len PySem.boot_len (pa_cons (pv 0) pa_nil)) pe_int (nomark _)) (pss_one (ps_ret (pe_R D_merged_b (hr.mono (by decide)) (by rfl) (passes_call tk fun _ _ _ _ h => h) (pa_cons (pe_ix ix_list (pv 0) pe_int (fun _ _ => rfl)) (pa_cons (pe_ix ix_list (pv 0) pe_int (fun _ _ => rfl)) (pa_cons (pe_ix ix_list (pv 0) pe_int (fun _ _ => rfl)) pa_nil)))))) pss_nil)
        (pss_cons (ps_if (pt_cmpR op_eq (pe_callB call_len_seq (by rfl) T.len PySem.boot_len (pa_cons (pv 0) pa_nil)) pe_int (nomark _)) (pss_one (ps_ret (pe_R D_merged_b (hr.mono (by decide)) (by rfl) (passes_call tk fun _ _ _ _ h => h) (pa_cons (pe_ix ix_list (pv 0) pe_int (fun _ _ => rfl)) (pa_cons (pe_ix ix_list (pv 0) pe_int (fun _ _ => rfl)) (pa_cons (pe_ix ix_list (pv 0) pe_int (fun _ _ => rfl)) (pa_cons (pe_ix ix_list (pv 0) pe_int (fun _ _ => rfl)) pa_nil))))))) pss_nil)
        (pss_one (ps_ret (pe_R D_merged_b (hr.mono (by decide)) (by rfl) (passes_call tk fun _ _ _ _ h => h) (pa_cons (pe_ix ix_list (pv 0) pe_int (fun _ _ => rfl)) (pa_cons (pe_ix ix_list (pv 0) pe_int (fun _ _ => rfl)) (pa_cons (pe_ix ix_list (pv 0) pe_int (fun _ _ => rfl)) (pa_cons (pe_ix ix_list (pv 0) pe_int (fun _ _ => rfl)) (pa_cons (pe_ix ix_list (pv 0) pe_int (fun _ _ => rfl)) pa_nil))))))))))), ?_⟩
    match xs, hl, hx, th, fb with
    | [], _, _, _, fb => exact absurd (fun x hx => nomatch hx) (fb_bad fb)
    | [x0], hl, hx, th, fb =>
      refine ⟨_, rfl, l, _, rfl, .inl (SqL.of hl), _, _, rfl, rfl, _, rfl, iteT ?_⟩
      exact ⟨_, rfl, by decide, fun H2 e s2 n2 e2 => ⟨l, e, [x0], rfl, rfl, SqL.of (s2 _ _ hl), SqL.of e2, (by show 0 < 1; decide), _, rfl, iteT ⟨_, rfl, l, _, _, _, rfl, rfl, SqL.of (s2 _ _ hl), atI_nat (j := 0) rfl, star_bad s2 hx th fb rz⟩⟩⟩
    | [x0, x1], hl, hx, th, fb =>
      refine ⟨_, rfl, l, _, rfl, .inl (SqL.of hl), _, _, rfl, rfl, _, rfl, iteF ?_⟩
      refine ⟨_, rfl, l, _, rfl, .inl (SqL.of hl), rfl, _, rfl, ?_⟩
      refine iteB (b := decide (V.int ((2 : Nat) : Int) = V.int 2)) (decide_eq_true rfl) ?_
      exact ⟨_, rfl, l, _, _, _, rfl, rfl, SqL.of hl, atI_nat (j := 0) rfl, _, rfl, l, _, _, _, rfl, rfl, SqL.of hl, atI_nat (j := 1) rfl, star_bad (Same.refl _) hx th fb rz⟩
    | [x0, x1, x2], hl, hx, th, fb =>
      refine ⟨_, rfl, l, _, rfl, .inl (SqL.of hl), _, _, rfl, rfl, _, rfl, iteF ?_⟩
      refine ⟨_, rfl, l, _, rfl, .inl (SqL.of hl), rfl, _, rfl, ?_⟩
      refine iteN (b := decide (V.int ((3 : Nat) : Int) = V.int 2)) (decide_eq_false (by decide)) ?_
      refine ⟨_, rfl, l, _, rfl, .inl (SqL.of hl), rfl, _, rfl, ?_⟩
      refine iteB (b := decide (V.int ((3 : Nat) : Int) = V.int 3)) (decide_eq_true rfl) ?_
      exact ⟨_, rfl, l, _, _, _, rfl, rfl, SqL.of hl, atI_nat (j := 0) rfl, _, rfl, l, _, _, _, rfl, rfl, SqL.of hl, atI_nat (j := 1) rfl, _, rfl, l, _, _, _, rfl, rfl, SqL.of hl, atI_nat (j := 2) rfl, star_bad (Same.refl _) hx th fb rz⟩
    | [x0, x1, x2, x3], hl, hx, th, fb =>
      refine ⟨_, rfl, l, _, rfl, .inl (SqL.of hl), _, _, rfl, rfl, _, rfl, iteF ?_⟩
      refine ⟨_, rfl, l, _, rfl, .inl (SqL.of hl), rfl, _, rfl, ?_⟩
      refine iteN (b := decide (V.int ((4 : Nat) : Int) = V.int 2)) (decide_eq_false (by decide)) ?_
      refine ⟨_, rfl, l, _, rfl, .inl (SqL.of hl), rfl, _, rfl, ?_⟩
      refine iteN (b := decide (V.int ((4 : Nat) : Int) = V.int 3)) (decide_eq_false (by decide)) ?_
      refine ⟨_, rfl, l, _, rfl, .inl (SqL.of hl), rfl, _, rfl, ?_⟩
      refine iteB (b := decide (V.int ((4 : Nat) : Int) = V.int 4)) (decide_eq_true rfl) ?_
      exact ⟨_, rfl, l, _, _, _, rfl, rfl, SqL.of hl, atI_nat (j := 0) rfl, _, rfl, l, _, _, _, rfl, rfl, SqL.of hl, atI_nat (j := 1) rfl, _, rfl, l, _, _, _, rfl, rfl, SqL.of hl, atI_nat (j := 2) rfl, _, rfl, l, _, _, _, rfl, rfl, SqL.of hl, atI_nat (j := 3) rfl, star_bad (Same.refl _) hx th fb rz⟩
    | [x0, x1, x2, x3, x4], hl, hx, th, fb =>
      refine ⟨_, rfl, l, _, rfl, .inl (SqL.of hl), _, _, rfl, rfl, _, rfl, iteF ?_⟩
      refine ⟨_, rfl, l, _, rfl, .inl (SqL.of hl), rfl, _, rfl, ?_⟩
      refine iteN (b := decide (V.int ((5 : Nat) : Int) = V.int 2)) (decide_eq_false (by decide)) ?_
      refine ⟨_, rfl, l, _, rfl, .inl (SqL.of hl), rfl, _, rfl, ?_⟩
      refine iteN (b := decide (V.int ((5 : Nat) : Int) = V.int 3)) (decide_eq_false (by decide)) ?_
      refine ⟨_, rfl, l, _, rfl, .inl (SqL.of hl), rfl, _, rfl, ?_⟩
      refine iteN (b := decide (V.int ((5 : Nat) : Int) = V.int 4)) (decide_eq_false (by decide)) ?_
      exact ⟨_, rfl, l, _, _, _, rfl, rfl, SqL.of hl, atI_nat (j := 0) rfl, _, rfl, l, _, _, _, rfl, rfl, SqL.of hl, atI_nat (j := 1) rfl, _, rfl, l, _, _, _, rfl, rfl, SqL.of hl, atI_nat (j := 2) rfl, _, rfl, l, _, _, _, rfl, rfl, SqL.of hl, atI_nat (j := 3) rfl, _, rfl, l, _, _, _, rfl, rfl, SqL.of hl, atI_nat (j := 4) rfl, star_bad (Same.refl _) hx th fb rz⟩
    | _ :: _ :: _ :: _ :: _ :: _ :: _, _, hx, _, _ => exact absurd hx (by simp only [List.length_cons]; omega)
end
end K08

set_option Elab.async false
set_option linter.all false
set_option maxRecDepth 100000
set_option maxHeartbeats 4000000
namespace K08
open PySem Nb
open L2 hiding del del_ne del_same
open LamX
def spIsC (K : PySem.W.Frag) (CB : Addr) : Sp := fun vs H Q E => ∃ (x v : V), vs = [x, v] ∧ ((∃ T, TyX K H x (.type T) ∧ kitB T "tuple" = some false ∧ Rz E H CB [("index", .non)]) ∨
  ∃ (r : Addr) (xs : List V), x = .ref r ∧ Rd H r (.tup xs) ∧ xs.length ≤ 100 ∧ (∀ y ∈ xs, Thing K H y) ∧ BadSp CB H E xs ((v = .non ∨ ∃ a, v = .ref a ∧ Rd H a (.tup [])) ∧ ∀ H', Same H H' → Q (.bl false) H'))
section
variable {P : Program} {w : World} {K : PySem.W.Frag} {mg : Str → Option Value} {base : Heap} {TL : List (Addr × Str)}
abbrev s_is_clash : Stmt := topS 17
theorem sc_is_clash : FnScope ["tuples", "thing", "spots", "row", "at", "name", "step"] ["tuples", "thing"] (defScope s_is_clash) := ⟨rfl, rfl, rfl, by decide +kernel, rfl, by decide +kernel, by decide +kernel⟩
def sx_is_clash_0 : Scope := { kind := .function, names := [(".0", .local), ("at", .local), ("name", .local)], isGenerator := false, isCoroutine := false, more := [] }
def sx_is_clash_1 : Scope := { kind := .function, names := [(".0", .local), ("row", .local), ("enumerate", .globalImplicit)], isGenerator := false, isCoroutine := false, more := [] }
def sx_is_clash_2 : Scope := { kind := .function, names := [(".0", .local), ("step", .local), ("_is_step", .globalImplicit), ("spots", .cell)], isGenerator := false, isCoroutine := false, more := [] }
def sx_is_clash_3 : Scope := { kind := .function, names := [(".0", .local), ("at", .local), ("thing", .cell)], isGenerator := false, isCoroutine := false, more := [] }
theorem ok_is_clash {f : Addr} {fd : FuncData} (F : Fun K "is_clash" "is_clash" s_is_clash f fd) {C_BadTuple : Addr} (T : Txt mg) (D_check_tuples_x : Dn P w K mg base (L2.CX P w) 4 "_check_tuples" ["tuples"] (spCheckX K C_BadTuple)) (E_BadTuple : Er P w K mg base "BadTuple" C_BadTuple ["index"]) {t_FEWEST_STEPS : Tok} (m_FEWEST_STEPS : mg "_FEWEST_STEPS" = some (.int 2 t_FEWEST_STEPS)) : FnOk P w K mg base (L2.CX P w) 5 f fd ["tuples", "thing"] (spIsC K C_BadTuple) := by
  refine F.okX sc_is_clash (fun vs H Q E h => ?_) (fun cdv A outer s H vs Q E hr h => ?_)
  · obtain ⟨x, v, rfl, _⟩ := h
    rfl
  · obtain ⟨x, v, rfl, h⟩ := h
    have tk := takes_of (X := cxOf (L2.CX P w) P w K mg base ["tuples", "thing", "spots", "row", "at", "name", "step"] "is_clash" (defScope s_is_clash) f cdv A outer s H E) (E := E) rfl rfl rfl rfl
    refine ⟨_, pss_cons (ps_if (pt_not (pt_val (pe_callB call_isi (by rfl) T.isinstance (by decide +kernel) (pa_cons (pv 0) (pa_cons (pe_bltn (v := .ty "tuple") (by rfl) T.tuple (by decide +kernel) rfl) pa_nil))))) (pss_one (ps_raise rfl tk (pmk_err E_BadTuple (hr.mono (by decide)) (by rfl) (pa_cons pe_non pa_nil)))) pss_nil)
        (pss_cons (ps_expr (pe_D D_check_tuples_x (hr.mono (by decide)) (by rfl) (passes_call tk fun _ _ _ _ h => h) (pa_cons (pv 0) pa_nil)))
        (pss_cons (ps_if (PW.pt (pw_or (pt_not (pt_val (pe_callB call_isi (by rfl) T.isinstance (by decide +kernel) (pa_cons (pv 1) (pa_cons (pe_bltn (v := .ty "tuple") (by rfl) T.tuple (by decide +kernel) rfl) pa_nil))))) (pw_or1 (pt_cmpR op_lt (pe_callB call_len_seq (by rfl) T.len PySem.boot_len (pa_cons (pv 1) pa_nil)) (pe_glob (v := .int 2) (by rfl) m_FEWEST_STEPS ⟨_, rfl⟩) (nomark _))))) (pss_one (ps_ret pe_bl)) pss_nil)
        (pss_cons ps_never
        (pss_cons ps_never
        (pss_one ps_never))))), ?_⟩
    rcases h with ⟨T, ty, kt, rz⟩ | ⟨r, xs, rfl, hr, hl, th, qb, qg⟩
    · exact ⟨_, rfl, _, _, .type T, _, false, rfl, .ty _, ty, kit_ty kt, _, rfl, iteT0 rfl ⟨rfl, fun d nd => rz_use rz (Same.refl _) nd⟩⟩
    refine ⟨_, rfl, _, _, .type "tuple", _, true, rfl, .ty _, rd_ty hr, kit_ty (by decide +kernel), _, rfl, iteF0 rfl ?_⟩
    refine ⟨_, rfl, r, xs, rfl, hr, hl, th, qb, fun g H1 s1 => ?_⟩
    obtain ⟨hv, q⟩ := qg g
    rcases hv with rfl | ⟨a, rfl, ha⟩
    · exact ⟨_, rfl, _, _, .type "NoneType", _, false, rfl, .ty _, .base .non, kit_ty (by decide +kernel), _, rfl, iteT0 rfl (iteT0 rfl (q H1 s1))⟩
    · exact ⟨_, rfl, _, _, .type "tuple", _, true, rfl, .ty _, rd_ty (rd_same s1 ha), kit_ty (by decide +kernel), _, rfl, iteF0 rfl ⟨_, rfl, a, [], rfl, .inr (.inl (rd_same s1 ha)), _, _, rfl, rfl, _, rfl, iteT0 rfl (q H1 s1)⟩⟩
end
end K08

set_option Elab.async false
set_option linter.all false
set_option maxRecDepth 100000
set_option maxHeartbeats 4000000
namespace K08
open PySem Nb
open L2 hiding del del_ne del_same
open LamX
/-- what the law tells of an action: a list with an index, "clash", None -/
def Tfo (CC CB : Addr) (H : Hp) (cls : Value) (d : Option Addr) (Q : VK) : Prop := ∃ (dd : Addr) (fs : List (Str × V)), d = some dd ∧ H dd = some (.xd fs) ∧
  ((cls = .ref CC ∧ ∀ H2, Same H H2 → Q (.str "clash") H2) ∨ (cls = .ref CB ∧ ∃ v, fs.lookup ("index" : Str) = some v ∧ ∀ H2 t, Same H H2 → H2 t = some (.lst [v]) → Q (.ref t) H2))
def TTtf (CC CB : Addr) : (XK → Hp → VK → Prop) → Hp → VK → Prop := fun tl H Q => ∀ (R : VK) (E : XK), (∀ v H1, (∀ H2, Same H1 H2 → Q .non H2) → R v H1) → (∀ cls d H1, Tfo CC CB H1 cls d Q → E cls d H1) → tl E H R
section
variable {P : Program} {w : World} {K : PySem.W.Frag} {mg : Str → Option Value} {base : Heap} {TL : List (Addr × Str)}
abbrev s_h_tuple_fault : Stmt := topS 31
theorem sc_h_tuple_fault : FnScope ["_law_action", "_law_caught", "error"] ["_law_action"] (defScope s_h_tuple_fault) := ⟨rfl, rfl, rfl, by decide +kernel, rfl, by decide +kernel, by decide +kernel⟩
theorem gv_h_tuple_fault {g : Addr} {fd : FuncData} (F : Fun K "_law_tuple_fault" "_law_tuple_fault" s_h_tuple_fault g fd) {C_BadTuple : Addr} {C_Clash : Addr} {C_WorldError : Addr} (T : Txt mg) (E_BadTuple : Er P w K mg base "BadTuple" C_BadTuple ["index"]) (E_Clash : Er P w K mg base "Clash" C_Clash ["name", "tuples", "steps"]) (g_WorldError : mg "WorldError" = some (.ref C_WorldError)) (kt : PySem.W.kitOne K (.ref C_Clash) (.ref C_Clash) = some true) (kf : PySem.W.kitOne K (.ref C_BadTuple) (.ref C_Clash) = some false) (kb : PySem.W.kitOne K (.ref C_BadTuple) (.ref C_BadTuple) = some true) (mt : ∀ c ∈ [C_Clash, C_BadTuple], PySem.W.exmAny K (.ref c) [.ref C_WorldError, .ref C_Clash] = some true) (hm : mg "_law_tuple_fault" = some (.ref g)) (hb : L2.Binds K fd ["_law_action"] []) : Gv P w K mg base "_law_tuple_fault" (TTtf C_Clash C_BadTuple) := by
  refine gv_mk F hm sc_h_tuple_fault rfl (.inl rfl) hb (fun cdv A outer s H Q f c' q tl hr act hc h => ?_)
  refine ⟨_, pss_cons (ps_set (i := 1) sc_h_tuple_fault.nd rfl (Or.inl rfl) pe_non)
        (pss_cons (ps_try_kept2 (i := 2) rfl rfl rfl sc_h_tuple_fault.nd rfl rfl ⟨by rfl, rfl, .inl g_WorldError⟩ ⟨by rfl, rfl, .inl E_Clash.g⟩ (fun W pn xe tk _ => (pss_one (ps_expr (pe_act' act tk)))) (fun a oe cls d pn hz hf => (pss_one (ps_set (i := 1) sc_h_tuple_fault.nd rfl (Or.inl rfl) (pv 2)))))
        (pss_cons (ps_if (pt_cmpR op_isN (pv 1) pe_non (nomark _)) (pss_one (ps_ret pe_non)) pss_nil)
        (pss_cons (ps_if (pt_val (pe_callB call_isK (by rfl) T.isinstance (by decide +kernel) (pa_cons (pv 1) (pa_cons (pe_glob (v := .ref C_Clash) (by rfl) E_Clash.g rfl) pa_nil)))) (pss_one (ps_ret pe_str)) pss_nil)
        (pss_one (ps_ret (pe_ifExp (pt_val (pe_callB call_isK (by rfl) T.isinstance (by decide +kernel) (pa_cons (pv 1) (pa_cons (pe_glob (v := .ref C_BadTuple) (by rfl) E_BadTuple.g rfl) pa_nil)))) (pe_lstS (pa_cons (pe_kf (pv 1)) pa_nil)) pe_str)))))), ?_⟩
  refine ⟨fun cls d H1 => Tfo C_Clash C_BadTuple H1 cls d Q, fun cls d σ' H' hE len => ?_, rfl, hc, h _ _ (fun v H1 z => ?_) fun cls d H1 z => z⟩
  · obtain ⟨dd, fs, rfl, ex, cs⟩ := hE
    obtain ⟨x0, x1, x2, rfl⟩ : ∃ x0 x1 x2, σ' = [x0, x1, x2] := by
      match σ', len with
      | [x0, x1, x2], _ => exact ⟨x0, x1, x2, rfl⟩
    have kk : ∀ {C : Addr} {H1 : Hp} {a : Addr}, Same H' H1 → H1 a = some (Ke (.ref C) (some dd) a) → KeptAt H1 a C dd fs := fun s e => ⟨e, s _ _ ex⟩
    rcases cs with ⟨rfl, q⟩ | ⟨rfl, v, ev, q⟩
    · refine ⟨mt _ (by simp), fun a na => ?_⟩
      have sK : Same H' (upd H' a (Ke (.ref C_Clash) (some dd) a)) := same_new na
      have KA := kk sK upd_same
      refine ⟨_, rfl, ?_⟩
      refine ⟨_, rfl, rfl, _, rfl, iteF0 (decide_eq_false fun z => nomatch z) ?_⟩
      exact ⟨_, rfl, a, C_Clash, dd, fs, .ref C_Clash, .ref C_Clash, _, rfl, E_Clash.T.ex, KA, (fun u h => h), kt, _, rfl, iteT0 rfl (q _ sK)⟩
    · refine ⟨mt _ (by simp), fun a na => ?_⟩
      have sK : Same H' (upd H' a (Ke (.ref C_BadTuple) (some dd) a)) := same_new na
      have KA := kk sK upd_same
      refine ⟨_, rfl, ?_⟩
      refine ⟨_, rfl, rfl, _, rfl, iteF0 (decide_eq_false fun z => nomatch z) ?_⟩
      refine ⟨_, rfl, a, C_BadTuple, dd, fs, .ref C_Clash, .ref C_Clash, _, rfl, E_BadTuple.T.ex, KA, (fun u h => h), kf, _, rfl, iteF0 rfl ?_⟩
      refine ⟨_, rfl, a, C_BadTuple, dd, fs, .ref C_BadTuple, .ref C_BadTuple, _, rfl, E_BadTuple.T.ex, KA, (fun u h => h), kb, _, rfl, iteT0 rfl ?_⟩
      exact ⟨_, rfl, a, C_BadTuple, dd, fs, v, rfl, E_BadTuple.xf, E_BadTuple.no "index" (by simp), KA, ev, (show 1 ≤ 100000 by decide), fun H2 t s n e => q H2 t (sK.trans s) e⟩
  exact ⟨_, rfl, rfl, _, rfl, iteT0 (decide_eq_true rfl) (z H1 (Same.refl _))⟩
end
end K08

set_option Elab.async false
set_option linter.all false
set_option maxRecDepth 100000
set_option maxHeartbeats 4000000
namespace K08
open PySem Nb
open L2 hiding del del_ne del_same
open LamX
theorem row_dp {K : PySem.W.Frag} {H : Hp} : ∀ zs : List Str, DpAll K H (zs.map V.str) (zs.map PyData.str)
  | [] => .nil
  | z :: zs => .cons (.str z) (row_dp zs)
theorem known_ext {K : PySem.W.Frag} {H H' : Hp} (x : ExtN H H') {v : V} (h : Known K H v) : Known K H' v := by
  rcases h with h | ⟨n, T, ty, k⟩
  · exact .inl h
  · refine .inr ⟨n, T, ?_, k⟩
    cases ty with
    | base b =>
      refine .base ?_
      cases b with
      | non => exact .non
      | bl x => exact .bl x
      | int i => exact .int i
      | str x => exact .str x
      | flt x => exact .flt x
      | lst e => exact .lst (x _ _ e fun ps z => nomatch z)
      | frz e => exact .frz (x _ _ e fun ps z => nomatch z)
      | tup e => exact .tup (x _ _ e fun ps z => nomatch z)
      | dK e => exact .dK (x _ _ e fun ps z => nomatch z)
      | dT e => exact .dT (x _ _ e fun ps z => nomatch z)
    | byt b => exact .byt b
    | set e => exact .set (x _ _ e fun ps z => nomatch z)
    | kList e c => exact .kList e c
    | kTuple e c => exact .kTuple e c
    | kDict e c => exact .kDict e c
    | fTuple e => exact .fTuple (x _ _ e fun ps z => nomatch z)
    | fDict e => exact .fDict (x _ _ e fun ps z => nomatch z)

/-- what may stand in an odd tuple -/
def Itm0 (H : Hp) (y : V) : Prop := y = .non ∨ (∃ i, y = .int i) ∨ (∃ z, y = .str z ∧ Word z) ∨ ∃ b, y = .ref b ∧ H b = some (.tup [.str "a"])
/-- what is no tuple of different names -/
def Odd (H : Hp) (x : V) : Prop := (x = .non ∨ x = .int 5 ∨ x = .bl true ∨ x = .str "ab") ∨ (∃ a, x = .ref a ∧ (H a = some (.lst [.str "a", .str "b"]) ∨ H a = some (.dK []))) ∨
  ∃ a ys, x = .ref a ∧ H a = some (.tup ys) ∧ diffV ys = false ∧ ys.length ≤ 1000 ∧ ∀ y ∈ ys, Itm0 H y
def Kp (H H' : Hp) : Prop := (∀ a xs, H a = some (.tup xs) → H' a = some (.tup xs)) ∧ (∀ a, H a = some (.lst [.str "a", .str "b"]) → H' a = some (.lst [.str "a", .str "b"])) ∧ ∀ a, H a = some (.dK []) → H' a = some (.dK [])
theorem odd_kp {H H' : Hp} (k : Kp H H') {x : V} (h : Odd H x) : Odd H' x := by
  rcases h with h | ⟨a, e, h⟩ | ⟨a, ys, e, h, d, l, it⟩
  · exact .inl h
  · exact .inr (.inl ⟨a, e, h.imp (k.2.1 a) (k.2.2 a)⟩)
  · refine .inr (.inr ⟨a, ys, e, k.1 _ _ h, d, l, fun y hy => ?_⟩)
    rcases it y hy with z | z | z | ⟨b, z, w⟩
    · exact .inl z
    · exact .inr (.inl z)
    · exact .inr (.inr (.inl z))
    · exact .inr (.inr (.inr ⟨b, z, k.1 _ _ w⟩))
theorem kp_ext {H H' : Hp} (x : ExtN H H') : Kp H H' := ⟨fun a xs e => x _ _ e (fun ps z => nomatch z), fun a e => x _ _ e (fun ps z => nomatch z), fun a e => x _ _ e (fun ps z => nomatch z)⟩
theorem kp_src {H H' : Hp} {p : Addr} {n : Nat} (S : Src H p n) (s : Same (Nb.del H p) H') : Kp H H' := by
  obtain ⟨c, m, r, ep, _⟩ := S
  refine ⟨fun a xs e => s _ _ (del_keep e (ne_of e ep (fun z => nomatch z))), fun a e => s _ _ (del_keep e (ne_of e ep (fun z => by cases z))), fun a e => s _ _ (del_keep e (ne_of e ep (fun z => nomatch z)))⟩
theorem odd_thing {K : PySem.W.Frag} {H : Hp} {x : V} (h : Odd H x) : Thing K H x ∧ diffOf H x = false := by
  rcases h with (rfl | rfl | rfl | rfl) | ⟨a, rfl, h | h⟩ | ⟨a, ys, rfl, h, d, l, it⟩
  · exact ⟨thing_flat (fun a z => nomatch z) (.base .non) (by decide +kernel), rfl⟩
  · exact ⟨thing_flat (fun a z => nomatch z) (.base (.int 5)) (by decide +kernel), rfl⟩
  · exact ⟨thing_flat (fun a z => nomatch z) (.base (.bl true)) (by decide +kernel), rfl⟩
  · exact ⟨thing_str _, rfl⟩
  · refine ⟨thing_lst h, ?_⟩
    unfold diffOf tupOf
    simp only [h]
  · refine ⟨thing_dct h, ?_⟩
    unfold diffOf tupOf
    simp only [h]
  · refine ⟨.inl ⟨a, ys, rfl, .inl h, l, fun y hy => ?_⟩, ?_⟩
    · rcases it y hy with rfl | ⟨i, rfl⟩ | ⟨z, rfl, w⟩ | ⟨b, rfl, w⟩
      · exact item_non
      · exact ⟨known_int i, .int i, .int i, (fine_int i).mono (by decide)⟩
      · exact w.item
      · exact ⟨known_tup w, .tuple [.str "a"], .tup (SqT.of w) (row_dp ["a"]), (fine_tup (n := 0) (by
          intro d hd
          rw [List.mem_singleton.mp hd]
          exact fine_str (by decide +kernel))).mono (by decide)⟩
    · unfold diffOf
      rw [tupOf_at (.inl h)]
      exact d
/-- one row replaced -/
theorem cut_upto (xs : List V) (e : Nat) : cutV xs none (some (e : Int)) = xs.take e := by
  unfold cutV
  rw [HT.sIx_none, HT.sIx_nat]
  simp
theorem cut_from (xs : List V) (n : Nat) : cutV xs (some ((n : Nat) : Int)) none = xs.drop n := by
  unfold cutV
  rw [HT.sIx_none, HT.sIx_nat]
  rcases Nat.lt_or_ge n xs.length with c | c
  · rw [Nat.min_eq_left (Nat.le_of_lt c), List.take_of_length_le (by rw [List.length_drop]; exact Nat.le_refl _)]
  · rw [Nat.min_eq_right c, List.drop_eq_nil_of_le (Nat.le_refl _), List.drop_eq_nil_of_le c, List.take_nil]
theorem cut_set {xs : List V} {i : Nat} {v : V} (h : i < xs.length) : cutV xs none (some (i : Int)) ++ [v] ++ cutV xs (some ((i : Int) + 1)) none = xs.set i v := by
  rw [cut_upto, show ((i : Int) + 1) = ((i + 1 : Nat) : Int) from by omega, cut_from, List.set_eq_take_append_cons_drop, if_pos h, List.append_assoc]
  rfl
def GoodV (H : Hp) (x : V) : Prop := diffOf H x = true
theorem fb_one {H : Hp} {xs : List V} {i : Nat} {v : V} (li : i < xs.length) (good : ∀ x ∈ xs, diffOf H x = true) (bad : diffOf H v = false) : FirstBad H (xs.set i v) i := by
  refine ⟨⟨v, by rw [List.getElem?_set_self li], bad⟩, fun j y l e => ?_⟩
  rw [List.getElem?_set_ne (by omega)] at e
  exact good y (List.mem_of_getElem? e)
theorem fb_two {H : Hp} {xs : List V} {i j : Nat} {v u : V} (li : i < xs.length) (lj : j < xs.length) (good : ∀ x ∈ xs, diffOf H x = true) (bad : diffOf H v = false) (bad2 : diffOf H u = false) : FirstBad H ((xs.set i v).set j u) (min i j) := by
  have lj' : j < (xs.set i v).length := by rw [List.length_set]; exact lj
  by_cases c : j ≤ i
  · rw [Nat.min_eq_right c]
    refine ⟨⟨u, by rw [List.getElem?_set_self lj'], bad2⟩, fun k y l e => ?_⟩
    rw [List.getElem?_set_ne (by omega), List.getElem?_set_ne (by omega)] at e
    exact good y (List.mem_of_getElem? e)
  · rw [Nat.min_eq_left (by omega)]
    refine ⟨⟨v, by rw [List.getElem?_set_ne (by omega), List.getElem?_set_self li], bad⟩, fun k y l e => ?_⟩
    rw [List.getElem?_set_ne (by omega), List.getElem?_set_ne (by omega)] at e
    exact good y (List.mem_of_getElem? e)
theorem set_all {P : V → Prop} {xs : List V} {i : Nat} {v : V} (h : ∀ x ∈ xs, P x) (hv : P v) : ∀ x ∈ xs.set i v, P x := fun x hx => (List.mem_or_eq_of_mem_set hx).elim (h x) fun e => e ▸ hv
section
variable {P : Program} {w : World} {K : PySem.W.Frag} {mg : Str → Option Value} {base : Heap} {TL : List (Addr × Str)}
end
end K08

set_option Elab.async false
set_option linter.all false
set_option maxRecDepth 100000
set_option maxHeartbeats 4000000
namespace K08
open PySem Nb
open L2 hiding del del_ne del_same
open LamX
/-- what stands off p and is no table is kept -/
def Offp (p : Addr) (H H' : Hp) : Prop := ∀ b o, b ≠ p → H b = some o → (∀ ps, o ≠ HO.tbl ps) → H' b = some o
theorem Offp.trans {p : Addr} {H H' G : Hp} (x : Offp p H H') (y : Offp p H' G) : Offp p H G := fun b o n e t => y b o n (x b o n e t) t
theorem offp_same {p : Addr} {H H' : Hp} (s : Same H H') : Offp p H H' := fun b o _ e _ => s b o e
theorem offp_src {p : Addr} {H H' : Hp} (s : Same (Nb.del H p) H') : Offp p H H' := fun b o n e _ => s b o (del_keep e n)
theorem offp_ext {p : Addr} {H H' : Hp} (x : ExtN H H') : Offp p H H' := fun b o _ e t => x b o e t
theorem kp_offp {p : Addr} {n : Nat} {H H' : Hp} (S : Src H p n) (x : Offp p H H') : Kp H H' := by
  obtain ⟨c, m, r, ep, _⟩ := S
  exact ⟨fun a xs e => x _ _ (ne_of e ep (fun z => nomatch z)) e (fun ps z => nomatch z), fun a e => x _ _ (ne_of e ep (fun z => by cases z)) e (fun ps z => nomatch z), fun a e => x _ _ (ne_of e ep (fun z => nomatch z)) e (fun ps z => nomatch z)⟩
theorem rows_offp {p : Addr} {n : Nat} {H H' : Hp} (S : Src H p n) (x : Offp p H H') {as : List Addr} {rows : List (List Str)} (h : RowsL H as rows) : RowsL H' as rows := by
  obtain ⟨c, m, r, ep, _⟩ := S
  refine ⟨h.1, fun k a row e1 e2 => ?_⟩
  obtain ⟨o, e, t⟩ := h.2 k a row e1 e2
  exact ⟨o, x _ _ (ne_of e ep (fun z => nomatch z)) e (fun ps z => nomatch z), t⟩
theorem rows_good {K : PySem.W.Frag} {H : Hp} {as : List Addr} {rows : List (List Str)} (h : RowsL H as rows) (hg : ∀ r ∈ rows, GoodRow r) : ∀ x ∈ as.map V.ref, Thing K H x ∧ diffOf H x = true := by
  intro x hx
  obtain ⟨a, ha, rfl⟩ := List.mem_map.mp hx
  obtain ⟨k, lk, ek⟩ := List.mem_iff_getElem.mp ha
  have lr : k < rows.length := h.1 ▸ lk
  obtain ⟨o, e, t⟩ := h.2 k a rows[k] (List.getElem?_eq_some_iff.mpr ⟨lk, ek⟩) (List.getElem?_eq_getElem lr)
  have g := hg _ (List.getElem_mem lr)
  refine ⟨good_thing g (.inr ⟨o, e⟩), ?_⟩
  unfold diffOf
  rw [tupOf_at (.inr ⟨o, e⟩)]
  exact good_diff g
theorem tf_bad {CC CB : Addr} {tl : XK → Hp → VK → Prop} {L : Hp} {Q : VK} (v : V) (done : ∀ J t, Same L J → J t = some (.lst [v]) → Q (.ref t) J) (h : ∀ (R : VK) (E : XK), Rz E L CB [("index", v)] → tl E L R) : TTtf CC CB tl L Q :=
  fun R E _ hE => h R E fun J d s e => hE _ _ _ ⟨d, _, rfl, e, .inr ⟨rfl, _, rfl, fun H2 t s2 e2 => done _ _ (s.trans s2) e2⟩⟩
theorem tab_src {TL : List (Addr × Str)} {p : Addr} {n : Nat} {H H' : Hp} (S : Src H p n) (s : Same (Nb.del H p) H') (T : Tabs TL H) : Tabs TL H' := by
  obtain ⟨_, _, _, ep, _⟩ := S
  exact tabs_del T (fun ps z => by rw [ep] at z; cases z) (fun c q z => by rw [ep] at z; unfold CodeO at z; cases z) s
theorem bad_sp {K : PySem.W.Frag} {CB : Addr} {H G : Hp} {E : XK} {xs : List V} {i : Nat} {ok : Prop} (s : Same H G) (th : ∀ x ∈ xs, Thing K H x) (fb : FirstBad H xs i) (rz : Rz E H CB [("index", .int (i : Nat))]) : BadSp CB G E xs ok :=
  ⟨fun j fj => by rw [fb_uniq fj (fb_same s th fb)]; exact rz_same s rz, fun g => absurd g (fb_bad (fb_same s th fb))⟩
theorem ne_non1 {K : PySem.W.Frag} {H : Hp} {t e : Addr} {Q : VK} (h : H t = some (.lst [.non])) (he : H e = some (.lst [.non])) (q : Q (.bl false) H) : rNeD K (.ref t) (.ref e) H Q :=
  ⟨.list [.none], .list [.none], .lst (SqL.of h) (.cons .non .nil), .lst (SqL.of he) (.cons .non .nil), rfl, rfl, by
    rw [show PyData.eqv (.list [.none]) (.list [.none]) = true from by simp [PyData.eqv, PyData.eqvAll]]
    exact q⟩
theorem ne_one {K : PySem.W.Frag} {H : Hp} {t e : Addr} {i : Int} {Q : VK} (h : H t = some (.lst [.int i])) (he : H e = some (.lst [.int i])) (q : Q (.bl false) H) : rNeD K (.ref t) (.ref e) H Q :=
  ⟨.list [.int i], .list [.int i], .lst (SqL.of h) (.cons (.int _) .nil), .lst (SqL.of he) (.cons (.int _) .nil), rfl, rfl, by
    rw [show PyData.eqv (.list [.int i]) (.list [.int i]) = true from by simp [PyData.eqv, PyData.eqvAll]]
    exact q⟩
section
variable {P : Program} {w : World} {K : PySem.W.Frag} {mg : Str → Option Value} {base : Heap} {TL : List (Addr × Str)}
abbrev s_law : Stmt := topS 32
theorem sc_law : FnScope ["_law_script", "_law_source_here", "_law_odd", "_law_turn", "_law_at", "_law_far", "_law_bent", "_law_rows", "_law_thing", "_law_worse"] ["_law_script"] (defScope s_law) := ⟨rfl, rfl, rfl, by decide +kernel, rfl, by decide +kernel, by decide +kernel⟩
def sx_law_0 : Scope := { kind := .function, names := [("_law_bent", .cell), ("_law_merged_by", .globalImplicit)], isGenerator := false, isCoroutine := false, more := [] }
def sx_law_1 : Scope := { kind := .function, names := [("_law_worse", .cell), ("_law_merged_by", .globalImplicit)], isGenerator := false, isCoroutine := false, more := [] }
def sx_law_2 : Scope := { kind := .function, names := [("_law_bent", .cell), ("is_clash", .globalImplicit), ("tuple", .globalImplicit)], isGenerator := false, isCoroutine := false, more := [] }
def sx_law_3 : Scope := { kind := .function, names := [("_law_worse", .cell), ("is_clash", .globalImplicit), ("tuple", .globalImplicit)], isGenerator := false, isCoroutine := false, more := [] }
def sx_law_4 : Scope := { kind := .function, names := [("_law_worse", .cell), ("is_clash", .globalImplicit)], isGenerator := false, isCoroutine := false, more := [] }
def sx_law_5 : Scope := { kind := .function, names := [("_law_rows", .cell), ("_law_merged_by", .globalImplicit)], isGenerator := false, isCoroutine := false, more := [] }
def sx_law_6 : Scope := { kind := .function, names := [("_law_thing", .cell), ("is_clash", .globalImplicit)], isGenerator := false, isCoroutine := false, more := [] }
def sx_law_7 : Scope := { kind := .function, names := [("is_clash", .globalImplicit)], isGenerator := false, isCoroutine := false, more := [] }
theorem len_law (vs : List V) (H : Hp) (Q : VK) (E : XK) (h : (spLawT K TL : Sp) vs H Q E) : vs.length = 1 := by
  obtain ⟨a, ns, rfl, _⟩ := h
  rfl
theorem ok_law {f : Addr} {fd : FuncData} (F : Fun K "law" "law" s_law f fd) {C_BadTuple : Addr} {C_Clash : Addr} (T : Txt mg) (D_h_source : Dn P w K mg base CX0 1 "_law_source" ["_law_script", "_law_k"] (spSource K)) (D_h_next : Dn P w K mg base CX0 1 "_law_next" ["_law_source_here", "_law_many"] (spNext)) (D_h_name_rows : Dn P w K mg base CX0 3 "_law_name_rows" ["_law_source_here", "_law_many", "_law_most", "_law_is_free"] (spRows)) (D_h_pick : Dn P w K mg base CX0 2 "_law_pick" ["_law_source_here", "_law_items"] (spPick)) (D_h_merged : Dn P w K mg base CX0 1 "_law_merged" ["_law_lists"] (spLMerged)) (D_h_merged_by : Dn P w K mg base (L2.CX P w) 7 "_law_merged_by" ["_law_rows"] (spByX C_Clash)) (D_h_merged_by_b : Dn P w K mg base (L2.CX P w) 6 "_law_merged_by" ["_law_rows"] (spByB K C_BadTuple)) (D_is_clash : Dn P w K mg base (L2.CX P w) 5 "is_clash" ["tuples", "thing"] (spIsC K C_BadTuple)) (G_h_tuple_fault : Gv P w K mg base "_law_tuple_fault" (TTtf C_Clash C_BadTuple)) {c_law P_law : Addr} (hc_law : CodeAt K f c_law) (TB_law : LamX.TabB base mg c_law P_law) (hm_law : (P_law, (("law" : Str) ++ ".<locals>.") ++ "<lambda>") ∈ TL) (hu_law : ∀ p ∈ TL, p.1 = P_law → p.2 = (("law" : Str) ++ ".<locals>.") ++ "<lambda>") : RunsG P w K mg base CX0 17 f fd ["_law_script"] (spLawT K TL) := by
  refine okGC F hc_law sc_law (fun vs H Q E h => ?_) (fun A outer s H vs Q E gd hr h => ?_)
  · obtain ⟨a, ns, rfl, _⟩ := h
    rfl
  · obtain ⟨a, ns, rfl, hS, hlen, hT, q⟩ := h
    have hg : (A.deeper (PyProof.Rows.envOfC "law" (defScope s_law) s.heap.objs.size f (.ref c_law))).guards = some [] := gd
    refine ⟨_, pss_cons (ps_set (i := 1) sc_law.nd rfl (Or.inl rfl) (pe_D D_h_source (hr.mono (by decide)) (by rfl) pass0 (pa_cons (pv 0) (pa_cons pe_int pa_nil))))
        (pss_cons (ps_set (i := 2) sc_law.nd rfl (Or.inl rfl) (pe_lstS (pa_cons pe_non (pa_cons pe_int (pa_cons pe_bl (pa_cons pe_str (pa_cons (pe_lstS (pa_cons pe_str (pa_cons pe_str pa_nil))) (pa_cons pe_dnewS (pa_cons (pe_tupS (pa_cons pe_str (pa_cons pe_str pa_nil))) (pa_cons (pe_tupS (pa_cons pe_str (pa_cons pe_str (pa_cons pe_str pa_nil)))) (pa_cons (pe_tupS (pa_cons pe_str pa_nil)) (pa_cons (pe_tupS (pa_cons pe_str pa_nil)) (pa_cons (pe_tupS (pa_cons pe_non pa_nil)) (pa_cons (pe_tupS (pa_cons (pe_tupS (pa_cons pe_str pa_nil)) pa_nil)) pa_nil))))))))))))))
        (pss_cons (ps_expr (pe_bm PySem.F.plainAttrs_list PySem.F.slot_list_append PySem.F.type_list_append mt_append (pv 2) (pa_cons (pe_tupS (pa_cons pe_str (pa_cons pe_int pa_nil))) pa_nil)))
        (pss_cons (ps_for PassesOwn.never rfl (pi_range1 (by rfl) T.range (pa_cons pe_int pa_nil)) (pg_name (i := 3) sc_law.nd rfl (Or.inl rfl)) (pss_cons (ps_set (i := 7) sc_law.nd rfl (Or.inr rfl) (pe_D D_h_name_rows (hr.mono (by decide)) (by rfl) pass0 (pa_cons (pv 1) (pa_cons (pe_op op_add pe_int (pe_D D_h_next (hr.mono (by decide)) (by rfl) pass0 (pa_cons (pv 1) (pa_cons pe_int pa_nil)))) (pa_cons pe_int (pa_cons pe_bl pa_nil))))))
        (pss_cons (ps_par (i := 4) (j := 5) rfl sc_law.nd rfl rfl (by decide) rfl rfl (pa_cons (pe_D D_h_next (hr.mono (by decide)) (by rfl) pass0 (pa_cons (pv 1) (pa_cons (pe_callB call_len_seq (by rfl) T.len PySem.boot_len (pa_cons (pv 7) pa_nil)) pa_nil))) (pa_cons (pe_D D_h_next (hr.mono (by decide)) (by rfl) pass0 (pa_cons (pv 1) (pa_cons (pe_callB call_len_seq (by rfl) T.len PySem.boot_len (pa_cons (pv 7) pa_nil)) pa_nil))) pa_nil)) rfl)
        (pss_cons (ps_set (i := 6) sc_law.nd rfl (Or.inr rfl) (pe_op op_catS (pe_op op_catS (pe_slice sl_list (pv 7) po_none (po_some (pv 4))) (pe_lstS (pa_cons (pe_D D_h_pick (hr.mono (by decide)) (by rfl) pass0 (pa_cons (pv 1) (pa_cons (pv 2) pa_nil))) pa_nil))) (pe_slice sl_list (pv 7) (po_some (pe_op op_add (pv 4) pe_int)) po_none)))
        (pss_cons (ps_set (i := 9) sc_law.nd rfl (Or.inr rfl) (pe_op op_catS (pe_op op_catS (pe_slice sl_list (pv 6) po_none (po_some (pv 5))) (pe_lstS (pa_cons (pe_D D_h_pick (hr.mono (by decide)) (by rfl) pass0 (pa_cons (pv 1) (pa_cons (pv 2) pa_nil))) pa_nil))) (pe_slice sl_list (pv 6) (po_some (pe_op op_add (pv 5) pe_int)) po_none)))
        (pss_cons (ps_if (pt_cmpR (op_neD hr.units) (G_h_tuple_fault.run (k := 14) _ rfl rfl rfl rfl rfl (by rfl) TB_law rfl hm_law hu_law (hr.mono (by decide)) (LamX.lamS_by (sc := defScope s_law) (by decide +kernel)) rfl (fun _ _ _ _ _ => rfl) (fun A outer s H E f c' hr => (pe_D D_h_merged_by_b (hr.mono (by decide)) (by rfl) (pass_lam (fun _ _ _ h => h)) (pa_cons (pv 6) pa_nil)))) (pe_lstS (pa_cons (pv 4) pa_nil)) (nomark _)) (pss_one (ps_ret pe_bl)) pss_nil)
        (pss_cons (ps_if (pt_cmpR (op_neD hr.units) (G_h_tuple_fault.run (k := 14) _ rfl rfl rfl rfl rfl (by rfl) TB_law rfl hm_law hu_law (hr.mono (by decide)) (LamX.lamS_by (sc := defScope s_law) (by decide +kernel)) rfl (fun _ _ _ _ _ => rfl) (fun A outer s H E f c' hr => (pe_D D_h_merged_by_b (hr.mono (by decide)) (by rfl) (pass_lam (fun _ _ _ h => h)) (pa_cons (pv 9) pa_nil)))) (pe_lstS (pa_cons (pe_callB (call_min2 rfl) (by rfl) T.min (by decide +kernel) (pa_cons (pv 4) (pa_cons (pv 5) pa_nil))) pa_nil)) (nomark _)) (pss_one (ps_ret pe_bl)) pss_nil)
        (pss_cons (ps_if (pt_cmpR (op_neD hr.units) (G_h_tuple_fault.run (k := 14) _ rfl rfl rfl rfl rfl (by rfl) TB_law rfl hm_law hu_law (hr.mono (by decide)) (LamX.lamS_by (sc := defScope s_law) (by decide +kernel)) rfl (fun _ _ _ _ _ => rfl) (fun A outer s H E f c' hr => (pe_D D_is_clash (hr.mono (by decide)) (by rfl) (pass_lam (fun _ _ _ h => h)) (pa_cons (pe_callTy cr_tupleS (by rfl) T.tuple (by decide +kernel) (pa_cons (pv 6) pa_nil)) (pa_cons pe_non pa_nil))))) (pe_lstS (pa_cons (pv 4) pa_nil)) (nomark _)) (pss_one (ps_ret pe_bl)) pss_nil)
        (pss_cons (ps_if (pt_cmpR (op_neD hr.units) (G_h_tuple_fault.run (k := 14) _ rfl rfl rfl rfl rfl (by rfl) TB_law rfl hm_law hu_law (hr.mono (by decide)) (LamX.lamS_by (sc := defScope s_law) (by decide +kernel)) rfl (fun _ _ _ _ _ => rfl) (fun A outer s H E f c' hr => (pe_D D_is_clash (hr.mono (by decide)) (by rfl) (pass_lam (fun _ _ _ h => h)) (pa_cons (pe_callTy cr_tupleS (by rfl) T.tuple (by decide +kernel) (pa_cons (pv 9) pa_nil)) (pa_cons (pe_tupS (pa_cons (pe_tupS (pa_cons pe_str (pa_cons pe_str (pa_cons pe_int pa_nil)))) (pa_cons (pe_tupS (pa_cons pe_str (pa_cons pe_str (pa_cons pe_int pa_nil)))) pa_nil))) pa_nil))))) (pe_lstS (pa_cons (pe_callB (call_min2 rfl) (by rfl) T.min (by decide +kernel) (pa_cons (pv 4) (pa_cons (pv 5) pa_nil))) pa_nil)) (nomark _)) (pss_one (ps_ret pe_bl)) pss_nil)
        (pss_cons (ps_if (PW.pt (pw_or (pt_cmpR (op_neD hr.units) (G_h_tuple_fault.run (k := 14) _ rfl rfl rfl rfl rfl (by rfl) TB_law rfl hm_law hu_law (hr.mono (by decide)) (LamX.lamS_by (sc := defScope s_law) (by decide +kernel)) rfl (fun _ _ _ _ _ => rfl) (fun A outer s H E f c' hr => (pe_D D_is_clash (hr.mono (by decide)) (by rfl) (pass_lam (fun _ _ _ h => h)) (pa_cons (pv 9) (pa_cons pe_non pa_nil))))) (pe_lstS (pa_cons pe_non pa_nil)) (nomark _)) (pw_or1 (pt_cmpR op_isnot_bl (pe_D D_is_clash (hr.mono (by decide)) (by rfl) pass_none (pa_cons (pe_callTy cr_tupleS (by rfl) T.tuple (by decide +kernel) (pa_cons (pv 7) pa_nil)) (pa_cons pe_non pa_nil))) pe_bl (nomark _))))) (pss_one (ps_ret pe_bl)) pss_nil)
        (pss_one (ps_if (pt_cmpR (op_neD hr.units) (G_h_tuple_fault.run (k := 14) _ rfl rfl rfl rfl rfl (by rfl) TB_law rfl hm_law hu_law (hr.mono (by decide)) (LamX.lamS_by (sc := defScope s_law) (by decide +kernel)) rfl (fun _ _ _ _ _ => rfl) (fun A outer s H E f c' hr => (pe_D D_h_merged_by (hr.mono (by decide)) (by rfl) (pass_lam (fun _ _ _ h => h)) (pa_cons (pv 7) pa_nil)))) (pe_ifExp (pt_cmpR op_notN (pe_D D_h_merged (hr.mono (by decide)) (by rfl) pass0 (pa_cons (pv 7) pa_nil)) pe_non (nomark _)) pe_non pe_str) (nomark _)) (pss_one (ps_ret pe_bl)) pss_nil))))))))))))
        (pss_cons (ps_for PassesOwn.never rfl (pi_tup (pe_tupS (pa_cons pe_non (pa_cons pe_int (pa_cons pe_str (pa_cons (pe_lstS (pa_cons (pe_tupS (pa_cons pe_str (pa_cons pe_str pa_nil))) (pa_cons (pe_tupS (pa_cons pe_str (pa_cons pe_str pa_nil))) pa_nil))) (pa_cons pe_dnewS (pa_cons pe_bl pa_nil)))))))) (pg_name (i := 8) sc_law.nd rfl (Or.inr rfl)) (pss_one (ps_if (pt_cmpR (op_neD hr.units) (G_h_tuple_fault.run (k := 14) _ rfl rfl rfl rfl rfl (by rfl) TB_law rfl hm_law hu_law (hr.mono (by decide)) (LamX.lamS_by (sc := defScope s_law) (by decide +kernel)) rfl (fun _ _ _ _ _ => rfl) (fun A outer s H E f c' hr => (pe_D D_is_clash (hr.mono (by decide)) (by rfl) (pass_lam (fun _ _ _ h => h)) (pa_cons (pv 8) (pa_cons (pv 8) pa_nil))))) (pe_lstS (pa_cons pe_non pa_nil)) (nomark _)) (pss_one (ps_ret pe_bl)) pss_nil)))
        (pss_one (ps_ret (pe_and (pe_cmpR op_isN (G_h_tuple_fault.run (k := 14) _ rfl rfl rfl rfl rfl (by rfl) TB_law rfl hm_law hu_law (hr.mono (by decide)) (LamX.lamS_by (sc := defScope s_law) (by decide +kernel)) rfl (fun _ _ _ _ _ => rfl) (fun A outer s H E f c' hr => (pe_D D_is_clash (hr.mono (by decide)) (by rfl) (pass_lam (fun _ _ _ h => h)) (pa_cons (pe_tupS pa_nil) (pa_cons (pe_tupS pa_nil) pa_nil))))) pe_non (nomark _)) (pe_one (pe_cmpR op_is_bl (pe_D D_is_clash (hr.mono (by decide)) (by rfl) pass_none (pa_cons (pe_tupS pa_nil) (pa_cons (pe_tupS pa_nil) pa_nil))) pe_bl (nomark _)))))))))), ?_⟩
    refine ⟨_, rfl, a, ns, 0, rfl, hS, hlen, by decide, fun H1 p s1 np S1 => ?_⟩
    refine ⟨(show 2 ≤ 100000 by decide), fun H2 la s2 n2 e2 => fun H3 da s3 n3 e3 => ⟨(show 2 ≤ 100000 by decide), fun H4 t1 s4 n4 e4 => ⟨(show 3 ≤ 100000 by decide), fun H5 t2 s5 n5 e5 => ⟨(show 1 ≤ 100000 by decide), fun H6 t3 s6 n6 e6 => ⟨(show 1 ≤ 100000 by decide), fun H7 t4 s7 n7 e7 => ⟨(show 1 ≤ 100000 by decide), fun H8 t5 s8 n8 e8 => ⟨(show 1 ≤ 100000 by decide), fun H9 ti s9 n9 e9 => ⟨(show 1 ≤ 100000 by decide), fun H10 t6 s10 n10 e10 => ⟨(show 12 ≤ 100000 by decide), fun H11 O s11 n11 e11 => ?_⟩⟩⟩⟩⟩⟩⟩⟩⟩
    refine ⟨_, rfl, .inl ⟨rfl, _, SqL.of e11⟩, (show 2 ≤ 100000 by decide), fun H12 t7 s12 n12 e12 => ?_⟩
    have eO : H12 O = some (.lst [.non, .int 5, .bl true, .str "ab", .ref la, .ref da, .ref t1, .ref t2, .ref t3, .ref t4, .ref t5, .ref t6]) := s12 _ _ e11
    refine ⟨O, _, .ref t7, rfl, rfl, eO, Nat.lt_of_lt_of_le (show 12 < 100000 by decide) (line100 (Nat.le_refl _)), ?_⟩
    obtain ⟨J, eJ⟩ : ∃ J, J = upd H12 O (.lst [.non, .int 5, .bl true, .str "ab", .ref la, .ref da, .ref t1, .ref t2, .ref t3, .ref t4, .ref t5, .ref t6, .ref t7]) := ⟨_, rfl⟩
    rw [show upd H12 O (.lst ([.non, .int 5, .bl true, .str "ab", .ref la, .ref da, .ref t1, .ref t2, .ref t3, .ref t4, .ref t5, .ref t6] ++ [.ref t7])) = J from eJ.symm]
    have qO : J O = some (.lst [.non, .int 5, .bl true, .str "ab", .ref la, .ref da, .ref t1, .ref t2, .ref t3, .ref t4, .ref t5, .ref t6, .ref t7]) := eJ ▸ upd_same
    have up : ∀ {a : Addr} {o : HO}, H10 a = some o → J a = some o := fun {b o} e => by
      have n : b ≠ O := fun z => by rw [z, n11] at e; cases e
      rw [eJ, upd_ne n]
      exact s12 _ _ (s11 _ _ e)
    have g9 := s10
    have g8 := s9.trans g9
    have g7 := s8.trans g8
    have g6 := s7.trans g7
    have g5 := s6.trans g6
    have g4 := s5.trans g5
    have g3 := s4.trans g4
    have g2 := s3.trans g3
    have g1 := s2.trans g2
    have q7 : J t7 = some (.tup [.str "a", .int 1]) := by
      rw [eJ, upd_ne (ne_of e12 eO (fun z => by cases z))]
      exact e12
    have wd : ∀ z ∈ [("a" : Str), "A", ""], Word z := by
      intro z hz
      simp only [List.mem_cons, List.not_mem_nil, or_false] at hz
      rcases hz with rfl | rfl | rfl <;> exact ⟨by decide +kernel, by decide +kernel⟩
    have wb : Word ("b" : Str) := ⟨by decide +kernel, by decide +kernel⟩
    have odds : ∀ x ∈ [V.non, .int 5, .bl true, .str "ab", .ref la, .ref da, .ref t1, .ref t2, .ref t3, .ref t4, .ref t5, .ref t6, .ref t7], Odd J x := by
      intro x hx
      simp only [List.mem_cons, List.not_mem_nil, or_false] at hx
      have ia : ∀ {y : V} {z : Str}, z ∈ [("a" : Str), "A", ""] → y = .str z → Itm0 J y := fun hz e => .inr (.inr (.inl ⟨_, e, wd _ hz⟩))
      rcases hx with rfl | rfl | rfl | rfl | rfl | rfl | rfl | rfl | rfl | rfl | rfl | rfl | rfl
      · exact .inl (.inl rfl)
      · exact .inl (.inr (.inl rfl))
      · exact .inl (.inr (.inr (.inl rfl)))
      · exact .inl (.inr (.inr (.inr rfl)))
      · exact .inr (.inl ⟨la, rfl, .inl (up (g2 _ _ e2))⟩)
      · exact .inr (.inl ⟨da, rfl, .inr (up (g3 _ _ e3))⟩)
      · refine .inr (.inr ⟨t1, _, rfl, up (g4 _ _ e4), by decide +kernel, by decide, fun y hy => ?_⟩)
        simp only [List.mem_cons, List.not_mem_nil, or_false, or_self] at hy
        exact ia (by simp) hy
      · refine .inr (.inr ⟨t2, _, rfl, up (g5 _ _ e5), by decide +kernel, by decide, fun y hy => ?_⟩)
        simp only [List.mem_cons, List.not_mem_nil, or_false] at hy
        rcases hy with h | h | h
        · exact ia (z := "a") (by simp) h
        · exact .inr (.inr (.inl ⟨_, h, wb⟩))
        · exact ia (z := "a") (by simp) h
      · refine .inr (.inr ⟨t3, _, rfl, up (g6 _ _ e6), by decide +kernel, by decide, fun y hy => ia (z := "A") (by simp) (List.mem_singleton.mp hy)⟩)
      · refine .inr (.inr ⟨t4, _, rfl, up (g7 _ _ e7), by decide +kernel, by decide, fun y hy => ia (z := "") (by simp) (List.mem_singleton.mp hy)⟩)
      · refine .inr (.inr ⟨t5, _, rfl, up (g8 _ _ e8), rfl, by decide, fun y hy => .inl (List.mem_singleton.mp hy)⟩)
      · refine .inr (.inr ⟨t6, _, rfl, up e10, rfl, by show 1 ≤ 1000; decide, fun y hy => .inr (.inr (.inr ⟨ti, List.mem_singleton.mp hy, up (g9 _ _ e9)⟩))⟩)
      · refine .inr (.inr ⟨t7, _, rfl, q7, by decide +kernel, by decide, fun y hy => ?_⟩)
        simp only [List.mem_cons, List.not_mem_nil, or_false] at hy
        rcases hy with h | h
        · exact ia (z := "a") (by simp) h
        · exact .inr (.inl ⟨1, h⟩)
    obtain ⟨ods, eods⟩ : ∃ ods, ods = [V.non, .int 5, .bl true, .str "ab", .ref la, .ref da, .ref t1, .ref t2, .ref t3, .ref t4, .ref t5, .ref t6, .ref t7] := ⟨_, rfl⟩
    have lod : ods.length = 13 := by rw [eods]; rfl
    rw [← eods] at odds qO
    have SJ : Src J p 3 := by
      have h := S1.same (s2.trans (g2.trans s11))
      have h := h.same s12
      obtain ⟨c, m, r, ep, hn⟩ := h
      have nO : p ≠ O := fun z => by
        obtain ⟨_, _, _, ep0, _⟩ := S1.same g1
        rw [z, n11] at ep0
        cases ep0
      exact ⟨c, m, r, by rw [eJ, upd_ne nO]; exact ep, by omega⟩
    have nOp : O ≠ p := fun z => by
      obtain ⟨_, _, _, ep0, _⟩ := S1.same g1
      rw [← z, n11] at ep0
      cases ep0
    have TJ : Tabs TL J := by
      have T12 := tabs_same hT (s1.trans (g1.trans (s11.trans s12)))
      refine tabs_del T12 (p := O) (fun ps z => by rw [eO] at z; cases z) (fun c q z => by rw [eO] at z; unfold CodeO at z; cases z) (fun b o e => ?_)
      have n : b ≠ O := fun z => by rw [z, del_at] at e; cases e
      rw [Nb.del_ne n] at e
      rw [eJ, upd_ne n]
      exact e
    refine ⟨_, rfl, by decide, by decide, for_range (lo := 0) (fun t σ H' => ∃ v3 v4 v5 v6 v7 v9, σ = [some (.ref a), some (.ref p), some (.ref O), v3, v4, v5, v6, v7, none, v9] ∧ H' O = some (.lst ods) ∧ (∀ x ∈ ods, Odd H' x) ∧ Src H' p (3 + 500 * t) ∧ Tabs TL H') ⟨_, _, _, _, _, _, rfl, qO, odds, SJ, TJ⟩ ?_ ?_⟩
    · rintro t σ K1 ht ⟨v3, v4, v5, v6, v7, v9, rfl, kO, kod, kS, kT⟩
      refine ⟨_, rfl, _, rfl, p, 4, _, Nb.del K1 p, rfl, by decide, by decide, kS, by omega, del_at, del_same, fun K2 k k0 k9 r2 S2 => ?_⟩
      obtain ⟨j, rfl⟩ : ∃ j : Nat, k = (j : Int) := ⟨_, (Int.toNat_of_nonneg k0).symm⟩
      refine ⟨_, _, rfl, rfl, p, 1 + j, 6, true, _, Nb.del K1 p, rfl, by omega, by decide, S2, by omega, del_at, r2, fun K3 l as rows r3 nl nlp el hR lrw hg S3 => ?_⟩
      have las : as.length = rows.length := hR.1
      refine ⟨_, rfl, _, rfl, l, _, rfl, .inl (SqL.of el), p, _, _, Nb.del K3 p, rfl, by rw [List.length_map]; omega, by rw [List.length_map]; omega, S3, by omega, del_at, del_same, fun K4 k k0 k9 r4 S4 => ?_⟩
      obtain ⟨at_, rfl⟩ : ∃ j : Nat, k = (j : Int) := ⟨_, (Int.toNat_of_nonneg k0).symm⟩
      have el4 := r4 _ _ (del_keep el nlp)
      refine ⟨_, rfl, _, rfl, l, _, rfl, .inl (SqL.of el4), p, _, _, Nb.del K3 p, rfl, by rw [List.length_map]; omega, by rw [List.length_map]; omega, S4, by omega, del_at, r4, fun K5 k k0 k9b r5 S5 => ?_⟩
      obtain ⟨far, rfl⟩ : ∃ j : Nat, k = (j : Int) := ⟨_, (Int.toNat_of_nonneg k0).symm⟩
      refine ⟨_, _, rfl, ?_⟩
      have el5 := r5 _ _ (del_keep el nlp)
      have nat : at_ < (as.map V.ref).length := by omega
      have nfar : far < (as.map V.ref).length := by omega
      have l5 : (as.map V.ref).length ≤ 5 := by rw [List.length_map]; omega
      have kO3 := r3 _ _ (del_keep kO nOp)
      refine ⟨_, rfl, _, rfl, _, rfl, l, _, rfl, SqL.of el5, fun c1x nc1x => ?_⟩
      have r6x : Same K5 (upd K5 c1x (.lst (cutV (as.map V.ref) none (some (at_ : Int))))) := same_new nc1x
      obtain ⟨K6x, eK6x⟩ : ∃ K6, K6 = upd K5 c1x (.lst (cutV (as.map V.ref) none (some (at_ : Int)))) := ⟨_, rfl⟩
      rw [← eK6x] at r6x ⊢
      have ec1x : K6x c1x = some (.lst (cutV (as.map V.ref) none (some (at_ : Int)))) := eK6x ▸ upd_same
      have S6x := (S5).same r6x
      have nc1px : c1x ≠ p := by
        obtain ⟨_, ep⟩ := (S5).some
        exact fun z => ne_of_none ep nc1x z.symm
      have kO6x := r6x _ _ (r5 _ _ (del_keep kO3 nOp))
      refine ⟨_, rfl, _, rfl, p, O, ods, _, Nb.del K6x p, rfl, del_keep kO6x nOp, by omega, by omega, S6x, by omega, del_at, del_same, fun K7x vox mox r7x S7x => ⟨(show 1 ≤ 100000 by decide), fun K8x d1x r8x n8x e8x => ?_⟩⟩
      have ec8x : K8x c1x = some (.lst (cutV (as.map V.ref) none (some (at_ : Int)))) := r8x _ _ (r7x _ _ (del_keep ec1x nc1px))
      have lc1x : (cutV (as.map V.ref) none (some (at_ : Int))).length ≤ 5 := by rw [cut_upto, List.length_take]; omega
      refine ⟨c1x, d1x, _, _, rfl, rfl, ec8x, e8x, by show _ + 1 ≤ 100000; omega, fun K9x b1x r9x n9x e9x => ?_⟩
      have eA9x : K9x l = some (.lst (as.map V.ref)) := r9x _ _ (r8x _ _ (r7x _ _ (del_keep (r6x _ _ el5) nlp)))
      refine ⟨_, rfl, _, rfl, _, _, rfl, rfl, _, rfl, l, _, rfl, SqL.of eA9x, fun c2x nc2x => ?_⟩
      have lc2x : (cutV (as.map V.ref) (some ((at_ : Int) + 1)) none).length ≤ 5 := by
        rw [show ((at_ : Int) + 1) = ((at_ + 1 : Nat) : Int) from by omega, cut_from, List.length_drop]
        omega
      refine ⟨b1x, c2x, _, _, rfl, rfl, same_new nc2x _ _ e9x, upd_same, by rw [List.length_append]; show _ + 1 + _ ≤ 100000; omega, fun K10x Bx r10x n10x e10x => ?_⟩
      rw [cut_set nat] at e10x
      have rrx : Same (Nb.del K6x p) K10x := r7x.trans (r8x.trans (r9x.trans ((same_new nc2x).trans r10x)))
      have S10x := S7x.same (r8x.trans (r9x.trans ((same_new nc2x).trans r10x)))
      have kO10x := rrx _ _ (del_keep kO6x nOp)
      have eA10x := ((same_new nc2x).trans r10x) _ _ eA9x
      have lset : ((as.map V.ref).set at_ vox).length ≤ 5 := by rw [List.length_set]; exact l5
      have nlset : far < ((as.map V.ref).set at_ vox).length := by rw [List.length_set]; exact nfar
      have nBp : Bx ≠ p := by
        obtain ⟨_, ep⟩ := (S7x.same (r8x.trans (r9x.trans (same_new nc2x)))).some
        exact fun z => ne_of_none ep n10x z.symm
      refine ⟨_, rfl, _, rfl, _, rfl, Bx, _, rfl, SqL.of e10x, fun c1y nc1y => ?_⟩
      have r6y : Same K10x (upd K10x c1y (.lst (cutV ((as.map V.ref).set at_ vox) none (some (far : Int))))) := same_new nc1y
      obtain ⟨K6y, eK6y⟩ : ∃ K6, K6 = upd K10x c1y (.lst (cutV ((as.map V.ref).set at_ vox) none (some (far : Int)))) := ⟨_, rfl⟩
      rw [← eK6y] at r6y ⊢
      have ec1y : K6y c1y = some (.lst (cutV ((as.map V.ref).set at_ vox) none (some (far : Int)))) := eK6y ▸ upd_same
      have S6y := (S10x).same r6y
      have nc1py : c1y ≠ p := by
        obtain ⟨_, ep⟩ := (S10x).some
        exact fun z => ne_of_none ep nc1y z.symm
      have kO6y := r6y _ _ (kO10x)
      refine ⟨_, rfl, _, rfl, p, O, ods, _, Nb.del K6y p, rfl, del_keep kO6y nOp, by omega, by omega, S6y, by omega, del_at, del_same, fun K7y voy moy r7y S7y => ⟨(show 1 ≤ 100000 by decide), fun K8y d1y r8y n8y e8y => ?_⟩⟩
      have ec8y : K8y c1y = some (.lst (cutV ((as.map V.ref).set at_ vox) none (some (far : Int)))) := r8y _ _ (r7y _ _ (del_keep ec1y nc1py))
      have lc1y : (cutV ((as.map V.ref).set at_ vox) none (some (far : Int))).length ≤ 5 := by rw [cut_upto, List.length_take]; omega
      refine ⟨c1y, d1y, _, _, rfl, rfl, ec8y, e8y, by show _ + 1 ≤ 100000; omega, fun K9y b1y r9y n9y e9y => ?_⟩
      have eA9y : K9y Bx = some (.lst ((as.map V.ref).set at_ vox)) := r9y _ _ (r8y _ _ (r7y _ _ (del_keep (r6y _ _ e10x) nBp)))
      refine ⟨_, rfl, _, rfl, _, _, rfl, rfl, _, rfl, Bx, _, rfl, SqL.of eA9y, fun c2y nc2y => ?_⟩
      have lc2y : (cutV ((as.map V.ref).set at_ vox) (some ((far : Int) + 1)) none).length ≤ 5 := by
        rw [show ((far : Int) + 1) = ((far + 1 : Nat) : Int) from by omega, cut_from, List.length_drop]
        omega
      refine ⟨b1y, c2y, _, _, rfl, rfl, same_new nc2y _ _ e9y, upd_same, by rw [List.length_append]; show _ + 1 + _ ≤ 100000; omega, fun K10y By r10y n10y e10y => ?_⟩
      rw [cut_set (by rw [List.length_set]; exact nfar)] at e10y
      have rry : Same (Nb.del K6y p) K10y := r7y.trans (r8y.trans (r9y.trans ((same_new nc2y).trans r10y)))
      have S10y := S7y.same (r8y.trans (r9y.trans ((same_new nc2y).trans r10y)))
      have kO10y := rry _ _ (del_keep kO6y nOp)
      have eA10y := ((same_new nc2y).trans r10y) _ _ eA9y
      have off3 : Offp p K3 K10y := ((offp_src r5).trans (offp_same r6x)).trans ((offp_src rrx).trans ((offp_same r6y).trans (offp_src rry)))
      have off1 : Offp p K1 K10y := (offp_src r3).trans off3
      have kp1 := kp_offp kS off1
      have TY : Tabs TL K10y := tab_src S6y rry (tabs_same (tab_src S6x rrx (tabs_same (tab_src S3 r5 (tab_src kS r3 kT)) r6x)) r6y)
      have FG : ∀ {G : Hp}, ExtN K10y G → (∀ x ∈ as.map V.ref, Thing K G x ∧ diffOf G x = true) ∧ Odd G vox ∧ Odd G voy := fun x =>
        ⟨rows_good (rows_offp S3 (off3.trans (offp_ext x)) hR) hg, odd_kp (kp_offp kS (off1.trans (offp_ext x))) (kod _ mox), odd_kp (kp_offp kS (off1.trans (offp_ext x))) (kod _ moy)⟩
      have FX : ∀ {G : Hp}, ExtN K10y G → (∀ x ∈ (as.map V.ref).set at_ vox, Thing K G x) ∧ FirstBad G ((as.map V.ref).set at_ vox) at_ := fun x =>
        let ⟨g, ox, _⟩ := FG x
        ⟨set_all (fun x hx => (g x hx).1) (odd_thing ox).1, fb_one nat (fun x hx => (g x hx).2) (odd_thing (K := K) ox).2⟩
      have FY : ∀ {G : Hp}, ExtN K10y G → (∀ x ∈ ((as.map V.ref).set at_ vox).set far voy, Thing K G x) ∧ FirstBad G (((as.map V.ref).set at_ vox).set far voy) (min at_ far) := fun x =>
        let ⟨g, ox, oy⟩ := FG x
        ⟨set_all (set_all (fun x hx => (g x hx).1) (odd_thing ox).1) (odd_thing oy).1, fb_two nat nfar (fun x hx => (g x hx).2) (odd_thing (K := K) ox).2 (odd_thing (K := K) oy).2⟩
      have lsety : (((as.map V.ref).set at_ vox).set far voy).length ≤ 5 := by rw [List.length_set]; exact lset
      have hm : (if (far : Int) < at_ then (far : Int) else at_) = ((min at_ far : Nat) : Int) := by split <;> omega
      refine ⟨TY, fun L1 y1 U1 => tf_bad _ (fun J1 q1 sJ1 eJ1 => ?_) fun R E rz => ⟨_, rfl, Bx, _, at_, rfl, ext_lst y1 eA10y, lset, (FX y1).1, (FX y1).2, rz⟩⟩
      refine ⟨_, rfl, (show 1 ≤ 100000 by decide), fun O1 u1 w1 m1 f1 => ne_one (w1 _ _ eJ1) f1 ⟨_, rfl, iteF0 rfl ?_⟩⟩
      have x1 : ExtN K10y O1 := y1.trans (ext_same (sJ1.trans w1))
      have TO1 := tabs_same U1 (sJ1.trans w1)
      refine ⟨TO1, fun L2 y2 U2 => tf_bad _ (fun J2 q2 sJ2 eJ2 => ?_) fun R E rz => ⟨_, rfl, By, _, min at_ far, rfl, ext_lst (x1.trans y2) e10y, lsety, (FY (x1.trans y2)).1, (FY (x1.trans y2)).2, rz⟩⟩
      refine ⟨_, rfl, _, rfl, _, _, rfl, (show 1 ≤ 100000 by decide), fun O2 u2 w2 m2 f2 => ?_⟩
      rw [hm] at f2
      refine ne_one (w2 _ _ eJ2) f2 ⟨_, rfl, iteF0 rfl ?_⟩
      have x2 : ExtN K10y O2 := x1.trans (y2.trans (ext_same (sJ2.trans w2)))
      have TO2 := tabs_same U2 (sJ2.trans w2)
      refine ⟨TO2, fun L3 y3 U3 => tf_bad _ (fun J3 q3 sJ3 eJ3 => ?_) fun R E rz => ⟨_, rfl, Bx, _, rfl, .inl (ext_lst (x2.trans y3) eA10y), fun G r sG eG => ⟨.ref r, .non, rfl, .inr ⟨r, _, rfl, .inl eG, by omega, fun x hx => thing_same sG ((FX (x2.trans y3)).1 x hx), bad_sp sG (FX (x2.trans y3)).1 (FX (x2.trans y3)).2 rz⟩⟩⟩⟩
      refine ⟨_, rfl, (show 1 ≤ 100000 by decide), fun O3 u3 w3 m3 f3 => ne_one (w3 _ _ eJ3) f3 ⟨_, rfl, iteF0 rfl ?_⟩⟩
      have x3 : ExtN K10y O3 := x2.trans (y3.trans (ext_same (sJ3.trans w3)))
      have TO3 := tabs_same U3 (sJ3.trans w3)
      refine ⟨TO3, fun L4 y4 U4 => tf_bad _ (fun J4 q4 sJ4 eJ4 => ?_) fun R E rz => ⟨_, rfl, By, _, rfl, .inl (ext_lst (x3.trans y4) e10y), fun G r sG eG => ⟨(show 3 ≤ 100000 by decide), fun G1 a1 h1 _ _ => ⟨(show 3 ≤ 100000 by decide), fun G2 a2 h2 _ _ => ⟨(show 2 ≤ 100000 by decide), fun G3 a3 h3 _ _ => ⟨.ref r, .ref a3, rfl, .inr ⟨r, _, rfl, .inl ((h1.trans (h2.trans h3)) _ _ eG), by omega, fun x hx => thing_same (sG.trans (h1.trans (h2.trans h3))) ((FY (x3.trans y4)).1 x hx), bad_sp (sG.trans (h1.trans (h2.trans h3))) (FY (x3.trans y4)).1 (FY (x3.trans y4)).2 rz⟩⟩⟩⟩⟩⟩⟩
      refine ⟨_, rfl, _, rfl, _, _, rfl, (show 1 ≤ 100000 by decide), fun O4 u4 w4 m4 f4 => ?_⟩
      rw [hm] at f4
      refine ne_one (w4 _ _ eJ4) f4 ⟨_, rfl, iteF0 rfl ?_⟩
      have x4 : ExtN K10y O4 := x3.trans (y4.trans (ext_same (sJ4.trans w4)))
      have TO4 := tabs_same U4 (sJ4.trans w4)
      refine ⟨TO4, fun L5 y5 U5 => tf_bad _ (fun J5 q5 sJ5 eJ5 => ?_) fun R E rz => ⟨_, rfl, .ref By, .non, rfl, .inl ⟨"list", .base (.lst (ext_lst (x4.trans y5) e10y)), by decide +kernel, rz⟩⟩⟩
      refine ⟨(show 1 ≤ 100000 by decide), fun O5 u5 w5 m5 f5 => ne_non1 (w5 _ _ eJ5) f5 ⟨_, rfl, iteF0 rfl ?_⟩⟩
      have x5 : ExtN K10y O5 := x4.trans (y5.trans (ext_same (sJ5.trans w5)))
      have TO5 := tabs_same U5 (sJ5.trans w5)
      have el10 : K10y l = some (.lst (as.map V.ref)) := off3 _ _ nlp el (fun ps z => nomatch z)
      have gd5 := (FG x5).1
      refine ⟨_, rfl, l, _, rfl, .inl (ext_lst x5 el10), fun G r sG eG => ⟨.ref r, .non, rfl, .inr ⟨r, _, rfl, .inl eG, by omega, fun x hx => thing_same sG (gd5 x hx).1, fun k fb => absurd (fun x hx => (diff_same sG (gd5 x hx).1).trans (gd5 x hx).2) (fb_bad fb), fun _ => ⟨.inl rfl, fun O6 s6 => ⟨false, false, rfl, rfl, _, rfl, iteF0 rfl ?_⟩⟩⟩⟩⟩
      have x6 : ExtN K10y O6 := x5.trans (ext_same (sG.trans s6))
      have TO6 := tabs_same TO5 (sG.trans s6)
      refine ⟨TO6, fun L6 y6 U6 => fun R E hR6 hE6 => ⟨_, rfl, l, as, rows, rfl, ext_lst (x6.trans y6) el10, rows_offp S3 (off3.trans (offp_ext (x6.trans y6))) hR, hg, by omega, fun full H' r o sf _ _ => hR6 _ _ fun H2 s2 => ?_, fun nf H' T0 r pp d sf _ _ _ ed => hE6 _ _ _ ⟨d, _, rfl, ed, .inl ⟨rfl, fun H2 s2 => ?_⟩⟩⟩⟩
      · have xz : ExtN K10y H2 := (x6.trans y6).trans (ext_same (sf.trans s2))
        have Tz := tabs_same U6 (sf.trans s2)
        refine ⟨_, rfl, l, as, rows, rfl, ext_lst xz el10, rows_offp S3 (off3.trans (offp_ext xz)) hR, hg, by omega, fun Z r2 sz _ _ _ _ => ⟨rfl, _, rfl, iteT0 (by rfl) ?_⟩, fun nf => absurd full nf⟩
        have x7 : ExtN K10y Z := xz.trans (ext_same sz)
        have T7 := tabs_same Tz sz
        exact ⟨.none, .none, .non, .non, rfl, rfl, _, rfl, iteF0 rfl ⟨_, _, _, _, _, _, rfl, ext_lst x7 kO10y, fun x hx => odd_kp (kp_offp kS (off1.trans (offp_ext x7))) (kod x hx), (ext_src x7 S10y).mono (by omega), T7⟩⟩
      · have xz : ExtN K10y H2 := (x6.trans y6).trans (ext_same (sf.trans s2))
        have Tz := tabs_same U6 (sf.trans s2)
        refine ⟨_, rfl, l, as, rows, rfl, ext_lst xz el10, rows_offp S3 (off3.trans (offp_ext xz)) hR, hg, by omega, fun Z r2 sz full _ _ _ => absurd full nf, fun _ Z sz => ⟨rfl, _, rfl, iteF0 (by rfl) ?_⟩⟩
        have x7 : ExtN K10y Z := xz.trans (ext_same sz)
        have T7 := tabs_same Tz sz
        exact ⟨.str "clash", .str "clash", .str _, .str _, by decide +kernel, by decide +kernel, _, rfl, iteF0 (by decide +kernel) ⟨_, _, _, _, _, _, rfl, ext_lst x7 kO10y, fun x hx => odd_kp (kp_offp kS (off1.trans (offp_ext x7))) (kod x hx), (ext_src x7 S10y).mono (by omega), T7⟩⟩
    rintro σ K1 ⟨v3, v4, v5, v6, v7, v9, rfl, kO, kod, kS, kT⟩
    refine ⟨(show 2 ≤ 100000 by decide), fun Z1 ta z1 _ f1 => ⟨(show 2 ≤ 100000 by decide), fun Z2 tb z2 _ f2 => ⟨(show 2 ≤ 100000 by decide), fun Z3 ll z3 _ f3 => fun Z4 dd z4 _ f4 => ⟨(show 6 ≤ 100000 by decide), fun Z5 T z5 _ f5 => ?_⟩⟩⟩⟩
    have T5 := tabs_same kT (z1.trans (z2.trans (z3.trans (z4.trans z5))))
    have lZ := z5 _ _ (z4 _ _ f3)
    have dZ := z5 _ _ f4
    refine ⟨T, rfl, ⟨_, SqT.of f5⟩, for_it (walk_tup (K := K) (a := T) (xs := [.non, .int 5, .str "ab", .ref ll, .ref dd, .bl true])) (fun i σ H' => ∃ v8, σ = [some (.ref a), some (.ref p), some (.ref O), v3, v4, v5, v6, v7, v8, v9] ∧ ExtN Z5 H' ∧ Tabs TL H') ⟨_, rfl, ExtN.refl _, T5⟩ (fun i σ H' _ ⟨_, _, x, _⟩ => SqT.of (ext_t x f5)) ?_ ?_⟩
    · rintro i x σ J1 J2 hi ⟨v8, rfl, x1, TT1⟩ ⟨rfl, ex⟩
      have ty : ∀ {G : Hp}, ExtN Z5 G → ∃ t, TyX K G x (.type t) ∧ kitB t "tuple" = some false := fun xG => by
        match i, ex with
        | 0, ex => cases ex; exact ⟨"NoneType", .base .non, by decide +kernel⟩
        | 1, ex => cases ex; exact ⟨"int", .base (.int 5), by decide +kernel⟩
        | 2, ex => cases ex; exact ⟨"str", .base (.str _), by decide +kernel⟩
        | 3, ex => cases ex; exact ⟨"list", .base (.lst (ext_lst xG lZ)), by decide +kernel⟩
        | 4, ex => cases ex; exact ⟨"dict", .base (.dK (xG _ _ dZ (fun ps z => nomatch z))), by decide +kernel⟩
        | 5, ex => cases ex; exact ⟨"bool", .base (.bl true), by decide +kernel⟩
        | (i + 6), ex => cases ex
      refine ⟨TT1, fun L y U => tf_bad _ (fun J q1 sJ eJ => ?_) fun R E rz => ⟨_, rfl, _, rfl, x, x, rfl, .inl (let ⟨t, h1, h2⟩ := ty (x1.trans y); ⟨t, h1, h2, rz⟩)⟩⟩
      exact ⟨(show 1 ≤ 100000 by decide), fun O5 u5 w5 m5 g5 => ne_non1 (w5 _ _ eJ) g5 ⟨_, rfl, iteF0 rfl ⟨_, rfl, x1.trans (y.trans (ext_same (sJ.trans w5))), tabs_same U (sJ.trans w5)⟩⟩⟩
    rintro σ J1 ⟨v8, rfl, x1, TT1⟩
    have none0 : ∀ {H : Hp} {i : Nat}, ¬ FirstBad H [] i := fun ⟨⟨x, e, _⟩, _⟩ => by cases e
    refine ⟨TT1, fun L y U => fun R E hR6 hE6 => ⟨(show 0 ≤ 100000 by decide), fun G1 a1 h1 _ i1 => ⟨(show 0 ≤ 100000 by decide), fun G2 a2 h2 _ i2 => ⟨.ref a1, .ref a2, rfl, .inr ⟨a1, [], rfl, .inl (h2 _ _ i1), by decide, (fun y hy => nomatch hy), fun k fb => absurd fb none0, fun _ => ⟨.inr ⟨a2, rfl, .inl i2⟩, fun G3 s3 => hR6 _ _ fun G4 s4 => ⟨rfl, _, rfl, iteT0 (decide_eq_true rfl) ?_⟩⟩⟩⟩⟩⟩⟩
    exact ⟨(show 0 ≤ 100000 by decide), fun G5 a3 h5 _ i5 => ⟨(show 0 ≤ 100000 by decide), fun G6 a4 h6 _ i6 => ⟨.ref a3, .ref a4, rfl, .inr ⟨a3, [], rfl, .inl (h6 _ _ i5), by decide, (fun y hy => nomatch hy), fun k fb => absurd fb none0, fun _ => ⟨.inr ⟨a4, rfl, .inl i6⟩, fun G7 s7 => ⟨false, false, rfl, rfl, q _⟩⟩⟩⟩⟩⟩
end
end K08

set_option Elab.async false
set_option maxRecDepth 100000
set_option maxHeartbeats 8000000
namespace K08
open PySem Nb
open L2 hiding del del_ne del_same
theorem all_mk {l : PySem.W.OpenLaw} {w : World} {K : PySem.W.Frag} {h : Heap} {mg : Str → Option Value} {fa f_law qc_law qp_law f_h_source f_h_next f_is_name f_are_names f_are_different_names f_Merge__prepare f_Merge__advance f_Merge_drop f_Merge_draw f_places f_Merge___init f_steps_to f_Merge_ring f_fewest_clash f_check_tuples f_merged f_h_mixed f_h_name_rows f_h_pick f_h_merged f_h_merged_by f_is_clash f_h_tuple_fault C_BadTuple C_Clash i_BadTuple i_Clash C_WorldError C_LimitError C_Merge : Addr} (X : K.In h) (G : h.Ns mainGlobals mg) (hfa : mg "law" = some (.ref fa))
    {TL : List (Addr × Str)}
    {odh_source anh_source odh_next anh_next odis_name anis_name odare_names anare_names odare_different_names anare_different_names odMerge__prepare anMerge__prepare odMerge__advance anMerge__advance odMerge_drop anMerge_drop odMerge_draw anMerge_draw odplaces anplaces odMerge___init anMerge___init odsteps_to ansteps_to odMerge_ring anMerge_ring odfewest_clash anfewest_clash odcheck_tuples ancheck_tuples odmerged anmerged odh_mixed anh_mixed odh_name_rows anh_name_rows odh_pick anh_pick odh_merged anh_merged odh_merged_by anh_merged_by odis_clash anis_clash odh_tuple_fault anh_tuple_fault odlaw anlaw odIBadTuple anIBadTuple odIClash anIClash : Option Addr}
    {slh_source slh_next slis_name slare_names slare_different_names slMerge__prepare slMerge__advance slMerge_drop slMerge_draw slplaces slMerge___init slsteps_to slMerge_ring slfewest_clash slcheck_tuples slmerged slh_mixed slh_name_rows slh_pick slh_merged slh_merged_by slis_clash slh_tuple_fault sllaw slIBadTuple slIClash : Array (Option Value)}
    {och_source kVh_source dch_source pmh_source cdh_source cth_source och_next kVh_next dch_next pmh_next cdh_next cth_next ocis_name kVis_name dcis_name pmis_name cdis_name ctis_name ocare_names kVare_names dcare_names pmare_names cdare_names ctare_names ocare_different_names kVare_different_names dcare_different_names pmare_different_names cdare_different_names ctare_different_names ocMerge__prepare kVMerge__prepare dcMerge__prepare pmMerge__prepare cdMerge__prepare ctMerge__prepare ocMerge__advance kVMerge__advance dcMerge__advance pmMerge__advance cdMerge__advance ctMerge__advance ocMerge_drop kVMerge_drop dcMerge_drop pmMerge_drop cdMerge_drop ctMerge_drop ocMerge_draw kVMerge_draw dcMerge_draw pmMerge_draw cdMerge_draw ctMerge_draw ocplaces kVplaces dcplaces pmplaces cdplaces ctplaces ocMerge___init kVMerge___init dcMerge___init pmMerge___init cdMerge___init ctMerge___init ocsteps_to kVsteps_to dcsteps_to pmsteps_to cdsteps_to ctsteps_to ocMerge_ring kVMerge_ring dcMerge_ring pmMerge_ring cdMerge_ring ctMerge_ring ocfewest_clash kVfewest_clash dcfewest_clash pmfewest_clash cdfewest_clash ctfewest_clash occheck_tuples kVcheck_tuples dccheck_tuples pmcheck_tuples cdcheck_tuples ctcheck_tuples ocmerged kVmerged dcmerged pmmerged cdmerged ctmerged och_mixed kVh_mixed dch_mixed pmh_mixed cdh_mixed cth_mixed och_name_rows kVh_name_rows dch_name_rows pmh_name_rows cdh_name_rows cth_name_rows och_pick kVh_pick dch_pick pmh_pick cdh_pick cth_pick och_merged kVh_merged dch_merged pmh_merged cdh_merged cth_merged och_merged_by kVh_merged_by dch_merged_by pmh_merged_by cdh_merged_by cth_merged_by ocis_clash kVis_clash dcis_clash pmis_clash cdis_clash ctis_clash och_tuple_fault kVh_tuple_fault dch_tuple_fault pmh_tuple_fault cdh_tuple_fault cth_tuple_fault oclaw kVlaw dclaw pmlaw  ctlaw ocIBadTuple kVIBadTuple dcIBadTuple pmIBadTuple cdIBadTuple ctIBadTuple ocIClash kVIClash dcIClash pmIClash cdIClash ctIClash : Value}
    {t_LONGEST_NAME t_FEWEST_STEPS : Tok}
    (a_Merge : PySem.W.nsIn K mainGlobals "Merge" = some (some (.ref C_Merge)))
    (pg_Merge : PySem.W.plainGet K C_Merge Str.empty = true)
    (hd_Merge : PySem.W.hasDictIn K C_Merge = true)
    (po_Merge : PySem.W.plainOver K C_Merge = true)
    (sa_Merge : PySem.W.findIn K (.ref C_Merge) "__setattr__" = some (some (.builtin "object.__setattr__")))
    (nf_Merge_rows : PySem.W.findIn K (.ref C_Merge) "rows" = some none)
    (nf_Merge_places : PySem.W.findIn K (.ref C_Merge) "places" = some none)
    (nf_Merge_gone : PySem.W.findIn K (.ref C_Merge) "gone" = some none)
    (nf_Merge_heads : PySem.W.findIn K (.ref C_Merge) "heads" = some none)
    (nf_Merge_behind : PySem.W.findIn K (.ref C_Merge) "behind" = some none)
    (nf_Merge_ready : PySem.W.findIn K (.ref C_Merge) "ready" = some none)
    (mk_Merge : PySem.W.makesIn K C_Merge = true)
    (kc_Merge : PySem.W.keepIn K (.ref C_Merge) = true)
    (a_h_source : PySem.W.nsIn K mainGlobals "_law_source" = some (some (.ref f_h_source)))
    (l_h_source : K.lookup f_h_source = some ⟨och_source, odh_source, .func (PySem.W.fnOf "_law_source" "_law_source" (defArgs s_h_source) (defBody s_h_source) (defScope s_h_source) .none kVh_source dch_source pmh_source anh_source cdh_source cth_source), slh_source⟩)
    (c_h_source : PySem.W.codeIn K cdh_source "_law_source" = true)
    (k_h_source : PySem.W.keepIn K (.ref f_h_source) = true)
    (a_h_next : PySem.W.nsIn K mainGlobals "_law_next" = some (some (.ref f_h_next)))
    (l_h_next : K.lookup f_h_next = some ⟨och_next, odh_next, .func (PySem.W.fnOf "_law_next" "_law_next" (defArgs s_h_next) (defBody s_h_next) (defScope s_h_next) .none kVh_next dch_next pmh_next anh_next cdh_next cth_next), slh_next⟩)
    (c_h_next : PySem.W.codeIn K cdh_next "_law_next" = true)
    (k_h_next : PySem.W.keepIn K (.ref f_h_next) = true)
    (a_is_name : PySem.W.nsIn K mainGlobals "is_name" = some (some (.ref f_is_name)))
    (l_is_name : K.lookup f_is_name = some ⟨ocis_name, odis_name, .func (PySem.W.fnOf "is_name" "is_name" (defArgs s_is_name) (defBody s_is_name) (defScope s_is_name) .none kVis_name dcis_name pmis_name anis_name cdis_name ctis_name), slis_name⟩)
    (c_is_name : PySem.W.codeIn K cdis_name "is_name" = true)
    (k_is_name : PySem.W.keepIn K (.ref f_is_name) = true)
    (a_are_names : PySem.W.nsIn K mainGlobals "are_names" = some (some (.ref f_are_names)))
    (l_are_names : K.lookup f_are_names = some ⟨ocare_names, odare_names, .func (PySem.W.fnOf "are_names" "are_names" (defArgs s_are_names) (defBody s_are_names) (defScope s_are_names) .none kVare_names dcare_names pmare_names anare_names cdare_names ctare_names), slare_names⟩)
    (c_are_names : PySem.W.codeIn K cdare_names "are_names" = true)
    (k_are_names : PySem.W.keepIn K (.ref f_are_names) = true)
    (a_are_different_names : PySem.W.nsIn K mainGlobals "are_different_names" = some (some (.ref f_are_different_names)))
    (l_are_different_names : K.lookup f_are_different_names = some ⟨ocare_different_names, odare_different_names, .func (PySem.W.fnOf "are_different_names" "are_different_names" (defArgs s_are_different_names) (defBody s_are_different_names) (defScope s_are_different_names) .none kVare_different_names dcare_different_names pmare_different_names anare_different_names cdare_different_names ctare_different_names), slare_different_names⟩)
    (c_are_different_names : PySem.W.codeIn K cdare_different_names "are_different_names" = true)
    (k_are_different_names : PySem.W.keepIn K (.ref f_are_different_names) = true)
    (a_Merge__prepare : PySem.W.findIn K (.ref C_Merge) "_prepare" = some (some (.ref f_Merge__prepare)))
    (if_Merge__prepare : PySem.W.isFn K (.ref f_Merge__prepare) = true)
    (l_Merge__prepare : K.lookup f_Merge__prepare = some ⟨ocMerge__prepare, odMerge__prepare, .func (PySem.W.fnOf "_prepare" "Merge._prepare" (defArgs s_Merge__prepare) (defBody s_Merge__prepare) (defScope s_Merge__prepare) .none kVMerge__prepare dcMerge__prepare pmMerge__prepare anMerge__prepare cdMerge__prepare ctMerge__prepare), slMerge__prepare⟩)
    (c_Merge__prepare : PySem.W.codeIn K cdMerge__prepare "Merge._prepare" = true)
    (k_Merge__prepare : PySem.W.keepIn K (.ref f_Merge__prepare) = true)
    (a_Merge__advance : PySem.W.findIn K (.ref C_Merge) "_advance" = some (some (.ref f_Merge__advance)))
    (if_Merge__advance : PySem.W.isFn K (.ref f_Merge__advance) = true)
    (l_Merge__advance : K.lookup f_Merge__advance = some ⟨ocMerge__advance, odMerge__advance, .func (PySem.W.fnOf "_advance" "Merge._advance" (defArgs s_Merge__advance) (defBody s_Merge__advance) (defScope s_Merge__advance) .none kVMerge__advance dcMerge__advance pmMerge__advance anMerge__advance cdMerge__advance ctMerge__advance), slMerge__advance⟩)
    (c_Merge__advance : PySem.W.codeIn K cdMerge__advance "Merge._advance" = true)
    (k_Merge__advance : PySem.W.keepIn K (.ref f_Merge__advance) = true)
    (a_Merge_drop : PySem.W.findIn K (.ref C_Merge) "drop" = some (some (.ref f_Merge_drop)))
    (if_Merge_drop : PySem.W.isFn K (.ref f_Merge_drop) = true)
    (l_Merge_drop : K.lookup f_Merge_drop = some ⟨ocMerge_drop, odMerge_drop, .func (PySem.W.fnOf "drop" "Merge.drop" (defArgs s_Merge_drop) (defBody s_Merge_drop) (defScope s_Merge_drop) .none kVMerge_drop dcMerge_drop pmMerge_drop anMerge_drop cdMerge_drop ctMerge_drop), slMerge_drop⟩)
    (c_Merge_drop : PySem.W.codeIn K cdMerge_drop "Merge.drop" = true)
    (k_Merge_drop : PySem.W.keepIn K (.ref f_Merge_drop) = true)
    (a_Merge_draw : PySem.W.findIn K (.ref C_Merge) "draw" = some (some (.ref f_Merge_draw)))
    (if_Merge_draw : PySem.W.isFn K (.ref f_Merge_draw) = true)
    (l_Merge_draw : K.lookup f_Merge_draw = some ⟨ocMerge_draw, odMerge_draw, .func (PySem.W.fnOf "draw" "Merge.draw" (defArgs s_Merge_draw) (defBody s_Merge_draw) (defScope s_Merge_draw) .none kVMerge_draw dcMerge_draw pmMerge_draw anMerge_draw cdMerge_draw ctMerge_draw), slMerge_draw⟩)
    (c_Merge_draw : PySem.W.codeIn K cdMerge_draw "Merge.draw" = true)
    (k_Merge_draw : PySem.W.keepIn K (.ref f_Merge_draw) = true)
    (a_places : PySem.W.nsIn K mainGlobals "_places" = some (some (.ref f_places)))
    (l_places : K.lookup f_places = some ⟨ocplaces, odplaces, .func (PySem.W.fnOf "_places" "_places" (defArgs s_places) (defBody s_places) (defScope s_places) .none kVplaces dcplaces pmplaces anplaces cdplaces ctplaces), slplaces⟩)
    (c_places : PySem.W.codeIn K cdplaces "_places" = true)
    (k_places : PySem.W.keepIn K (.ref f_places) = true)
    (a_Merge___init : PySem.W.findIn K (.ref C_Merge) "__init__" = some (some (.ref f_Merge___init)))
    (if_Merge___init : PySem.W.isFn K (.ref f_Merge___init) = true)
    (l_Merge___init : K.lookup f_Merge___init = some ⟨ocMerge___init, odMerge___init, .func (PySem.W.fnOf "__init__" "Merge.__init__" (defArgs s_Merge___init) (defBody s_Merge___init) (defScope s_Merge___init) .none kVMerge___init dcMerge___init pmMerge___init anMerge___init cdMerge___init ctMerge___init), slMerge___init⟩)
    (c_Merge___init : PySem.W.codeIn K cdMerge___init "Merge.__init__" = true)
    (k_Merge___init : PySem.W.keepIn K (.ref f_Merge___init) = true)
    (a_steps_to : PySem.W.nsIn K mainGlobals "_steps_to" = some (some (.ref f_steps_to)))
    (l_steps_to : K.lookup f_steps_to = some ⟨ocsteps_to, odsteps_to, .func (PySem.W.fnOf "_steps_to" "_steps_to" (defArgs s_steps_to) (defBody s_steps_to) (defScope s_steps_to) .none kVsteps_to dcsteps_to pmsteps_to ansteps_to cdsteps_to ctsteps_to), slsteps_to⟩)
    (c_steps_to : PySem.W.codeIn K cdsteps_to "_steps_to" = true)
    (k_steps_to : PySem.W.keepIn K (.ref f_steps_to) = true)
    (a_Merge_ring : PySem.W.findIn K (.ref C_Merge) "ring" = some (some (.ref f_Merge_ring)))
    (if_Merge_ring : PySem.W.isFn K (.ref f_Merge_ring) = true)
    (l_Merge_ring : K.lookup f_Merge_ring = some ⟨ocMerge_ring, odMerge_ring, .func (PySem.W.fnOf "ring" "Merge.ring" (defArgs s_Merge_ring) (defBody s_Merge_ring) (defScope s_Merge_ring) .none kVMerge_ring dcMerge_ring pmMerge_ring anMerge_ring cdMerge_ring ctMerge_ring), slMerge_ring⟩)
    (c_Merge_ring : PySem.W.codeIn K cdMerge_ring "Merge.ring" = true)
    (k_Merge_ring : PySem.W.keepIn K (.ref f_Merge_ring) = true)
    (a_fewest_clash : PySem.W.nsIn K mainGlobals "_fewest_clash" = some (some (.ref f_fewest_clash)))
    (l_fewest_clash : K.lookup f_fewest_clash = some ⟨ocfewest_clash, odfewest_clash, .func (PySem.W.fnOf "_fewest_clash" "_fewest_clash" (defArgs s_fewest_clash) (defBody s_fewest_clash) (defScope s_fewest_clash) .none kVfewest_clash dcfewest_clash pmfewest_clash anfewest_clash cdfewest_clash ctfewest_clash), slfewest_clash⟩)
    (c_fewest_clash : PySem.W.codeIn K cdfewest_clash "_fewest_clash" = true)
    (k_fewest_clash : PySem.W.keepIn K (.ref f_fewest_clash) = true)
    (a_check_tuples : PySem.W.nsIn K mainGlobals "_check_tuples" = some (some (.ref f_check_tuples)))
    (l_check_tuples : K.lookup f_check_tuples = some ⟨occheck_tuples, odcheck_tuples, .func (PySem.W.fnOf "_check_tuples" "_check_tuples" (defArgs s_check_tuples) (defBody s_check_tuples) (defScope s_check_tuples) .none kVcheck_tuples dccheck_tuples pmcheck_tuples ancheck_tuples cdcheck_tuples ctcheck_tuples), slcheck_tuples⟩)
    (c_check_tuples : PySem.W.codeIn K cdcheck_tuples "_check_tuples" = true)
    (k_check_tuples : PySem.W.keepIn K (.ref f_check_tuples) = true)
    (a_merged : PySem.W.nsIn K mainGlobals "merged" = some (some (.ref f_merged)))
    (l_merged : K.lookup f_merged = some ⟨ocmerged, odmerged, .func (PySem.W.fnOf "merged" "merged" (defArgs s_merged) (defBody s_merged) (defScope s_merged) .none kVmerged dcmerged pmmerged anmerged cdmerged ctmerged), slmerged⟩)
    (c_merged : PySem.W.codeIn K cdmerged "merged" = true)
    (k_merged : PySem.W.keepIn K (.ref f_merged) = true)
    (a_h_mixed : PySem.W.nsIn K mainGlobals "_law_mixed" = some (some (.ref f_h_mixed)))
    (l_h_mixed : K.lookup f_h_mixed = some ⟨och_mixed, odh_mixed, .func (PySem.W.fnOf "_law_mixed" "_law_mixed" (defArgs s_h_mixed) (defBody s_h_mixed) (defScope s_h_mixed) .none kVh_mixed dch_mixed pmh_mixed anh_mixed cdh_mixed cth_mixed), slh_mixed⟩)
    (c_h_mixed : PySem.W.codeIn K cdh_mixed "_law_mixed" = true)
    (k_h_mixed : PySem.W.keepIn K (.ref f_h_mixed) = true)
    (a_h_name_rows : PySem.W.nsIn K mainGlobals "_law_name_rows" = some (some (.ref f_h_name_rows)))
    (l_h_name_rows : K.lookup f_h_name_rows = some ⟨och_name_rows, odh_name_rows, .func (PySem.W.fnOf "_law_name_rows" "_law_name_rows" (defArgs s_h_name_rows) (defBody s_h_name_rows) (defScope s_h_name_rows) .none kVh_name_rows dch_name_rows pmh_name_rows anh_name_rows cdh_name_rows cth_name_rows), slh_name_rows⟩)
    (c_h_name_rows : PySem.W.codeIn K cdh_name_rows "_law_name_rows" = true)
    (k_h_name_rows : PySem.W.keepIn K (.ref f_h_name_rows) = true)
    (a_h_pick : PySem.W.nsIn K mainGlobals "_law_pick" = some (some (.ref f_h_pick)))
    (l_h_pick : K.lookup f_h_pick = some ⟨och_pick, odh_pick, .func (PySem.W.fnOf "_law_pick" "_law_pick" (defArgs s_h_pick) (defBody s_h_pick) (defScope s_h_pick) .none kVh_pick dch_pick pmh_pick anh_pick cdh_pick cth_pick), slh_pick⟩)
    (c_h_pick : PySem.W.codeIn K cdh_pick "_law_pick" = true)
    (k_h_pick : PySem.W.keepIn K (.ref f_h_pick) = true)
    (a_h_merged : PySem.W.nsIn K mainGlobals "_law_merged" = some (some (.ref f_h_merged)))
    (l_h_merged : K.lookup f_h_merged = some ⟨och_merged, odh_merged, .func (PySem.W.fnOf "_law_merged" "_law_merged" (defArgs s_h_merged) (defBody s_h_merged) (defScope s_h_merged) .none kVh_merged dch_merged pmh_merged anh_merged cdh_merged cth_merged), slh_merged⟩)
    (c_h_merged : PySem.W.codeIn K cdh_merged "_law_merged" = true)
    (k_h_merged : PySem.W.keepIn K (.ref f_h_merged) = true)
    (a_h_merged_by : PySem.W.nsIn K mainGlobals "_law_merged_by" = some (some (.ref f_h_merged_by)))
    (l_h_merged_by : K.lookup f_h_merged_by = some ⟨och_merged_by, odh_merged_by, .func (PySem.W.fnOf "_law_merged_by" "_law_merged_by" (defArgs s_h_merged_by) (defBody s_h_merged_by) (defScope s_h_merged_by) .none kVh_merged_by dch_merged_by pmh_merged_by anh_merged_by cdh_merged_by cth_merged_by), slh_merged_by⟩)
    (c_h_merged_by : PySem.W.codeIn K cdh_merged_by "_law_merged_by" = true)
    (k_h_merged_by : PySem.W.keepIn K (.ref f_h_merged_by) = true)
    (a_is_clash : PySem.W.nsIn K mainGlobals "is_clash" = some (some (.ref f_is_clash)))
    (l_is_clash : K.lookup f_is_clash = some ⟨ocis_clash, odis_clash, .func (PySem.W.fnOf "is_clash" "is_clash" (defArgs s_is_clash) (defBody s_is_clash) (defScope s_is_clash) .none kVis_clash dcis_clash pmis_clash anis_clash cdis_clash ctis_clash), slis_clash⟩)
    (c_is_clash : PySem.W.codeIn K cdis_clash "is_clash" = true)
    (k_is_clash : PySem.W.keepIn K (.ref f_is_clash) = true)
    (a_h_tuple_fault : PySem.W.nsIn K mainGlobals "_law_tuple_fault" = some (some (.ref f_h_tuple_fault)))
    (l_h_tuple_fault : K.lookup f_h_tuple_fault = some ⟨och_tuple_fault, odh_tuple_fault, .func (PySem.W.fnOf "_law_tuple_fault" "_law_tuple_fault" (defArgs s_h_tuple_fault) (defBody s_h_tuple_fault) (defScope s_h_tuple_fault) .none kVh_tuple_fault dch_tuple_fault pmh_tuple_fault anh_tuple_fault cdh_tuple_fault cth_tuple_fault), slh_tuple_fault⟩)
    (c_h_tuple_fault : PySem.W.codeIn K cdh_tuple_fault "_law_tuple_fault" = true)
    (k_h_tuple_fault : PySem.W.keepIn K (.ref f_h_tuple_fault) = true)
    (a_law : PySem.W.nsIn K mainGlobals "law" = some (some (.ref f_law)))
    (l_law : K.lookup f_law = some ⟨oclaw, odlaw, .func (PySem.W.fnOf "law" "law" (defArgs s_law) (defBody s_law) (defScope s_law) .none kVlaw dclaw pmlaw anlaw (.ref qc_law) ctlaw), sllaw⟩)
    (c_law : PySem.W.codeIn K (.ref qc_law) "law" = true)
    (k_law : PySem.W.keepIn K (.ref f_law) = true)
    (a_BadTuple : PySem.W.nsIn K mainGlobals "BadTuple" = some (some (.ref C_BadTuple)))
    (e_BadTuple : errB K C_BadTuple [.type "ValueError", .type "Exception", .type "BaseException", .type "object"] "ValueError.__new__" ["index"] = true)
    (n_BadTuple : PySem.W.findIn K (.ref C_BadTuple) "__init__" = some (some (.ref i_BadTuple)))
    (t_BadTuple : PySem.W.typeIn K (.ref i_BadTuple) = some (.type "function"))
    (l_IBadTuple : K.lookup i_BadTuple = some ⟨ocIBadTuple, odIBadTuple, .func (PySem.W.fnOf "__init__" "BadTuple.__init__" (defArgs sI_BadTuple) (defBody sI_BadTuple) (defScope sI_BadTuple) .none kVIBadTuple dcIBadTuple pmIBadTuple anIBadTuple cdIBadTuple ctIBadTuple), slIBadTuple⟩)
    (c_IBadTuple : PySem.W.codeIn K cdIBadTuple "BadTuple.__init__" = true)
    (k_IBadTuple : PySem.W.keepIn K (.ref i_BadTuple) = true)
    (a_Clash : PySem.W.nsIn K mainGlobals "Clash" = some (some (.ref C_Clash)))
    (e_Clash : errB K C_Clash [.type "ArithmeticError", .type "Exception", .type "BaseException", .type "object"] "ArithmeticError.__new__" ["name", "tuples", "steps"] = true)
    (n_Clash : PySem.W.findIn K (.ref C_Clash) "__init__" = some (some (.ref i_Clash)))
    (t_Clash : PySem.W.typeIn K (.ref i_Clash) = some (.type "function"))
    (l_IClash : K.lookup i_Clash = some ⟨ocIClash, odIClash, .func (PySem.W.fnOf "__init__" "Clash.__init__" (defArgs sI_Clash) (defBody sI_Clash) (defScope sI_Clash) .none kVIClash dcIClash pmIClash anIClash cdIClash ctIClash), slIClash⟩)
    (c_IClash : PySem.W.codeIn K cdIClash "Clash.__init__" = true)
    (k_IClash : PySem.W.keepIn K (.ref i_Clash) = true)
    (a_WorldError : PySem.W.nsIn K mainGlobals "WorldError" = some (some (.ref C_WorldError)))
    (a_LimitError : PySem.W.nsIn K mainGlobals "LimitError" = some (some (.ref C_LimitError)))
    (z_len : PySem.W.nsIn K mainGlobals "len" = some none)
    (z_isinstance : PySem.W.nsIn K mainGlobals "isinstance" = some none)
    (z_str : PySem.W.nsIn K mainGlobals "str" = some none)
    (z_tuple : PySem.W.nsIn K mainGlobals "tuple" = some none)
    (z_all : PySem.W.nsIn K mainGlobals "all" = some none)
    (z_set : PySem.W.nsIn K mainGlobals "set" = some none)
    (z_list : PySem.W.nsIn K mainGlobals "list" = some none)
    (z_range : PySem.W.nsIn K mainGlobals "range" = some none)
    (z_enumerate : PySem.W.nsIn K mainGlobals "enumerate" = some none)
    (z_repr : PySem.W.nsIn K mainGlobals "repr" = some none)
    (z_max : PySem.W.nsIn K mainGlobals "max" = some none)
    (z_min : PySem.W.nsIn K mainGlobals "min" = some none)
    (z_sorted : PySem.W.nsIn K mainGlobals "sorted" = some none)
    (z_int : PySem.W.nsIn K mainGlobals "int" = some none)
    (z_bool : PySem.W.nsIn K mainGlobals "bool" = some none)
    (mm_LONGEST_NAME : PySem.W.nsIn K mainGlobals "_LONGEST_NAME" = some (some (.int 8 t_LONGEST_NAME)))
    (mm_FEWEST_STEPS : PySem.W.nsIn K mainGlobals "_FEWEST_STEPS" = some (some (.int 2 t_FEWEST_STEPS)))
    (hm_law : (qp_law, (("law" : Str) ++ ".<locals>.") ++ "<lambda>") ∈ TL)
    (hu_law : ∀ p ∈ TL, p.1 = qp_law → p.2 = (("law" : Str) ++ ".<locals>.") ++ "<lambda>")
    (kt : PySem.W.kitOne K (.ref C_Clash) (.ref C_Clash) = some true)
    (kf : PySem.W.kitOne K (.ref C_BadTuple) (.ref C_Clash) = some false)
    (kb : PySem.W.kitOne K (.ref C_BadTuple) (.ref C_BadTuple) = some true)
    (mt0 : ([C_Clash, C_BadTuple].all fun c => PySem.W.exmAny K (.ref c) [.ref C_WorldError, .ref C_Clash] == some true) = true) :
    ∃ fd : FuncData, (∀ (s : Shared) (v : Value), BindsTo s fd ⟨[v], []⟩ [("_law_script", v)]) ∧ ∀ base : Heap, K.In base → base.Ns mainGlobals mg → (∀ q ∈ [(qc_law, qp_law)], LamX.TabB base mg q.1 q.2) → RunsG l.prog w K mg base CX0 17 fa fd ["_law_script"] (spLawT K TL) := by
  have e := hfa.symm.trans (PySem.W.mg_of X G a_law)
  cases e
  have F_h_source := fun_mk (st := s_h_source) l_h_source c_h_source k_h_source
  have b_h_source := F_h_source.binds (ps := ["_law_script", "_law_k"]) fun _ _ _ _ _ _ us hl => match us, hl with | [_, _], _ => rfl
  have F_h_next := fun_mk (st := s_h_next) l_h_next c_h_next k_h_next
  have b_h_next := F_h_next.binds (ps := ["_law_source_here", "_law_many"]) fun _ _ _ _ _ _ us hl => match us, hl with | [_, _], _ => rfl
  have F_is_name := fun_mk (st := s_is_name) l_is_name c_is_name k_is_name
  have b_is_name := F_is_name.binds (ps := ["thing"]) fun _ _ _ _ _ _ us hl => match us, hl with | [_], _ => rfl
  have F_are_names := fun_mk (st := s_are_names) l_are_names c_are_names k_are_names
  have b_are_names := F_are_names.binds (ps := ["thing"]) fun _ _ _ _ _ _ us hl => match us, hl with | [_], _ => rfl
  have F_are_different_names := fun_mk (st := s_are_different_names) l_are_different_names c_are_different_names k_are_different_names
  have b_are_different_names := F_are_different_names.binds (ps := ["thing"]) fun _ _ _ _ _ _ us hl => match us, hl with | [_], _ => rfl
  have F_Merge__prepare := fun_mk (st := s_Merge__prepare) l_Merge__prepare c_Merge__prepare k_Merge__prepare
  have b_Merge__prepare := F_Merge__prepare.binds (ps := ["self", "name"]) fun _ _ _ _ _ _ us hl => match us, hl with | [_, _], _ => rfl
  have F_Merge__advance := fun_mk (st := s_Merge__advance) l_Merge__advance c_Merge__advance k_Merge__advance
  have b_Merge__advance := F_Merge__advance.binds (ps := ["self", "index"]) fun _ _ _ _ _ _ us hl => match us, hl with | [_, _], _ => rfl
  have F_Merge_drop := fun_mk (st := s_Merge_drop) l_Merge_drop c_Merge_drop k_Merge_drop
  have b_Merge_drop := F_Merge_drop.binds (ps := ["self", "name"]) fun _ _ _ _ _ _ us hl => match us, hl with | [_, _], _ => rfl
  have F_Merge_draw := fun_mk (st := s_Merge_draw) l_Merge_draw c_Merge_draw k_Merge_draw
  have b_Merge_draw := F_Merge_draw.binds (ps := ["self"]) fun _ _ _ _ _ _ us hl => match us, hl with | [_], _ => rfl
  have F_places := fun_mk (st := s_places) l_places c_places k_places
  have b_places := F_places.binds (ps := ["rows"]) fun _ _ _ _ _ _ us hl => match us, hl with | [_], _ => rfl
  have F_Merge___init := fun_mk (st := s_Merge___init) l_Merge___init c_Merge___init k_Merge___init
  have b_Merge___init := F_Merge___init.binds (ps := ["self", "rows"]) fun _ _ _ _ _ _ us hl => match us, hl with | [_, _], _ => rfl
  have F_steps_to := fun_mk (st := s_steps_to) l_steps_to c_steps_to k_steps_to
  have b_steps_to := F_steps_to.binds (ps := ["steps", "name"]) fun _ _ _ _ _ _ us hl => match us, hl with | [_, _], _ => rfl
  have F_Merge_ring := fun_mk (st := s_Merge_ring) l_Merge_ring c_Merge_ring k_Merge_ring
  have b_Merge_ring := F_Merge_ring.binds (ps := ["self", "start", "limit"]) fun _ _ _ _ _ _ us hl => match us, hl with | [_, _, _], _ => rfl
  have F_fewest_clash := fun_mk (st := s_fewest_clash) l_fewest_clash c_fewest_clash k_fewest_clash
  have b_fewest_clash := F_fewest_clash.binds (ps := ["merge"]) fun _ _ _ _ _ _ us hl => match us, hl with | [_], _ => rfl
  have F_check_tuples := fun_mk (st := s_check_tuples) l_check_tuples c_check_tuples k_check_tuples
  have b_check_tuples := F_check_tuples.binds (ps := ["tuples"]) fun _ _ _ _ _ _ us hl => match us, hl with | [_], _ => rfl
  have F_merged := fun_mk (st := s_merged) l_merged c_merged k_merged
  have F_h_mixed := fun_mk (st := s_h_mixed) l_h_mixed c_h_mixed k_h_mixed
  have b_h_mixed := F_h_mixed.binds (ps := ["_law_source_here", "_law_items"]) fun _ _ _ _ _ _ us hl => match us, hl with | [_, _], _ => rfl
  have F_h_name_rows := fun_mk (st := s_h_name_rows) l_h_name_rows c_h_name_rows k_h_name_rows
  have b_h_name_rows := F_h_name_rows.binds (ps := ["_law_source_here", "_law_many", "_law_most", "_law_is_free"]) fun _ _ _ _ _ _ us hl => match us, hl with | [_, _, _, _], _ => rfl
  have F_h_pick := fun_mk (st := s_h_pick) l_h_pick c_h_pick k_h_pick
  have b_h_pick := F_h_pick.binds (ps := ["_law_source_here", "_law_items"]) fun _ _ _ _ _ _ us hl => match us, hl with | [_, _], _ => rfl
  have F_h_merged := fun_mk (st := s_h_merged) l_h_merged c_h_merged k_h_merged
  have b_h_merged := F_h_merged.binds (ps := ["_law_lists"]) fun _ _ _ _ _ _ us hl => match us, hl with | [_], _ => rfl
  have F_h_merged_by := fun_mk (st := s_h_merged_by) l_h_merged_by c_h_merged_by k_h_merged_by
  have b_h_merged_by := F_h_merged_by.binds (ps := ["_law_rows"]) fun _ _ _ _ _ _ us hl => match us, hl with | [_], _ => rfl
  have F_is_clash := fun_mk (st := s_is_clash) l_is_clash c_is_clash k_is_clash
  have b_is_clash := F_is_clash.binds (ps := ["tuples", "thing"]) fun _ _ _ _ _ _ us hl => match us, hl with | [_, _], _ => rfl
  have F_h_tuple_fault := fun_mk (st := s_h_tuple_fault) l_h_tuple_fault c_h_tuple_fault k_h_tuple_fault
  have b_h_tuple_fault := F_h_tuple_fault.binds (ps := ["_law_action"]) fun _ _ _ _ _ _ us hl => match us, hl with | [_], _ => rfl
  have F_law := fun_mk (st := s_law) l_law c_law k_law
  have F_IBadTuple := fun_mk (st := sI_BadTuple) l_IBadTuple c_IBadTuple k_IBadTuple
  have b_IBadTuple := F_IBadTuple.binds (ps := ["self", "index"]) fun _ _ _ _ _ _ us hl => match us, hl with | [_, _], _ => rfl
  have F_IClash := fun_mk (st := sI_Clash) l_IClash c_IClash k_IClash
  have b_IClash := F_IClash.binds (ps := ["self", "name", "tuples", "steps"]) fun _ _ _ _ _ _ us hl => match us, hl with | [_, _, _, _], _ => rfl
  have g_WorldError := PySem.W.mg_of X G a_WorldError
  have g_LimitError := PySem.W.mg_of X G a_LimitError
  have T : Txt mg := ⟨PySem.W.mg_none_of X G z_len, PySem.W.mg_none_of X G z_isinstance, PySem.W.mg_none_of X G z_str, PySem.W.mg_none_of X G z_tuple, PySem.W.mg_none_of X G z_all, PySem.W.mg_none_of X G z_set, PySem.W.mg_none_of X G z_list, PySem.W.mg_none_of X G z_range, PySem.W.mg_none_of X G z_enumerate, PySem.W.mg_none_of X G z_repr, PySem.W.mg_none_of X G z_max, PySem.W.mg_none_of X G z_min, PySem.W.mg_none_of X G z_sorted, PySem.W.mg_none_of X G z_int, PySem.W.mg_none_of X G z_bool⟩
  have m_LONGEST_NAME := PySem.W.mg_of X G mm_LONGEST_NAME
  have m_FEWEST_STEPS := PySem.W.mg_of X G mm_FEWEST_STEPS
  refine ⟨PySem.W.fnOf "law" "law" (defArgs s_law) (defBody s_law) (defScope s_law) .none kVlaw dclaw pmlaw anlaw (.ref qc_law) ctlaw, fun s v => .of_eq rfl, fun base _ _ TBs => ?_⟩
  have E_BadTuple : Er l.prog w K mg base "BadTuple" C_BadTuple ["index"] := er_mk overV (PySem.W.mg_of X G a_BadTuple) e_BadTuple n_BadTuple t_BadTuple b_IBadTuple (okI_BadTuple F_IBadTuple) (by decide) (by decide)
  have E_Clash : Er l.prog w K mg base "Clash" C_Clash ["name", "tuples", "steps"] := er_mk overA (PySem.W.mg_of X G a_Clash) e_Clash n_Clash t_Clash b_IClash (okI_Clash F_IClash) (by decide) (by decide)
  have K_Merge : Kl K mg "Merge" C_Merge ["rows", "places", "gone", "heads", "behind", "ready"] := ⟨⟨pg_Merge, hd_Merge, po_Merge, sa_Merge⟩, PySem.W.mg_of X G a_Merge, (List.forall_mem_cons.mpr ⟨nf_Merge_rows, (List.forall_mem_cons.mpr ⟨nf_Merge_places, (List.forall_mem_cons.mpr ⟨nf_Merge_gone, (List.forall_mem_cons.mpr ⟨nf_Merge_heads, (List.forall_mem_cons.mpr ⟨nf_Merge_behind, (List.forall_mem_cons.mpr ⟨nf_Merge_ready, (fun _ h => nomatch h)⟩)⟩)⟩)⟩)⟩)⟩)⟩
  have mt : ∀ c ∈ [C_Clash, C_BadTuple], PySem.W.exmAny K (.ref c) [.ref C_WorldError, .ref C_Clash] = some true := fun c hc => eq_of_beq (List.all_eq_true.mp mt0 c hc)
  have TB_law := TBs (qc_law, qp_law) (by simp)
  have D_h_source : Dn l.prog w K mg base CX0 1 "_law_source" ["_law_script", "_law_k"] (spSource K) := ⟨f_h_source, _, k_h_source, b_h_source, PySem.W.mg_of X G a_h_source, ok_h_source F_h_source T⟩
  have D_h_next : Dn l.prog w K mg base CX0 1 "_law_next" ["_law_source_here", "_law_many"] (spNext) := ⟨f_h_next, _, k_h_next, b_h_next, PySem.W.mg_of X G a_h_next, ok_h_next F_h_next T⟩
  have D_is_name : Dn l.prog w K mg base CX0 1 "is_name" ["thing"] (spName K) := ⟨f_is_name, _, k_is_name, b_is_name, PySem.W.mg_of X G a_is_name, ok_is_name F_is_name T m_LONGEST_NAME⟩
  have D_are_names : Dn l.prog w K mg base CX0 2 "are_names" ["thing"] (spOf K namesV) := ⟨f_are_names, _, k_are_names, b_are_names, PySem.W.mg_of X G a_are_names, ok_are_names F_are_names T D_is_name⟩
  have D_are_different_names : Dn l.prog w K mg base CX0 3 "are_different_names" ["thing"] (spOf K diffOf) := ⟨f_are_different_names, _, k_are_different_names, b_are_different_names, PySem.W.mg_of X G a_are_different_names, ok_are_different_names F_are_different_names T D_are_names⟩
  have D_Merge__prepare : Mn l.prog w K mg base CX0 1 C_Merge "_prepare" ["self", "name"] (spPrepare C_Merge) := ⟨f_Merge__prepare, _, ⟨a_Merge__prepare, if_Merge__prepare, k_Merge__prepare⟩, b_Merge__prepare, ok_Merge__prepare F_Merge__prepare T K_Merge⟩
  have D_Merge__advance : Mn l.prog w K mg base CX0 2 C_Merge "_advance" ["self", "index"] (spAdvance C_Merge) := ⟨f_Merge__advance, _, ⟨a_Merge__advance, if_Merge__advance, k_Merge__advance⟩, b_Merge__advance, ok_Merge__advance F_Merge__advance T K_Merge D_Merge__prepare⟩
  have D_Merge_drop : Mn l.prog w K mg base CX0 3 C_Merge "drop" ["self", "name"] (spDrop C_Merge) := ⟨f_Merge_drop, _, ⟨a_Merge_drop, if_Merge_drop, k_Merge_drop⟩, b_Merge_drop, ok_Merge_drop F_Merge_drop T K_Merge D_Merge__advance⟩
  have D_Merge_draw : Mn l.prog w K mg base CX0 4 C_Merge "draw" ["self"] (spDraw C_Merge) := ⟨f_Merge_draw, _, ⟨a_Merge_draw, if_Merge_draw, k_Merge_draw⟩, b_Merge_draw, ok_Merge_draw F_Merge_draw T K_Merge D_Merge_drop⟩
  have D_places : Dn l.prog w K mg base CX0 1 "_places" ["rows"] (spPlaces) := ⟨f_places, _, k_places, b_places, PySem.W.mg_of X G a_places, ok_places F_places T⟩
  have D_Merge___init : Mi l.prog w K mg base CX0 2 C_Merge ["self", "rows"] (spMInit C_Merge) := ⟨f_Merge___init, _, ⟨mk_Merge, a_Merge___init, if_Merge___init, kc_Merge⟩, b_Merge___init, ok_Merge___init F_Merge___init T K_Merge D_Merge__prepare D_places⟩
  have D_steps_to : Dn l.prog w K mg base CX0 1 "_steps_to" ["steps", "name"] (spStepsTo) := ⟨f_steps_to, _, k_steps_to, b_steps_to, PySem.W.mg_of X G a_steps_to, ok_steps_to F_steps_to T⟩
  have D_Merge_ring : Mn l.prog w K mg base CX0 2 C_Merge "ring" ["self", "start", "limit"] (spRing C_Merge) := ⟨f_Merge_ring, _, ⟨a_Merge_ring, if_Merge_ring, k_Merge_ring⟩, b_Merge_ring, ok_Merge_ring F_Merge_ring T K_Merge D_steps_to⟩
  have D_fewest_clash : Dn l.prog w K mg base CX0 5 "_fewest_clash" ["merge"] (spFewest C_Merge) := ⟨f_fewest_clash, _, k_fewest_clash, b_fewest_clash, PySem.W.mg_of X G a_fewest_clash, ok_fewest_clash F_fewest_clash T K_Merge D_Merge_drop D_Merge_draw D_Merge_ring m_FEWEST_STEPS⟩
  have D_check_tuples : Dn l.prog w K mg base CX0 4 "_check_tuples" ["tuples"] (spCheck) := ⟨f_check_tuples, _, k_check_tuples, b_check_tuples, PySem.W.mg_of X G a_check_tuples, ok_check_tuples F_check_tuples T D_are_different_names⟩
  have D_merged : Dr l.prog w K mg base (L2.CX l.prog w) 6 "merged" (spStar (spMergedX C_Clash)) := ⟨f_merged, k_merged, PySem.W.mg_of X G a_merged, ok_merged F_merged T K_Merge D_Merge_draw D_Merge___init D_fewest_clash D_check_tuples E_Clash⟩
  have D_h_mixed : Dn l.prog w K mg base CX0 2 "_law_mixed" ["_law_source_here", "_law_items"] (spMixed) := ⟨f_h_mixed, _, k_h_mixed, b_h_mixed, PySem.W.mg_of X G a_h_mixed, ok_h_mixed F_h_mixed T D_h_next⟩
  have D_h_name_rows : Dn l.prog w K mg base CX0 3 "_law_name_rows" ["_law_source_here", "_law_many", "_law_most", "_law_is_free"] (spRows) := ⟨f_h_name_rows, _, k_h_name_rows, b_h_name_rows, PySem.W.mg_of X G a_h_name_rows, ok_h_name_rows F_h_name_rows T D_h_next D_h_mixed⟩
  have D_h_pick : Dn l.prog w K mg base CX0 2 "_law_pick" ["_law_source_here", "_law_items"] (spPick) := ⟨f_h_pick, _, k_h_pick, b_h_pick, PySem.W.mg_of X G a_h_pick, ok_h_pick F_h_pick T D_h_next⟩
  have D_h_merged : Dn l.prog w K mg base CX0 1 "_law_merged" ["_law_lists"] (spLMerged) := ⟨f_h_merged, _, k_h_merged, b_h_merged, PySem.W.mg_of X G a_h_merged, ok_h_merged F_h_merged T⟩
  have D_h_merged_by : Dn l.prog w K mg base (L2.CX l.prog w) 7 "_law_merged_by" ["_law_rows"] (spByX C_Clash) := ⟨f_h_merged_by, _, k_h_merged_by, b_h_merged_by, PySem.W.mg_of X G a_h_merged_by, ok_h_merged_by F_h_merged_by T D_merged⟩
  have D_check_tuples_x : Dn l.prog w K mg base (L2.CX l.prog w) 4 "_check_tuples" ["tuples"] (spCheckX K C_BadTuple) := ⟨f_check_tuples, _, k_check_tuples, b_check_tuples, PySem.W.mg_of X G a_check_tuples, ok_check_tuples_x F_check_tuples T D_are_different_names E_BadTuple⟩
  have D_merged_b : Dr l.prog w K mg base (L2.CX l.prog w) 5 "merged" (spStar (spBadM K C_BadTuple)) := ⟨f_merged, k_merged, PySem.W.mg_of X G a_merged, ok_merged_b F_merged T D_check_tuples_x⟩
  have D_h_merged_by_b : Dn l.prog w K mg base (L2.CX l.prog w) 6 "_law_merged_by" ["_law_rows"] (spByB K C_BadTuple) := ⟨f_h_merged_by, _, k_h_merged_by, b_h_merged_by, PySem.W.mg_of X G a_h_merged_by, ok_h_merged_by_b F_h_merged_by T D_merged_b⟩
  have D_is_clash : Dn l.prog w K mg base (L2.CX l.prog w) 5 "is_clash" ["tuples", "thing"] (spIsC K C_BadTuple) := ⟨f_is_clash, _, k_is_clash, b_is_clash, PySem.W.mg_of X G a_is_clash, ok_is_clash F_is_clash T D_check_tuples_x E_BadTuple m_FEWEST_STEPS⟩
  have G_h_tuple_fault := gv_h_tuple_fault F_h_tuple_fault T E_BadTuple E_Clash g_WorldError kt kf kb mt (PySem.W.mg_of X G a_h_tuple_fault) b_h_tuple_fault
  exact ok_law F_law T D_h_source D_h_next D_h_name_rows D_h_pick D_h_merged D_h_merged_by D_h_merged_by_b D_is_clash G_h_tuple_fault ⟨_, _, _, _, l_law, rfl⟩ TB_law (hm_law) (hu_law)
end K08
namespace K08
abbrev Rw : PySem.W.OpenRow := PySem.W.OpenLaw.row PySem.Challenge.rw_nextbehind_k08_merging_errors
abbrev vw : PySem.Program := PySem.W.view Rw.prog [32]
def topNames0 : List PySem.Str := ["WorldError", "LimitError", "BadTuple", "Clash", "_LONGEST_NAME", "is_name", "are_names", "are_different_names", "is_index", "_STEP_PARTS", "_FEWEST_STEPS", "Merge", "merged", "is_clash", "_check_tuples", "_is_step", "_places", "_fewest_clash", "_steps_to", "_law_source", "_law_next", "_law_pick", "_law_mixed", "_law_merged", "_law_name_rows", "_law_merged_by", "_law_tuple_fault"]
def topNames : List PySem.Str := topNames0
end K08
local macro_rules
  | `(tactic| o_headL ($_:ident $_:term $_:term $_:term)) => `(tactic| assumption)
section
open PySem PySem.W PyProof.Rows
set_option maxRecDepth 100000 in
set_option maxHeartbeats 0 in
theorem K08.top (hf : K08.Rw.Holds) : K08.Rw.Holds := by k_headL
end
namespace K08
def asK : List Nat := [2, 3, 15, 22, 23, 24, 25, 28, 35, 36, 37, 38, 41, 48, 50, 51, 53, 54, 55, 56, 57, 60, 67, 69, 70, 72, 73, 74, 75, 76, 79, 82, 83, 84, 87, 88, 89, 91, 92, 94, 95, 96, 98, 99, 101, 102, 110, 113, 114, 115, 117, 118, 120, 121, 122, 124, 125, 127, 128, 129, 131, 132, 134, 135, 136, 138, 139, 141, 142, 143, 146, 147, 148, 149, 150, 151, 152, 155, 157, 158, 160, 161, 162, 165, 166, 167, 169, 170, 172, 173, 174, 176, 177, 179, 180, 181, 183, 184, 186, 187, 188, 190, 191, 193, 194, 195, 197, 198, 200, 201, 202, 204, 205, 207, 208, 209, 211, 212, 214, 215, 216, 218, 219, 221, 222, 223, 225, 226, 228, 229, 230, 233, 234, 235, 238, 239, 240, 242, 243, 245, 246, 247, 249, 250, 252, 253, 254, 256, 257, 259, 260]
def tbK : List Nat := [255]
noncomputable def K2 (P : PySem.Params) : PySem.W.Frag := K08.top.heap_1 P ++ [(255, ({ cls := .none, data := .fields #[] } : PySem.Obj))]
def asK2 : List Nat := asK ++ tbK
theorem ekK : ∀ P, asK2 = (K2 P).map (·.1) := fun _ => by kernel_rfl
noncomputable abbrev HK : PySem.W.Hook := PySem.W.kHook K2 asK2 ekK
abbrev obK : PySem.W.SharedT → List (Option PySem.Obj) := fun s => List.map (HandSHeadRun.getT s) asK2
theorem ktK (w : PySem.World) : ∀ t ∈ tbK, (K08.top.heap_1 w.params).lookup t = none := List.all_eq_true.mp (show (tbK.all fun t => ((K08.top.heap_1 w.params).lookup t).isNone) = true by kernel_rfl) |> fun h t m => Option.isNone_iff_eq_none.mp (h t m)
theorem inK2 {w : PySem.World} {h : PySem.Heap} (Y : PySem.W.InK K2 w h) : (K08.top.heap_1 w.params).In h ∧ ∀ t ∈ tbK, h.get? t = some ({ cls := .none, data := .fields #[] } : PySem.Obj) := Nb.in_two (m := [(255, ({ cls := .none, data := .fields #[] } : PySem.Obj))]) Y (ktK w) (by decide +kernel)
set_option maxRecDepth 100000 in
set_option maxHeartbeats 0 in
theorem run0 (w : PySem.World) : HandSHeadRun.RunEq Rw vw HK obK 25000 topNames (w.withFollow "special-get-raises" false) := by intro os; kernel_rfl
set_option maxRecDepth 100000 in
set_option maxHeartbeats 0 in
theorem run1 (w : PySem.World) : HandSHeadRun.RunEq Rw vw HK obK 25000 topNames (w.withFollow "special-get-raises" true) := by intro os; kernel_rfl
end K08
open PySem PySem.W PyProof.Rows
set_option maxRecDepth 100000 in
set_option maxHeartbeats 0 in
theorem PySem.Challenge.cw_nextbehind_k08_merging_errors_holds : PySem.Challenge.rw_nextbehind_k08_merging_errors.Holds := by
  w_on; o_law
  refine HandSHeadRun.head_any (r := K08.Rw) (q := K08.vw) (H := K08.HK) (ob := K08.obK) (M := 25000) (loose := K08.topNames) (d := HandSHeadRun.topDef K08.Rw.prog 32) (kwd := []) (fun s => List.map_congr_left fun b _ => HandSHeadRun.getT_eq s b) (by kernel_rfl) (fun s => by kernel_rfl) (fun w => PySem.W.byRow2 "special-get-raises" K08.run0 K08.run1 w) (by kernel_rfl) (by kernel_rfl) (by kernel_rfl) (by rfl) (by first | assumption | decide +kernel) (by decide +kernel) ⟨rfl, rfl, rfl, rfl, rfl, by decide +kernel⟩ ?hw ?hc
  (case hw => w_witness2)
  k_fill
  refine Nb.walk_ofGT (l := PySem.Challenge.rw_nextbehind_k08_merging_errors) (n := 63) (k := 17) (K := K08.top.heap_1) (cs := [(259, 255)]) (x := "_law_script") (CX := fun _ => L2.CX0) (sp := fun w => Nb.spLawT (K08.top.heap_1 w.params) [(255, (("law" : Str) ++ ".<locals>.") ++ "<lambda>")]) rfl (by decide) rfl ⟨rfl, by decide, by decide⟩ (fun w h Y => K08.inK2 Y) (fun w => K08.ktK w) (fun w => List.all_eq_true.mp (by kernel_rfl)) ?F (fun w H a ns hl hT hS => ⟨a, ns, rfl, hS, hl, Nb.tabs_nil hT, fun _ => rfl⟩) (fun _ _ _ _ _ h => h)
  case F =>
    intro w mg fa h KX G hmg
    refine' K08.all_mk (qc_law := 259) (qp_law := 255) (TL := [(255, (("law" : Str) ++ ".<locals>.") ++ "<lambda>")]) KX G hmg ?a_Merge ?pg_Merge ?hd_Merge ?po_Merge ?sa_Merge ?nf_Merge_rows ?nf_Merge_places ?nf_Merge_gone ?nf_Merge_heads ?nf_Merge_behind ?nf_Merge_ready ?mk_Merge ?kc_Merge ?a_h_source ?l_h_source ?c_h_source ?k_h_source ?a_h_next ?l_h_next ?c_h_next ?k_h_next ?a_is_name ?l_is_name ?c_is_name ?k_is_name ?a_are_names ?l_are_names ?c_are_names ?k_are_names ?a_are_different_names ?l_are_different_names ?c_are_different_names ?k_are_different_names ?a_Merge__prepare ?if_Merge__prepare ?l_Merge__prepare ?c_Merge__prepare ?k_Merge__prepare ?a_Merge__advance ?if_Merge__advance ?l_Merge__advance ?c_Merge__advance ?k_Merge__advance ?a_Merge_drop ?if_Merge_drop ?l_Merge_drop ?c_Merge_drop ?k_Merge_drop ?a_Merge_draw ?if_Merge_draw ?l_Merge_draw ?c_Merge_draw ?k_Merge_draw ?a_places ?l_places ?c_places ?k_places ?a_Merge___init ?if_Merge___init ?l_Merge___init ?c_Merge___init ?k_Merge___init ?a_steps_to ?l_steps_to ?c_steps_to ?k_steps_to ?a_Merge_ring ?if_Merge_ring ?l_Merge_ring ?c_Merge_ring ?k_Merge_ring ?a_fewest_clash ?l_fewest_clash ?c_fewest_clash ?k_fewest_clash ?a_check_tuples ?l_check_tuples ?c_check_tuples ?k_check_tuples ?a_merged ?l_merged ?c_merged ?k_merged ?a_h_mixed ?l_h_mixed ?c_h_mixed ?k_h_mixed ?a_h_name_rows ?l_h_name_rows ?c_h_name_rows ?k_h_name_rows ?a_h_pick ?l_h_pick ?c_h_pick ?k_h_pick ?a_h_merged ?l_h_merged ?c_h_merged ?k_h_merged ?a_h_merged_by ?l_h_merged_by ?c_h_merged_by ?k_h_merged_by ?a_is_clash ?l_is_clash ?c_is_clash ?k_is_clash ?a_h_tuple_fault ?l_h_tuple_fault ?c_h_tuple_fault ?k_h_tuple_fault ?a_law ?l_law ?c_law ?k_law ?a_BadTuple ?e_BadTuple ?n_BadTuple ?t_BadTuple ?l_IBadTuple ?c_IBadTuple ?k_IBadTuple ?a_Clash ?e_Clash ?n_Clash ?t_Clash ?l_IClash ?c_IClash ?k_IClash ?a_WorldError ?a_LimitError ?z_len ?z_isinstance ?z_str ?z_tuple ?z_all ?z_set ?z_list ?z_range ?z_enumerate ?z_repr ?z_max ?z_min ?z_sorted ?z_int ?z_bool ?mm_LONGEST_NAME ?mm_FEWEST_STEPS ?hm_law ?hu_law ?kt ?kf ?kb ?mt0
    (case a_Merge => k_is)
    (case pg_Merge => kernel_rfl)
    (case hd_Merge => kernel_rfl)
    (case po_Merge => kernel_rfl)
    (case sa_Merge => k_is)
    (case nf_Merge_rows => k_is)
    (case nf_Merge_places => k_is)
    (case nf_Merge_gone => k_is)
    (case nf_Merge_heads => k_is)
    (case nf_Merge_behind => k_is)
    (case nf_Merge_ready => k_is)
    (case mk_Merge => kernel_rfl)
    (case kc_Merge => k_is)
    (case a_h_source => k_is)
    (case l_h_source => k_is)
    (case c_h_source => k_is)
    (case k_h_source => k_is)
    (case a_h_next => k_is)
    (case l_h_next => k_is)
    (case c_h_next => k_is)
    (case k_h_next => k_is)
    (case a_is_name => k_is)
    (case l_is_name => k_is)
    (case c_is_name => k_is)
    (case k_is_name => k_is)
    (case a_are_names => k_is)
    (case l_are_names => k_is)
    (case c_are_names => k_is)
    (case k_are_names => k_is)
    (case a_are_different_names => k_is)
    (case l_are_different_names => k_is)
    (case c_are_different_names => k_is)
    (case k_are_different_names => k_is)
    (case a_Merge__prepare => k_is)
    (case if_Merge__prepare => kernel_rfl)
    (case l_Merge__prepare => k_is)
    (case c_Merge__prepare => k_is)
    (case k_Merge__prepare => k_is)
    (case a_Merge__advance => k_is)
    (case if_Merge__advance => kernel_rfl)
    (case l_Merge__advance => k_is)
    (case c_Merge__advance => k_is)
    (case k_Merge__advance => k_is)
    (case a_Merge_drop => k_is)
    (case if_Merge_drop => kernel_rfl)
    (case l_Merge_drop => k_is)
    (case c_Merge_drop => k_is)
    (case k_Merge_drop => k_is)
    (case a_Merge_draw => k_is)
    (case if_Merge_draw => kernel_rfl)
    (case l_Merge_draw => k_is)
    (case c_Merge_draw => k_is)
    (case k_Merge_draw => k_is)
    (case a_places => k_is)
    (case l_places => k_is)
    (case c_places => k_is)
    (case k_places => k_is)
    (case a_Merge___init => k_is)
    (case if_Merge___init => kernel_rfl)
    (case l_Merge___init => k_is)
    (case c_Merge___init => k_is)
    (case k_Merge___init => k_is)
    (case a_steps_to => k_is)
    (case l_steps_to => k_is)
    (case c_steps_to => k_is)
    (case k_steps_to => k_is)
    (case a_Merge_ring => k_is)
    (case if_Merge_ring => kernel_rfl)
    (case l_Merge_ring => k_is)
    (case c_Merge_ring => k_is)
    (case k_Merge_ring => k_is)
    (case a_fewest_clash => k_is)
    (case l_fewest_clash => k_is)
    (case c_fewest_clash => k_is)
    (case k_fewest_clash => k_is)
    (case a_check_tuples => k_is)
    (case l_check_tuples => k_is)
    (case c_check_tuples => k_is)
    (case k_check_tuples => k_is)
    (case a_merged => k_is)
    (case l_merged => k_is)
    (case c_merged => k_is)
    (case k_merged => k_is)
    (case a_h_mixed => k_is)
    (case l_h_mixed => k_is)
    (case c_h_mixed => k_is)
    (case k_h_mixed => k_is)
    (case a_h_name_rows => k_is)
    (case l_h_name_rows => k_is)
    (case c_h_name_rows => k_is)
    (case k_h_name_rows => k_is)
    (case a_h_pick => k_is)
    (case l_h_pick => k_is)
    (case c_h_pick => k_is)
    (case k_h_pick => k_is)
    (case a_h_merged => k_is)
    (case l_h_merged => k_is)
    (case c_h_merged => k_is)
    (case k_h_merged => k_is)
    (case a_h_merged_by => k_is)
    (case l_h_merged_by => k_is)
    (case c_h_merged_by => k_is)
    (case k_h_merged_by => k_is)
    (case a_is_clash => k_is)
    (case l_is_clash => k_is)
    (case c_is_clash => k_is)
    (case k_is_clash => k_is)
    (case a_h_tuple_fault => k_is)
    (case l_h_tuple_fault => k_is)
    (case c_h_tuple_fault => k_is)
    (case k_h_tuple_fault => k_is)
    (case a_law => k_is)
    (case l_law => k_is)
    (case c_law => k_is)
    (case k_law => k_is)
    (case a_BadTuple => k_is)
    (case e_BadTuple => kernel_rfl)
    (case n_BadTuple => k_is)
    (case t_BadTuple => k_is)
    (case l_IBadTuple => k_is)
    (case c_IBadTuple => k_is)
    (case k_IBadTuple => k_is)
    (case a_Clash => k_is)
    (case e_Clash => kernel_rfl)
    (case n_Clash => k_is)
    (case t_Clash => k_is)
    (case l_IClash => k_is)
    (case c_IClash => k_is)
    (case k_IClash => k_is)
    (case a_WorldError => k_is)
    (case a_LimitError => k_is)
    (case z_len => k_is)
    (case z_isinstance => k_is)
    (case z_str => k_is)
    (case z_tuple => k_is)
    (case z_all => k_is)
    (case z_set => k_is)
    (case z_list => k_is)
    (case z_range => k_is)
    (case z_enumerate => k_is)
    (case z_repr => k_is)
    (case z_max => k_is)
    (case z_min => k_is)
    (case z_sorted => k_is)
    (case z_int => k_is)
    (case z_bool => k_is)
    (case mm_LONGEST_NAME => k_is)
    (case mm_FEWEST_STEPS => k_is)
    (case hm_law => decide +kernel)
    (case hu_law => decide +kernel)
    (case kt => kernel_rfl)
    (case kf => kernel_rfl)
    (case kb => kernel_rfl)
    (case mt0 => kernel_rfl)
