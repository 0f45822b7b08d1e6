import PyProof.Rows.All
import Wide.All
import OpenK.AllK
import Wide.FinOn
import HandS.ForMost
import HandS.AnyAll
import HandS.GenList
import HandS.Gcd
import HandS.IsInst
import HandS.Wide
import HandS.WideBits
import HandS.Zip
import HandS.TupLe
import HandS.TupAny
import PyProof.ReprRoads
import HandS.EndTab
import PySem.Challenge.RW_websolids_k14_whole_turning
import HandS.EndOwn
/-! GxA -/
set_option Elab.async false
set_option linter.all false
set_option maxRecDepth 100000
set_option maxHeartbeats 4000000
namespace GxA
open PySem PySem.Spec PyProof.Rows L2 GenW GxR

/-- the context of a generator expression's own frame -/
abbrev gcx (X : Cx) (s : Shared) (H : Hp) (cenv : Env) (fp : List Addr) (pn : List (Addr × Obj)) : Cx :=
  { X with A := (X.A.in1.in1).deeper cenv, s_0 := s, H_0 := H, env := cenv, outer := X.stack, stack := cenv :: X.stack, ex := fp, fn := fun _ => false, pn := pn, xe := fun _ _ => False }

theorem over_comp {A : Around} {elt tg iter : Expr} {ifs : List Expr} {scope : Scope} {pos : Pos} {it acc : Value} {cenv : Env} :
    A.over (.compLoop (.GeneratorExp elt [⟨tg, iter, ifs, 0⟩] scope pos) 0 it acc cenv) [] = A.deeper cenv := by
  first
    | rfl
    | (obtain ⟨hd, d, fr, gs, u⟩ := A; rfl)
theorem over_start {A : Around} {elt tg iter : Expr} {ifs : List Expr} {scope : Scope} {pos : Pos} {it acc : Value} {cenv : Env} :
    A.over (.compStart (.GeneratorExp elt [⟨tg, iter, ifs, 0⟩] scope pos) 0 it acc cenv) [] = A.deeper cenv := by
  first
    | rfl
    | (obtain ⟨hd, d, fr, gs, u⟩ := A; rfl)

theorem inv_same {X : Cx} {pins : List (Addr × Obj)} {σ : L2.St} {H : Hp} {s s' : Shared} (I : Inv X pins σ H s) (hh : s'.heap = s.heap) (ho : s'.os = s.os) (hb : AllBare s'.gens) : Inv X pins σ H s' := by
  obtain ⟨h, g, d, t, o⟩ := s'
  obtain rfl : h = s.heap := hh
  obtain rfl : o = s.os := ho
  exact ⟨I.ok, I.os, hb, I.base, I.loc, I.cell, I.free, I.freeC, I.pin, I.hok, I.len⟩

section
variable {X : Cx} {pins : List (Addr × Obj)} {σ : L2.St} {H : Hp} {s : Shared}
theorem gen_start {scope : Scope} {own : List (Str × Nat)} {fp : List Addr} {code : Value} {h5 : Heap} {gs : Array GenState} {tk : Nat} {go : Obj} {m5 : Str → Option Value} (I : Inv X pins σ H s) (ok : BlkOk X.N X.env.scope scope own) (hcell : ∀ y ∈ scope.names, y.2 ≠ .cell)
    (hN : X.N.Nodup) (hfp : ∀ b ∈ fp, FpOk X pins H b ∧ b < s.heap.objs.size) (kp : ∀ b o, s.heap.get? b = some o → h5.get? b = some o) (hn5 : h5.Ns s.heap.objs.size m5) (hgo : h5.get? (s.heap.objs.size + 1) = some go) (hgd : ∀ v, go.data ≠ .cell v) (hbare : AllBare gs) :
    Inv (gcx X s H (genEnv scope (cloFrom X.env.cells scope.names []) s.heap.objs.size code builtinsNs X.env) fp [(s.heap.objs.size + 1, go)]) [] (wipe σ (own.map (·.2))) H { s with gens := gs, toks := tk, heap := h5 } := by
  have hfree : ∀ y ∈ scope.names, y.2 = .free → ∃ c, X.env.cells.lookup y.1 = some c := fun y hy e => by
    rcases ok.free y hy e with k | k
    · exact I.ok.has _ (.inl k)
    · exact I.ok.has _ (.inr k)
  have cm : ∀ {y c}, (y, c) ∈ cloFrom X.env.cells scope.names [] → X.env.cells.lookup y = some c ∧ c < s.heap.objs.size := fun {y c} hm => by
    rcases cloFrom_mem hm with hm | ⟨h1, rfl⟩
    · cases hm
    · obtain ⟨c, hc⟩ := hfree _ h1 rfl
      rw [hc]
      obtain ⟨w, z⟩ := I.cell _ _ hc
      exact ⟨rfl, z.lt⟩
  have mem : ∀ {y c}, (cloFrom X.env.cells scope.names []).lookup y = some c → X.env.cells.lookup y = some c ∧ c < s.heap.objs.size := fun {y c} e => cm (PySem.mem_of_lookup e)
  have look : ∀ {y}, scope.names.lookup y = some .free → ∃ c, (cloFrom X.env.cells scope.names []).lookup y = some c ∧ X.env.cells.lookup y = some c := fun {y} hl => by
    have hy : (y, NameKind.free) ∈ scope.names := PySem.mem_of_lookup hl
    obtain ⟨c', e'⟩ := mem_lookup (cloFrom_has (cells := X.env.cells) (acc := []) hy)
    exact ⟨c', e', (mem e').1⟩
  have nocell : ∀ {y}, scope.names.lookup y ≠ some .cell := fun {y} e => hcell _ (PySem.mem_of_lookup e) rfl
  have okB : (gcx X s H (genEnv scope (cloFrom X.env.cells scope.names []) s.heap.objs.size code builtinsNs X.env) fp [(s.heap.objs.size + 1, go)]).Ok := by
    refine ⟨I.ok.mod, ok.kind, I.ok.glob, rfl, Nat.le_refl _, fun y z c e1 e2 => ?_, fun y hy => ?_, fun y c z e => ?_, fun hc => I.ok.hd hc, ?_, .inr ⟨rfl, rfl⟩, fun b hb => ⟨?_, fun y c e z => ?_⟩, I.bs, Nat.le_trans I.ok.bsz I.sz, fun b o e hb => ?_, fun b hb z => ?_, I.stack, I.stkFree⟩
    · exact I.ok.inj y z c (mem e1).1 (mem e2).1
    · rcases hy with hy | hy
      · exact absurd hy nocell
      · obtain ⟨c, h1, _⟩ := look hy
        exact ⟨c, h1⟩
    · exact absurd (show false = true from z) Bool.false_ne_true
    · exact Around.frames_deeper (A := X.A.in1.in1) I.ok.frames
    · exact Nat.ne_of_lt (hfp b hb).2
    · exact (hfp b hb).1.2.2.2.2.1 y c (mem e).1 z
    · rcases (hfp b hb).1.2.2.2.1 with z | z
      · exact I.ok.noex b o e z
      · exact absurd (Nat.lt_of_lt_of_le (Heap.lt_size e) (Nat.le_trans I.ok.bsz z)) (Nat.lt_irrefl _)
    · rcases List.mem_cons.mp (I.stkSub b z) with z | z
      · exact (hfp b hb).1.2.1 z
      · exact (hfp b hb).1.2.2.1 z
  refine ⟨okB, rfl, hbare, Un.kept kp, ⟨m5, hn5, fun i y av e1 e2 e3 => ?_⟩, fun y c e => ?_, I.hok.fresh (Nat.le_refl _), fun y c e => I.freeC y c (mem e).1, fun p hp => ?_, I.hok.kept kp, by rw [wipe_length]; exact I.len⟩
  · obtain ⟨e2, hne⟩ := wipe_some e2
    have hfr : scope.names.lookup y = some .free := by
      have no : ∀ k', scope.names.lookup y = some k' → ¬ (k' = .local ∨ k' = .cell) := fun k' e hh => by
        rcases ok.own _ (PySem.mem_of_lookup e) hh with e' | e'
        · obtain ⟨p, hp, hpy⟩ := List.mem_map.mp e'
          have e3 := ok.ix p hp
          have : p.1 = y := hpy
          rw [this] at e3
          exact hne (List.mem_map.mpr ⟨p, hp, nodup_ix hN e3 e1⟩)
        · exact e' (List.mem_of_getElem? e1)
      have e3 : Vis scope y := e3
      rcases e3 with e3 | e3 | e3
      · exact absurd (.inl rfl) (no _ e3)
      · exact absurd (.inr rfl) (no _ e3)
      · exact e3
    obtain ⟨m, hn, hl⟩ := I.loc
    have hvis : Vis X.env.scope y := (ok.free _ (PySem.mem_of_lookup hfr) rfl).elim (fun k => .inr (.inl k)) (fun k => .inr (.inr k))
    obtain ⟨w, r, q⟩ := hl i y av e1 e2 hvis
    refine ⟨w, r, .inr ⟨.inr hfr, ?_⟩⟩
    obtain ⟨c, h1, h2⟩ := look hfr
    rcases q with ⟨k, _⟩ | ⟨_, c', e', z⟩
    · have k : X.env.scope.names.lookup y = some .local := k
      rcases ok.free _ (PySem.mem_of_lookup hfr) rfl with k' | k' <;> rw [show X.env.scope.names.lookup y = _ from k'] at k <;> cases k
    · rw [h2] at e'; cases e'
      exact ⟨c, h1, z.keeps kp⟩
  · obtain ⟨w, z⟩ := I.cell y c (mem e).1
    exact ⟨w, z.keeps kp⟩
  · have hp' : p = (s.heap.objs.size + 1, go) := by simpa using hp
    subst hp'
    refine ⟨hgo, I.hok.fresh (Nat.le_succ _), Nat.succ_ne_self _, fun hb => ?_, hgd⟩
    obtain ⟨_, o, ho, _⟩ := I.stack.mem hb
    exact absurd (Nat.lt_of_lt_of_le (Heap.lt_size ho) (Nat.le_succ _)) (Nat.lt_irrefl _)
end
end GxA

/-! GxB -/
set_option Elab.async false
set_option linter.all false
set_option maxRecDepth 100000
set_option maxHeartbeats 4000000
namespace GxA
open PySem PySem.Spec PyProof.Rows L2 GenW GxR

/-- what a turn of the generator gives out -/
def GPro (Xg : Cx) (σ0 : L2.St) (Q : VK) : Protocol := fun n s₀ v s kap =>
  ∃ (b : Bool) (pins : List (Addr × Obj)) (σ' : L2.St) (H' : Hp), v = .bool b ∧ Inv Xg pins σ' H' s ∧ (b = true → ∀ s' : Shared, s'.heap = s.heap → s'.os = s.os → AllBare s'.gens → kap (.send .none) s') ∧ (b = false → Q (.bl false) H')
def GF (Xg : Cx) (Q : VK) : Nat → Shared → Shared → Prop := fun n s₀ s => ∃ (pins : List (Addr × Obj)) (σ' : L2.St) (H' : Hp), Inv Xg pins σ' H' s ∧ Q (.bl true) H'
def GEn (Xg : Cx) (Q : VK) : GenEnd := fun n s₀ r s₁ => ((r = .ok (.ret .none) ∨ r = .ok .next) ∧ GF Xg Q n s₀ s₁) ∨ ∃ e, r = .error e ∧ (fun (_ : Value) (_ : Shared) => False) e s₁

/-- all(elt for tg in iter): the reading -/
def tAllX (wi : TI) (g : TG) (te : TE) (P : Addr) (vs : List Nat) : TE := fun σ H Q => wi σ H fun J H1 => TabG H1 P ∧ ∀ H2, Tabbed P H1 H2 → ∃ W : Nat → Nat → Hp → Prop, (∃ m, W 0 m H2) ∧ ∀ i m H, W i m H →
  (J.stop i H ∧ Q (.bl true) H) ∨ (J.go i H ∧ ∃ Nx : Hp → Prop, (∀ H', Nx H' → ∃ m', m' < m ∧ W (i + 1) m' H') ∧ ∀ x H', J.yld i H x H' → g x (wipe σ vs) H' fun σ2 H2 => wipe σ2 vs = wipe σ vs ∧
    te σ2 H2 fun y H3 => ∃ b, y = .bl b ∧ ((b = true → Nx H3) ∧ (b = false → Q (.bl false) H3)))

section
variable {X : Cx} {s3 : Shared} {H3 : Hp} {cenv : Env} {fp : List Addr} {pn : List (Addr × Obj)} {elt tg iter : Expr} {scope : Scope} {pos : Pos} {it : Addr} {tn : Nat → Heap → Prop} {J : It} {g : TG} {te : TE} {vs : List Nat} {σ : L2.St} {Q : VK} {W : Nat → Nat → Hp → Prop}

theorem seg_loop (T : Turn X.prog X.w X.K tg J fp it tn) (hc : X.calm = true) (hco : cenv.scope.isCoroutine = false) (hpn : ∀ p ∈ pn, ∀ b ∈ fp, p.1 ≠ b)
    (pg : PG (gcx X s3 H3 cenv fp pn) tg g) (pe : PE (gcx X s3 H3 cenv fp pn) elt te)
    (turn : ∀ i m H, W i m H → (J.stop i H ∧ Q (.bl true) H) ∨ (J.go i H ∧ ∃ Nx : Hp → Prop, (∀ H', Nx H' → ∃ m', m' < m ∧ W (i + 1) m' H') ∧ ∀ x H', J.yld i H x H' → g x (wipe σ vs) H' fun σ2 H2 => wipe σ2 vs = wipe σ vs ∧
      te σ2 H2 fun y H3 => ∃ b, y = .bl b ∧ ((b = true → Nx H3) ∧ (b = false → Q (.bl false) H3)))) :
    ∀ (m n i : Nat) (s₀ s : Shared) (H : Hp), m + 1 ≤ n → W i m H → Inv (gcx X s3 H3 cenv fp pn) [] (wipe σ vs) H s → tn i s.heap → (∀ b ∈ fp, H b = none) →
      Seg (model X.prog X.w) X.A.in1.in1 (GEn (gcx X s3 H3 cenv fp pn) Q) (GPro (gcx X s3 H3 cenv fp pn) (wipe σ vs) Q) n s₀
        (.compLoop (.GeneratorExp elt [⟨tg, iter, [], 0⟩] scope pos) 0 (.ref it) .none cenv)
        ((model X.prog X.w).den (.compLoop (.GeneratorExp elt [⟨tg, iter, [], 0⟩] scope pos) 0 (.ref it) .none cenv)) [] s := by
  have stat : ∀ {σ' : L2.St} {H' : Hp} {s' : Shared}, Inv (gcx X s3 H3 cenv fp pn) [] σ' H' s' → (∀ b ∈ fp, H' b = none) → ∀ b ∈ fp, FpOk (gcx X s3 H3 cenv fp pn) [] H' b := fun {σ' H' s'} I' hn b hb =>
    ⟨hn b hb, (I'.ok.exf b hb).1, I'.ok.exfs b hb, .inl hb, fun x c e => (I'.ok.exf b hb).2 x c e, fun p hp => hpn p (by simpa using hp) b hb⟩
  intro m
  induction m using Nat.strongRecOn with
  | ind m ih =>
    intro n i s₀ s H hmn w I st nf
    show Seg _ X.A.in1.in1 _ _ _ s₀ _ ((compTurn (.GeneratorExp elt [⟨tg, iter, [], 0⟩] scope pos) 0 (.ref it) .none cenv).onRaise (leaving cenv)) [] s
    rw [compTurn_gen, Sem.onRaise_eq_wrap]
    refine seg_bind_wrap (wpAny_standAt ?_)
    rcases turn i m H w with ⟨stop, qq⟩ | ⟨go, Nx, hNx, step⟩
    · refine seg_bind_wrap ?_
      rw [over_comp]
      refine thnF (T.done (gcx X s3 H3 cenv fp pn) rfl rfl rfl hc i [] s _ H (fun _ _ => False) I (stat I nf) st stop) fun r s6 ⟨hr, I6⟩ => ?_
      subst hr
      exact seg_end (.ok .next) (.inl ⟨.inr rfl, [], _, H, I6, qq⟩)
    · refine seg_bind_wrap ?_
      rw [over_comp]
      refine thnF (T.item (gcx X s3 H3 cenv fp pn) rfl rfl rfl hc i [] s _ H (fun _ _ => False) I (stat I nf) st go) fun r s6 ⟨u, hr, h6⟩ => ?_
      subst hr
      refine seg_bind_wrap ?_
      rw [over_comp]
      refine thnF h6 fun _ s7 ⟨x, H7, I7, r7, y7, st7, n7⟩ => ?_
      have I7' := I7.pinned (stat I7 n7) (T.obj _ _ st7)
      refine seg_bind_wrap ?_
      rw [over_comp]
      refine thnF (pg.run _ s7 _ H7 x u _ I7' r7 (step x H7 y7)) fun _ s8 ⟨σ8, H8, I8, hw8, q8⟩ => ?_
      refine seg_bind_wrap ?_
      rw [over_comp]
      refine wpAny_tests_nil ?_
      simp only [if_true]
      have hy : ∀ v, yieldOut cenv v = yieldValue v := fun v => by simp only [yieldOut, hco, Bool.false_eq_true, if_false]
      simp only [hy]
      rw [Sem.bind_eq_wrap', Sem.bind_eq_wrap', Sem.wrap_wrap, Sem.wrap_wrap]
      refine seg_wrap ?_
      rw [over_comp]
      refine thnF (pe.run _ s8 σ8 H8 _ I8 q8) fun z s10 ⟨yv, H10, I10, r10, b, eb, hbt, hbf⟩ => ?_
      subst eb
      obtain rfl : z = Value.bool b := r10
      have hn : ∃ n', n = n' + 1 := ⟨n - 1, by omega⟩
      obtain ⟨n', rfl⟩ := hn
      refine seg_at (seg_yield rfl rfl rfl ?_)
      refine ⟨b, _, σ8, H10, rfl, I10, fun eb s'' e1 e2 e3 => ?_, hbf⟩
      obtain ⟨m', hm, w'⟩ := hNx H10 (hbt eb)
      have J10 := inv_same I10 e1 e2 e3
      have pin' : ∀ b ∈ fp, ∀ o, s7.heap.get? b = some o → s''.heap.get? b = some o ∧ H10 b = none := fun b hb o e =>
        let z := J10.pin (b, o) (List.mem_append_right _ (List.mem_append_right _ (mem_pinsAt hb e)))
        ⟨z.1, z.2.1⟩
      have hl : (wipe σ vs).length = σ8.length := by rw [← hw8, wipe_length]
      refine seg_again rfl (ih m' hm n' (i + 1) s'' s'' H10 (by omega) w' ((J10.unpinned (pins := [])).weak hl (fun j v e => ?_)) (T.keep _ _ _ st7 fun b hb o e => (pin' b hb o e).1) fun b hb => ?_)
      · rw [← hw8] at e
        exact (wipe_some e).1
      · obtain ⟨o, e, _⟩ := T.obj _ _ st7 b hb
        exact (pin' b hb o e).2

theorem seg_start (T : Turn X.prog X.w X.K tg J fp it tn) (hc : X.calm = true) (hco : cenv.scope.isCoroutine = false) (hpn : ∀ p ∈ pn, ∀ b ∈ fp, p.1 ≠ b)
    (pg : PG (gcx X s3 H3 cenv fp pn) tg g) (pe : PE (gcx X s3 H3 cenv fp pn) elt te)
    (turn : ∀ i m H, W i m H → (J.stop i H ∧ Q (.bl true) H) ∨ (J.go i H ∧ ∃ Nx : Hp → Prop, (∀ H', Nx H' → ∃ m', m' < m ∧ W (i + 1) m' H') ∧ ∀ x H', J.yld i H x H' → g x (wipe σ vs) H' fun σ2 H2 => wipe σ2 vs = wipe σ vs ∧
      te σ2 H2 fun y H3 => ∃ b, y = .bl b ∧ ((b = true → Nx H3) ∧ (b = false → Q (.bl false) H3))))
    (m : Nat) (s₀ s : Shared) (H : Hp) (w : W 0 m H) (I : Inv (gcx X s3 H3 cenv fp pn) [] (wipe σ vs) H s) (st : tn 0 s.heap) (nf : ∀ b ∈ fp, H b = none) :
      Seg (model X.prog X.w) X.A.in1.in1 (GEn (gcx X s3 H3 cenv fp pn) Q) (GPro (gcx X s3 H3 cenv fp pn) (wipe σ vs) Q) (m + 1) s₀
        (.compStart (.GeneratorExp elt [⟨tg, iter, [], 0⟩] scope pos) 0 (.ref it) .none cenv)
        ((model X.prog X.w).den (.compStart (.GeneratorExp elt [⟨tg, iter, [], 0⟩] scope pos) 0 (.ref it) .none cenv)) [] s := by
  have loop := seg_loop (iter := iter) (scope := scope) (pos := pos) T hc hco hpn pg pe turn m (m + 1) 0 s₀ s H (Nat.le_refl _) w I st nf
  show Seg _ X.A.in1.in1 _ _ _ s₀ _ ((compStart (.GeneratorExp elt [⟨tg, iter, [], 0⟩] scope pos) 0 (.ref it) .none cenv).onRaise (leaving cenv)) [] s
  unfold compStart
  rw [Sem.onRaise_eq_wrap]
  show Seg _ X.A.in1.in1 _ _ _ s₀ _ ((ask >>= _).wrap _ _ _ _) [] s
  refine seg_bind_wrap (wpAny_askSetting ?_)
  split
  · exact seg_again rfl loop
  · first
      | exact seg_bind_wrap (wpAny_rule (seg_bind_wrap (wpAny_standAt (seg_bind_wrap (T.self _ 0 s _ _ st (seg_again rfl loop))))))
      | (refine seg_bind_wrap (wpAny_rule ?_); show Seg _ X.A.in1.in1 _ _ _ s₀ _ ((standAt iter.pos >>= _).wrap _ _ _ _) [] s; exact seg_bind_wrap (wpAny_standAt (seg_bind_wrap (T.self _ 0 s _ _ st (seg_again rfl loop)))))
end
end GxA

/-! GxC -/
set_option Elab.async false
set_option linter.all false
set_option maxRecDepth 100000
set_option maxHeartbeats 4000000
namespace GxA
open PySem PySem.Spec PyProof.Rows L2 GenW GxR

theorem all_drain {Xg : Cx} {σ0 : L2.St} {Q : VK} {A : Around} {R : Result → Shared → Prop} {a : Addr} {g : Nat} (hh : A.handled = none) (hd : A.depth < recursionLimit)
    (hgen : ∀ s pins σ' H', Inv Xg pins σ' H' s → s.heap.IsGen a g)
    (hend : ∀ b pins σ' H' s', Inv Xg pins σ' H' s' → Q (.bl b) H' → R (.ok (.ret (.bool b))) s') :
    ∀ (n : Nat) (s : Shared), s.heap.IsGen a g → s.heap.NoLimit →
      (∃ gs, s.gens[g]? = some gs ∧ gs.Goes (model Xg.prog Xg.w) A.in1.in1 (GEn Xg Q) (GPro Xg σ0 Q) n (.send .none) (s.setGen g .running)) →
      codeAny (model Xg.prog Xg.w) A (.builtin "all.loop" ⟨[.ref a], []⟩) R s := by
  have goes : ∀ {gs : GenState} {B : Around} {n : Nat} {r : Resume} {s : Shared}, gs.Goes (model Xg.prog Xg.w) B (GEn Xg Q) (GPro Xg σ0 Q) n r s →
      gs.Goes (model Xg.prog Xg.w) B (fun n s₀ r s1 => ((r = .ok (.ret .none) ∨ r = .ok .next) ∧ GF Xg Q n s₀ s1) ∨ ∃ e, r = .error e ∧ (fun (_ : Value) (_ : Shared) => False) e s1) (GPro Xg σ0 Q) n r s := fun h => h
  intro n
  induction n with
  | zero =>
    intro s hg hl ⟨gs, hgs, hgo⟩
    refine codeAny_builtin F.entry_all_loop ?_
    rw [Around.under_plainId F.plain_all_loop _]
    show wpAny _ A.in1 (pyNext (.ref a) >>= _) _ _ s
    refine wpAny_bind (next_genG (A := A.in1) hh hl hd hg hgs (goes hgo) (fun v s₁ gs' hbare hv => ?_) (fun s₁ hp h' hk => ?_) fun e s₁ he => False.elim he)
    · obtain ⟨b, pins, σ', H', ev, I, ht, hf⟩ := hv
      cases b with
      | true => exact False.elim (ht rfl s₁ rfl rfl I.bare)
      | false =>
        subst ev
        refine wpAny_bind (wpAny_holding (wpAny_truthy_bool ?_))
        refine wpAny_bind (wpAny_letGo ?_)
        simp only [Bool.false_eq_true, if_false]
        first
          | exact wpAny_pure (hend false pins σ' H' _ (inv_same I rfl rfl (allBare_setGen I.bare hbare)) (hf rfl))
          | exact wpAny_bind (wpAny_rule (wpAny_pure (hend false pins σ' H' _ (inv_same I rfl rfl (allBare_setGen I.bare hbare)) (hf rfl))))
    · obtain ⟨pins, σ', H', I, q⟩ := hp
      refine wpAny_bind (wpAny_rule (wpAny_pure (hend true pins σ' H' _ ?_ q)))
      have J : Inv Xg pins σ' H' { s₁ with heap := h', toks := s₁.toks } := I.kept (t' := s₁.toks) hk
      exact inv_same J rfl rfl (allBare_setGen I.bare rfl)
  | succ m ih =>
    intro s hg hl ⟨gs, hgs, hgo⟩
    have hgl : g < s.gens.size := (Array.getElem?_eq_some_iff.mp hgs).1
    refine codeAny_builtin F.entry_all_loop ?_
    rw [Around.under_plainId F.plain_all_loop _]
    show wpAny _ A.in1 (pyNext (.ref a) >>= _) _ _ s
    refine wpAny_bind (wpAny_gsz (n := g + 1) hgl (next_genG (A := A.in1) hh hl hd hg hgs (goes hgo) (fun v s₁ gs' hbare hv => ?_) (fun s₁ hp h' hk => ?_) fun e s₁ he => False.elim he))
    · intro hsz
      obtain ⟨b, pins, σ', H', ev, I, ht, hf⟩ := hv
      subst ev
      refine wpAny_bind (wpAny_holding (wpAny_truthy_bool ?_))
      refine wpAny_bind (wpAny_letGo ?_)
      cases b with
      | true =>
        simp only [if_true]
        have hsz1 : g < s₁.gens.size := by
          have q : (s₁.setGen g gs').gens.size = s₁.gens.size := setGen_size _ _ _
          have hsz' : g + 1 ≤ (s₁.setGen g gs').gens.size := hsz
          omega
        refine wpAny_pure ⟨plainId_quiet F.plain_all_loop _, ih (s₁.setGen g gs') (show (s₁.setGen g gs').heap.IsGen a g from hgen s₁ _ _ _ I) (show (s₁.setGen g gs').heap.NoLimit from I.nolimit) ⟨gs', setGen_at hsz1, ?_⟩⟩
        exact ht rfl _ rfl rfl (allBare_setGen (s := s₁.setGen g gs') (allBare_setGen I.bare hbare) rfl)
      | false =>
        simp only [Bool.false_eq_true, if_false]
        first
          | exact wpAny_pure (hend false pins σ' H' _ (inv_same I rfl rfl (allBare_setGen I.bare hbare)) (hf rfl))
          | exact wpAny_bind (wpAny_rule (wpAny_pure (hend false pins σ' H' _ (inv_same I rfl rfl (allBare_setGen I.bare hbare)) (hf rfl))))
    · intro hsz
      obtain ⟨pins, σ', H', I, q⟩ := hp
      refine wpAny_bind (wpAny_rule (wpAny_pure (hend true pins σ' H' _ ?_ q)))
      have J : Inv Xg pins σ' H' { s₁ with heap := h', toks := s₁.toks } := I.kept (t' := s₁.toks) hk
      exact inv_same J rfl rfl (allBare_setGen I.bare rfl)

/-- a call of all -/
theorem call_all_gen {Xg : Cx} {σ0 : L2.St} {Q : VK} {A : Around} {a : Addr} {g n : Nat} {s : Shared} {Q' : Value → Shared → Prop} {E : Value → Shared → Prop} (hh : A.handled = none) (hd : A.depth < recursionLimit)
    (hgen : ∀ s pins σ' H', Inv Xg pins σ' H' s → s.heap.IsGen a g)
    (hend : ∀ b pins σ' H' s', Inv Xg pins σ' H' s' → Q (.bl b) H' → Q' (.bool b) s')
    (hg : s.heap.IsGen a g) (hl : s.heap.NoLimit)
    (hgo : ∃ gs, s.gens[g]? = some gs ∧ gs.Goes (model Xg.prog Xg.w) A.in1.in1 (GEn Xg Q) (GPro Xg σ0 Q) n (.send .none) (s.setGen g .running)) :
    wpAny (model Xg.prog Xg.w) A (call (.builtin "all") [.ref a]) Q' E s := by
  refine call_function_tree F.kind_all F.plain_all F.entry_all (F.args_all1 _) ?_
  unfold Builtin.«all»
  refine wpAny_bind (m := oneArg "all" _) (wpAny_pure ?_)
  refine wpAny_bind (wpAny_pyIter_gen hg ?_)
  exact wpAny_pure ⟨plainId_quiet F.plain_all_loop _, all_drain hh hd hgen (fun b pins σ' H' s' I q => hend b pins σ' H' s' I q) n s hg hl hgo⟩
end GxA

/-! GxD -/
set_option Elab.async false
set_option linter.all false
set_option maxRecDepth 100000
set_option maxHeartbeats 4000000
namespace GxA
open PySem PySem.Spec PyProof.Rows L2 GenW GxR

theorem boot_all : bootBuiltins "all" = some (.builtin "all") := by decide +kernel

section
variable {X : Cx}
theorem pe_allX {c P : Addr} {elt tg iter : Expr} {p pos gpos : Pos} {scope : Scope} {own : List (Str × Nat)} {wi : TI} {g : TG} {te : TE} {k : Nat}
    (hc : X.calm = true) (hN : X.N.Nodup) (hr : Room k X.A) (hgl : Gl X "all") (hm : X.mg "all" = none) (TB : TabB X.base X.mg c P) (hcode : X.env.code = .ref c) (hi : PI X tg iter wi) (ok : BlkOk X.N X.env.scope scope own)
    (hcell : ∀ y ∈ scope.names, y.2 ≠ .cell) (hdot : scope.names.lookup (".0" : Str) = some NameKind.local) (hco : scope.isCoroutine = false)
    (hg : ∀ (s : Shared) (H : Hp) (cl : List (Str × Addr)) (C : Addr) (code : Value) (fp : List Addr) (pn : List (Addr × Obj)), PG (gcx X s H (genEnv scope cl C code builtinsNs X.env) fp pn) tg g)
    (he : ∀ (s : Shared) (H : Hp) (cl : List (Str × Addr)) (C : Addr) (code : Value) (fp : List Addr) (pn : List (Addr × Obj)), PE (gcx X s H (genEnv scope cl C code builtinsNs X.env) fp pn) elt te)
    (hs : ∀ v, genFold iter X.env v = pure v := by intro _; rfl)
    (hst : starEach [.GeneratorExp elt [⟨tg, iter, [], 0⟩] scope gpos] X.env = (false, eval (.GeneratorExp elt [⟨tg, iter, [], 0⟩] scope gpos) X.env) :: starEach [] X.env := by rfl) :
    PE X (.Call (.Name "all" p) [.GeneratorExp elt [⟨tg, iter, [], 0⟩] scope gpos] [] pos) (tAllX wi g te P (own.map (·.2))) := by
  refine ⟨fun pins s σ H Q I h => ?_⟩
  refine wpAny_Call_Name_kw (ld_blt I hgl hm boot_all ?_)
  refine PyProof.Rows.callWith_builtin1 ?_ hst (by rfl)
  rw [hst]
  show wpAny _ _ (spliced ((false, eval (.GeneratorExp elt [⟨tg, iter, [], 0⟩] scope gpos) X.env) :: backTo pos (starEach [] X.env))) _ _ s
  refine Calls.spliced_cons ?_
  have hfree : ∀ y ∈ scope.names, y.2 = .free → ∃ c, X.env.cells.lookup y.1 = some c := fun y hy e => by
    rcases ok.free y hy e with k | k
    · exact I.ok.has _ (.inl k)
    · exact I.ok.has _ (.inr k)
  refine wpAny_GeneratorExp_make hco (closure_ok hfree) hcell hdot ok.kind (by have := hr.dp; omega) ?_ hs
  refine thn (hi.run pins s σ H _ I h) fun xv s0 hx => thn hx fun itv s1 hPIE => ?_
  obtain ⟨it, fp, tn, J, H1, rfl, I1, T, st1, f1, ⟨ps, hP, ht⟩, q1⟩ := hPIE
  refine ⟨I1.nolimit, ?_⟩
  have hPs : s1.heap.get? P = some { cls := .none, data := .fields ps } := I1.hok P _ hP
  have hPlt : P < s1.heap.objs.size := Heap.lt_size hPs
  have cd : PySem.W.CodeHd s1.heap c P := TB.code.keeps fun b u e => I1.bk b u e
  have fpP : ∀ b ∈ fp, b ≠ P := fun b hb z => by
    have := (f1 b hb).1
    rw [z, hP] at this
    cases this
  have cont : ∀ (code : Value) (h3 : Heap) (tk : Nat) (ps' : Array Value), Heap.ExtBut P s1.heap h3 → s1.heap.objs.size ≤ h3.objs.size → h3.get? P = some { cls := .none, data := .fields ps' } → (∃ more, ps' = ps ++ more) → TriplesOk ps'.toList →
      wpAny (model X.prog X.w) X.A (builtinsFor X.env.globals X.env.builtins) (fun bi s₄ =>
        ∀ h', h'.Ns s₄.heap.objs.size (fun y => if y = ".0" then some (.ref it) else none) → Heap.SameBut s₄.heap.objs.size (s₄.heap.push { cls := .type "frame", data := .dict #[] }) h' →
          wpAny (model X.prog X.w) X.A (spliced (backTo pos (starEach [] X.env))) (fun us s' => wpAny (model X.prog X.w) X.A (call (.builtin "all") ([Value.ref h'.objs.size] ++ us)) (EP X pins σ Q) X.xe s') X.xe { s₄ with
            gens := s₄.gens.push (.fresh (.compStart (.GeneratorExp elt [⟨tg, iter, [], 0⟩] scope gpos) 0 (.ref it) .none (genEnv scope (cloFrom X.env.cells scope.names []) s₄.heap.objs.size code bi X.env))),
            toks := s₄.toks + 1 + 1 + 1,
            heap := h'.push { cls := .type "generator", data := .fields #[.int s₄.gens.size 0, .str "<genexpr>" (s₄.toks + 1), .str (X.env.qual ++ "<genexpr>") (s₄.toks + 1 + 1)] } }) X.xe { s1 with heap := h3, toks := tk } := by
    intro code h3 tk ps' hx hsz hP3 hmore ht3
    obtain ⟨bm, ob, e1, e2, e3, e4, e5, e6, e7, e8⟩ := TB.bm
    obtain ⟨more, em⟩ := hmore
    have keep3 : ∀ b u, b ≠ P → s1.heap.get? b = some u → h3.get? b = some u := fun b u hb e => hx b u hb e
    refine wpAny_builtinsFor (m := X.mg) (by rw [I1.ok.glob]; exact (I1.mod.glob.keeps I1.bk).extBut hx TB.gP) e1 e2 (keep3 _ _ e4 (I1.bk _ _ e5)) e6 e7 e8 ?_
    intro h' hn' hs'
    -- the table has grown
    have I4 : Inv X pins σ (upd H1 P (.tbl (ps ++ more))) { s1 with heap := h3, gens := s1.gens, drawn := s1.drawn, toks := tk } := inv_tab (more := more) (h' := h3) (g' := s1.gens) (d' := s1.drawn) (t' := tk) I1 hP keep3 (by rw [← em]; exact hP3) I1.bare
    have hT : Tabbed P H1 (upd H1 P (.tbl (ps ++ more))) := ⟨⟨ps ++ more, upd_same, by rw [← em]; exact ht3⟩, fun b hb => upd_ne hb⟩
    obtain ⟨W, ⟨m0, w0⟩, turn⟩ := q1 _ hT
    generalize upd H1 P (.tbl (ps ++ more)) = H4 at I4 hT w0 turn
    have hsz' : h'.objs.size = h3.objs.size + 1 := by rw [hs'.1, Heap.size_push]
    have keep' : ∀ b o, h3.get? b = some o → h'.get? b = some o := fun b o e => hs'.extBut b o (Nat.ne_of_lt (Heap.lt_size e)) (Heap.get?_push_of_some _ e)
    generalize hgo : ({ cls := .type "generator", data := .fields #[.int s1.gens.size 0, .str "<genexpr>" (tk + 1), .str (X.env.qual ++ "<genexpr>") (tk + 1 + 1)] } : Obj) = go
    have hgd : ∀ v, go.data ≠ .cell v := fun v z => by rw [← hgo] at z; cases z
    have kp5 : ∀ b o, h3.get? b = some o → (h'.push go).get? b = some o := fun b o e => Heap.get?_push_of_some _ (keep' b o e)
    have hgo5 : (h'.push go).get? (h3.objs.size + 1) = some go := by
      rw [← hsz', ← hgo]
      exact Heap.get?_push_size _ rfl
    have fpOk4 : ∀ b ∈ fp, FpOk X pins H4 b ∧ b < h3.objs.size := fun b hb => by
      refine ⟨⟨?_, (f1 b hb).2⟩, ?_⟩
      · rw [hT.2 b (fpP b hb)]; exact (f1 b hb).1
      · obtain ⟨o, e, _⟩ := T.obj _ _ st1 b hb
        exact Heap.lt_size (keep3 b o (fpP b hb) e)
    have st4 : tn 0 (h'.push go) := T.keep _ _ _ st1 fun b hb o e => kp5 b o (keep3 b o (fpP b hb) e)
    have bare5 : AllBare (s1.gens.push (.fresh (.compStart (.GeneratorExp elt [⟨tg, iter, [], 0⟩] scope gpos) 0 (.ref it) .none (genEnv scope (cloFrom X.env.cells scope.names []) h3.objs.size code builtinsNs X.env)))) := AllBare.push I1.bare rfl
    have I5 := gen_start (s := { s1 with heap := h3, toks := tk }) (h5 := h'.push go) (gs := s1.gens.push (.fresh (.compStart (.GeneratorExp elt [⟨tg, iter, [], 0⟩] scope gpos) 0 (.ref it) .none (genEnv scope (cloFrom X.env.cells scope.names []) h3.objs.size code builtinsNs X.env)))) (tk := tk + 1 + 1 + 1) (code := code) I4 ok hcell hN fpOk4 kp5 (hn'.push _) hgo5 hgd bare5
    refine Calls.spliced_nil ?_
    show wpAny (model X.prog X.w) X.A (call (.builtin "all") [Value.ref h'.objs.size]) (EP X pins σ Q) X.xe _
    rw [hsz']
    have hpn : ∀ p ∈ [(h3.objs.size + 1, go)], ∀ b ∈ fp, p.1 ≠ b := fun p hp b hb z => by
      have hp' : p = (h3.objs.size + 1, go) := by simpa using hp
      subst hp'
      have := (fpOk4 b hb).2
      have z' : h3.objs.size + 1 = b := z
      rw [← z'] at this
      exact absurd this (Nat.not_lt.mpr (Nat.le_succ _))
    have isg : ∀ {s' : Shared} {pins' : List (Addr × Obj)} {σ' : L2.St} {H' : Hp}, Inv (gcx X { s1 with heap := h3, toks := tk } H4 (genEnv scope (cloFrom X.env.cells scope.names []) h3.objs.size code builtinsNs X.env) fp [(h3.objs.size + 1, go)]) pins' σ' H' s' → s'.heap.IsGen (h3.objs.size + 1) s1.gens.size := fun {s' pins' σ' H'} J => by
      have z := (J.pin (h3.objs.size + 1, go) (List.mem_append_left _ (List.mem_singleton.mpr rfl))).1
      exact ⟨go, _, _, z, by rw [← hgo], by rw [← hgo], by rw [← hgo]⟩
    refine call_all_gen (Xg := gcx X { s1 with heap := h3, toks := tk } H4 (genEnv scope (cloFrom X.env.cells scope.names []) h3.objs.size code builtinsNs X.env) fp [(h3.objs.size + 1, go)]) (σ0 := wipe σ (own.map (·.2))) (Q := Q) (A := X.A) (g := s1.gens.size) (n := m0 + 1)
      hr.hd (by have := hr.dp; omega) (fun s' pins' σ' H' J => isg J) (fun b pins' σ' H' s' J q => ?_) (isg I5) I5.nolimit ⟨_, Array.getElem?_push_size .., rfl, ?_⟩
    · refine ⟨.bl b, H', ?_, rfl, q⟩
      exact I4.call' (ch := fp) J.os J.base J.hok J.bare fun b hb => ⟨(fpOk4 b hb).1.2.2.2.1, (fpOk4 b hb).1.2.1, (fpOk4 b hb).1.2.2.2.2.1, (fpOk4 b hb).1.2.2.2.2.2⟩
    · refine seg_start T hc hco hpn (hg _ _ _ _ _ _ _) (he _ _ _ _ _ _ _) turn m0 _ _ H4 w0 (inv_same I5 rfl rfl ?_) st4 fun b hb => (fpOk4 b hb).1.1
      exact allBare_setGen (s := { s1 with heap := h'.push go, gens := s1.gens.push _, toks := tk + 1 + 1 + 1 }) bare5 rfl
  cases hf : codeAmong gpos ps.toList with
  | none =>
    refine wpAny_genexprCodeX hcode (cd.code hPs ht) (cd.tab hPs) hf fun c' h' tk hx hge hlt hco' _ htab' _ => ?_
    obtain ⟨o1, vs, f1, tf, fl, tg, inF, tx, tt, op, _, _, _, _, _, _, _, _, _, htr, _⟩ := hco'
    exact cont _ h' tk _ hx (Nat.le_trans hge (Nat.le_of_lt hlt)) htab'.2 ⟨_, rfl⟩ htr
  | some cv =>
    refine wpAny_genexprCode_hit hcode (cd.code hPs ht) hf ?_
    exact cont cv s1.heap s1.toks ps (Heap.ExtBut.refl _ _) (Nat.le_refl _) hPs ⟨#[], by simp⟩ ht
end
end GxA

/-! KR -/
set_option Elab.async false
set_option linter.all false
set_option maxRecDepth 100000
set_option maxHeartbeats 4000000
namespace KR
open PySem PySem.Spec PyProof.Rows L2

/-! ### gcd and lcm of four -/
theorem args_gcd4 (a b c d : Value) : argsOk "math.gcd" ⟨[a, b, c, d], []⟩ := by unfold argsOk; kernel_rfl
theorem args_lcm4 (a b c d : Value) : argsOk "math.lcm" ⟨[a, b, c, d], []⟩ := by unfold argsOk; kernel_rfl
theorem run_gcd4 (a : Int) (t : Tok) (b : Int) (u : Tok) (c : Int) (v : Tok) (d : Int) (x : Tok) :
    Gives (Builtin.«math.gcd» ⟨[.int a t, .int b u, .int c v, .int d x], []⟩) (.int (((((Nat.gcd 0 a.natAbs).gcd b.natAbs).gcd c.natAbs).gcd d.natAbs : Nat) : Int)) :=
  .of_wp fun M A E s Q h => by obtain ⟨hp, g, d, tk, os⟩ := s; wp_walk; exact ⟨_, rfl, h⟩
theorem run_lcm4 (a : Int) (t : Tok) (b : Int) (u : Tok) (c : Int) (v : Tok) (d : Int) (x : Tok)
    (h0 : ¬(max 1 a.natAbs).log2 / 30 + 1 > 450) (h1 : ¬(max (Nat.lcm 1 a.natAbs) b.natAbs).log2 / 30 + 1 > 450) (h2 : ¬(max ((Nat.lcm 1 a.natAbs).lcm b.natAbs) c.natAbs).log2 / 30 + 1 > 450)
    (h3 : ¬(max (((Nat.lcm 1 a.natAbs).lcm b.natAbs).lcm c.natAbs) d.natAbs).log2 / 30 + 1 > 450)
    (hsz : (((((Nat.lcm 1 a.natAbs).lcm b.natAbs).lcm c.natAbs).lcm d.natAbs : Nat) : Int).natAbs.log2 < bitsLine) :
    Gives (Builtin.«math.lcm» ⟨[.int a t, .int b u, .int c v, .int d x], []⟩) (.int (((((Nat.lcm 1 a.natAbs).lcm b.natAbs).lcm c.natAbs).lcm d.natAbs : Nat) : Int)) :=
  .of_wp fun M A E s Q h => by
    obtain ⟨hp, g, dd, tk, os⟩ := s
    wp_walk
    (try (refine wpAny_ite_false (decide_eq_false h1) ?_; wp_walk))
    (try (refine wpAny_ite_false (decide_eq_false h2) ?_; wp_walk))
    (try (refine wpAny_ite_false (decide_eq_false h3) ?_; wp_walk))
    (try (refine wpAny_ite_false (decide_eq_false (Nat.not_le.mpr hsz)) ?_; wp_walk))
    exact ⟨_, rfl, h⟩
end KR

/-! KS -/
set_option Elab.async false
set_option linter.all false
set_option maxRecDepth 100000
set_option maxHeartbeats 4000000
set_option exponentiation.threshold 20000
namespace KR
open PySem PySem.Spec PyProof.Rows L2

theorem log2_le {n k : Nat} (h : n < 2 ^ (k + 1)) : n.log2 ≤ k := PySem.W.mg_log h
section
variable {X : Cx}
theorem vals4 {a b c d : Int} {us : List Value} (r : Vals [V.int a, .int b, .int c, .int d] us) : ∃ t u v x, us = [.int a t, .int b u, .int c v, .int d x] := by
  cases r with
  | cons r1 r => cases r with
    | cons r2 r => cases r with
      | cons r3 r => cases r with
        | cons r4 r =>
          cases r
          obtain ⟨t, rfl⟩ := r1
          obtain ⟨u, rfl⟩ := r2
          obtain ⟨v, rfl⟩ := r3
          obtain ⟨x, rfl⟩ := r4
          exact ⟨t, u, v, x, rfl⟩
def rGcd4 : List V → Hp → VK → Prop := fun vs H Q => ∃ a b c d : Int, vs = [.int a, .int b, .int c, .int d] ∧ Q (.int ((((a.natAbs.gcd b.natAbs).gcd c.natAbs).gcd d.natAbs : Nat) : Int)) H
theorem cr_gcd4 : CallR X (.builtin "math.gcd") rGcd4 := by
  intro pins s σ H vs us Q I r h
  obtain ⟨a, b, c, d, rfl, q⟩ := h
  obtain ⟨t, u, v, x, rfl⟩ := vals4 r
  have g := run_gcd4 a t b u c v d x
  rw [Nat.gcd_zero_left] at g
  exact call_function_meets PySem.W.MGF.kind_gcd PySem.W.MGF.plain_gcd PySem.W.MGF.entry_gcd (args_gcd4 _ _ _ _) g.meets ⟨.int _, H, I.tok _, ⟨_, rfl⟩, q⟩
theorem lcm_le' {m n : Nat} : m.lcm n ≤ m * n := PySem.W.mc_lcm_le m n
def rLcm4 : List V → Hp → VK → Prop := fun vs H Q => ∃ a b c d : Nat, vs = [.int a, .int b, .int c, .int d] ∧ 0 < a ∧ 0 < b ∧ 0 < c ∧ 0 < d ∧ a * b * c * d < 2 ^ 13000 ∧ Q (.int ((((a.lcm b).lcm c).lcm d : Nat) : Int)) H
theorem cr_lcm4 : CallR X (.builtin "math.lcm") rLcm4 := by
  intro pins s σ H vs us Q I r h
  obtain ⟨a, b, c, d, rfl, ha, hb, hc, hd, hz, q⟩ := h
  obtain ⟨t, u, v, x, rfl⟩ := vals4 r
  have l1 : a.lcm b ≤ a * b := lcm_le'
  have l2 : (a.lcm b).lcm c ≤ a * b * c := Nat.le_trans lcm_le' (Nat.mul_le_mul_right _ l1)
  have l3 : ((a.lcm b).lcm c).lcm d ≤ a * b * c * d := Nat.le_trans lcm_le' (Nat.mul_le_mul_right _ l2)
  have p1 : a ≤ a * b := Nat.le_mul_of_pos_right _ hb
  have p1' : b ≤ a * b := Nat.le_mul_of_pos_left _ ha
  have p2 : a * b ≤ a * b * c := Nat.le_mul_of_pos_right _ hc
  have p2' : c ≤ a * b * c := Nat.le_mul_of_pos_left _ (Nat.mul_pos ha hb)
  have p3 : a * b * c ≤ a * b * c * d := Nat.le_mul_of_pos_right _ hd
  have p3' : d ≤ a * b * c * d := Nat.le_mul_of_pos_left _ (Nat.mul_pos (Nat.mul_pos ha hb) hc)
  have e1 : Nat.lcm 1 ((a : Int)).natAbs = a := by rw [Int.natAbs_natCast, PySem.W.mc_lcm_one]
  have lg : ∀ n : Nat, n ≤ a * b * c * d → ¬ n.log2 / 30 + 1 > 450 := fun n hn => by
    have : n.log2 ≤ 12999 := log2_le (Nat.lt_of_le_of_lt hn hz)
    omega
  have g := run_lcm4 (a : Int) t (b : Int) u (c : Int) v (d : Int) x
    (lg _ (Nat.max_le.mpr ⟨by omega, by rw [Int.natAbs_natCast]; omega⟩)) (by rw [e1]; exact lg _ (Nat.max_le.mpr ⟨by omega, by rw [Int.natAbs_natCast]; omega⟩))
    (by rw [e1]; exact lg _ (Nat.max_le.mpr ⟨by rw [Int.natAbs_natCast]; omega, by rw [Int.natAbs_natCast]; omega⟩))
    (by rw [e1]; exact lg _ (Nat.max_le.mpr ⟨by rw [Int.natAbs_natCast, Int.natAbs_natCast]; omega, by rw [Int.natAbs_natCast]; omega⟩))
    (by
      rw [e1, Int.natAbs_natCast, Int.natAbs_natCast, Int.natAbs_natCast, Int.natAbs_natCast]
      have : (((a.lcm b).lcm c).lcm d).log2 ≤ 12999 := log2_le (Nat.lt_of_le_of_lt l3 hz)
      exact Nat.lt_of_le_of_lt this (by decide))
  rw [e1, Int.natAbs_natCast, Int.natAbs_natCast, Int.natAbs_natCast] at g
  exact call_function_meets PySem.W.MGF.kind_lcm PySem.W.MGF.plain_lcm PySem.W.MGF.entry_lcm (args_lcm4 _ _ _ _) g.meets ⟨.int _, H, I.tok _, ⟨_, rfl⟩, q⟩

/-- True - True -/
theorem op_sub_bb : OpR X (binaryOp .Sub) (fun x y H Q => ∃ i k, x = .bl i ∧ y = .bl k ∧ Q (.int (b2i i - b2i k)) H) := by
  intro pins s σ H x y v u Q I rx ry h
  obtain ⟨i, k, rfl, rfl, q⟩ := h
  cases rx
  cases ry
  exact sub_bool ⟨.int (b2i i - b2i k), H, I.tok _, ⟨_, rfl⟩, q⟩

/-- repr of a list, a tuple -/
def rRepr (K : PySem.W.Frag) : List V → Hp → VK → Prop := fun vs H Q => ∃ a d, vs = [.ref a] ∧ Dp K H (.ref a) d ∧ d.showable = true ∧ d.hasDict = false ∧ d.depth ≤ 20 ∧ d.shown.length ≤ sizeLine ∧ Q (.str d.shown) H
theorem call_repr (hg : X.A.guards = some []) (hu : X.A.units + 64 < cLine) : CallR X (.builtin "repr") (rRepr X.K) := by
  intro pins s σ H vs us Q I r h
  obtain ⟨a, d, rfl, D, hs, hd, hp, hz, q⟩ := h
  obtain ⟨u, rfl, ru⟩ := vals1 r
  obtain ⟨as, R⟩ := Dp.reads I d _ u D ru
  cases ru
  exact repr_of_reads' R hs (fun e => by rw [hd] at e; cases e) hg (by omega) (fun _ _ e => e) (fun h' u tk k => ⟨.str d.shown, H, I.kept k, ⟨_, rfl⟩, q⟩) hz
end

/-! ### defs under no guard (they call repr) -/
structure FnOkG (P : Program) (w : World) (K : PySem.W.Frag) (mg : Str → Option Value) (base : Heap) (k : Nat) (f : Addr) (fd : FuncData) (ps : List Str) (sp : Sp) : Prop where
  len : ∀ vs H Q E, sp vs H Q E → vs.length = ps.length
  run : ∀ (A : Around) (outer : List Env) (s : Shared) (H : Hp) (args : Args) (us : List Value) (vs : List V) (Q : VK) (E : XK), A.guards = some [] → Room k A → Env0 P w K mg base A outer s H → BindsTo s fd args (ps.zip us) → Vals vs us → sp vs H Q E →
    codeAny (model P w) A (.call (.ref f) args) (CR CX0 outer P w H s Q E) s
theorem guards_deeper {A : Around} {env : Env} (h : A.guards = some []) : (A.deeper env).guards = some [] := by
  first
    | exact h
    | simpa [Around.deeper, Around.over, pushGuards] using h
section
variable {P : Program} {w : World} {K : PySem.W.Frag} {mg : Str → Option Value} {base : Heap}
theorem okG {x qual : Str} {st : Stmt} {f : Addr} {fd : FuncData} {N ps : List Str} {k : Nat} {sp : Sp} (F : Fun K x qual st f fd) (S : FnScope N ps (defScope st)) (len : ∀ vs H Q E, sp vs H Q E → vs.length = ps.length)
    (hbody : ∀ (cdv : Value) (A : Around) (outer : List Env) (s : Shared) (H : Hp) (vs : List V) (Q : VK) (E : XK), (A.deeper (envOfC qual (defScope st) s.heap.objs.size f cdv)).guards = some [] → Room k (A.deeper (envOfC qual (defScope st) s.heap.objs.size f cdv)) → sp vs H Q E →
      ∃ t, PSs (cxOf CX0 P w K mg base N qual (defScope st) f cdv A outer s H E).nox (defBody st) t ∧ t { nx := fun _ H' => Q .non H', rt := Q } (start N vs) H) : FnOkG P w K mg base (k + 1) f fd ps sp := by
  obtain ⟨oc, od, kV, doc, pm, an, cdv, ct, osl, rfl, lk, hcd⟩ := F.ex
  refine ⟨len, fun A outer s H args us vs Q E hgd hr e0 hb r hsp => ?_⟩
  have hl := len _ _ _ _ hsp
  have KX : K.In s.heap := e0.mod.kin.keeps fun b o e => (e0.bs b o e).1
  have lim : s.heap.NoLimit := e0.mod.nolimit.keeps fun b o e => (e0.bs b o e).1
  have hkind : ∀ y ∈ ps.zip us, (defScope st).names.lookup y.1 = some .local ∨ ((defScope st).names.lookup y.1 = some .cell ∧ ((cellsFrom (s.heap.objs.size + 1) (defScope st).names []).lookup y.1).isSome = true) := fun ⟨n, v⟩ hy => by
    rcases S.par n (List.of_mem_zip hy).1 with q | q
    · exact .inl q
    · exact .inr ⟨q, PySem.W.cellsFrom_some _ _ _ (.inl q)⟩
  refine codeAny_call_function hr.depth (KX _ _ lk) rfl S.co S.gen rfl (PySem.W.codeRec_of KX hcd) (hb _ _ _ _ ?_)
  refine wpAny_newFunctionEnv_cells S.kind hkind fun env he s1 x => ?_
  subst he
  refine ⟨lim.keeps x.toInCall.keep, codeAny_func ?_⟩
  obtain ⟨t, ht, hq⟩ := hbody cdv A outer s H vs Q E (guards_deeper hgd) (hr.deeper _) hsp
  have I : Inv (cxOf CX0 P w K mg base N qual (defScope st) f cdv A outer s H E) [] (start N vs) H s1 := inv_start S hr.hd e0 hl r x
  refine wpAny_mono (ht.nox.run [] s1 (start N vs) H _ I hq) (fun fl s' hs => ?_) fun e s' hs => hs
  have fin : ∀ {σ' : L2.St} {H' : Hp} {v : V} {u : Value}, Inv (cxOf CX0 P w K mg base N qual (defScope st) f cdv A outer s H E) [] σ' H' s' → RelV v u → Q v H' → CE outer P w H s Q u s' :=
    fun {σ' H' v u} J rv q => ⟨v, H', J.os, J.bare, J.base, J.hok, rv, q⟩
  cases fl with
  | ret u =>
    obtain ⟨v, σ', H', J, rv, q⟩ := hs
    exact fin J rv q
  | next =>
    obtain ⟨σ', H', J, q⟩ := hs
    exact fin (v := V.non) (u := Value.none) J rfl q
  | brk =>
    obtain ⟨_, _, _, q⟩ := hs
    exact False.elim q
  | cont =>
    obtain ⟨_, _, _, q⟩ := hs
    exact False.elim q
/-- a def whose code object is known (it holds a generator expression) -/
theorem okC {x qual : Str} {st : Stmt} {f c : Addr} {fd : FuncData} {N ps : List Str} {k : Nat} {sp : Sp} (F : Fun K x qual st f fd) (hc : fd.code = .ref c) (S : FnScope N ps (defScope st)) (len : ∀ vs H Q E, sp vs H Q E → vs.length = ps.length)
    (hbody : ∀ (A : Around) (outer : List Env) (s : Shared) (H : Hp) (vs : List V) (Q : VK) (E : XK), Room k (A.deeper (envOfC qual (defScope st) s.heap.objs.size f (.ref c))) → sp vs H Q E →
      ∃ t, PSs (cxOf CX0 P w K mg base N qual (defScope st) f (.ref c) A outer s H E).nox (defBody st) t ∧ t { nx := fun _ H' => Q .non H', rt := Q } (start N vs) H) : FnOk P w K mg base CX0 (k + 1) f fd ps sp := by
  obtain ⟨oc, od, kV, doc, pm, an, cdv, ct, osl, rfl, lk, hcd⟩ := F.ex
  have e : cdv = .ref c := hc
  subst e
  refine fn_of lk hcd S len fun A outer s H vs Q E hr hsp => ?_
  obtain ⟨t, h, q⟩ := hbody A outer s H vs Q E hr hsp
  exact ⟨t, h.nox, q⟩
end
section
variable {X : Cx} {k : Nat} {f : Addr} {fd : FuncData} {ps : List Str} {sp : Sp} {dvs : List V} {ds : List Value} {x : Str} {p pos : Pos} {e : Expr} {es : List Expr} {t : TA}
theorem run_fnG {pins : List (Addr × Obj)} {σ : L2.St} {H : Hp} {s : Shared} {Q : VK} {us : List Value} {vs : List V} (F : FnOkG X.prog X.w X.K X.mg X.base k f fd ps sp) (hgd : X.A.guards = some []) (hr : Room k X.A) (hb : Binds X.K fd ps [])
    (I : Inv X pins σ H s) (r : Vals vs us) (h : sp vs H Q E0) : wpAny (model X.prog X.w) X.A (call (.ref f) us) (EP X pins σ Q) X.xe s := by
  have hl : (us ++ []).length = ps.length := by rw [List.append_nil, ← r.length]; exact F.len _ _ _ _ h
  have hb' := hb s us I.kIn hl
  rw [List.append_nil] at hb'
  refine wpAny_call (codeAny_mono (F.run X.A X.stack s H ⟨us, []⟩ us vs Q E0 hgd hr I.env0 hb' r h) fun r s' hq => ?_)
  cases r with
  | error e => exact False.elim hq
  | ok fl =>
    cases fl with
    | ret u => exact I.after hq
    | next => exact False.elim hq
    | brk => exact False.elim hq
    | cont => exact False.elim hq
theorem pe_callG (F : FnOkG X.prog X.w X.K X.mg X.base k f fd ps sp) (hgd : X.A.guards = some []) (hr : Room k X.A) (hg : Gl X x) (hm : X.mg x = some (.ref f)) (hk : PySem.W.keepIn X.K (.ref f) = true) (hb : Binds X.K fd ps [])
    (ha : PA X (e :: es) t) (hdb : (x == ("__debug__" : Str)) = false := by decide) (he : starEach (e :: es) X.env = (false, eval e X.env) :: starEach es X.env := by rfl) (hpl : (backTo pos (starEach es X.env)).any (·.1) = false := by rfl) :
    PE X (.Call (.Name x p) (e :: es) [] pos) (tCall sp [] E0 t) := by
  refine ⟨fun pins s σ H Q I h => ?_⟩
  refine wpAny_Call_Name_kw (ld_glob I hg hm ?_ hdb)
  refine PySem.W.callWith_K (h₀ := X.base) I.ok.mod.kin hk (thn (ha.run pos pins s σ H _ I h) fun us s1 ⟨vs, H1, I1, r, q⟩ => ⟨I1.kIn, ?_⟩) he hpl
  have q' : sp (vs ++ []) H1 Q E0 := q
  rw [List.append_nil] at q'
  exact run_fnG F hgd hr hb I1 r q'
end
end KR

/-! KT -/
set_option Elab.async false
set_option linter.all false
set_option maxRecDepth 100000
set_option maxHeartbeats 4000000
namespace KR
open PySem PySem.Spec PyProof.Rows L2

/-- a def of the text as the top has left it -/
structure Df (K : PySem.W.Frag) (mg : Str → Option Value) (x : Str) (st : Stmt) : Prop where
  ex : ∃ f fd, Fun K x x st f fd ∧ mg x = some (.ref f)
/-- .. whose code object and its table are known -/
structure DfC (K : PySem.W.Frag) (mg : Str → Option Value) (base : Heap) (x : Str) (st : Stmt) (P : Addr) : Prop where
  ex : ∃ f fd c, Fun K x x st f fd ∧ mg x = some (.ref f) ∧ fd.code = .ref c ∧ GxR.TabB base mg c P
/-- a def that keeps its promise, by its name -/
structure Cal (P : Program) (w : World) (K : PySem.W.Frag) (mg : Str → Option Value) (base : Heap) (k : Nat) (x : Str) (ps : List Str) (sp : Sp) : Prop where
  ex : ∃ f fd, mg x = some (.ref f) ∧ PySem.W.keepIn K (.ref f) = true ∧ (∃ st, Fun K x x st f fd) ∧ Binds K fd ps [] ∧ FnOk P w K mg base CX0 k f fd ps sp
structure CalG (P : Program) (w : World) (K : PySem.W.Frag) (mg : Str → Option Value) (base : Heap) (k : Nat) (x : Str) (ps : List Str) (sp : Sp) : Prop where
  ex : ∃ f fd, mg x = some (.ref f) ∧ PySem.W.keepIn K (.ref f) = true ∧ Binds K fd ps [] ∧ FnOkG P w K mg base k f fd ps sp
/-- how the arguments bind -/
abbrev BindsHow (x : Str) (st : Stmt) (ps : List Str) : Prop := ∀ (kV doc pm : Value) (an : Option Addr) (cdv ct : Value) (us : List Value), us.length = ps.length → bindArgs (PySem.W.fnOf x x (defArgs st) (defBody st) (defScope st) .none kV doc pm an cdv ct) ⟨us, []⟩ = pure (ps.zip us)
section
variable {P : Program} {w : World} {K : PySem.W.Frag} {mg : Str → Option Value} {base : Heap}
theorem mkCal {x : Str} {st : Stmt} {N ps : List Str} {k : Nat} {sp : Sp} (D : Df K mg x st) (S : FnScope N ps (defScope st)) (hb : BindsHow x st ps) (len : ∀ vs H Q E, sp vs H Q E → vs.length = ps.length)
    (hbody : ∀ (f : Addr) (cdv : Value) (A : Around) (outer : List Env) (s : Shared) (H : Hp) (vs : List V) (Q : VK) (E : XK), Room k (A.deeper (envOfC x (defScope st) s.heap.objs.size f cdv)) → sp vs H Q E →
      ∃ t, PSs (cxOf CX0 P w K mg base N x (defScope st) f cdv A outer s H E).nox (defBody st) t ∧ t { nx := fun _ H' => Q .non H', rt := Q } (start N vs) H) : Cal P w K mg base (k + 1) x ps sp := by
  obtain ⟨f, fd, F, g⟩ := D.ex
  exact ⟨f, fd, g, F.kp, ⟨st, F⟩, F.binds hb, F.ok S len (hbody f)⟩
theorem mkCalC {x : Str} {st : Stmt} {N ps : List Str} {k : Nat} {sp : Sp} {T : Addr} (D : DfC K mg base x st T) (S : FnScope N ps (defScope st)) (hb : BindsHow x st ps) (len : ∀ vs H Q E, sp vs H Q E → vs.length = ps.length)
    (hbody : ∀ (f c : Addr) (A : Around) (outer : List Env) (s : Shared) (H : Hp) (vs : List V) (Q : VK) (E : XK), GxR.TabB base mg c T → Room k (A.deeper (envOfC x (defScope st) s.heap.objs.size f (.ref c))) → sp vs H Q E →
      ∃ t, PSs (cxOf CX0 P w K mg base N x (defScope st) f (.ref c) A outer s H E).nox (defBody st) t ∧ t { nx := fun _ H' => Q .non H', rt := Q } (start N vs) H) : Cal P w K mg base (k + 1) x ps sp := by
  obtain ⟨f, fd, c, F, g, hc, TB⟩ := D.ex
  exact ⟨f, fd, g, F.kp, ⟨st, F⟩, F.binds hb, okC F hc S len fun A outer s H vs Q E hr hs => hbody f c A outer s H vs Q E TB hr hs⟩
theorem mkCalG {x : Str} {st : Stmt} {N ps : List Str} {k : Nat} {sp : Sp} (D : Df K mg x st) (S : FnScope N ps (defScope st)) (hb : BindsHow x st ps) (len : ∀ vs H Q E, sp vs H Q E → vs.length = ps.length)
    (hbody : ∀ (f : Addr) (cdv : Value) (A : Around) (outer : List Env) (s : Shared) (H : Hp) (vs : List V) (Q : VK) (E : XK), (A.deeper (envOfC x (defScope st) s.heap.objs.size f cdv)).guards = some [] → Room k (A.deeper (envOfC x (defScope st) s.heap.objs.size f cdv)) → sp vs H Q E →
      ∃ t, PSs (cxOf CX0 P w K mg base N x (defScope st) f cdv A outer s H E).nox (defBody st) t ∧ t { nx := fun _ H' => Q .non H', rt := Q } (start N vs) H) : CalG P w K mg base (k + 1) x ps sp := by
  obtain ⟨f, fd, F, g⟩ := D.ex
  exact ⟨f, fd, g, F.kp, F.binds hb, okG F S len (hbody f)⟩
end
section
variable {X : Cx} {k : Nat} {ps : List Str} {sp : Sp} {x : Str} {p pos : Pos} {e : Expr} {es : List Expr} {t : TA}
theorem pe_cal (C : Cal X.prog X.w X.K X.mg X.base k x ps sp) (hr : Room k X.A) (hg : Gl X x) (ha : PA X (e :: es) t) (hdb : (x == ("__debug__" : Str)) = false := by decide) (he : starEach (e :: es) X.env = (false, eval e X.env) :: starEach es X.env := by rfl) (hpl : (backTo pos (starEach es X.env)).any (·.1) = false := by rfl) :
    PE X (.Call (.Name x p) (e :: es) [] pos) (tCall sp [] E0 t) := by
  obtain ⟨f, fd, g, kp, _, b, F⟩ := C.ex
  exact pe_call F hr hg g kp b .nil pass0 ha hdb he hpl
theorem pe_calG (C : CalG X.prog X.w X.K X.mg X.base k x ps sp) (hgd : X.A.guards = some []) (hr : Room k X.A) (hg : Gl X x) (ha : PA X (e :: es) t) (hdb : (x == ("__debug__" : Str)) = false := by decide) (he : starEach (e :: es) X.env = (false, eval e X.env) :: starEach es X.env := by rfl) (hpl : (backTo pos (starEach es X.env)).any (·.1) = false := by rfl) :
    PE X (.Call (.Name x p) (e :: es) [] pos) (tCall sp [] E0 t) := by
  obtain ⟨f, fd, g, kp, b, F⟩ := C.ex
  exact pe_callG F hgd hr hg g kp b ha hdb he hpl
end
theorem Cal.mono {P : Program} {w : World} {K : PySem.W.Frag} {mg : Str → Option Value} {base : Heap} {j k : Nat} {x : Str} {ps : List Str} {sp : Sp} (C : Cal P w K mg base j x ps sp) (h : j ≤ k) : Cal P w K mg base k x ps sp := by
  obtain ⟨f, fd, g, kp, st, b, F⟩ := C.ex
  exact ⟨f, fd, g, kp, st, b, F.mono h⟩
end KR

/-! KM -/
set_option Elab.async false
set_option maxHeartbeats 1000000
set_option exponentiation.threshold 20000
namespace KM
/-! the mathematics: ratios as rational numbers -/
theorem mk_num (n : Int) (d : Nat) (h : d ≠ 0) : (mkRat n d).num = n / ((n.natAbs.gcd d : Nat) : Int) := by
  rw [Rat.mkRat_def, dif_neg h, Rat.normalize_eq]
theorem mk_den (n : Int) (d : Nat) (h : d ≠ 0) : (mkRat n d).den = d / n.natAbs.gcd d := by
  rw [Rat.mkRat_def, dif_neg h, Rat.normalize_eq]
theorem add_mk (p q : Rat) : p + q = mkRat (p.num * q.den + q.num * p.den) (p.den * q.den) := by
  rw [Rat.add_def, Rat.mkRat_def, dif_neg (Nat.mul_ne_zero p.den_nz q.den_nz)]
theorem mul_mk (p q : Rat) : p * q = mkRat (p.num * q.num) (p.den * q.den) := by
  rw [Rat.mul_def, Rat.mkRat_def, dif_neg (Nat.mul_ne_zero p.den_nz q.den_nz)]
theorem sub_mk (p q : Rat) : p - q = mkRat (p.num * q.den - q.num * p.den) (p.den * q.den) := by
  rw [Rat.sub_eq_add_neg, add_mk, Rat.neg_num, Rat.neg_den]
  congr 1
  rw [Int.neg_mul]
  exact Int.add_neg_eq_sub
/-- sizes -/
def Sz (b : Nat) (q : Rat) : Prop := q.num.natAbs < 2 ^ b ∧ q.den < 2 ^ b
theorem Sz.mono {b c : Nat} {q : Rat} (h : Sz b q) (e : b ≤ c) : Sz c q := ⟨Nat.lt_of_lt_of_le h.1 (Nat.pow_le_pow_right (by decide) e), Nat.lt_of_lt_of_le h.2 (Nat.pow_le_pow_right (by decide) e)⟩
theorem mk_sz {n : Int} {d b : Nat} (h : d ≠ 0) (hn : n.natAbs < 2 ^ b) (hd : d < 2 ^ b) : Sz b (mkRat n d) := by
  constructor
  · rw [mk_num n d h]
    have : (n / ((n.natAbs.gcd d : Nat) : Int)).natAbs ≤ n.natAbs := Int.natAbs_ediv_le_natAbs _ _
    omega
  · rw [mk_den n d h]
    exact Nat.lt_of_le_of_lt (Nat.div_le_self _ _) hd
theorem natAbs_mul_lt {i j : Int} {a b : Nat} (ha : i.natAbs < 2 ^ a) (hb : j.natAbs < 2 ^ b) : (i * j).natAbs < 2 ^ (a + b) := by
  rw [Int.natAbs_mul, Nat.pow_add]
  exact Nat.mul_lt_mul'' ha hb
theorem mul_lt {i j : Nat} {a b : Nat} (ha : i < 2 ^ a) (hb : j < 2 ^ b) : i * j < 2 ^ (a + b) := by
  rw [Nat.pow_add]
  exact Nat.mul_lt_mul'' ha hb
theorem Sz.mul {p q : Rat} {b c : Nat} (hp : Sz b p) (hq : Sz c q) : Sz (b + c) (p * q) := by
  rw [mul_mk]
  exact mk_sz (Nat.mul_ne_zero p.den_nz q.den_nz) (natAbs_mul_lt hp.1 hq.1) (mul_lt hp.2 hq.2)
theorem num_add_lt {p q : Rat} {b c : Nat} (hp : Sz b p) (hq : Sz c q) : (p.num * q.den + q.num * p.den).natAbs < 2 ^ (b + c + 1) := by
  have h1 : (p.num * (q.den : Int)).natAbs < 2 ^ (b + c) := natAbs_mul_lt hp.1 (by rw [Int.natAbs_natCast]; exact hq.2)
  have h2 : (q.num * (p.den : Int)).natAbs < 2 ^ (c + b) := natAbs_mul_lt hq.1 (by rw [Int.natAbs_natCast]; exact hp.2)
  rw [Nat.add_comm c b] at h2
  have h3 := Int.natAbs_add_le (p.num * (q.den : Int)) (q.num * (p.den : Int))
  rw [Nat.pow_succ]
  omega
theorem num_sub_lt {p q : Rat} {b c : Nat} (hp : Sz b p) (hq : Sz c q) : (p.num * q.den - q.num * p.den).natAbs < 2 ^ (b + c + 1) := by
  have h1 : (p.num * (q.den : Int)).natAbs < 2 ^ (b + c) := natAbs_mul_lt hp.1 (by rw [Int.natAbs_natCast]; exact hq.2)
  have h2 : (q.num * (p.den : Int)).natAbs < 2 ^ (c + b) := natAbs_mul_lt hq.1 (by rw [Int.natAbs_natCast]; exact hp.2)
  rw [Nat.add_comm c b] at h2
  have h3 := Int.natAbs_sub_le (p.num * (q.den : Int)) (q.num * (p.den : Int))
  rw [Nat.pow_succ]
  omega
theorem den_mul_lt {p q : Rat} {b c : Nat} (hp : Sz b p) (hq : Sz c q) : p.den * q.den < 2 ^ (b + c) := mul_lt hp.2 hq.2
theorem Sz.add {p q : Rat} {b c : Nat} (hp : Sz b p) (hq : Sz c q) : Sz (b + c + 1) (p + q) := by
  rw [add_mk]
  refine mk_sz (Nat.mul_ne_zero p.den_nz q.den_nz) (num_add_lt hp hq) (Nat.lt_of_lt_of_le (den_mul_lt hp hq) (Nat.pow_le_pow_right (by decide) (Nat.le_succ _)))
theorem Sz.neg {q : Rat} {b : Nat} (h : Sz b q) : Sz b (-q) := by
  constructor
  · rw [Rat.neg_num, Int.natAbs_neg]; exact h.1
  · rw [Rat.neg_den]; exact h.2
theorem Sz.sub {p q : Rat} {b c : Nat} (hp : Sz b p) (hq : Sz c q) : Sz (b + c + 1) (p - q) := by
  rw [Rat.sub_eq_add_neg]
  exact hp.add hq.neg
/-- the sign -/
def sgn (q : Rat) : Int := if 0 < q then 1 else if q < 0 then -1 else 0
theorem sgn_pos {q : Rat} (h : 0 < q) : sgn q = 1 := if_pos h
theorem sgn_zero : sgn 0 = 0 := by decide
theorem sgn_neg {q : Rat} (h : q < 0) : sgn q = -1 := by
  unfold sgn
  rw [if_neg (by grind), if_pos h]
theorem sgn_opp (q : Rat) : sgn (-q) = -sgn q := by
  unfold sgn
  by_cases h1 : 0 < q
  · rw [if_pos h1, if_neg (by grind), if_pos (by grind)]
  · by_cases h2 : q < 0
    · rw [if_pos (by grind), if_neg h1, if_pos h2]; rfl
    · rw [if_neg (by grind), if_neg (by grind), if_neg h1, if_neg h2]; rfl
theorem tri (q : Rat) : 0 < q ∨ q = 0 ∨ q < 0 := by grind
theorem sgn_mul (p q : Rat) : sgn (p * q) = sgn p * sgn q := by
  rcases tri p with hp | hp | hp
  · rcases tri q with hq | hq | hq
    · rw [sgn_pos (Rat.mul_pos hp hq), sgn_pos hp, sgn_pos hq]; rfl
    · subst hq; rw [Rat.mul_zero, sgn_zero, Int.mul_zero]
    · have : p * q < 0 := by
        have := Rat.mul_pos hp (show 0 < -q by grind)
        grind
      rw [sgn_neg this, sgn_pos hp, sgn_neg hq]; rfl
  · subst hp; rw [Rat.zero_mul, sgn_zero, Int.zero_mul]
  · rcases tri q with hq | hq | hq
    · have : p * q < 0 := by
        have := Rat.mul_pos (show 0 < -p by grind) hq
        grind
      rw [sgn_neg this, sgn_neg hp, sgn_pos hq]; rfl
    · subst hq; rw [Rat.mul_zero, sgn_zero, Int.mul_zero]
    · have : 0 < p * q := by
        have := Rat.mul_pos (show 0 < -p by grind) (show 0 < -q by grind)
        grind
      rw [sgn_pos this, sgn_neg hp, sgn_neg hq]; rfl
theorem num_pos_iff (q : Rat) : 0 < q.num ↔ 0 < q := by
  rw [Rat.lt_iff]
  simp
theorem num_neg_iff (q : Rat) : q.num < 0 ↔ q < 0 := by
  rw [Rat.lt_iff]
  simp
theorem sgn_num (q : Rat) : sgn q = if 0 < q.num then 1 else if q.num < 0 then -1 else 0 := by
  unfold sgn
  simp only [num_pos_iff, num_neg_iff]
theorem sgn_vals (q : Rat) : sgn q = 1 ∨ sgn q = 0 ∨ sgn q = -1 := by
  rcases tri q with h | h | h
  · exact .inl (sgn_pos h)
  · exact .inr (.inl (by rw [h]; exact sgn_zero))
  · exact .inr (.inr (sgn_neg h))
theorem sgn_eq_zero {q : Rat} (h : sgn q = 0) : q = 0 := by
  rcases tri q with z | z | z
  · rw [sgn_pos z] at h; cases h
  · exact z
  · rw [sgn_neg z] at h; cases h

/-! turning -/
def det (p0 p1 q0 q1 r0 r1 : Rat) : Rat := (q0 - p0) * (r1 - q1) - (q1 - p1) * (r0 - q0)
theorem det_rot (p0 p1 q0 q1 r0 r1 : Rat) : det q0 q1 r0 r1 p0 p1 = det p0 p1 q0 q1 r0 r1 := by unfold det; grind
theorem det_swap1 (p0 p1 q0 q1 r0 r1 : Rat) : det q0 q1 p0 p1 r0 r1 = -det p0 p1 q0 q1 r0 r1 := by unfold det; grind
theorem det_swap2 (p0 p1 q0 q1 r0 r1 : Rat) : det p0 p1 r0 r1 q0 q1 = -det p0 p1 q0 q1 r0 r1 := by unfold det; grind
theorem det_led (a b c d m n p0 p1 q0 q1 r0 r1 : Rat) :
    det (a * p0 + b * p1 + m) (c * p0 + d * p1 + n) (a * q0 + b * q1 + m) (c * q0 + d * q1 + n) (a * r0 + b * r1 + m) (c * r0 + d * r1 + n) = (a * d - b * c) * det p0 p1 q0 q1 r0 r1 := by unfold det; grind
theorem det_cross (p0 p1 q0 q1 r0 r1 : Rat) : (q0 - p0) * (r1 - p1) - (q1 - p1) * (r0 - p0) = det p0 p1 q0 q1 r0 r1 := by unfold det; grind
end KM

/-! KP -/
set_option Elab.async false
set_option maxHeartbeats 1000000
set_option exponentiation.threshold 20000
namespace KM
/-! a plane of whole numbers out of four ratios -/
def plL (a b c d : Rat) : Nat := ((a.den.lcm b.den).lcm c.den).lcm d.den
def plW (L : Nat) (q : Rat) : Int := q.num * ((L / q.den : Nat) : Int)
def plG (x y z u : Int) : Nat := ((x.natAbs.gcd y.natAbs).gcd z.natAbs).gcd u.natAbs
def planeInts (a b c d : Rat) : List Int :=
  [plW (plL a b c d) a, plW (plL a b c d) b, plW (plL a b c d) c, plW (plL a b c d) d].map fun x => x / (plG (plW (plL a b c d) a) (plW (plL a b c d) b) (plW (plL a b c d) c) (plW (plL a b c d) d) : Int)
theorem den_pos (q : Rat) : 0 < q.den := Nat.pos_of_ne_zero q.den_nz
theorem plL_pos (a b c d : Rat) : 0 < plL a b c d := Nat.lcm_pos (Nat.lcm_pos (Nat.lcm_pos (den_pos a) (den_pos b)) (den_pos c)) (den_pos d)
theorem lcm_le_mul (m n : Nat) (hm : 0 < m) (hn : 0 < n) : m.lcm n ≤ m * n := Nat.le_of_dvd (Nat.mul_pos hm hn) (Nat.lcm_dvd_mul m n)
theorem plL_le (a b c d : Rat) : plL a b c d ≤ a.den * b.den * c.den * d.den := by
  unfold plL
  have h1 := lcm_le_mul a.den b.den (den_pos a) (den_pos b)
  have p1 := Nat.lcm_pos (den_pos a) (den_pos b)
  have h2 := lcm_le_mul (a.den.lcm b.den) c.den p1 (den_pos c)
  have p2 := Nat.lcm_pos p1 (den_pos c)
  have h3 := lcm_le_mul ((a.den.lcm b.den).lcm c.den) d.den p2 (den_pos d)
  exact Nat.le_trans h3 (Nat.mul_le_mul_right _ (Nat.le_trans h2 (Nat.mul_le_mul_right _ h1)))
theorem prod_lt {a b c d : Rat} {m n : Nat} (ha : Sz m a) (hb : Sz m b) (hc : Sz m c) (hd : Sz n d) : a.den * b.den * c.den * d.den < 2 ^ (m + m + m + n) := mul_lt (mul_lt (mul_lt ha.2 hb.2) hc.2) hd.2
theorem plL_dvd_a (a b c d : Rat) : a.den ∣ plL a b c d := Nat.dvd_trans (Nat.dvd_trans (Nat.dvd_lcm_left _ _) (Nat.dvd_lcm_left _ _)) (Nat.dvd_lcm_left _ _)
theorem plL_dvd_b (a b c d : Rat) : b.den ∣ plL a b c d := Nat.dvd_trans (Nat.dvd_trans (Nat.dvd_lcm_right _ _) (Nat.dvd_lcm_left _ _)) (Nat.dvd_lcm_left _ _)
theorem plL_dvd_c (a b c d : Rat) : c.den ∣ plL a b c d := Nat.dvd_trans (Nat.dvd_lcm_right _ _) (Nat.dvd_lcm_left _ _)
theorem plL_dvd_d (a b c d : Rat) : d.den ∣ plL a b c d := Nat.dvd_lcm_right _ _
theorem plq_pos {L : Nat} {q : Rat} (hL : 0 < L) (h : q.den ∣ L) : 0 < L / q.den := Nat.div_pos (Nat.le_of_dvd hL h) (den_pos q)
theorem plW_ne {L : Nat} {q : Rat} (hL : 0 < L) (h : q.den ∣ L) (hq : q ≠ 0) : plW L q ≠ 0 := by
  unfold plW
  have h1 : q.num ≠ 0 := fun z => hq (Rat.num_eq_zero.mp z)
  have h2 := plq_pos hL h
  exact Int.mul_ne_zero h1 (by omega)
theorem plW_pos {L : Nat} {q : Rat} (hL : 0 < L) (h : q.den ∣ L) : 0 < plW L q ↔ 0 < q.num := by
  unfold plW
  have h2 := plq_pos hL h
  constructor
  · intro z
    rcases Int.lt_trichotomy 0 q.num with h | h | h
    · exact h
    · rw [← h] at z; simp at z
    · have := Int.mul_neg_of_neg_of_pos h (show (0 : Int) < ((L / q.den : Nat) : Int) by omega); omega
  · intro z
    exact Int.mul_pos z (by omega)
theorem plW_neg {L : Nat} {q : Rat} (hL : 0 < L) (h : q.den ∣ L) : plW L q < 0 ↔ q.num < 0 := by
  unfold plW
  have h2 := plq_pos hL h
  constructor
  · intro z
    have := Int.neg_of_mul_neg_left (a := q.num) (b := ((L / q.den : Nat) : Int)) z (by omega)
    exact this
  · intro z
    exact Int.mul_neg_of_neg_of_pos z (by omega)
theorem plW_lt {L m e : Nat} {q : Rat} (hq : Sz m q) (hL : L < 2 ^ e) : (plW L q).natAbs < 2 ^ (m + e) := by
  unfold plW
  exact natAbs_mul_lt hq.1 (by rw [Int.natAbs_natCast]; exact Nat.lt_of_le_of_lt (Nat.div_le_self _ _) hL)
theorem plG_dvd (x y z u : Int) : (plG x y z u : Int) ∣ x ∧ (plG x y z u : Int) ∣ y ∧ (plG x y z u : Int) ∣ z ∧ (plG x y z u : Int) ∣ u := by
  unfold plG
  refine ⟨?_, ?_, ?_, ?_⟩
  · exact Int.natAbs_dvd_natAbs.mp (Nat.dvd_trans (Nat.gcd_dvd_left _ _) (Nat.dvd_trans (Nat.gcd_dvd_left _ _) (Nat.gcd_dvd_left _ _)))
  · exact Int.natAbs_dvd_natAbs.mp (Nat.dvd_trans (Nat.gcd_dvd_left _ _) (Nat.dvd_trans (Nat.gcd_dvd_left _ _) (Nat.gcd_dvd_right _ _)))
  · exact Int.natAbs_dvd_natAbs.mp (Nat.dvd_trans (Nat.gcd_dvd_left _ _) (Nat.gcd_dvd_right _ _))
  · exact Int.natAbs_dvd_natAbs.mp (Nat.gcd_dvd_right _ _)
theorem plG_pos {x y z u : Int} (h : x ≠ 0 ∨ y ≠ 0 ∨ z ≠ 0) : 0 < plG x y z u := by
  apply Nat.pos_of_ne_zero
  intro e
  obtain ⟨h1, h2, h3, _⟩ := plG_dvd x y z u
  rw [e] at h1 h2 h3
  rcases h with h | h | h
  · exact h (Int.zero_dvd.mp h1)
  · exact h (Int.zero_dvd.mp h2)
  · exact h (Int.zero_dvd.mp h3)
theorem plG_lt {x y z u : Int} {e : Nat} (h : x ≠ 0 ∨ y ≠ 0 ∨ z ≠ 0) (hx : x.natAbs < 2 ^ e) (hy : y.natAbs < 2 ^ e) (hz : z.natAbs < 2 ^ e) : plG x y z u < 2 ^ e := by
  obtain ⟨h1, h2, h3, _⟩ := plG_dvd x y z u
  rcases h with h | h | h
  · exact Nat.lt_of_le_of_lt (Nat.le_of_dvd (by omega) (by have := Int.natAbs_dvd_natAbs.mpr h1; rwa [Int.natAbs_natCast] at this)) hx
  · exact Nat.lt_of_le_of_lt (Nat.le_of_dvd (by omega) (by have := Int.natAbs_dvd_natAbs.mpr h2; rwa [Int.natAbs_natCast] at this)) hy
  · exact Nat.lt_of_le_of_lt (Nat.le_of_dvd (by omega) (by have := Int.natAbs_dvd_natAbs.mpr h3; rwa [Int.natAbs_natCast] at this)) hz
theorem sign_div {x g : Int} (hg : 0 < g) (h : g ∣ x) : (0 < x / g ↔ 0 < x) ∧ (x / g < 0 ↔ x < 0) := by
  obtain ⟨k, rfl⟩ := h
  rw [Int.mul_ediv_cancel_left _ (by omega)]
  constructor
  · exact ⟨fun z => Int.mul_pos hg z, fun z => by
      rcases Int.lt_trichotomy 0 k with q | q | q
      · exact q
      · subst q; simp at z
      · have := Int.mul_neg_of_pos_of_neg hg q; omega⟩
  · exact ⟨fun z => Int.mul_neg_of_pos_of_neg hg z, fun z => by
      rcases Int.lt_trichotomy 0 k with q | q | q
      · have := Int.mul_pos hg q; omega
      · subst q; simp at z
      · exact q⟩
/-- the third number of the plane has the third ratio's sign -/
theorem plane_sign (a b c d : Rat) (hc : c ≠ 0) :
    (if 0 < plW (plL a b c d) c / (plG (plW (plL a b c d) a) (plW (plL a b c d) b) (plW (plL a b c d) c) (plW (plL a b c d) d) : Int) then (1 : Int)
      else if plW (plL a b c d) c / (plG (plW (plL a b c d) a) (plW (plL a b c d) b) (plW (plL a b c d) c) (plW (plL a b c d) d) : Int) < 0 then -1 else 0) = sgn c := by
  have hL := plL_pos a b c d
  have hdv := plL_dvd_c a b c d
  have hg : (0 : Int) < (plG (plW (plL a b c d) a) (plW (plL a b c d) b) (plW (plL a b c d) c) (plW (plL a b c d) d) : Int) := by
    have := plG_pos (x := plW (plL a b c d) a) (y := plW (plL a b c d) b) (z := plW (plL a b c d) c) (u := plW (plL a b c d) d) (.inr (.inr (plW_ne hL hdv hc)))
    omega
  obtain ⟨h1, h2⟩ := sign_div hg (plG_dvd (plW (plL a b c d) a) (plW (plL a b c d) b) (plW (plL a b c d) c) (plW (plL a b c d) d)).2.2.1
  rw [sgn_num]
  simp only [h1, h2, plW_pos hL hdv, plW_neg hL hdv]
end KM

/-! KD -/
set_option Elab.async false
set_option linter.all false
set_option maxRecDepth 100000
set_option maxHeartbeats 4000000
set_option exponentiation.threshold 20000
namespace KD
open PySem PySem.Spec PyProof.Rows L2 KR KM

def topS (i : Nat) : Stmt := PySem.Challenge.pw_websolids_k14_whole_turning.main.body.getD i (.Pass ⟨0, 0, 0, 0⟩)
abbrev s_is_integer : Stmt := topS 7
abbrev s_is_tuple_of : Stmt := topS 8
abbrev s_is_ratio : Stmt := topS 10
abbrev s_lowest : Stmt := topS 11
abbrev s_ratio_plus : Stmt := topS 12
abbrev s_ratio_contrary : Stmt := topS 13
abbrev s_ratio_less : Stmt := topS 14
abbrev s_ratio_times : Stmt := topS 15
abbrev s_ratio_sum : Stmt := topS 16
abbrev s_ratio_sign : Stmt := topS 17

/-! ### values on the heap -/
/-- the ratio q stands at v -/
def Rt (H : Hp) (v : V) (q : Rat) : Prop := ∃ a, v = .ref a ∧ H a = some (.tup [.int q.num, .int (q.den : Int)])
/-- tuples stay -/
def TK (H H' : Hp) : Prop := ∀ b xs, H b = some (.tup xs) → H' b = some (.tup xs)
theorem TK.refl (H : Hp) : TK H H := fun _ _ h => h
theorem TK.trans {H H1 H2 : Hp} (a : TK H H1) (b : TK H1 H2) : TK H H2 := fun c o h => b c o (a c o h)
theorem tk_of {H H' : Hp} (s : Same H H') : TK H H' := fun b xs h => s b _ h
theorem Rt.keep {H H' : Hp} {v : V} {q : Rat} (h : Rt H v q) (k : TK H H') : Rt H' v q := by
  obtain ⟨a, e, z⟩ := h
  exact ⟨a, e, k _ _ z⟩
abbrev RtAll (H : Hp) : List V → List Rat → Prop := Paired (Rt H)
theorem rtAll_keep {H H' : Hp} {xs : List V} {qs : List Rat} (h : RtAll H xs qs) (k : TK H H') : RtAll H' xs qs := Paired.mapP h fun _ _ z => z.keep k
/-- a row of ratios stands at v -/
def Rw (H : Hp) (v : V) (qs : List Rat) : Prop := ∃ a xs, v = .ref a ∧ H a = some (.tup xs) ∧ RtAll H xs qs
theorem Rw.keep {H H' : Hp} {v : V} {qs : List Rat} (h : Rw H v qs) (k : TK H H') : Rw H' v qs := by
  obtain ⟨a, xs, e, z, r⟩ := h
  exact ⟨a, xs, e, k _ _ z, rtAll_keep r k⟩
theorem same_upd {H : Hp} {p : Addr} {o : HO} (h : H p = none) : Same H (upd H p o) := fun b x e => by
  rw [upd_ne (ne_of_none e h)]
  exact e

/-- the built-in names are no names of the module -/
structure Free (mg : Str → Option Value) : Prop where
  isinstance_ : mg "isinstance" = none
  int_ : mg "int" = none
  bool_ : mg "bool" = none
  tuple_ : mg "tuple" = none
  len_ : mg "len" = none
  all_ : mg "all" = none
  zip_ : mg "zip" = none
  gcd_ : mg "gcd" = some (.builtin "math.gcd")

/-! ### promises -/
def spTrue1 (ok : Hp → V → Prop) : Sp := fun vs H Q _ => ∃ x, vs = [x] ∧ ok H x ∧ Q (.bl true) H
def spInteger : Sp := fun vs H Q _ => ∃ i : Int, vs = [.int i] ∧ Q (.bl true) H
def spTupleOf : Sp := fun vs H Q _ => ∃ (a : Addr) (xs : List V) (n : Int), vs = [.ref a, .int n] ∧ H a = some (.tup xs) ∧ Q (.bl (decide ((xs.length : Int) = n))) H
def spIsRatio : Sp := fun vs H Q _ => ∃ x q, vs = [x] ∧ Rt H x q ∧ Q (.bl true) H
def spLowest : Sp := fun vs H Q _ => ∃ (n : Int) (u b : Nat), vs = [.int n, .int (u : Int)] ∧ u ≠ 0 ∧ u < 2 ^ b ∧ 0 < b ∧ b ≤ 9000 ∧ ∀ v H', Same H H' → Rt H' v (mkRat n u) → Q v H'
def spPlus : Sp := fun vs H Q _ => ∃ x y p q b c, vs = [x, y] ∧ Rt H x p ∧ Rt H y q ∧ Sz b p ∧ Sz c q ∧ b + c + 1 ≤ 9000 ∧ ∀ v H', Same H H' → Rt H' v (p + q) → Q v H'
def spContrary : Sp := fun vs H Q _ => ∃ x p, vs = [x] ∧ Rt H x p ∧ ∀ v H', Same H H' → Rt H' v (-p) → Q v H'
def spLess : Sp := fun vs H Q _ => ∃ x y p q b c, vs = [x, y] ∧ Rt H x p ∧ Rt H y q ∧ Sz b p ∧ Sz c q ∧ b + c + 1 ≤ 9000 ∧ ∀ v H', Same H H' → Rt H' v (p - q) → Q v H'
def spTimes : Sp := fun vs H Q _ => ∃ x y p q b c, vs = [x, y] ∧ Rt H x p ∧ Rt H y q ∧ Sz b p ∧ Sz c q ∧ b + c + 1 ≤ 9000 ∧ ∀ v H', Same H H' → Rt H' v (p * q) → Q v H'
def spSign : Sp := fun vs H Q _ => ∃ x q, vs = [x] ∧ Rt H x q ∧ Q (.int (sgn q)) H

section
variable {P : Program} {w : World} {K : PySem.W.Frag} {mg : Str → Option Value} {base : Heap}

theorem sc_is_integer : FnScope ["value"] ["value"] (defScope s_is_integer) := ⟨rfl, rfl, rfl, by decide +kernel, rfl, by decide +kernel, by decide +kernel⟩
theorem c_is_integer (T : Free mg) (D : Df K mg "is_integer" s_is_integer) : Cal P w K mg base 1 "is_integer" ["value"] spInteger := by
  refine mkCal D sc_is_integer (fun _ _ _ _ _ _ us hl => match us, hl with | [_], _ => rfl) (fun vs H Q E h => ?_) (fun f cdv A outer s H vs Q E hr h => ?_)
  · obtain ⟨i, rfl, _⟩ := h; rfl
  · obtain ⟨i, rfl, q⟩ := h
    refine ⟨_, pss_one (ps_ret (pe_and (pe_callB call_isi (by rfl) T.isinstance_ (by decide +kernel) (pa_cons (pv 0) (pa_cons (pe_bltn (v := .ty "int") (by rfl) T.int_ (by decide +kernel) rfl) pa_nil)))
      (pe_one (pe_not (pe_callB call_isi (by rfl) T.isinstance_ (by decide +kernel) (pa_cons (pv 0) (pa_cons (pe_bltn (v := .ty "bool") (by rfl) T.bool_ (by decide +kernel) rfl) pa_nil))))))), ?_⟩
    refine ⟨.int i, rfl, .int i, .ty "int", .type "int", .type "int", true, rfl, .ty _, .base (.int i), kit_ty (by decide +kernel), true, rfl, iteT ?_⟩
    refine ⟨.int i, rfl, .int i, .ty "bool", .type "int", .type "bool", false, rfl, .ty _, .base (.int i), kit_ty (by decide +kernel), false, rfl, ?_⟩
    exact q
end
end KD

/-! KD2 -/
set_option Elab.async false
set_option linter.all false
set_option maxRecDepth 100000
set_option maxHeartbeats 4000000
set_option exponentiation.threshold 20000
namespace KD
open PySem PySem.Spec PyProof.Rows L2 KR KM
section
variable {P : Program} {w : World} {K : PySem.W.Frag} {mg : Str → Option Value} {base : Heap}

theorem sc_is_tuple_of : FnScope ["value", "many"] ["value", "many"] (defScope s_is_tuple_of) := ⟨rfl, rfl, rfl, by decide +kernel, rfl, by decide +kernel, by decide +kernel⟩
theorem c_is_tuple_of (T : Free mg) (D : Df K mg "is_tuple_of" s_is_tuple_of) : Cal P w K mg base 1 "is_tuple_of" ["value", "many"] spTupleOf := by
  refine mkCal D sc_is_tuple_of (fun _ _ _ _ _ _ us hl => match us, hl with | [_, _], _ => rfl) (fun vs H Q E h => ?_) (fun f cdv A outer s H vs Q E hr h => ?_)
  · obtain ⟨a, xs, n, rfl, _⟩ := h; rfl
  · obtain ⟨a, xs, n, rfl, hA, q⟩ := h
    refine ⟨_, pss_one (ps_ret (pe_and (pe_callB call_isi (by rfl) T.isinstance_ (by decide +kernel) (pa_cons (pv 0) (pa_cons (pe_bltn (v := .ty "tuple") (by rfl) T.tuple_ (by decide +kernel) rfl) pa_nil)))
      (pe_one (pe_cmpR op_eq (pe_callB call_len_seq (by rfl) T.len_ PySem.boot_len (pa_cons (pv 0) pa_nil)) (pv 1) (nomark _))))), ?_⟩
    refine ⟨.ref a, rfl, .ref a, .ty "tuple", .type "tuple", .type "tuple", true, rfl, .ty _, .base (.tup hA), kit_ty (by decide +kernel), true, rfl, iteT ?_⟩
    refine ⟨.ref a, rfl, a, xs, rfl, .inr (SqT.of hA), .int n, rfl, rfl, ?_⟩
    have e : (decide (V.int (xs.length : Int) = V.int n)) = decide ((xs.length : Int) = n) := by
      by_cases z : (xs.length : Int) = n
      · rw [decide_eq_true z, decide_eq_true (congrArg V.int z)]
      · rw [decide_eq_false z, decide_eq_false (fun y => z (V.int.inj y))]
    rw [e]
    exact q

theorem sc_lowest : FnScope ["number", "under", "shared"] ["number", "under"] (defScope s_lowest) := ⟨rfl, rfl, rfl, by decide +kernel, rfl, by decide +kernel, by decide +kernel⟩
theorem c_lowest (T : Free mg) (D : Df K mg "lowest" s_lowest) : Cal P w K mg base 1 "lowest" ["number", "under"] spLowest := by
  refine mkCal D sc_lowest (fun _ _ _ _ _ _ us hl => match us, hl with | [_, _], _ => rfl) (fun vs H Q E h => ?_) (fun f cdv A outer s H vs Q E hr h => ?_)
  · obtain ⟨n, u, b, rfl, _⟩ := h; rfl
  · obtain ⟨n, u, b, rfl, hu, hb, h0, h9, q⟩ := h
    refine ⟨_, pss_cons (ps_set (i := 2) sc_lowest.nd rfl (.inl rfl) (pe_callBfun cr_gcd (by rfl) T.gcd_ (pa_cons (pv 0) (pa_cons (pv 1) pa_nil))))
      (pss_cons (ps_if (pt_cmpR op_lt (pv 1) pe_int (nomark _)) (pss_one (ps_set (i := 2) sc_lowest.nd rfl (.inl rfl) (pe_un un_neg (pv 2)))) pss_nil)
      (pss_one (ps_ret (pe_tup (pa_cons (pe_op op_fdivW (pv 0) (pv 2)) (pa_cons (pe_op op_fdivW (pv 1) (pv 2)) pa_nil)))))), ?_⟩
    refine ⟨.int n, rfl, .int u, rfl, n, u, rfl, ?_⟩
    refine ⟨.int u, rfl, u, 0, rfl, rfl, _, rfl, ite2 (fun e => ?_) (fun e => ?_)⟩
    · have := of_decide_eq_true e
      omega
    · have g0 : 0 < n.natAbs.gcd (u : Int).natAbs := Nat.gcd_pos_of_pos_right _ (by omega)
      have g1 : n.natAbs.gcd (u : Int).natAbs ≤ u := Nat.le_of_dvd (by omega) (by rw [Int.natAbs_natCast]; exact Nat.gcd_dvd_right _ _)
      have cw : ∀ i : Int, CDivW i ((n.natAbs.gcd (u : Int).natAbs : Nat) : Int) := fun i => wide_div (by omega) (by rw [Int.natAbs_natCast]; omega) h0 h9
      refine ⟨_, rfl, _, rfl, _, _, rfl, rfl, cw _, _, rfl, _, rfl, _, _, rfl, rfl, cw _, by show 2 ≤ sizeLine; decide, fun p hp => ?_⟩
      refine q _ _ (same_upd hp) ⟨p, rfl, ?_⟩
      rw [upd_same, mk_num n u hu, mk_den n u hu]
      rfl

theorem rt_inj {H : Hp} {a : Addr} {q : Rat} (h : Rt H (.ref a) q) : H a = some (.tup [.int q.num, .int (q.den : Int)]) := by
  obtain ⟨b, e, z⟩ := h
  cases e
  exact z
end
end KD

/-! KD3 -/
set_option Elab.async false
set_option linter.all false
set_option maxRecDepth 100000
set_option maxHeartbeats 4000000
set_option exponentiation.threshold 20000
namespace KD
open PySem PySem.Spec PyProof.Rows L2 KR KM
section
variable {P : Program} {w : World} {K : PySem.W.Frag} {mg : Str → Option Value} {base : Heap}
theorem wm {i j : Int} {a b : Nat} (ha : i.natAbs < 2 ^ a) (hb : j.natAbs < 2 ^ b) (h : a + b ≤ 20000) : CMulW i j :=
  wide_mul (a := a + 1) (b := b + 1) (Nat.lt_of_lt_of_le ha (Nat.pow_le_pow_right (by decide) (Nat.le_succ _))) (Nat.lt_of_lt_of_le hb (Nat.pow_le_pow_right (by decide) (Nat.le_succ _))) (Nat.succ_pos _) (Nat.succ_pos _) (by omega)
theorem den_abs {q : Rat} {b : Nat} (h : Sz b q) : (q.den : Int).natAbs < 2 ^ b := by rw [Int.natAbs_natCast]; exact h.2
theorem cast_mul (a b : Nat) : ((a : Int) * (b : Int)) = ((a * b : Nat) : Int) := (Int.natCast_mul a b).symm

theorem sc_ratio_plus : FnScope ["ratio", "other"] ["ratio", "other"] (defScope s_ratio_plus) := ⟨rfl, rfl, rfl, by decide +kernel, rfl, by decide +kernel, by decide +kernel⟩
theorem c_ratio_plus {k : Nat} (D : Df K mg "ratio_plus" s_ratio_plus) (C : Cal P w K mg base k "lowest" ["number", "under"] spLowest) : Cal P w K mg base (k + 1) "ratio_plus" ["ratio", "other"] spPlus := by
  refine mkCal D sc_ratio_plus (fun _ _ _ _ _ _ us hl => match us, hl with | [_, _], _ => rfl) (fun vs H Q E h => ?_) (fun f cdv A outer s H vs Q E hr h => ?_)
  · obtain ⟨x, y, p, q, b, c, rfl, _⟩ := h; rfl
  · obtain ⟨x, y, p, q, b, c, rfl, ⟨a1, rfl, h1⟩, ⟨a2, rfl, h2⟩, s1, s2, hz, k⟩ := h
    have t1 := SqT.of (K := K) h1
    have t2 := SqT.of (K := K) h2
    refine ⟨_, pss_one (ps_ret (pe_cal C hr (by rfl) (pa_cons
      (pe_op op_add (pe_op op_mulW (pe_ix ix_tup (pv 0) pe_int (fun _ _ => rfl)) (pe_ix ix_tup (pv 1) pe_int (fun _ _ => rfl))) (pe_op op_mulW (pe_ix ix_tup (pv 1) pe_int (fun _ _ => rfl)) (pe_ix ix_tup (pv 0) pe_int (fun _ _ => rfl))))
      (pa_cons (pe_op op_mulW (pe_ix ix_tup (pv 0) pe_int (fun _ _ => rfl)) (pe_ix ix_tup (pv 1) pe_int (fun _ _ => rfl))) pa_nil)))), ?_⟩
    refine ⟨_, rfl, a1, _, 0, _, rfl, rfl, t1, rfl, _, rfl, a2, _, 1, _, rfl, rfl, t2, rfl, _, _, rfl, rfl, wm s1.1 (den_abs s2) (by omega), ?_⟩
    refine ⟨_, rfl, a2, _, 0, _, rfl, rfl, t2, rfl, _, rfl, a1, _, 1, _, rfl, rfl, t1, rfl, _, _, rfl, rfl, wm s2.1 (den_abs s1) (by omega), _, _, rfl, rfl, ?_⟩
    refine ⟨_, rfl, a1, _, 1, _, rfl, rfl, t1, rfl, _, rfl, a2, _, 1, _, rfl, rfl, t2, rfl, _, _, rfl, rfl, wm (den_abs s1) (den_abs s2) (by omega), ?_⟩
    refine ⟨_, p.den * q.den, b + c + 1, by rw [← cast_mul]; rfl, Nat.mul_ne_zero p.den_nz q.den_nz, Nat.lt_of_lt_of_le (den_mul_lt s1 s2) (Nat.pow_le_pow_right (by decide) (Nat.le_succ _)), Nat.succ_pos _, hz, fun v H' sm hv => ?_⟩
    exact k v H' sm (by rw [add_mk]; exact hv)

theorem sc_ratio_times : FnScope ["ratio", "other"] ["ratio", "other"] (defScope s_ratio_times) := ⟨rfl, rfl, rfl, by decide +kernel, rfl, by decide +kernel, by decide +kernel⟩
theorem c_ratio_times {k : Nat} (D : Df K mg "ratio_times" s_ratio_times) (C : Cal P w K mg base k "lowest" ["number", "under"] spLowest) : Cal P w K mg base (k + 1) "ratio_times" ["ratio", "other"] spTimes := by
  refine mkCal D sc_ratio_times (fun _ _ _ _ _ _ us hl => match us, hl with | [_, _], _ => rfl) (fun vs H Q E h => ?_) (fun f cdv A outer s H vs Q E hr h => ?_)
  · obtain ⟨x, y, p, q, b, c, rfl, _⟩ := h; rfl
  · obtain ⟨x, y, p, q, b, c, rfl, ⟨a1, rfl, h1⟩, ⟨a2, rfl, h2⟩, s1, s2, hz, k⟩ := h
    have t1 := SqT.of (K := K) h1
    have t2 := SqT.of (K := K) h2
    refine ⟨_, pss_one (ps_ret (pe_cal C hr (by rfl) (pa_cons
      (pe_op op_mulW (pe_ix ix_tup (pv 0) pe_int (fun _ _ => rfl)) (pe_ix ix_tup (pv 1) pe_int (fun _ _ => rfl)))
      (pa_cons (pe_op op_mulW (pe_ix ix_tup (pv 0) pe_int (fun _ _ => rfl)) (pe_ix ix_tup (pv 1) pe_int (fun _ _ => rfl))) pa_nil)))), ?_⟩
    refine ⟨_, rfl, a1, _, 0, _, rfl, rfl, t1, rfl, _, rfl, a2, _, 0, _, rfl, rfl, t2, rfl, _, _, rfl, rfl, wm s1.1 s2.1 (by omega), ?_⟩
    refine ⟨_, rfl, a1, _, 1, _, rfl, rfl, t1, rfl, _, rfl, a2, _, 1, _, rfl, rfl, t2, rfl, _, _, rfl, rfl, wm (den_abs s1) (den_abs s2) (by omega), ?_⟩
    refine ⟨_, p.den * q.den, b + c + 1, by rw [← cast_mul]; rfl, Nat.mul_ne_zero p.den_nz q.den_nz, Nat.lt_of_lt_of_le (den_mul_lt s1 s2) (Nat.pow_le_pow_right (by decide) (Nat.le_succ _)), Nat.succ_pos _, hz, fun v H' sm hv => ?_⟩
    exact k v H' sm (by rw [mul_mk]; exact hv)

theorem sc_ratio_contrary : FnScope ["ratio"] ["ratio"] (defScope s_ratio_contrary) := ⟨rfl, rfl, rfl, by decide +kernel, rfl, by decide +kernel, by decide +kernel⟩
theorem c_ratio_contrary (D : Df K mg "ratio_contrary" s_ratio_contrary) : Cal P w K mg base 1 "ratio_contrary" ["ratio"] spContrary := by
  refine mkCal D sc_ratio_contrary (fun _ _ _ _ _ _ us hl => match us, hl with | [_], _ => rfl) (fun vs H Q E h => ?_) (fun f cdv A outer s H vs Q E hr h => ?_)
  · obtain ⟨x, p, rfl, _⟩ := h; rfl
  · obtain ⟨x, p, rfl, ⟨a1, rfl, h1⟩, k⟩ := h
    have t1 := SqT.of (K := K) h1
    refine ⟨_, pss_one (ps_ret (pe_tup (pa_cons (pe_un un_neg (pe_ix ix_tup (pv 0) pe_int (fun _ _ => rfl))) (pa_cons (pe_ix ix_tup (pv 0) pe_int (fun _ _ => rfl)) pa_nil)))), ?_⟩
    refine ⟨_, rfl, a1, _, 0, _, rfl, rfl, t1, rfl, _, rfl, _, rfl, a1, _, 1, _, rfl, rfl, t1, rfl, by show 2 ≤ sizeLine; decide, fun t ht => ?_⟩
    refine k _ _ (same_upd ht) ⟨t, rfl, ?_⟩
    rw [upd_same, Rat.neg_num, Rat.neg_den]

theorem sc_ratio_less : FnScope ["ratio", "other"] ["ratio", "other"] (defScope s_ratio_less) := ⟨rfl, rfl, rfl, by decide +kernel, rfl, by decide +kernel, by decide +kernel⟩
theorem c_ratio_less {k : Nat} (D : Df K mg "ratio_less" s_ratio_less) (C : Cal P w K mg base k "ratio_plus" ["ratio", "other"] spPlus) (C2 : Cal P w K mg base k "ratio_contrary" ["ratio"] spContrary) : Cal P w K mg base (k + 1) "ratio_less" ["ratio", "other"] spLess := by
  refine mkCal D sc_ratio_less (fun _ _ _ _ _ _ us hl => match us, hl with | [_, _], _ => rfl) (fun vs H Q E h => ?_) (fun f cdv A outer s H vs Q E hr h => ?_)
  · obtain ⟨x, y, p, q, b, c, rfl, _⟩ := h; rfl
  · obtain ⟨x, y, p, q, b, c, rfl, h1, h2, s1, s2, hz, k⟩ := h
    refine ⟨_, pss_one (ps_ret (pe_cal C hr (by rfl) (pa_cons (pv 0) (pa_cons (pe_cal C2 hr (by rfl) (pa_cons (pv 1) pa_nil)) pa_nil)))), ?_⟩
    refine ⟨x, rfl, y, rfl, y, q, rfl, h2, fun v H1 sm1 hv => ?_⟩
    refine ⟨x, v, p, -q, b, c, rfl, h1.keep (tk_of sm1), hv, s1, s2.neg, hz, fun v2 H2 sm2 hv2 => ?_⟩
    exact k v2 H2 (sm1.trans sm2) (by rw [Rat.sub_eq_add_neg]; exact hv2)

theorem sc_ratio_sign : FnScope ["ratio"] ["ratio"] (defScope s_ratio_sign) := ⟨rfl, rfl, rfl, by decide +kernel, rfl, by decide +kernel, by decide +kernel⟩
theorem sgn_b2i (n : Int) : b2i (decide (n > 0)) - b2i (decide (n < 0)) = if 0 < n then 1 else if n < 0 then -1 else 0 := by
  by_cases h1 : 0 < n
  · rw [if_pos h1, decide_eq_true (show n > 0 from h1), decide_eq_false (show ¬ n < 0 by omega)]; rfl
  · by_cases h2 : n < 0
    · rw [if_neg h1, if_pos h2, decide_eq_false (show ¬ n > 0 from h1), decide_eq_true h2]; rfl
    · rw [if_neg h1, if_neg h2, decide_eq_false (show ¬ n > 0 from h1), decide_eq_false h2]; rfl
theorem c_ratio_sign (D : Df K mg "ratio_sign" s_ratio_sign) : Cal P w K mg base 1 "ratio_sign" ["ratio"] spSign := by
  refine mkCal D sc_ratio_sign (fun _ _ _ _ _ _ us hl => match us, hl with | [_], _ => rfl) (fun vs H Q E h => ?_) (fun f cdv A outer s H vs Q E hr h => ?_)
  · obtain ⟨x, p, rfl, _⟩ := h; rfl
  · obtain ⟨x, p, rfl, ⟨a1, rfl, h1⟩, k⟩ := h
    have t1 := SqT.of (K := K) h1
    refine ⟨_, pss_one (ps_ret (pe_op op_sub_bb (pe_cmpR op_gt (pe_ix ix_tup (pv 0) pe_int (fun _ _ => rfl)) pe_int (nomark _)) (pe_cmpR op_lt (pe_ix ix_tup (pv 0) pe_int (fun _ _ => rfl)) pe_int (nomark _)))), ?_⟩
    refine ⟨_, rfl, a1, _, 0, _, rfl, rfl, t1, rfl, _, _, rfl, rfl, _, rfl, a1, _, 0, _, rfl, rfl, t1, rfl, _, _, rfl, rfl, _, _, rfl, rfl, ?_⟩
    rw [sgn_b2i, ← sgn_num]
    exact k
end
end KD

/-! KD4 -/
set_option Elab.async false
set_option linter.all false
set_option maxRecDepth 100000
set_option maxHeartbeats 4000000
set_option exponentiation.threshold 20000
namespace KD
open PySem PySem.Spec PyProof.Rows L2 KR KM
abbrev s_is_point : Stmt := topS 19
abbrev s_is_flat_point : Stmt := topS 20
/-- the tables of the defs that hold generator expressions -/
def Tabs (Ts : List Addr) (H : Hp) : Prop := ∀ P ∈ Ts, GxR.TabG H P
/-- all but the objects at Ts stands -/
def Kp (Ts : List Addr) (H H' : Hp) : Prop := ∀ b o, b ∉ Ts → H b = some o → H' b = some o
theorem Kp.refl (Ts : List Addr) (H : Hp) : Kp Ts H H := fun _ _ _ h => h
theorem Kp.trans {Ts : List Addr} {H H1 H2 : Hp} (a : Kp Ts H H1) (b : Kp Ts H1 H2) : Kp Ts H H2 := fun c o n h => b c o n (a c o n h)
theorem Kp.of {Ts : List Addr} {H H' : Hp} (s : Same H H') : Kp Ts H H' := fun c o _ h => s c o h
theorem tab_nt {H : Hp} {P : Addr} (h : GxR.TabG H P) {b : Addr} {o : HO} (hb : H b = some o) (ho : ∀ ps, o ≠ .tbl ps) : b ≠ P := by
  obtain ⟨ps, e, _⟩ := h
  exact ne_of hb e (ho ps)
theorem Tabs.not {Ts : List Addr} {H : Hp} (t : Tabs Ts H) {b : Addr} {o : HO} (hb : H b = some o) (ho : ∀ ps, o ≠ .tbl ps) : b ∉ Ts := fun z => tab_nt (t b z) hb ho rfl
theorem Tabs.tk {Ts : List Addr} {H H' : Hp} (t : Tabs Ts H) (k : Kp Ts H H') : TK H H' := fun b xs h => k b _ (t.not h (fun ps z => by cases z)) h
theorem Tabs.same {Ts : List Addr} {H H' : Hp} (t : Tabs Ts H) (s : Same H H') : Tabs Ts H' := fun P hP => by
  obtain ⟨ps, e, z⟩ := t P hP
  exact ⟨ps, s _ _ e, z⟩
theorem Tabs.tabbed {Ts : List Addr} {H H' : Hp} {P : Addr} (t : Tabs Ts H) (s : GxR.Tabbed P H H') : Tabs Ts H' := fun R hR => by
  by_cases h : R = P
  · rw [h]; exact s.1
  · obtain ⟨ps, e, z⟩ := t R hR
    exact ⟨ps, by rw [s.2 R h]; exact e, z⟩
theorem Kp.tabbed {Ts : List Addr} {H H' : Hp} {P : Addr} (hP : P ∈ Ts) (s : GxR.Tabbed P H H') : Kp Ts H H' := fun b o n h => by
  rw [s.2 b (fun z => n (by rw [z]; exact hP))]; exact h
/-- a row of so many ratios is one -/
def spIsRow (Ts : List Addr) (n : Nat) : Sp := fun vs H Q _ => ∃ x qs, vs = [x] ∧ Rw H x qs ∧ qs.length = n ∧ Tabs Ts H ∧ ∀ H', Kp Ts H H' → Tabs Ts H' → Q (.bl true) H'
section
variable {P : Program} {w : World} {K : PySem.W.Frag} {mg : Str → Option Value} {base : Heap}

theorem sc_is_ratio : FnScope ["value", "number", "under"] ["value"] (defScope s_is_ratio) := ⟨rfl, rfl, rfl, by decide +kernel, rfl, by decide +kernel, by decide +kernel⟩
theorem c_is_ratio {k : Nat} (T : Free mg) (D : Df K mg "is_ratio" s_is_ratio) (C1 : Cal P w K mg base k "is_tuple_of" ["value", "many"] spTupleOf) (C2 : Cal P w K mg base k "is_integer" ["value"] spInteger) : Cal P w K mg base (k + 1) "is_ratio" ["value"] spIsRatio := by
  refine mkCal D sc_is_ratio (fun _ _ _ _ _ _ us hl => match us, hl with | [_], _ => rfl) (fun vs H Q E h => ?_) (fun f cdv A outer s H vs Q E hr h => ?_)
  · obtain ⟨x, q, rfl, _⟩ := h; rfl
  · obtain ⟨x, q, rfl, ⟨a1, rfl, h1⟩, k⟩ := h
    have t1 := SqT.of (K := K) h1
    refine ⟨_, pss_cons (ps_if (pt_not (pt_val (pe_cal C1 hr (by rfl) (pa_cons (pv 0) (pa_cons pe_int pa_nil))))) (pss_one (ps_ret pe_bl)) pss_nil)
      (pss_cons (ps_asg (pv 0) (pg_tup (by rfl) (pgs_cons (pg_name (i := 1) sc_is_ratio.nd rfl (.inl rfl)) (pgs_cons (pg_name (i := 2) sc_is_ratio.nd rfl (.inl rfl)) pgs_nil))))
      (pss_one (ps_ret (pe_and (pe_cal C2 hr (by rfl) (pa_cons (pv 1) pa_nil)) (pe_and (pe_cal C2 hr (by rfl) (pa_cons (pv 2) pa_nil)) (pe_and (pe_cmpR op_ge (pv 2) pe_int (nomark _))
        (pe_one (pe_cmpR op_eq (pe_callBfun cr_gcd (by rfl) T.gcd_ (pa_cons (pv 1) (pa_cons (pv 2) pa_nil))) pe_int (nomark _))))))))), ?_⟩
    refine ⟨_, rfl, a1, _, 2, rfl, h1, true, rfl, iteF ?_⟩
    refine ⟨_, rfl, a1, _, rfl, t1, rfl, _, _, rfl, _, _, rfl, rfl, ?_⟩
    refine ⟨_, rfl, _, rfl, true, rfl, iteT ?_⟩
    refine ⟨_, rfl, _, rfl, true, rfl, iteT ?_⟩
    refine ⟨_, rfl, _, _, rfl, rfl, _, rfl, ?_⟩
    have e1 : decide ((q.den : Int) ≥ 1) = true := decide_eq_true (by have := Nat.pos_of_ne_zero q.den_nz; omega)
    rw [e1]
    refine iteT ?_
    refine ⟨_, rfl, _, rfl, _, _, rfl, rfl, ?_⟩
    have e2 : decide (V.int ((q.num.natAbs.gcd (q.den : Int).natAbs : Nat) : Int) = V.int 1) = true := decide_eq_true (congrArg V.int (by
      rw [Int.natAbs_natCast]
      have := q.reduced
      unfold Nat.Coprime at this
      rw [this]
      rfl))
    rw [e2]
    exact k

theorem rows_get {H : Hp} {xs : List V} {qs : List Rat} (r : RtAll H xs qs) {i : Nat} {x : V} (h : xs[i]? = some x) : ∃ q, qs[i]? = some q ∧ Rt H x q := by
  induction r generalizing i with
  | nil => simp at h
  | cons a t ih =>
    cases i with
    | zero => simp at h; subst h; exact ⟨_, rfl, a⟩
    | succ i => exact ih (by simpa using h)

theorem sc_is_flat_point : FnScope ["value", "part"] ["value"] (defScope s_is_flat_point) := ⟨rfl, rfl, rfl, by decide +kernel, rfl, by decide +kernel, by decide +kernel⟩
theorem c_is_flat_point {k : Nat} {Ts : List Addr} {TP : Addr} (hTP : TP ∈ Ts) (T : Free mg) (D : DfC K mg base "is_flat_point" s_is_flat_point TP) (C1 : Cal P w K mg base k "is_tuple_of" ["value", "many"] spTupleOf) (C2 : Cal P w K mg base k "is_ratio" ["value"] spIsRatio) :
    Cal P w K mg base (k + 4) "is_flat_point" ["value"] (spIsRow Ts 2) := by
  refine mkCalC D sc_is_flat_point (fun _ _ _ _ _ _ us hl => match us, hl with | [_], _ => rfl) (fun vs H Q E h => ?_) (fun f c A outer s H vs Q E TB hr h => ?_)
  · obtain ⟨x, q, rfl, _⟩ := h; rfl
  · obtain ⟨x, qs, rfl, ⟨a1, xs, rfl, h1, r1⟩, hn, tt, q⟩ := h
    have t1 := SqT.of (K := K) h1
    have hx : xs.length = 2 := by rw [Paired.length r1]; exact hn
    refine ⟨_, pss_one (ps_ret (pe_and (pe_cal C1 (hr.mono (by omega)) (by rfl) (pa_cons (pv 0) (pa_cons pe_int pa_nil)))
      (pe_one (GxA.pe_allX (own := [("part", 1)]) rfl sc_is_flat_point.nd hr (by rfl) T.all_ TB rfl (pi_tup (pv 0)) (blkOk_by (N := ["value", "part"]) (sc := defScope s_is_flat_point) (own := [("part", 1)]) (by decide +kernel)) (by decide +kernel) (by decide +kernel) rfl
        (fun s H cl C code fp pn => pg_name (i := 1) sc_is_flat_point.nd rfl (.inl rfl))
        (fun s H cl C code fp pn => pe_cal C2 ((hr.in1.in1.deeper _)) (by rfl) (pa_cons (pv 1) pa_nil)))))), ?_⟩
    refine ⟨_, rfl, a1, _, 2, rfl, h1, true, by rw [hx]; rfl, iteT ?_⟩
    refine ⟨_, rfl, a1, rfl, ⟨xs, t1⟩, tt TP hTP, fun H2 hT2 => ?_⟩
    refine ⟨fun i m H' => m + i = 2 ∧ H' = H2, ⟨2, rfl, rfl⟩, ?_⟩
    rintro i m H' ⟨em, rfl⟩
    have k2 := Kp.tabbed hTP hT2
    have h2 : H' a1 = some (.tup xs) := tt.tk k2 _ _ h1
    have r2 := rtAll_keep r1 (tt.tk k2)
    by_cases hi : i < 2
    · refine .inr ⟨⟨xs, xs[i]'(by omega), SqT.of h2, List.getElem?_eq_getElem _⟩, fun H'' => H'' = H', fun H'' e => ⟨m - 1, by omega, by omega, e⟩, fun y H'' hy => ?_⟩
      obtain ⟨rfl, fy⟩ := hy
      have ey := fy xs (SqT.of h2)
      obtain ⟨qi, _, ri⟩ := rows_get r2 ey
      refine ⟨rfl, _, rfl, y, qi, rfl, ri, true, rfl, fun _ => rfl, fun z => by cases z⟩
    · exact .inl ⟨⟨xs, SqT.of h2, by omega⟩, q _ k2 (tt.tabbed hT2)⟩
end
end KD

/-! KD5 -/
set_option Elab.async false
set_option linter.all false
set_option maxRecDepth 100000
set_option maxHeartbeats 4000000
set_option exponentiation.threshold 20000
namespace KD
open PySem PySem.Spec PyProof.Rows L2 KR KM
abbrev s_row_less : Stmt := topS 27
abbrev s_length_product : Stmt := topS 25
abbrev s_cross_row : Stmt := topS 26

theorem yes_then {σ : L2.St} {H : Hp} {A B : Hp → Prop} (h : A H) : tYes σ H (fun b H3 => if b = true then A H3 else B H3) := by
  unfold tYes
  show if true = true then A H else B H
  rw [if_pos rfl]
  exact h
/-- a list comprehension over zip of two tuples of one length -/
theorem lc_zipT {K : PySem.W.Frag} {a b : Addr} {xs ys : List V} {g : TG} {tt : TT} {te : TE} {vs : List Nat} {σ : L2.St} {H1 : Hp} {D : Addr} {Qd : Hp → Prop} (hl : xs.length = ys.length) (Pv : Nat → Hp → Prop) (h0 : Pv 0 (upd H1 D (.lst []))) (hq : ∀ i H, Pv i H → SqT K H a xs ∧ SqT K H b ys)
    (hs : ∀ (i : Nat) (x y : V) (T : Addr) (H : Hp), xs[i]? = some x → ys[i]? = some y → Pv i H → H T = none → g (.ref T) (wipe σ vs) (upd H T (.tup [x, y])) fun σ2 H2 => wipe σ2 vs = wipe σ vs ∧ tt σ2 H2 fun b H3 =>
      if b = true then te σ2 H3 fun y H4 => ∃ acc, H4 D = some (.lst acc) ∧ acc.length < sizeLine ∧ Pv (i + 1) (upd H4 D (.lst (acc ++ [y]))) else Pv (i + 1) H3) (hd : ∀ H, Pv xs.length H → Qd H) :
    ∃ W : Nat → Nat → Hp → Prop, (∃ m, W 0 m (upd H1 D (.lst []))) ∧ ∀ i m H, W i m H →
      ((RZ.ItzT K a b).stop i H ∧ Qd H) ∨ ((RZ.ItzT K a b).go i H ∧ ∃ Nx : Hp → Prop, (∀ H', Nx H' → ∃ m', m' < m ∧ W (i + 1) m' H') ∧ ∀ x H', (RZ.ItzT K a b).yld i H x H' → g x (wipe σ vs) H' fun σ2 H2 => wipe σ2 vs = wipe σ vs ∧ tt σ2 H2 fun b H3 =>
        if b = true then te σ2 H3 fun y H4 => ∃ acc, H4 D = some (.lst acc) ∧ acc.length < sizeLine ∧ Nx (upd H4 D (.lst (acc ++ [y]))) else Nx H3) := by
  refine ⟨fun i m H => m = xs.length - i ∧ i ≤ xs.length ∧ Pv i H, ⟨xs.length, rfl, Nat.zero_le _, h0⟩, ?_⟩
  rintro i m H ⟨rfl, hi, p⟩
  obtain ⟨qx, qy⟩ := hq i H p
  by_cases hlt : i < xs.length
  · have hx : xs[i]? = some xs[i] := List.getElem?_eq_getElem hlt
    have hlt2 : i < ys.length := by omega
    have hy : ys[i]? = some ys[i] := List.getElem?_eq_getElem hlt2
    refine .inr ⟨⟨xs, ys, _, _, qx, qy, hx, hy⟩, Pv (i + 1), fun H' p' => ⟨xs.length - (i + 1), by omega, rfl, hlt, p'⟩, fun v H' y => ?_⟩
    obtain ⟨T, x', y', rfl, hT, rfl, f1, f2⟩ := y
    exact hs i x' y' T H (f1 xs qx) (f2 ys qy) p hT
  · have e : i = xs.length := by omega
    subst e
    exact .inl ⟨⟨xs, ys, qx, qy, Or.inl (Nat.le_refl _)⟩, hd H p⟩

/-- the rows made so far: the list at D grows, all that stood at H0 stands -/
def Grow (H0 : Hp) (D : Addr) (qs : List Rat) (H : Hp) : Prop := Same H0 H ∧ ∃ acc, H D = some (.lst acc) ∧ RtAll H acc qs
theorem Grow.zero {H0 : Hp} {D : Addr} (hD : H0 D = none) : Grow H0 D [] (upd H0 D (.lst [])) := ⟨same_upd hD, [], upd_same, .nil⟩
theorem paired_append {α β : Type} {F : α → β → Prop} : ∀ {l1 : List α} {l2 : List β} {m1 : List α} {m2 : List β}, Paired F l1 l2 → Paired F m1 m2 → Paired F (l1 ++ m1) (l2 ++ m2)
  | _, _, _, _, .nil, s => s
  | _, _, _, _, .cons r t, s => .cons r (paired_append t s)
theorem Grow.more {H0 H H4 : Hp} {D : Addr} {qs : List Rat} {q : Rat} {v : V} (hD : H0 D = none) (h : Grow H0 D qs H) (s : Same H H4) (r : Rt H4 v q) (hz : qs.length < 1000) :
    ∃ acc, H4 D = some (.lst acc) ∧ acc.length < sizeLine ∧ Grow H0 D (qs ++ [q]) (upd H4 D (.lst (acc ++ [v]))) := by
  obtain ⟨s0, acc, e, ra⟩ := h
  refine ⟨acc, s _ _ e, small1000 (by rw [Paired.length ra]; omega), fun b o hb => ?_, acc ++ [v], upd_same, ?_⟩
  · rw [upd_ne (ne_of_none hb hD)]
    exact s _ _ (s0 _ _ hb)
  · have k : TK H4 (upd H4 D (.lst (acc ++ [v]))) := fun b xs hb => by
      rw [upd_ne (ne_of hb (s _ _ e) (by intro z; cases z))]; exact hb
    exact paired_append (rtAll_keep (rtAll_keep ra (tk_of s)) k) (.cons (r.keep k) .nil)
theorem zip_take {α β γ : Type} (f : α → β → γ) (ps : List α) (qs : List β) {i : Nat} {p : α} {q : β} (hp : ps[i]? = some p) (hq : qs[i]? = some q) :
    List.zipWith f (ps.take (i + 1)) (qs.take (i + 1)) = List.zipWith f (ps.take i) (qs.take i) ++ [f p q] := by
  induction ps generalizing qs i with
  | nil => simp at hp
  | cons a t ih =>
    cases qs with
    | nil => simp at hq
    | cons b u =>
      cases i with
      | zero =>
        simp at hp hq
        subst hp hq
        rfl
      | succ i =>
        have := ih u (i := i) (by simpa using hp) (by simpa using hq)
        show f a b :: List.zipWith f (t.take (i + 1)) (u.take (i + 1)) = _
        rw [this]
        rfl
theorem Rw.sq {K : PySem.W.Frag} {H : Hp} {a : Addr} {xs : List V} (h : H a = some (.tup xs)) : SqT K H a xs := SqT.of h

def spRowLess : Sp := fun vs H Q _ => ∃ x y ps qs b c, vs = [x, y] ∧ Rw H x ps ∧ Rw H y qs ∧ ps.length = qs.length ∧ ps.length ≤ 100 ∧ (∀ p ∈ ps, Sz b p) ∧ (∀ q ∈ qs, Sz c q) ∧ b + c + 1 ≤ 9000 ∧ ∀ v H', Same H H' → Rw H' v (List.zipWith (· - ·) ps qs) → Q v H'
section
variable {P : Program} {w : World} {K : PySem.W.Frag} {mg : Str → Option Value} {base : Heap}
theorem sc_row_less : FnScope ["row", "other", "part", "fellow"] ["row", "other"] (defScope s_row_less) := ⟨rfl, rfl, rfl, by decide +kernel, rfl, by decide +kernel, by decide +kernel⟩
theorem c_row_less {k : Nat} (T : Free mg) (D : Df K mg "row_less" s_row_less) (C : Cal P w K mg base k "ratio_less" ["ratio", "other"] spLess) : Cal P w K mg base (k + 1) "row_less" ["row", "other"] spRowLess := by
  refine mkCal D sc_row_less (fun _ _ _ _ _ _ us hl => match us, hl with | [_, _], _ => rfl) (fun vs H Q E h => ?_) (fun f cdv A outer s H vs Q E hr h => ?_)
  · obtain ⟨x, y, ps, qs, b, c, rfl, _⟩ := h; rfl
  · obtain ⟨x, y, ps, qs, b, c, rfl, ⟨a1, xs, rfl, h1, r1⟩, ⟨a2, ys, rfl, h2, r2⟩, hl, hz, sp, sq, hb, k⟩ := h
    have l1 := Paired.length r1
    have l2 := Paired.length r2
    refine ⟨_, pss_one (ps_ret (pe_callTy call_tuple_of (by rfl) T.tuple_ (by decide +kernel) (pa_cons
      (pe_lc (own := [("part", 2), ("fellow", 3)]) (g := gTup K 2 (gCons (gName 2) (gCons (gName 3) gNil))) rfl sc_row_less.nd (RZ.pi_zipA (by rfl) T.zip_ (pa_cons (pv 0) (pa_cons (pv 1) pa_nil)))
        (blkOk_by (N := ["row", "other", "part", "fellow"]) (sc := defScope s_row_less) (own := [("part", 2), ("fellow", 3)]) (by decide +kernel))
        (fun _ _ _ _ _ => pg_tup rfl (pgs_cons (pg_name (i := 2) sc_row_less.nd rfl (.inl rfl) (.inr rfl)) (pgs_cons (pg_name (i := 3) sc_row_less.nd rfl (.inl rfl) (.inr rfl)) pgs_nil)))
        (fun _ _ _ _ _ => pts_nil) (fun _ _ _ _ _ => pe_cal C hr (by rfl) (pa_cons (pv 2) (pa_cons (pv 3) pa_nil)))) pa_nil))), ?_⟩
    refine ⟨_, rfl, _, rfl, a1, a2, xs, ys, rfl, .inr ⟨SqT.of h1, SqT.of h2, fun L hL => ?_⟩⟩
    refine lc_zipT (K := K) (a := a1) (b := a2) (xs := xs) (ys := ys) (by omega) (fun i H' => Grow H L (List.zipWith (· - ·) (ps.take i) (qs.take i)) H') ?_ (fun i H' g => ⟨SqT.of (g.1 _ _ h1), SqT.of (g.1 _ _ h2)⟩) (fun i x y T H' ex ey g hT => ?_) (fun H' g => ?_)
    · simpa using Grow.zero hL
    · obtain ⟨p, ep, rp⟩ := rows_get r1 ex
      obtain ⟨q, eq, rq⟩ := rows_get r2 ey
      have sT := same_upd (o := .tup [x, y]) hT
      refine ⟨T, [x, y], rfl, .inl (.inl upd_same), rfl, x, [y], rfl, y, [], rfl, rfl, rfl, ?_⟩
      refine yes_then ?_
      refine ⟨_, rfl, _, rfl, x, y, p, q, b, c, rfl, rp.keep (tk_of (g.1.trans sT)), rq.keep (tk_of (g.1.trans sT)), sp p (List.mem_of_getElem? ep), sq q (List.mem_of_getElem? eq), hb, fun v H4 s4 hv => ?_⟩
      rw [zip_take _ ps qs ep eq]
      exact g.more hL (sT.trans s4) hv (by rw [List.length_zipWith, List.length_take]; omega)
    · obtain ⟨s0, acc, e, ra⟩ := g
      rw [l1, List.take_of_length_le (Nat.le_refl _), List.take_of_length_le (by omega)] at ra
      refine ⟨L, acc, rfl, .inl ⟨SqL.of e, fun t ht => ?_⟩⟩
      have s2 := same_upd (o := .tup acc) ht
      exact k _ _ (s0.trans s2) ⟨t, acc, rfl, upd_same, rtAll_keep ra (tk_of s2)⟩
end
end KD

/-! KD6 -/
set_option Elab.async false
set_option linter.all false
set_option maxRecDepth 100000
set_option maxHeartbeats 4000000
set_option exponentiation.threshold 20000
namespace KD
open PySem PySem.Spec PyProof.Rows L2 KR KM
def rsum (qs : List Rat) : Rat := qs.foldl (· + ·) 0
theorem rsum_take {qs : List Rat} {i : Nat} {q : Rat} (h : qs[i]? = some q) : rsum (qs.take (i + 1)) = rsum (qs.take i) + q := by
  unfold rsum
  rw [List.take_add_one, h]
  simp
theorem zero_sz : Sz 1 0 := ⟨by decide, by decide⟩
def spSum : Sp := fun vs H Q _ => ∃ l xs qs b, vs = [.ref l] ∧ H l = some (.lst xs) ∧ RtAll H xs qs ∧ (∀ q ∈ qs, Sz b q) ∧ (qs.length + 1) * (b + 1) + 2 ≤ 9000 ∧ ∀ v H', Same H H' → Rt H' v (rsum qs) → Q v H'
def spLengthProduct : Sp := fun vs H Q _ => ∃ x y ps qs b c, vs = [x, y] ∧ Rw H x ps ∧ Rw H y qs ∧ ps.length = qs.length ∧ ps.length ≤ 100 ∧ (∀ p ∈ ps, Sz b p) ∧ (∀ q ∈ qs, Sz c q) ∧ (ps.length + 1) * (b + c + 1) + 2 ≤ 9000 ∧ ∀ v H', Same H H' → Rt H' v (rsum (List.zipWith (· * ·) ps qs)) → Q v H'
def spCross : Sp := fun vs H Q _ => ∃ x y p0 p1 p2 q0 q1 q2 b c, vs = [x, y] ∧ Rw H x [p0, p1, p2] ∧ Rw H y [q0, q1, q2] ∧ (Sz b p0 ∧ Sz b p1 ∧ Sz b p2) ∧ (Sz c q0 ∧ Sz c q1 ∧ Sz c q2) ∧ 2 * (b + c) + 1 ≤ 9000 ∧
  ∀ v H', Same H H' → Rw H' v [p1 * q2 - p2 * q1, p2 * q0 - p0 * q2, p0 * q1 - p1 * q0] → Q v H'
section
variable {P : Program} {w : World} {K : PySem.W.Frag} {mg : Str → Option Value} {base : Heap}
theorem sc_ratio_sum : FnScope ["ratios", "total", "part"] ["ratios"] (defScope s_ratio_sum) := ⟨rfl, rfl, rfl, by decide +kernel, rfl, by decide +kernel, by decide +kernel⟩
theorem c_ratio_sum {k : Nat} (D : Df K mg "ratio_sum" s_ratio_sum) (C : Cal P w K mg base k "ratio_plus" ["ratio", "other"] spPlus) : Cal P w K mg base (k + 1) "ratio_sum" ["ratios"] spSum := by
  refine mkCal D sc_ratio_sum (fun _ _ _ _ _ _ us hl => match us, hl with | [_], _ => rfl) (fun vs H Q E h => ?_) (fun f cdv A outer s H vs Q E hr h => ?_)
  · obtain ⟨l, xs, qs, b, rfl, _⟩ := h; rfl
  · obtain ⟨l, xs, qs, b, rfl, hl, ra, sz, hb, k⟩ := h
    have lq := Paired.length ra
    refine ⟨_, pss_cons (ps_set (i := 1) sc_ratio_sum.nd rfl (.inl rfl) (pe_tup (pa_cons pe_int (pa_cons pe_int pa_nil))))
      (pss_cons (ps_for PassesOwn.never rfl (pi_list (pv 0)) (pg_name (i := 2) sc_ratio_sum.nd rfl (.inl rfl)) (pss_one (ps_set (i := 1) sc_ratio_sum.nd rfl (.inl rfl) (pe_cal C hr (by rfl) (pa_cons (pv 1) (pa_cons (pv 2) pa_nil))))))
      (pss_one (ps_ret (pv 1)))), ?_⟩
    refine ⟨by show 2 ≤ sizeLine; decide, fun t ht => ?_⟩
    have s1 := same_upd (o := .tup [.int 0, .int 1]) ht
    refine ⟨_, rfl, l, rfl, ⟨_, SqL.of (s1 _ _ hl)⟩, for_list (xs := xs) (fun i σ H' => ∃ v y, σ = [some (.ref l), some v, y] ∧ Same H H' ∧ Rt H' v (rsum (qs.take i)) ∧ Sz (i * (b + 1) + 1) (rsum (qs.take i)))
      ⟨.ref t, none, rfl, s1, ⟨t, rfl, upd_same⟩, by simpa [rsum] using zero_sz⟩ (fun i σ H' _ h => ?_) (fun i x σ H' ex h => ?_) (fun σ H' h => ?_)⟩
    · obtain ⟨v, y, _, s, _⟩ := h
      exact SqL.of (s _ _ hl)
    · obtain ⟨v, y, rfl, s, rv, zv⟩ := h
      obtain ⟨q, eq, rq⟩ := rows_get ra ex
      have hi : i < qs.length := (List.getElem?_eq_some_iff.mp eq).1
      have hm : i * (b + 1) ≤ qs.length * (b + 1) := Nat.mul_le_mul_right _ (Nat.le_of_lt hi)
      have e1 : (qs.length + 1) * (b + 1) = qs.length * (b + 1) + (b + 1) := Nat.succ_mul _ _
      refine ⟨_, rfl, _, rfl, v, x, _, q, _, b, rfl, rv, rq.keep (tk_of s), zv, sz q (List.mem_of_getElem? eq), by omega, fun v' H4 s4 r4 => ?_⟩
      refine ⟨v', some x, rfl, s.trans s4, by rw [rsum_take eq]; exact r4, ?_⟩
      rw [rsum_take eq]
      have z := zv.add (sz q (List.mem_of_getElem? eq))
      have e2 : (i + 1) * (b + 1) = i * (b + 1) + (b + 1) := Nat.succ_mul _ _
      exact z.mono (by omega)
    · obtain ⟨v, y, rfl, s, rv, _⟩ := h
      rw [lq, List.take_length] at rv
      exact ⟨_, rfl, k v H' s rv⟩

theorem sc_length_product : FnScope ["row", "other", "part", "fellow"] ["row", "other"] (defScope s_length_product) := ⟨rfl, rfl, rfl, by decide +kernel, rfl, by decide +kernel, by decide +kernel⟩
theorem c_length_product {k : Nat} (T : Free mg) (D : Df K mg "length_product" s_length_product) (C : Cal P w K mg base k "ratio_times" ["ratio", "other"] spTimes) (C2 : Cal P w K mg base k "ratio_sum" ["ratios"] spSum) : Cal P w K mg base (k + 1) "length_product" ["row", "other"] spLengthProduct := by
  refine mkCal D sc_length_product (fun _ _ _ _ _ _ us hl => match us, hl with | [_, _], _ => rfl) (fun vs H Q E h => ?_) (fun f cdv A outer s H vs Q E hr h => ?_)
  · obtain ⟨x, y, ps, qs, b, c, rfl, _⟩ := h; rfl
  · obtain ⟨x, y, ps, qs, b, c, rfl, ⟨a1, xs, rfl, h1, r1⟩, ⟨a2, ys, rfl, h2, r2⟩, hl, hz, sp, sq, hb, k⟩ := h
    have l1 := Paired.length r1
    have l2 := Paired.length r2
    have e0 : (ps.length + 1) * (b + c + 1) = ps.length * (b + c + 1) + (b + c + 1) := Nat.succ_mul _ _
    refine ⟨_, pss_one (ps_ret (pe_cal C2 hr (by rfl) (pa_cons
      (pe_lc (own := [("part", 2), ("fellow", 3)]) (g := gTup K 2 (gCons (gName 2) (gCons (gName 3) gNil))) rfl sc_length_product.nd (RZ.pi_zipA (by rfl) T.zip_ (pa_cons (pv 0) (pa_cons (pv 1) pa_nil)))
        (blkOk_by (N := ["row", "other", "part", "fellow"]) (sc := defScope s_length_product) (own := [("part", 2), ("fellow", 3)]) (by decide +kernel))
        (fun _ _ _ _ _ => pg_tup rfl (pgs_cons (pg_name (i := 2) sc_length_product.nd rfl (.inl rfl) (.inr rfl)) (pgs_cons (pg_name (i := 3) sc_length_product.nd rfl (.inl rfl) (.inr rfl)) pgs_nil)))
        (fun _ _ _ _ _ => pts_nil) (fun _ _ _ _ _ => pe_cal C hr (by rfl) (pa_cons (pv 2) (pa_cons (pv 3) pa_nil)))) pa_nil))), ?_⟩
    refine ⟨_, rfl, _, rfl, a1, a2, xs, ys, rfl, .inr ⟨SqT.of h1, SqT.of h2, fun L hL => ?_⟩⟩
    refine lc_zipT (K := K) (a := a1) (b := a2) (xs := xs) (ys := ys) (by omega) (fun i H' => Grow H L (List.zipWith (· * ·) (ps.take i) (qs.take i)) H') ?_ (fun i H' g => ⟨SqT.of (g.1 _ _ h1), SqT.of (g.1 _ _ h2)⟩) (fun i x y T H' ex ey g hT => ?_) (fun H' g => ?_)
    · simpa using Grow.zero hL
    · obtain ⟨p, ep, rp⟩ := rows_get r1 ex
      obtain ⟨q, eq, rq⟩ := rows_get r2 ey
      have sT := same_upd (o := .tup [x, y]) hT
      refine ⟨T, [x, y], rfl, .inl (.inl upd_same), rfl, x, [y], rfl, y, [], rfl, rfl, rfl, ?_⟩
      refine yes_then ?_
      refine ⟨_, rfl, _, rfl, x, y, p, q, b, c, rfl, rp.keep (tk_of (g.1.trans sT)), rq.keep (tk_of (g.1.trans sT)), sp p (List.mem_of_getElem? ep), sq q (List.mem_of_getElem? eq), by omega, fun v H4 s4 hv => ?_⟩
      rw [zip_take _ ps qs ep eq]
      exact g.more hL (sT.trans s4) hv (by rw [List.length_zipWith, List.length_take]; omega)
    · obtain ⟨s0, acc, e, ra⟩ := g
      rw [l1, List.take_of_length_le (Nat.le_refl _), List.take_of_length_le (by omega)] at ra
      have el : (List.zipWith (· * ·) ps qs).length = ps.length := by rw [List.length_zipWith]; omega
      refine ⟨L, acc, List.zipWith (· * ·) ps qs, b + c, rfl, e, ra, fun q hq => ?_, by rw [el]; exact hb, fun v H4 s4 hv => k v H4 (s0.trans s4) hv⟩
      obtain ⟨i, hi⟩ := List.mem_iff_getElem?.mp hq
      rw [List.getElem?_zipWith] at hi
      cases hp : ps[i]? with
      | none => rw [hp] at hi; simp at hi
      | some p =>
        cases hq2 : qs[i]? with
        | none => rw [hp, hq2] at hi; simp at hi
        | some q2 =>
          rw [hp, hq2] at hi
          simp at hi
          rw [← hi]
          exact (sp p (List.mem_of_getElem? hp)).mul (sq q2 (List.mem_of_getElem? hq2))

theorem rw3 {H : Hp} {v : V} {p0 p1 p2 : Rat} (h : Rw H v [p0, p1, p2]) : ∃ a x0 x1 x2, v = .ref a ∧ H a = some (.tup [x0, x1, x2]) ∧ Rt H x0 p0 ∧ Rt H x1 p1 ∧ Rt H x2 p2 := by
  obtain ⟨a, xs, e, z, r⟩ := h
  cases r with
  | cons r0 r => cases r with
    | cons r1 r => cases r with
      | cons r2 r =>
        cases r
        exact ⟨a, _, _, _, e, z, r0, r1, r2⟩
theorem rw2 {H : Hp} {v : V} {p0 p1 : Rat} (h : Rw H v [p0, p1]) : ∃ a x0 x1, v = .ref a ∧ H a = some (.tup [x0, x1]) ∧ Rt H x0 p0 ∧ Rt H x1 p1 := by
  obtain ⟨a, xs, e, z, r⟩ := h
  cases r with
  | cons r0 r => cases r with
    | cons r1 r =>
      cases r
      exact ⟨a, _, _, e, z, r0, r1⟩
theorem Rw.mk3 {H : Hp} {a : Addr} {x0 x1 x2 : V} {p0 p1 p2 : Rat} (h : H a = some (.tup [x0, x1, x2])) (r0 : Rt H x0 p0) (r1 : Rt H x1 p1) (r2 : Rt H x2 p2) : Rw H (.ref a) [p0, p1, p2] := ⟨a, _, rfl, h, .cons r0 (.cons r1 (.cons r2 .nil))⟩
theorem Rw.mk2 {H : Hp} {a : Addr} {x0 x1 : V} {p0 p1 : Rat} (h : H a = some (.tup [x0, x1])) (r0 : Rt H x0 p0) (r1 : Rt H x1 p1) : Rw H (.ref a) [p0, p1] := ⟨a, _, rfl, h, .cons r0 (.cons r1 .nil)⟩

theorem sc_cross_row : FnScope ["row", "other", "a", "b", "c", "e", "f", "g"] ["row", "other"] (defScope s_cross_row) := ⟨rfl, rfl, rfl, by decide +kernel, rfl, by decide +kernel, by decide +kernel⟩
theorem c_cross_row {k : Nat} (D : Df K mg "cross_row" s_cross_row) (CT : Cal P w K mg base k "ratio_times" ["ratio", "other"] spTimes) (CL : Cal P w K mg base k "ratio_less" ["ratio", "other"] spLess) : Cal P w K mg base (k + 1) "cross_row" ["row", "other"] spCross := by
  refine mkCal D sc_cross_row (fun _ _ _ _ _ _ us hl => match us, hl with | [_, _], _ => rfl) (fun vs H Q E h => ?_) (fun f cdv A outer s H vs Q E hr h => ?_)
  · obtain ⟨x, y, _, _, _, _, _, _, b, c, rfl, _⟩ := h; rfl
  · obtain ⟨x, y, p0, p1, p2, q0, q1, q2, b, c, rfl, h1, h2, ⟨z0, z1, z2⟩, ⟨w0, w1, w2⟩, hb, k⟩ := h
    obtain ⟨a1, x0, x1, x2, rfl, e1, r0, r1, r2⟩ := rw3 h1
    obtain ⟨a2, y0, y1, y2, rfl, e2, t0, t1, t2⟩ := rw3 h2
    refine ⟨_, pss_cons (ps_asg (pe_tup (pa_cons (pv 0) (pa_cons (pv 1) pa_nil))) (pg_tup (by rfl) (pgs_cons
        (pg_tup (by rfl) (pgs_cons (pg_name (i := 2) sc_cross_row.nd rfl (.inl rfl)) (pgs_cons (pg_name (i := 3) sc_cross_row.nd rfl (.inl rfl)) (pgs_cons (pg_name (i := 4) sc_cross_row.nd rfl (.inl rfl)) pgs_nil))))
        (pgs_cons (pg_tup (by rfl) (pgs_cons (pg_name (i := 5) sc_cross_row.nd rfl (.inl rfl)) (pgs_cons (pg_name (i := 6) sc_cross_row.nd rfl (.inl rfl)) (pgs_cons (pg_name (i := 7) sc_cross_row.nd rfl (.inl rfl)) pgs_nil)))) pgs_nil))))
      (pss_one (ps_ret (pe_tup (pa_cons (pe_cal CL hr (by rfl) (pa_cons (pe_cal CT hr (by rfl) (pa_cons (pv 3) (pa_cons (pv 7) pa_nil))) (pa_cons (pe_cal CT hr (by rfl) (pa_cons (pv 4) (pa_cons (pv 6) pa_nil))) pa_nil)))
        (pa_cons (pe_cal CL hr (by rfl) (pa_cons (pe_cal CT hr (by rfl) (pa_cons (pv 4) (pa_cons (pv 5) pa_nil))) (pa_cons (pe_cal CT hr (by rfl) (pa_cons (pv 2) (pa_cons (pv 7) pa_nil))) pa_nil)))
        (pa_cons (pe_cal CL hr (by rfl) (pa_cons (pe_cal CT hr (by rfl) (pa_cons (pv 2) (pa_cons (pv 6) pa_nil))) (pa_cons (pe_cal CT hr (by rfl) (pa_cons (pv 3) (pa_cons (pv 5) pa_nil))) pa_nil))) pa_nil)))))), ?_⟩
    refine ⟨_, rfl, _, rfl, by show 2 ≤ sizeLine; decide, fun t ht => ?_⟩
    have s0 := same_upd (o := .tup [.ref a1, .ref a2]) ht
    refine ⟨t, _, rfl, SqT.of upd_same, rfl, _, _, rfl, ⟨a1, _, rfl, SqT.of (s0 _ _ e1), rfl, _, _, rfl, _, _, rfl, _, _, rfl, rfl, _, _, rfl, ⟨a2, _, rfl, SqT.of (s0 _ _ e2), rfl, _, _, rfl, _, _, rfl, _, _, rfl, rfl, rfl, ?_⟩⟩⟩
    refine ⟨_, rfl, _, rfl, x1, y2, p1, q2, b, c, rfl, r1.keep (tk_of s0), t2.keep (tk_of s0), z1, w2, by omega, fun v1 H1 s1 k1 => ?_⟩
    have S1 := s0.trans s1
    refine ⟨_, rfl, _, rfl, x2, y1, p2, q1, b, c, rfl, r2.keep (tk_of S1), t1.keep (tk_of S1), z2, w1, by omega, fun v2 H2 s2 k2 => ?_⟩
    have S2 := S1.trans s2
    refine ⟨v1, v2, _, _, b + c, b + c, rfl, k1.keep (tk_of s2), k2, z1.mul w2, z2.mul w1, by omega, fun v3 H3 s3 k3 => ?_⟩
    have S3 := S2.trans s3
    refine ⟨_, rfl, _, rfl, x2, y0, p2, q0, b, c, rfl, r2.keep (tk_of S3), t0.keep (tk_of S3), z2, w0, by omega, fun v4 H4 s4 k4 => ?_⟩
    have S4 := S3.trans s4
    refine ⟨_, rfl, _, rfl, x0, y2, p0, q2, b, c, rfl, r0.keep (tk_of S4), t2.keep (tk_of S4), z0, w2, by omega, fun v5 H5 s5 k5 => ?_⟩
    have S5 := S4.trans s5
    refine ⟨v4, v5, _, _, b + c, b + c, rfl, k4.keep (tk_of s5), k5, z2.mul w0, z0.mul w2, by omega, fun v6 H6 s6 k6 => ?_⟩
    have S6 := S5.trans s6
    refine ⟨_, rfl, _, rfl, x0, y1, p0, q1, b, c, rfl, r0.keep (tk_of S6), t1.keep (tk_of S6), z0, w1, by omega, fun v7 H7 s7 k7 => ?_⟩
    have S7 := S6.trans s7
    refine ⟨_, rfl, _, rfl, x1, y0, p1, q0, b, c, rfl, r1.keep (tk_of S7), t0.keep (tk_of S7), z1, w0, by omega, fun v8 H8 s8 k8 => ?_⟩
    have S8 := S7.trans s8
    refine ⟨v7, v8, _, _, b + c, b + c, rfl, k7.keep (tk_of s8), k8, z0.mul w1, z1.mul w0, by omega, fun v9 H9 s9 k9 => ?_⟩
    have S9 := S8.trans s9
    refine ⟨by show 3 ≤ sizeLine; decide, fun u hu => ?_⟩
    have sU := same_upd (o := .tup [v3, v6, v9]) hu
    exact k _ _ (S9.trans sU) (Rw.mk3 upd_same (k3.keep (tk_of ((s4.trans s5).trans ((s6.trans s7).trans ((s8.trans s9).trans sU))))) (k6.keep (tk_of ((s7.trans s8).trans (s9.trans sU)))) (k9.keep (tk_of sU)))
end
end KD

/-! KD7 -/
set_option Elab.async false
set_option linter.all false
set_option maxRecDepth 100000
set_option maxHeartbeats 4000000
set_option exponentiation.threshold 20000
namespace KD
open PySem PySem.Spec PyProof.Rows L2 KR KM
abbrev s_plane_through : Stmt := topS 21
abbrev s_turn : Stmt := topS 22
abbrev s_check_point : Stmt := topS 23
abbrev s_whole_plane : Stmt := topS 24
def spTurn (Ts : List Addr) : Sp := fun vs H Q _ => ∃ x y z p0 p1 q0 q1 r0 r1 b, vs = [x, y, z] ∧ Rw H x [p0, p1] ∧ Rw H y [q0, q1] ∧ Rw H z [r0, r1] ∧ (Sz b p0 ∧ Sz b p1 ∧ Sz b q0 ∧ Sz b q1 ∧ Sz b r0 ∧ Sz b r1) ∧ 8 * b + 5 ≤ 9000 ∧ Tabs Ts H ∧
  ∀ H', Kp Ts H H' → Tabs Ts H' → Q (.int (sgn (det p0 p1 q0 q1 r0 r1))) H'
def spCheck (Ts : List Addr) (n : Nat) : Sp := fun vs H Q _ => ∃ x qs, vs = [x] ∧ Rw H x qs ∧ qs.length = n ∧ Tabs Ts H ∧ ∀ H', Kp Ts H H' → Tabs Ts H' → Q .non H'
section
variable {P : Program} {w : World} {K : PySem.W.Frag} {mg : Str → Option Value} {base : Heap}

theorem sc_is_point : FnScope ["value", "part"] ["value"] (defScope s_is_point) := ⟨rfl, rfl, rfl, by decide +kernel, rfl, by decide +kernel, by decide +kernel⟩
theorem c_is_point {k : Nat} {Ts : List Addr} {TP : Addr} (hTP : TP ∈ Ts) (T : Free mg) (D : DfC K mg base "is_point" s_is_point TP) (C1 : Cal P w K mg base k "is_tuple_of" ["value", "many"] spTupleOf) (C2 : Cal P w K mg base k "is_ratio" ["value"] spIsRatio) :
    Cal P w K mg base (k + 4) "is_point" ["value"] (spIsRow Ts 3) := by
  refine mkCalC D sc_is_point (fun _ _ _ _ _ _ us hl => match us, hl with | [_], _ => rfl) (fun vs H Q E h => ?_) (fun f c A outer s H vs Q E TB hr h => ?_)
  · obtain ⟨x, q, rfl, _⟩ := h; rfl
  · obtain ⟨x, qs, rfl, ⟨a1, xs, rfl, h1, r1⟩, hn, tt, q⟩ := h
    have t1 := SqT.of (K := K) h1
    have hx : xs.length = 3 := by rw [Paired.length r1]; exact hn
    refine ⟨_, pss_one (ps_ret (pe_and (pe_cal C1 (hr.mono (by omega)) (by rfl) (pa_cons (pv 0) (pa_cons pe_int pa_nil)))
      (pe_one (GxA.pe_allX (own := [("part", 1)]) rfl sc_is_point.nd hr (by rfl) T.all_ TB rfl (pi_tup (pv 0)) (blkOk_by (N := ["value", "part"]) (sc := defScope s_is_point) (own := [("part", 1)]) (by decide +kernel)) (by decide +kernel) (by decide +kernel) rfl
        (fun s H cl C code fp pn => pg_name (i := 1) sc_is_point.nd rfl (.inl rfl))
        (fun s H cl C code fp pn => pe_cal C2 ((hr.in1.in1.deeper _)) (by rfl) (pa_cons (pv 1) pa_nil)))))), ?_⟩
    refine ⟨_, rfl, a1, _, 3, rfl, h1, true, by rw [hx]; rfl, iteT ?_⟩
    refine ⟨_, rfl, a1, rfl, ⟨xs, t1⟩, tt TP hTP, fun H2 hT2 => ?_⟩
    refine ⟨fun i m H' => m + i = 3 ∧ H' = H2, ⟨3, rfl, rfl⟩, ?_⟩
    rintro i m H' ⟨em, rfl⟩
    have k2 := Kp.tabbed hTP hT2
    have h2 : H' a1 = some (.tup xs) := tt.tk k2 _ _ h1
    have r2 := rtAll_keep r1 (tt.tk k2)
    by_cases hi : i < 3
    · refine .inr ⟨⟨xs, xs[i]'(by omega), SqT.of h2, List.getElem?_eq_getElem _⟩, fun H'' => H'' = H', fun H'' e => ⟨m - 1, by omega, by omega, e⟩, fun y H'' hy => ?_⟩
      obtain ⟨rfl, fy⟩ := hy
      have ey := fy xs (SqT.of h2)
      obtain ⟨qi, _, ri⟩ := rows_get r2 ey
      refine ⟨rfl, _, rfl, y, qi, rfl, ri, true, rfl, fun _ => rfl, fun z => by cases z⟩
    · exact .inl ⟨⟨xs, SqT.of h2, by omega⟩, q _ k2 (tt.tabbed hT2)⟩

theorem sc_check_point : FnScope ["value"] ["value"] (defScope s_check_point) := ⟨rfl, rfl, rfl, by decide +kernel, rfl, by decide +kernel, by decide +kernel⟩
theorem c_check_point {k : Nat} {Ts : List Addr} (D : Df K mg "check_point" s_check_point) (C1 : Cal P w K mg base k "is_point" ["value"] (spIsRow Ts 3)) : Cal P w K mg base (k + 1) "check_point" ["value"] (spCheck Ts 3) := by
  refine mkCal D sc_check_point (fun _ _ _ _ _ _ us hl => match us, hl with | [_], _ => rfl) (fun vs H Q E h => ?_) (fun f cdv A outer s H vs Q E hr h => ?_)
  · obtain ⟨x, q, rfl, _⟩ := h; rfl
  · obtain ⟨x, qs, rfl, h1, hn, tt, q⟩ := h
    refine ⟨_, pss_one (ps_if (pt_not (pt_val (pe_cal C1 hr (by rfl) (pa_cons (pv 0) pa_nil)))) (pss_one ps_never) pss_nil), ?_⟩
    refine ⟨_, rfl, x, qs, rfl, h1, hn, tt, fun H' k t => ⟨true, rfl, iteF ?_⟩⟩
    exact q H' k t

theorem sc_turn : FnScope ["one", "other", "third", "point", "first", "second"] ["one", "other", "third"] (defScope s_turn) := ⟨rfl, rfl, rfl, by decide +kernel, rfl, by decide +kernel, by decide +kernel⟩
theorem c_turn {k : Nat} {Ts : List Addr} (D : Df K mg "turn" s_turn) (C1 : Cal P w K mg base k "is_flat_point" ["value"] (spIsRow Ts 2)) (CR : Cal P w K mg base k "row_less" ["row", "other"] spRowLess) (CT : Cal P w K mg base k "ratio_times" ["ratio", "other"] spTimes)
    (CL : Cal P w K mg base k "ratio_less" ["ratio", "other"] spLess) (CS : Cal P w K mg base k "ratio_sign" ["ratio"] spSign) : Cal P w K mg base (k + 1) "turn" ["one", "other", "third"] (spTurn Ts) := by
  refine mkCal D sc_turn (fun _ _ _ _ _ _ us hl => match us, hl with | [_, _, _], _ => rfl) (fun vs H Q E h => ?_) (fun f cdv A outer s H vs Q E hr h => ?_)
  · obtain ⟨x, y, z, _, _, _, _, _, _, b, rfl, _⟩ := h; rfl
  · obtain ⟨x, y, z, p0, p1, q0, q1, r0, r1, b, rfl, hx, hy, hz, ⟨z1, z2, z3, z4, z5, z6⟩, hb, tt, k⟩ := h
    refine ⟨_, pss_cons (ps_for PassesOwn.never rfl (pi_tup (pe_tup (pa_cons (pv 0) (pa_cons (pv 1) (pa_cons (pv 2) pa_nil))))) (pg_name (i := 3) sc_turn.nd rfl (.inl rfl)) (pss_one (ps_if (pt_not (pt_val (pe_cal C1 hr (by rfl) (pa_cons (pv 3) pa_nil)))) (pss_one ps_never) pss_nil)))
      (pss_cons (ps_par (i := 4) (j := 5) (by rfl) sc_turn.nd rfl rfl (by decide) rfl rfl (pa_cons (pe_cal CR hr (by rfl) (pa_cons (pv 1) (pa_cons (pv 0) pa_nil))) (pa_cons (pe_cal CR hr (by rfl) (pa_cons (pv 2) (pa_cons (pv 1) pa_nil))) pa_nil)) (by rfl))
      (pss_one (ps_ret (pe_cal CS hr (by rfl) (pa_cons (pe_cal CL hr (by rfl) (pa_cons (pe_cal CT hr (by rfl) (pa_cons (pe_ix ix_tup (pv 4) pe_int (fun _ _ => rfl)) (pa_cons (pe_ix ix_tup (pv 5) pe_int (fun _ _ => rfl)) pa_nil)))
        (pa_cons (pe_cal CT hr (by rfl) (pa_cons (pe_ix ix_tup (pv 4) pe_int (fun _ _ => rfl)) (pa_cons (pe_ix ix_tup (pv 5) pe_int (fun _ _ => rfl)) pa_nil))) pa_nil))) pa_nil))))), ?_⟩
    refine ⟨_, rfl, _, rfl, _, rfl, by show 3 ≤ sizeLine; decide, fun t ht => ?_⟩
    have s1 := same_upd (o := .tup [x, y, z]) ht
    have tt1 := tt.same s1
    refine ⟨t, rfl, ⟨_, SqT.of upd_same⟩, for_tup (K := K) (a := t) (xs := [x, y, z]) (fun i σ H' => ∃ u, σ = [some x, some y, some z, u, none, none] ∧ Kp Ts (upd H t (.tup [x, y, z])) H' ∧ Tabs Ts H') ⟨none, rfl, Kp.refl _ _, tt1⟩ (fun i σ H' _ h => ?_) (fun i v σ H' ev h => ?_) (fun σ H' h => ?_)⟩
    · obtain ⟨u, _, kp, _⟩ := h
      exact SqT.of (tt1.tk kp _ _ upd_same)
    · obtain ⟨u, rfl, kp, tb⟩ := h
      have tk := (tk_of s1).trans (tt1.tk kp)
      have hv : ∃ qs, Rw H' v qs ∧ qs.length = 2 := by
        match i, ev with
        | 0, ev => cases ev; exact ⟨_, hx.keep tk, rfl⟩
        | 1, ev => cases ev; exact ⟨_, hy.keep tk, rfl⟩
        | 2, ev => cases ev; exact ⟨_, hz.keep tk, rfl⟩
      obtain ⟨qs, rv, ln⟩ := hv
      refine ⟨v, rfl, v, qs, rfl, rv, ln, tb, fun H2 k2 t2 => ⟨true, rfl, iteF ?_⟩⟩
      exact ⟨some v, rfl, kp.trans k2, t2⟩
    · obtain ⟨u, rfl, kp, tb⟩ := h
      have tk := (tk_of s1).trans (tt1.tk kp)
      have KP := (Kp.of (Ts := Ts) s1).trans kp
      refine ⟨_, rfl, _, rfl, y, x, _, _, b, b, rfl, hy.keep tk, hx.keep tk, rfl, by show 2 ≤ 100; decide, ?_, ?_, by omega, fun v1 H1 m1 k1 => ?_⟩
      · intro p hp; simp at hp; rcases hp with rfl | rfl <;> assumption
      · intro p hp; simp at hp; rcases hp with rfl | rfl <;> assumption
      have tk1 := tk.trans (tk_of m1)
      refine ⟨_, rfl, _, rfl, z, y, _, _, b, b, rfl, hz.keep tk1, hy.keep tk1, rfl, by show 2 ≤ 100; decide, ?_, ?_, by omega, fun v2 H2 m2 k2 => ?_⟩
      · intro p hp; simp at hp; rcases hp with rfl | rfl <;> assumption
      · intro p hp; simp at hp; rcases hp with rfl | rfl <;> assumption
      obtain ⟨a1, x0, x1, rfl, e1, f0, f1⟩ := rw2 (k1.keep (tk_of m2))
      obtain ⟨a2, y0, y1, rfl, e2, g0, g1⟩ := rw2 k2
      refine ⟨_, _, rfl, ?_⟩
      have zf0 := z3.sub z1
      have zf1 := z4.sub z2
      have zg0 := z5.sub z3
      have zg1 := z6.sub z4
      refine ⟨_, rfl, a1, _, 0, _, rfl, rfl, SqT.of e1, rfl, _, rfl, a2, _, 1, _, rfl, rfl, SqT.of e2, rfl, x0, y1, _, _, _, _, rfl, f0, g1, zf0, zg1, by omega, fun v3 H3 m3 k3 => ?_⟩
      refine ⟨_, rfl, a1, _, 1, _, rfl, rfl, SqT.of (m3 _ _ e1), rfl, _, rfl, a2, _, 0, _, rfl, rfl, SqT.of (m3 _ _ e2), rfl, x1, y0, _, _, _, _, rfl, f1.keep (tk_of m3), g0.keep (tk_of m3), zf1, zg0, by omega, fun v4 H4 m4 k4 => ?_⟩
      refine ⟨v3, v4, _, _, _, _, rfl, k3.keep (tk_of m4), k4, zf0.mul zg1, zf1.mul zg0, by omega, fun v5 H5 m5 k5 => ?_⟩
      refine ⟨v5, _, rfl, k5, ?_⟩
      have M := ((m1.trans m2).trans (m3.trans m4)).trans m5
      exact k H5 (KP.trans (Kp.of M)) (tb.same M)
end
end KD

/-! KD8 -/
set_option Elab.async false
set_option linter.all false
set_option maxRecDepth 100000
set_option maxHeartbeats 4000000
set_option exponentiation.threshold 20000
namespace KD
open PySem PySem.Spec PyProof.Rows L2 KR KM
def spWholePlane : Sp := fun vs H Q _ => ∃ x y z u a b c d m n, vs = [x, y, z, u] ∧ Rt H x a ∧ Rt H y b ∧ Rt H z c ∧ Rt H u d ∧ (Sz m a ∧ Sz m b ∧ Sz m c ∧ Sz n d) ∧ 0 < m ∧ 4 * m + 2 * n + 1 ≤ 9000 ∧ (a ≠ 0 ∨ b ≠ 0 ∨ c ≠ 0) ∧
  ∀ (t : Addr) H', Same H H' → H' t = some (.tup ((planeInts a b c d).map V.int)) → Q (.ref t) H'
section
variable {P : Program} {w : World} {K : PySem.W.Frag} {mg : Str → Option Value} {base : Heap}
theorem sc_whole_plane : FnScope ["a", "b", "c", "d", "scale", "wholes", "shared", "number", "under", "whole"] ["a", "b", "c", "d"] (defScope s_whole_plane) := ⟨rfl, rfl, rfl, by decide +kernel, rfl, by decide +kernel, by decide +kernel⟩
theorem c_whole_plane (T : Free mg) (hl : mg "lcm" = some (.builtin "math.lcm")) (D : Df K mg "whole_plane" s_whole_plane) : Cal P w K mg base 1 "whole_plane" ["a", "b", "c", "d"] spWholePlane := by
  refine mkCal D sc_whole_plane (fun _ _ _ _ _ _ us hl => match us, hl with | [_, _, _, _], _ => rfl) (fun vs H Q E h => ?_) (fun f cdv A outer s H vs Q E hr h => ?_)
  · obtain ⟨x, y, z, u, a, b, c, d, m, n, rfl, _⟩ := h; rfl
  · obtain ⟨x, y, z, u, a, b, c, d, m, n, rfl, ⟨ax, rfl, hx⟩, ⟨ay, rfl, hy⟩, ⟨az, rfl, hz⟩, ⟨au, rfl, hu⟩, ⟨za, zb, zc, zd⟩, hm, hmn, hne, k⟩ := h
    refine ⟨_, pss_cons (ps_set (i := 4) sc_whole_plane.nd rfl (.inr rfl) (pe_callBfun cr_lcm4 (by rfl) hl (pa_cons (pe_ix ix_tup (pv 0) pe_int (fun _ _ => rfl)) (pa_cons (pe_ix ix_tup (pv 1) pe_int (fun _ _ => rfl)) (pa_cons (pe_ix ix_tup (pv 2) pe_int (fun _ _ => rfl)) (pa_cons (pe_ix ix_tup (pv 3) pe_int (fun _ _ => rfl)) pa_nil))))))
      (pss_cons (ps_setLc (i := 5) (own := [("number", 7), ("under", 8)]) (g := gTup K 2 (gCons (gName 7) (gCons (gName 8) gNil))) rfl sc_whole_plane.nd rfl rfl (sw_true rfl rfl rfl (by decide +kernel)) (pi_tup (pe_tup (pa_cons (pv 0) (pa_cons (pv 1) (pa_cons (pv 2) (pa_cons (pv 3) pa_nil))))))
        (blkOk_by (N := ["a", "b", "c", "d", "scale", "wholes", "shared", "number", "under", "whole"]) (sc := defScope s_whole_plane) (own := [("number", 7), ("under", 8)]) (by decide +kernel))
        (fun _ _ _ _ _ => pg_tup rfl (pgs_cons (pg_name (i := 7) sc_whole_plane.nd rfl (.inl rfl) (.inr rfl)) (pgs_cons (pg_name (i := 8) sc_whole_plane.nd rfl (.inl rfl) (.inr rfl)) pgs_nil)))
        (fun _ _ _ _ _ => pts_nil) (fun _ _ _ _ _ => pe_op op_mulW (pv 7) (pe_op op_fdivW (pv 4) (pv 8))))
      (pss_cons (ps_set (i := 6) sc_whole_plane.nd rfl (.inr rfl) (pe_callBfun cr_gcd4 (by rfl) T.gcd_ (pa_cons (pe_ix ix_list (pv 5) pe_int (fun _ _ => rfl)) (pa_cons (pe_ix ix_list (pv 5) pe_int (fun _ _ => rfl)) (pa_cons (pe_ix ix_list (pv 5) pe_int (fun _ _ => rfl)) (pa_cons (pe_ix ix_list (pv 5) pe_int (fun _ _ => rfl)) pa_nil))))))
      (pss_one (ps_ret (pe_callTy call_tuple_of (by rfl) T.tuple_ (by decide +kernel) (pa_cons
        (pe_lc (own := [("whole", 9)]) (g := gName 9) rfl sc_whole_plane.nd (pi_list (pv 5))
        (blkOk_by (N := ["a", "b", "c", "d", "scale", "wholes", "shared", "number", "under", "whole"]) (sc := defScope s_whole_plane) (own := [("whole", 9)]) (by decide +kernel))
        (fun _ _ _ _ _ => pg_name (i := 9) sc_whole_plane.nd rfl (.inl rfl) (.inr rfl))
        (fun _ _ _ _ _ => pts_nil) (fun _ _ _ _ _ => pe_op op_fdivW (pv 9) (pv 6))) pa_nil)))))), ?_⟩
    have hL0 := plL_pos a b c d
    have hLt : plL a b c d < 2 ^ (m + m + m + n) := Nat.lt_of_le_of_lt (plL_le a b c d) (prod_lt za zb zc zd)
    refine ⟨_, rfl, ax, _, 1, _, rfl, rfl, SqT.of hx, rfl, _, rfl, ay, _, 1, _, rfl, rfl, SqT.of hy, rfl, _, rfl, az, _, 1, _, rfl, rfl, SqT.of hz, rfl, _, rfl, au, _, 1, _, rfl, rfl, SqT.of hu, rfl, ?_⟩
    refine ⟨a.den, b.den, c.den, d.den, rfl, den_pos a, den_pos b, den_pos c, den_pos d, Nat.lt_of_lt_of_le (prod_lt za zb zc zd) (Nat.pow_le_pow_right (by decide) (by omega)), ?_⟩
    refine ⟨_, rfl, _, rfl, _, rfl, _, rfl, by show 4 ≤ sizeLine; decide, fun t ht => ⟨t, rfl, ⟨_, SqT.of upd_same⟩, fun L hLn => ?_⟩⟩
    have s1 := same_upd (o := .tup [.ref ax, .ref ay, .ref az, .ref au]) ht
    refine lc_tup (K := K) (a := t) (xs := [.ref ax, .ref ay, .ref az, .ref au]) (fun i H' => Same (upd H t (.tup [.ref ax, .ref ay, .ref az, .ref au])) H' ∧ H' L = some (.lst (([plW (plL a b c d) a, plW (plL a b c d) b, plW (plL a b c d) c, plW (plL a b c d) d].take i).map V.int)))
      ⟨same_upd hLn, upd_same⟩ (fun i H' _ h => SqT.of (h.1 _ _ upd_same)) (fun i v H' ev h => ?_) (fun H' h => ?_)
    · obtain ⟨s2, e2⟩ := h
      have S := s1.trans s2
      have hv : ∃ av q r, v = .ref av ∧ H' av = some (.tup [.int q.num, .int (q.den : Int)]) ∧ q.den ∣ plL a b c d ∧ Sz r q ∧ r ≤ m + n ∧ [plW (plL a b c d) a, plW (plL a b c d) b, plW (plL a b c d) c, plW (plL a b c d) d][i]? = some (plW (plL a b c d) q) ∧ i < 4 := by
        match i, ev with
        | 0, ev => cases ev; exact ⟨ax, a, m, rfl, S _ _ hx, plL_dvd_a a b c d, za, by omega, rfl, by decide⟩
        | 1, ev => cases ev; exact ⟨ay, b, m, rfl, S _ _ hy, plL_dvd_b a b c d, zb, by omega, rfl, by decide⟩
        | 2, ev => cases ev; exact ⟨az, c, m, rfl, S _ _ hz, plL_dvd_c a b c d, zc, by omega, rfl, by decide⟩
        | 3, ev => cases ev; exact ⟨au, d, n, rfl, S _ _ hu, plL_dvd_d a b c d, zd, by omega, rfl, by decide⟩
      obtain ⟨av, q, r, rfl, hq, hd, zq, hr2, eq, hi4⟩ := hv
      refine ⟨av, _, rfl, SqT.of hq, rfl, _, _, rfl, _, _, rfl, rfl, rfl, ?_⟩
      refine yes_then ?_
      have dq : ((((a.den.lcm b.den).lcm c.den).lcm d.den : Nat) : Int) / (q.den : Int) = ((plL a b c d / q.den : Nat) : Int) := (Int.natCast_ediv _ _).symm
      refine ⟨_, rfl, _, rfl, _, rfl, _, _, rfl, rfl, wide_div (b := m + n + 1) (by have := den_pos q; omega) (by rw [Int.natAbs_natCast]; exact Nat.lt_of_lt_of_le zq.2 (Nat.pow_le_pow_right (by decide) (by omega))) (by omega) (by omega), ?_⟩
      refine ⟨_, _, rfl, rfl, wm (a := r) (b := m + m + m + n) zq.1 (by rw [dq, Int.natAbs_natCast]; exact Nat.lt_of_le_of_lt (Nat.div_le_self _ _) hLt) (by omega), ?_⟩
      refine ⟨_, e2, small1000 (by rw [List.length_map, List.length_take]; simp; omega), fun b' o hb => ?_, ?_⟩
      · rw [upd_ne (ne_of_none hb hLn)]
        exact s2 _ _ hb
      · rw [upd_same, List.take_add_one, eq, dq]
        simp [plW]
    · obtain ⟨s2, e2⟩ := h
      have S := s1.trans s2
      have e3 : H' L = some (.lst [.int (plW (plL a b c d) a), .int (plW (plL a b c d) b), .int (plW (plL a b c d) c), .int (plW (plL a b c d) d)]) := e2
      have tl := SqL.of (K := K) e3
      refine ⟨_, rfl, L, _, 0, _, rfl, rfl, tl, rfl, _, rfl, L, _, 1, _, rfl, rfl, tl, rfl, _, rfl, L, _, 2, _, rfl, rfl, tl, rfl, _, rfl, L, _, 3, _, rfl, rfl, tl, rfl, _, _, _, _, rfl, ?_⟩
      refine ⟨_, rfl, L, rfl, ⟨_, tl⟩, fun R hR => ?_⟩
      have hWne : plW (plL a b c d) a ≠ 0 ∨ plW (plL a b c d) b ≠ 0 ∨ plW (plL a b c d) c ≠ 0 := by
        rcases hne with h | h | h
        · exact .inl (plW_ne hL0 (plL_dvd_a a b c d) h)
        · exact .inr (.inl (plW_ne hL0 (plL_dvd_b a b c d) h))
        · exact .inr (.inr (plW_ne hL0 (plL_dvd_c a b c d) h))
      have hg0 := plG_pos (u := plW (plL a b c d) d) hWne
      have hg1 := plG_lt (u := plW (plL a b c d) d) hWne (plW_lt za hLt) (plW_lt zb hLt) (plW_lt zc hLt)
      refine lc_list (K := K) (a := L) (xs := [.int (plW (plL a b c d) a), .int (plW (plL a b c d) b), .int (plW (plL a b c d) c), .int (plW (plL a b c d) d)]) (fun i H2 => Same H' H2 ∧ H2 R = some (.lst (((planeInts a b c d).take i).map V.int)))
        ⟨same_upd hR, upd_same⟩ (fun i H2 _ h => SqL.of (h.1 _ _ e3)) (fun i v H2 ev h => ?_) (fun H2 h => ?_)
      · obtain ⟨s4, e4⟩ := h
        have hv : ∃ z : Int, v = .int z ∧ (planeInts a b c d)[i]? = some (z / (plG (plW (plL a b c d) a) (plW (plL a b c d) b) (plW (plL a b c d) c) (plW (plL a b c d) d) : Int)) ∧ i < 4 := by
          match i, ev with
          | 0, ev => cases ev; exact ⟨_, rfl, rfl, by decide⟩
          | 1, ev => cases ev; exact ⟨_, rfl, rfl, by decide⟩
          | 2, ev => cases ev; exact ⟨_, rfl, rfl, by decide⟩
          | 3, ev => cases ev; exact ⟨_, rfl, rfl, by decide⟩
        obtain ⟨z, rfl, ez, hi4⟩ := hv
        refine ⟨rfl, ?_⟩
        refine yes_then ?_
        refine ⟨_, rfl, _, rfl, _, _, rfl, rfl, wide_div (b := m + (m + m + m + n)) (by exact Int.natCast_pos.mpr hg0) (by rw [Int.natAbs_natCast]; exact hg1) (by omega) (by omega), ?_⟩
        refine ⟨_, e4, small1000 (by rw [List.length_map, List.length_take]; omega), fun b' o hb => ?_, ?_⟩
        · rw [upd_ne (ne_of_none hb hR)]
          exact s4 _ _ hb
        · rw [upd_same, List.take_add_one, ez]
          simp [plG]
      · obtain ⟨s4, e4⟩ := h
        have e5 : H2 R = some (.lst ((planeInts a b c d).map V.int)) := e4
        refine ⟨R, _, rfl, .inl ⟨SqL.of e5, fun p hp => ?_⟩⟩
        exact k p _ ((S.trans s4).trans (same_upd hp)) upd_same
end
end KD

/-! KD9 -/
set_option Elab.async false
set_option linter.all false
set_option maxRecDepth 100000
set_option maxHeartbeats 4000000
set_option exponentiation.threshold 20000
namespace KD
open PySem PySem.Spec PyProof.Rows L2 KR KM
def ux (p0 p1 p2 q0 q1 q2 r0 r1 r2 : Rat) : Rat := (q1 - p1) * (r2 - p2) - (q2 - p2) * (r1 - p1)
def uy (p0 p1 p2 q0 q1 q2 r0 r1 r2 : Rat) : Rat := (q2 - p2) * (r0 - p0) - (q0 - p0) * (r2 - p2)
def uz (p0 p1 p2 q0 q1 q2 r0 r1 r2 : Rat) : Rat := (q0 - p0) * (r1 - p1) - (q1 - p1) * (r0 - p0)
def ud (p0 p1 p2 q0 q1 q2 r0 r1 r2 : Rat) : Rat := rsum [ux p0 p1 p2 q0 q1 q2 r0 r1 r2 * p0, uy p0 p1 p2 q0 q1 q2 r0 r1 r2 * p1, uz p0 p1 p2 q0 q1 q2 r0 r1 r2 * p2]
theorem rsum3_sz {x y z : Rat} {s : Nat} (hx : Sz s x) (hy : Sz s y) (hz : Sz s z) : Sz (3 * s + 4) (rsum [x, y, z]) := by
  show Sz (3 * s + 4) (0 + x + y + z)
  exact (((zero_sz.add hx).add hy).add hz).mono (by omega)
def spPlaneThrough (Ts : List Addr) : Sp := fun vs H Q _ => ∃ x y z p0 p1 p2 q0 q1 q2 r0 r1 r2 b, vs = [x, y, z] ∧ Rw H x [p0, p1, p2] ∧ Rw H y [q0, q1, q2] ∧ Rw H z [r0, r1, r2] ∧
  (Sz b p0 ∧ Sz b p1 ∧ Sz b p2) ∧ (Sz b q0 ∧ Sz b q1 ∧ Sz b q2) ∧ (Sz b r0 ∧ Sz b r1 ∧ Sz b r2) ∧ 86 * b + 59 ≤ 9000 ∧ Tabs Ts H ∧
  (ux p0 p1 p2 q0 q1 q2 r0 r1 r2 ≠ 0 ∨ uy p0 p1 p2 q0 q1 q2 r0 r1 r2 ≠ 0 ∨ uz p0 p1 p2 q0 q1 q2 r0 r1 r2 ≠ 0) ∧
  ∀ (t : Addr) H', Kp Ts H H' → Tabs Ts H' → H' t = some (.tup ((planeInts (ux p0 p1 p2 q0 q1 q2 r0 r1 r2) (uy p0 p1 p2 q0 q1 q2 r0 r1 r2) (uz p0 p1 p2 q0 q1 q2 r0 r1 r2) (ud p0 p1 p2 q0 q1 q2 r0 r1 r2)).map V.int)) → Q (.ref t) H'
section
variable {P : Program} {w : World} {K : PySem.W.Frag} {mg : Str → Option Value} {base : Heap}
theorem sc_plane_through : FnScope ["one", "other", "third", "point", "upright", "a", "b", "c"] ["one", "other", "third"] (defScope s_plane_through) := ⟨rfl, rfl, rfl, by decide +kernel, rfl, by decide +kernel, by decide +kernel⟩
theorem eqv_zero {a b c : Rat} (h : PyData.eqv (.tuple [.tuple [.int a.num, .int (a.den : Int)], .tuple [.int b.num, .int (b.den : Int)], .tuple [.int c.num, .int (c.den : Int)]]) (.tuple [.tuple [.int 0, .int 1], .tuple [.int 0, .int 1], .tuple [.int 0, .int 1]]) = true) : a = 0 ∧ b = 0 ∧ c = 0 := by
  simp [PyData.eqv, PyData.eqvAll] at h
  exact ⟨h.1.1, h.2.1.1, h.2.2.1⟩
theorem dp_rt {K : PySem.W.Frag} {H : Hp} {v : V} {q : Rat} (h : Rt H v q) : Dp K H v (.tuple [.int q.num, .int (q.den : Int)]) := by
  obtain ⟨a, rfl, e⟩ := h
  exact .tup (SqT.of e) (.cons (.int _) (.cons (.int _) .nil))
theorem c_plane_through {k : Nat} {Ts : List Addr} (D : Df K mg "plane_through" s_plane_through) (C1 : Cal P w K mg base k "check_point" ["value"] (spCheck Ts 3)) (CR : Cal P w K mg base k "row_less" ["row", "other"] spRowLess) (CX : Cal P w K mg base k "cross_row" ["row", "other"] spCross)
    (CL : Cal P w K mg base k "length_product" ["row", "other"] spLengthProduct) (CW : Cal P w K mg base k "whole_plane" ["a", "b", "c", "d"] spWholePlane) : Cal P w K mg base (k + 1) "plane_through" ["one", "other", "third"] (spPlaneThrough Ts) := by
  refine mkCal D sc_plane_through (fun _ _ _ _ _ _ us hl => match us, hl with | [_, _, _], _ => rfl) (fun vs H Q E h => ?_) (fun f cdv A outer s H vs Q E hr h => ?_)
  · obtain ⟨x, y, z, _, _, _, _, _, _, _, _, _, b, rfl, _⟩ := h; rfl
  · obtain ⟨x, y, z, p0, p1, p2, q0, q1, q2, r0, r1, r2, b, rfl, hx, hy, hz, ⟨zp0, zp1, zp2⟩, ⟨zq0, zq1, zq2⟩, ⟨zr0, zr1, zr2⟩, hb, tt, hne, k⟩ := h
    refine ⟨_, pss_cons (ps_for PassesOwn.never rfl (pi_tup (pe_tup (pa_cons (pv 0) (pa_cons (pv 1) (pa_cons (pv 2) pa_nil))))) (pg_name (i := 3) sc_plane_through.nd rfl (.inl rfl)) (pss_one (ps_expr (pe_cal C1 hr (by rfl) (pa_cons (pv 3) pa_nil)))))
      (pss_cons (ps_set (i := 4) sc_plane_through.nd rfl (.inl rfl) (pe_cal CX hr (by rfl) (pa_cons (pe_cal CR hr (by rfl) (pa_cons (pv 1) (pa_cons (pv 0) pa_nil))) (pa_cons (pe_cal CR hr (by rfl) (pa_cons (pv 2) (pa_cons (pv 0) pa_nil))) pa_nil))))
      (pss_cons (ps_if (pt_cmpR (op_eqD hr.units) (pv 4) (pe_tup (pa_cons (pe_tup (pa_cons pe_int (pa_cons pe_int pa_nil))) (pa_cons (pe_tup (pa_cons pe_int (pa_cons pe_int pa_nil))) (pa_cons (pe_tup (pa_cons pe_int (pa_cons pe_int pa_nil))) pa_nil)))) (nomark _)) (pss_one ps_never) pss_nil)
      (pss_cons (ps_asg (pv 4) (pg_tup (by rfl) (pgs_cons (pg_name (i := 5) sc_plane_through.nd rfl (.inl rfl)) (pgs_cons (pg_name (i := 6) sc_plane_through.nd rfl (.inl rfl)) (pgs_cons (pg_name (i := 7) sc_plane_through.nd rfl (.inl rfl)) pgs_nil)))))
      (pss_one (ps_ret (pe_cal CW hr (by rfl) (pa_cons (pv 5) (pa_cons (pv 6) (pa_cons (pv 7) (pa_cons (pe_cal CL hr (by rfl) (pa_cons (pv 4) (pa_cons (pv 0) pa_nil))) pa_nil)))))))))), ?_⟩
    refine ⟨_, rfl, _, rfl, _, rfl, by show 3 ≤ sizeLine; decide, fun t ht => ?_⟩
    have s1 := same_upd (o := .tup [x, y, z]) ht
    have tt1 := tt.same s1
    refine ⟨t, rfl, ⟨_, SqT.of upd_same⟩, for_tup (K := K) (a := t) (xs := [x, y, z]) (fun i σ H' => ∃ u, σ = [some x, some y, some z, u, none, none, none, none] ∧ Kp Ts (upd H t (.tup [x, y, z])) H' ∧ Tabs Ts H') ⟨none, rfl, Kp.refl _ _, tt1⟩ (fun i σ H' _ h => ?_) (fun i v σ H' ev h => ?_) (fun σ H' h => ?_)⟩
    · obtain ⟨u, _, kp, _⟩ := h
      exact SqT.of (tt1.tk kp _ _ upd_same)
    · obtain ⟨u, rfl, kp, tb⟩ := h
      have tk := (tk_of s1).trans (tt1.tk kp)
      have hv : ∃ qs, Rw H' v qs ∧ qs.length = 3 := by
        match i, ev with
        | 0, ev => cases ev; exact ⟨_, hx.keep tk, rfl⟩
        | 1, ev => cases ev; exact ⟨_, hy.keep tk, rfl⟩
        | 2, ev => cases ev; exact ⟨_, hz.keep tk, rfl⟩
      obtain ⟨qs, rv, ln⟩ := hv
      refine ⟨v, rfl, v, qs, rfl, rv, ln, tb, fun H2 k2 t2 => ?_⟩
      exact ⟨some v, rfl, kp.trans k2, t2⟩
    · obtain ⟨u, rfl, kp, tb⟩ := h
      have tk := (tk_of s1).trans (tt1.tk kp)
      have KP := (Kp.of (Ts := Ts) s1).trans kp
      refine ⟨_, rfl, _, rfl, y, x, _, _, b, b, rfl, hy.keep tk, hx.keep tk, rfl, by show 3 ≤ 100; decide, ?_, ?_, by omega, fun v1 H1 m1 k1 => ?_⟩
      · intro p hp; simp at hp; rcases hp with rfl | rfl | rfl <;> assumption
      · intro p hp; simp at hp; rcases hp with rfl | rfl | rfl <;> assumption
      have tk1 := tk.trans (tk_of m1)
      refine ⟨_, rfl, _, rfl, z, x, _, _, b, b, rfl, hz.keep tk1, hx.keep tk1, rfl, by show 3 ≤ 100; decide, ?_, ?_, by omega, fun v2 H2 m2 k2 => ?_⟩
      · intro p hp; simp at hp; rcases hp with rfl | rfl | rfl <;> assumption
      · intro p hp; simp at hp; rcases hp with rfl | rfl | rfl <;> assumption
      have za := (zq0.sub zp0)
      have zb := (zq1.sub zp1)
      have zc := (zq2.sub zp2)
      have ze := (zr0.sub zp0)
      have zf := (zr1.sub zp1)
      have zg := (zr2.sub zp2)
      refine ⟨v1, v2, _, _, _, _, _, _, b + b + 1, b + b + 1, rfl, k1.keep (tk_of m2), k2, ⟨za, zb, zc⟩, ⟨ze, zf, zg⟩, by omega, fun v3 H3 m3 k3 => ?_⟩
      have zux : Sz (8 * b + 5) (ux p0 p1 p2 q0 q1 q2 r0 r1 r2) := ((zb.mul zg).sub (zc.mul zf)).mono (by omega)
      have zuy : Sz (8 * b + 5) (uy p0 p1 p2 q0 q1 q2 r0 r1 r2) := ((zc.mul ze).sub (za.mul zg)).mono (by omega)
      have zuz : Sz (8 * b + 5) (uz p0 p1 p2 q0 q1 q2 r0 r1 r2) := ((za.mul zf).sub (zb.mul ze)).mono (by omega)
      have k3' : Rw H3 v3 [ux p0 p1 p2 q0 q1 q2 r0 r1 r2, uy p0 p1 p2 q0 q1 q2 r0 r1 r2, uz p0 p1 p2 q0 q1 q2 r0 r1 r2] := k3
      obtain ⟨au, x0, x1, x2, rfl, eu, f0, f1, f2⟩ := rw3 k3'
      have M3 := (m1.trans m2).trans m3
      refine ⟨_, rfl, by show 2 ≤ sizeLine; decide, fun t1 h1 => ⟨by show 2 ≤ sizeLine; decide, fun t2 h2 => ⟨by show 2 ≤ sizeLine; decide, fun t3 h3 => ⟨by show 3 ≤ sizeLine; decide, fun t4 h4 => ?_⟩⟩⟩⟩
      have n1 := same_upd (o := .tup [.int 0, .int 1]) h1
      have n2 := same_upd (o := .tup [.int 0, .int 1]) h2
      have n3 := same_upd (o := .tup [.int 0, .int 1]) h3
      have n4 := same_upd (o := .tup [.ref t1, .ref t2, .ref t3]) h4
      have N4 := ((n1.trans n2).trans n3).trans n4
      refine ⟨.tuple [.tuple [.int _, .int _], .tuple [.int _, .int _], .tuple [.int _, .int _]], .tuple [.tuple [.int 0, .int 1], .tuple [.int 0, .int 1], .tuple [.int 0, .int 1]],
        .tup (SqT.of (N4 _ _ eu)) (.cons (dp_rt (f0.keep (tk_of N4))) (.cons (dp_rt (f1.keep (tk_of N4))) (.cons (dp_rt (f2.keep (tk_of N4))) .nil))),
        .tup (SqT.of upd_same) (.cons (.tup (SqT.of (((n2.trans n3).trans n4) _ _ upd_same)) (.cons (.int _) (.cons (.int _) .nil))) (.cons (.tup (SqT.of ((n3.trans n4) _ _ upd_same)) (.cons (.int _) (.cons (.int _) .nil))) (.cons (.tup (SqT.of (n4 _ _ upd_same)) (.cons (.int _) (.cons (.int _) .nil))) .nil))),
        by rfl, by rfl, _, rfl, ite2 (fun e => ?_) (fun _ => ?_)⟩
      · obtain ⟨e1, e2, e3⟩ := eqv_zero e
        rcases hne with h | h | h
        · exact absurd e1 h
        · exact absurd e2 h
        · exact absurd e3 h
      · refine ⟨_, rfl, au, _, rfl, SqT.of (N4 _ _ eu), rfl, _, _, rfl, _, _, rfl, _, _, rfl, rfl, ?_⟩
        have M4 := M3.trans N4
        refine ⟨_, rfl, _, rfl, _, rfl, _, rfl, _, rfl, .ref au, x, _, _, 8 * b + 5, b, rfl, k3'.keep (tk_of N4), hx.keep (tk.trans (tk_of M4)), rfl, by show 3 ≤ 100; decide, ?_, ?_, by show 4 * _ + 2 ≤ 9000; omega, fun v5 H5 m5 k5 => ?_⟩
        · intro p hp; simp at hp; rcases hp with rfl | rfl | rfl <;> assumption
        · intro p hp; simp at hp; rcases hp with rfl | rfl | rfl <;> assumption
        have N5 := N4.trans m5
        have zd : Sz (27 * b + 19) (ud p0 p1 p2 q0 q1 q2 r0 r1 r2) := (rsum3_sz (zux.mul zp0) (zuy.mul zp1) (zuz.mul zp2)).mono (by omega)
        refine ⟨x0, x1, x2, v5, _, _, _, ud p0 p1 p2 q0 q1 q2 r0 r1 r2, 8 * b + 5, 27 * b + 19, rfl, f0.keep (tk_of N5), f1.keep (tk_of N5), f2.keep (tk_of N5), k5, ⟨zux, zuy, zuz, zd⟩, by omega, by omega, hne, fun t6 H6 m6 k6 => ?_⟩
        have M := (M4.trans m5).trans m6
        exact k t6 H6 (KP.trans (Kp.of M)) (tb.same M) k6
end
end KD

/-! KL1 -/
set_option Elab.async false
set_option linter.all false
set_option maxRecDepth 100000
set_option maxHeartbeats 4000000
set_option exponentiation.threshold 20000
namespace KD
open PySem PySem.Spec PyProof.Rows L2 KR KM
abbrev s_law_pot : Stmt := topS 29
abbrev s_law_draw : Stmt := topS 30
abbrev s_law_gcd : Stmt := topS 31
abbrev s_law_ratio : Stmt := topS 32
abbrev s_law_plus : Stmt := topS 33
abbrev s_law_less : Stmt := topS 34
abbrev s_law_by : Stmt := topS 35
abbrev s_law_drawn : Stmt := topS 36
abbrev s_law_sign : Stmt := topS 37
abbrev s_law_flat : Stmt := topS 38
structure Free2 (mg : Str → Option Value) : Prop where
  abs_ : mg "abs" = none
  max_ : mg "max" = none
  divmod_ : mg "divmod" = none
  range_ : mg "range" = none
  repr_ : mg "repr" = none
/-- the pot -/
def PotAt (H : Hp) (p : Addr) : Prop := ∃ m s : Int, H p = some (.lst [.int m, .int s]) ∧ 0 ≤ m ∧ 0 ≤ s ∧ s < 4294967296
theorem PotAt.tk {H H' : Hp} {p : Addr} (h : PotAt H p) (k : Kp [p] H H') : TK H H' := fun b xs hb => by
  obtain ⟨m, s, e, _⟩ := h
  exact k b _ (by simpa using ne_of hb e (by intro z; cases z)) hb
theorem Kp.mono {Ts Us : List Addr} {H H' : Hp} (k : Kp Ts H H') (h : ∀ b ∈ Ts, b ∈ Us) : Kp Us H H' := fun b o n e => k b o (fun z => n (h b z)) e
theorem divp_small {i j : Int} (h : 0 < j) (h2 : j < 1000000) : CDivP i j := by
  refine ⟨h, ?_⟩
  show (decide ((if j == 0 then 0 else j.natAbs.log2 / 30 + 1) > 300) && decide ((if i == 0 then 0 else i.natAbs.log2 / 30 + 1) > (if j == 0 then 0 else j.natAbs.log2 / 30 + 1) + 150)) = false
  have e : ¬ (j == 0) = true := by simpa using (show j ≠ 0 by omega)
  rw [if_neg e]
  have l : j.natAbs.log2 ≤ 63 := log2_le (Nat.lt_of_lt_of_le (show j.natAbs < 1000000 by omega) (by decide))
  have k : ¬ (j.natAbs.log2 / 30 + 1 > 300) := by omega
  rw [decide_eq_false k, Bool.false_and]
def spPot (K : PySem.W.Frag) : Sp := fun vs H Q _ => ∃ (a : Addr) (ns : List Int), vs = [.ref a, .int 0] ∧ SqL K H a (ns.map V.int) ∧ ∀ p H', Same H H' → H p = none → PotAt H' p → Q (.ref p) H'
def spDraw : Sp := fun vs H Q _ => ∃ (p : Addr) (r : Int), vs = [.ref p, .int r] ∧ PotAt H p ∧ 0 < r ∧ r < 1000000 ∧ ∀ d H', 0 ≤ d → d < r → PotAt H' p → Kp [p] H H' → Q (.int d) H'
def spLawGcd : Sp := fun vs H Q _ => ∃ (n : Int) (u : Nat), vs = [.int n, .int (u : Int)] ∧ Q (.int ((n.natAbs.gcd u : Nat) : Int)) H
theorem gcd_step (x : Int) (y : Nat) (h : y ≠ 0) : y.gcd (x % (y : Int)).toNat = x.natAbs.gcd y := by
  have h0 : 0 ≤ x % (y : Int) := Int.emod_nonneg x (by omega)
  have e : Int.gcd (y : Int) (x % (y : Int)) = Int.gcd x (y : Int) := by
    rw [Int.emod_def, Int.mul_comm (y : Int), Int.gcd_sub_mul_right_right, Int.gcd_comm]
  have e1 : Int.gcd (y : Int) (x % (y : Int)) = y.gcd (x % (y : Int)).toNat := by
    show (y : Int).natAbs.gcd (x % (y : Int)).natAbs = _
    rw [Int.natAbs_natCast]
    congr 1
    omega
  have e2 : Int.gcd x (y : Int) = x.natAbs.gcd y := by
    show x.natAbs.gcd (y : Int).natAbs = _
    rw [Int.natAbs_natCast]
  rw [← e1, e, e2]
section
variable {P : Program} {w : World} {K : PySem.W.Frag} {mg : Str → Option Value} {base : Heap}
theorem sc_law_gcd : FnScope ["_law_one", "_law_other"] ["_law_one", "_law_other"] (defScope s_law_gcd) := ⟨rfl, rfl, rfl, by decide +kernel, rfl, by decide +kernel, by decide +kernel⟩
theorem c_law_gcd (T2 : Free2 mg) (D : Df K mg "_law_gcd" s_law_gcd) : Cal P w K mg base 1 "_law_gcd" ["_law_one", "_law_other"] spLawGcd := by
  refine mkCal D sc_law_gcd (fun _ _ _ _ _ _ us hl => match us, hl with | [_, _], _ => rfl) (fun vs H Q E h => ?_) (fun f cdv A outer s H vs Q E hr h => ?_)
  · obtain ⟨n, u, rfl, _⟩ := h; rfl
  · obtain ⟨n, u, rfl, q⟩ := h
    refine ⟨_, pss_cons (ps_while PassesOwn.never (pt_cmpR op_ne (pv 1) pe_int (nomark _)) (pss_one (ps_par (i := 0) (j := 1) (by rfl) sc_law_gcd.nd rfl rfl (by decide) rfl rfl (pa_cons (pv 1) (pa_cons (pe_op op_mod (pv 0) (pv 1)) pa_nil)) (by rfl))))
      (pss_one (ps_ret (pe_callB call_abs (by rfl) T2.abs_ (by decide +kernel) (pa_cons (pv 0) pa_nil)))), ?_⟩
    refine ⟨fun m σ H' => ∃ (x : Int) (y : Nat), σ = [some (.int x), some (.int (y : Int))] ∧ H' = H ∧ x.natAbs.gcd y = n.natAbs.gcd u ∧ m = y, ⟨u, n, u, rfl, rfl, rfl, rfl⟩, ?_⟩
    rintro m σ H' ⟨x, y, rfl, eH, eg, rfl⟩
    rw [eH]
    refine ⟨_, rfl, rfl, _, rfl, ?_⟩
    by_cases hy : m = 0
    · subst hy
      have e1 : (!decide (V.int ((0 : Nat) : Int) = V.int 0)) = false := by decide
      rw [e1]
      refine iteF ?_
      refine ⟨_, rfl, x, rfl, ?_⟩
      have e2 : (if x < 0 then -x else x) = ((n.natAbs.gcd u : Nat) : Int) := by
        rw [← eg, Nat.gcd_zero_right]
        split <;> omega
      rw [e2]
      exact q
    · have e1 : (!decide (V.int (m : Int) = V.int 0)) = true := by
        rw [decide_eq_false (fun z => hy (by have := V.int.inj z; omega))]; rfl
      rw [e1]
      refine iteT ?_
      have hpos : (0 : Int) < (m : Int) := by omega
      have h0 := Int.emod_nonneg x (show (m : Int) ≠ 0 by omega)
      have h1 := Int.emod_lt_of_pos x hpos
      refine ⟨fun σ' H' => ∃ m', m' < m ∧ ∃ (x : Int) (y : Nat), σ' = [some (.int x), some (.int (y : Int))] ∧ H' = H ∧ x.natAbs.gcd y = n.natAbs.gcd u ∧ m' = y, fun σ' H' h => ?_, ?_⟩
      · exact h
      · refine ⟨_, rfl, _, rfl, _, rfl, x, (m : Int), rfl, rfl, hpos, _, _, rfl, ?_⟩
        refine ⟨(x % (m : Int)).toNat, by omega, (m : Int), (x % (m : Int)).toNat, ?_, rfl, ?_, rfl⟩
        · have : ((x % (m : Int)).toNat : Int) = x % (m : Int) := Int.toNat_of_nonneg h0
          rw [this]; rfl
        · rw [Int.natAbs_natCast, gcd_step x m hy]
          exact eg

theorem sc_law_draw : FnScope ["_law_pot_here", "_law_room", "_law_digit"] ["_law_pot_here", "_law_room"] (defScope s_law_draw) := ⟨rfl, rfl, rfl, by decide +kernel, rfl, by decide +kernel, by decide +kernel⟩
theorem c_law_draw (T : Free mg) (T2 : Free2 mg) (D : Df K mg "_law_draw" s_law_draw) : Cal P w K mg base 1 "_law_draw" ["_law_pot_here", "_law_room"] spDraw := by
  refine mkCal D sc_law_draw (fun _ _ _ _ _ _ us hl => match us, hl with | [_, _], _ => rfl) (fun vs H Q E h => ?_) (fun f cdv A outer s H vs Q E hr h => ?_)
  · obtain ⟨p, r, rfl, _⟩ := h; rfl
  · obtain ⟨p, r, rfl, ⟨m, z, e, hm, hz, hz2⟩, hr0, hr1, q⟩ := h
    have t1 := SqL.of (K := K) e
    refine ⟨_, pss_cons (ps_if (pt_cmpR op_gt (pe_ix ix_list (pv 0) pe_int (fun _ _ => rfl)) pe_int (nomark _))
        (pss_cons (ps_asg (pe_callB call_divmodW (by rfl) T2.divmod_ (by decide +kernel) (pa_cons (pe_ix ix_list (pv 0) pe_int (fun _ _ => rfl)) (pa_cons (pv 1) pa_nil)))
          (pg_tup (by rfl) (pgs_cons (pg_sub (pv 0) pe_int set_list) (pgs_cons (pg_name (i := 2) sc_law_draw.nd rfl (.inl rfl)) pgs_nil)))) (pss_one (ps_ret (pv 2)))) pss_nil)
      (pss_cons (ps_asg (pe_op op_mod (pe_callTy call_int1 (by rfl) T.int_ (by decide +kernel) (pa_cons (pe_op op_add (pe_op op_mulW (pe_ix ix_list (pv 0) pe_int (fun _ _ => rfl)) pe_int) pe_int) pa_nil)) pe_int) (pg_sub (pv 0) pe_int set_list))
      (pss_one (ps_ret (pe_op op_mod (pe_callTy call_int1 (by rfl) T.int_ (by decide +kernel) (pa_cons (pe_op op_fdiv (pe_op op_mod (pe_callTy call_int1 (by rfl) T.int_ (by decide +kernel) (pa_cons (pe_op op_mulW (pe_ix ix_list (pv 0) pe_int (fun _ _ => rfl)) (pe_ix ix_list (pv 0) pe_int (fun _ _ => rfl))) pa_nil)) pe_int) pe_int) pa_nil)) (pv 1))))), ?_⟩
    refine ⟨_, rfl, p, _, 0, _, rfl, rfl, t1, rfl, _, _, rfl, rfl, _, rfl, ite2 (fun c => ?_) (fun c => ?_)⟩
    · have hm2 : m > 0 := of_decide_eq_true c
      refine ⟨_, rfl, p, _, 0, _, rfl, rfl, t1, rfl, _, rfl, m, r, rfl, divp_small hr0 hr1, fun t ht => ?_⟩
      have s1 := same_upd (o := .tup [.int (m / r), .int (m % r)]) ht
      refine ⟨t, _, rfl, SqT.of upd_same, rfl, _, _, rfl, ⟨_, rfl, p, _, 0, 0, rfl, rfl, s1 _ _ e, rfl, ?_⟩⟩
      refine ⟨_, _, rfl, rfl, _, rfl, ?_⟩
      refine q _ _ (Int.emod_nonneg m (by omega)) (Int.emod_lt_of_pos m hr0) ⟨m / r, z, upd_same, Int.ediv_nonneg hm (by omega), hz, hz2⟩ (fun b o hb hbo => ?_)
      rw [upd_ne (by simpa using hb)]
      exact s1 _ _ hbo
    · have wz : CMulW z 48271 := wm (a := 32) (b := 32) (by omega) (by decide) (by decide)
      refine ⟨_, rfl, p, _, 1, _, rfl, rfl, t1, rfl, _, _, rfl, rfl, wz, _, _, rfl, rfl, .inl ⟨_, rfl, ?_⟩⟩
      refine ⟨_, _, rfl, rfl, by show (0 : Int) < 2147483587; decide, _, rfl, p, _, 1, 1, rfl, rfl, e, rfl, ?_⟩
      have g0 := Int.emod_nonneg (z * 48271 + 18126) (show (2147483587 : Int) ≠ 0 by decide)
      have g1 := Int.emod_lt_of_pos (z * 48271 + 18126) (show (0 : Int) < 2147483587 by decide)
      generalize hz' : (z * 48271 + 18126) % 2147483587 = z' at g0 g1
      have hp' : (upd H p (.lst ([V.int m, V.int z].set 1 (V.int z')))) p = some (.lst [.int m, .int z']) := upd_same
      have hz'' : (upd H p (.lst ([V.int m, V.int z].set 1 (V.int ((z * 48271 + 18126) % 2147483587))))) p = some (.lst [.int m, .int z']) := by rw [hz']; exact upd_same
      have t2 := SqL.of (K := K) hz''
      refine ⟨_, rfl, p, _, 1, _, rfl, rfl, t2, rfl, _, rfl, p, _, 1, _, rfl, rfl, t2, rfl, _, _, rfl, rfl, wm (a := 32) (b := 32) (by omega) (by omega) (by decide), .inl ⟨_, rfl, ?_⟩⟩
      refine ⟨_, _, rfl, rfl, by show (0 : Int) < 2147483549; decide, _, _, rfl, rfl, ⟨by decide, by decide⟩, .inl ⟨_, rfl, _, rfl, _, _, rfl, rfl, hr0, ?_⟩⟩
      refine q _ _ (Int.emod_nonneg _ (by omega)) (Int.emod_lt_of_pos _ hr0) ⟨m, z', hz'', hm, g0, by omega⟩ (fun b o hb hbo => ?_)
      rw [upd_ne (by simpa using hb)]
      exact hbo
end
end KD

/-! KL2 -/
set_option Elab.async false
set_option linter.all false
set_option maxRecDepth 100000
set_option maxHeartbeats 4000000
set_option exponentiation.threshold 20000
namespace KD
open PySem PySem.Spec PyProof.Rows L2 KR KM
section
variable {P : Program} {w : World} {K : PySem.W.Frag} {mg : Str → Option Value} {base : Heap}
theorem sc_law_pot : FnScope ["_law_script", "_law_k", "_law_cell"] ["_law_script", "_law_k"] (defScope s_law_pot) := ⟨rfl, rfl, rfl, by decide +kernel, rfl, by decide +kernel, by decide +kernel⟩
theorem c_law_pot (T : Free mg) (T2 : Free2 mg) (D : Df K mg "_law_pot" s_law_pot) : Cal P w K mg base 1 "_law_pot" ["_law_script", "_law_k"] (spPot K) := by
  refine mkCal D sc_law_pot (fun _ _ _ _ _ _ us hl => match us, hl with | [_, _], _ => rfl) (fun vs H Q E h => ?_) (fun f cdv A outer s H vs Q E hr h => ?_)
  · obtain ⟨a, ns, rfl, _⟩ := h; rfl
  · obtain ⟨a, ns, rfl, hs, q⟩ := h
    refine ⟨_, pss_cons (ps_set (i := 2) sc_law_pot.nd rfl (.inl rfl) (pe_op op_add (pe_op op_mul pe_int (pv 1)) pe_int))
      (pss_cons (ps_if (pt_cmpR op_lt (pv 1) (pe_callB call_len_seq (by rfl) T.len_ PySem.boot_len (pa_cons (pv 0) pa_nil)) (nomark _))
        (pss_one (ps_set (i := 2) sc_law_pot.nd rfl (.inl rfl) (pe_callB call_abs (by rfl) T2.abs_ (by decide +kernel) (pa_cons (pe_ix ix_list (pv 0) (pv 1) (fun _ _ => rfl)) pa_nil)))) pss_nil)
      (pss_one (ps_ret (pe_lst (pa_cons (pe_callB (call_max2 rfl) (by rfl) T2.max_ (by decide +kernel) (pa_cons pe_int (pa_cons (pe_op op_sub (pv 2) (pe_op op_pow pe_int pe_int)) pa_nil)))
        (pa_cons (pe_op op_add (pe_op op_mod (pe_op op_mulW (pe_callTy call_int1 (by rfl) T.int_ (by decide +kernel) (pa_cons (pe_op op_add (pe_op op_mod (pe_callTy call_int1 (by rfl) T.int_ (by decide +kernel) (pa_cons (pv 2) pa_nil)) pe_int) pe_int) pa_nil)) (pe_op op_pow (pe_op op_add (pe_op op_mul pe_int (pv 1)) pe_int) pe_int)) pe_int) pe_int) pa_nil)))))), ?_⟩
    refine ⟨_, rfl, _, _, rfl, rfl, .inl ⟨by decide, by decide⟩, _, _, rfl, rfl, ?_⟩
    refine ⟨_, rfl, _, rfl, a, _, rfl, .inl hs, _, _, rfl, rfl, _, rfl, ?_⟩
    have fin : ∀ (c : Int) (l : Addr), H l = none → Q (.ref l) (upd H l (.lst [.int (if c - 10 ^ 18 > 0 then c - 10 ^ 18 else 0), .int ((c % 2147483549 + 61) * 27 % 2147483477 + 1)])) := fun c l hl => by
      have g0 := Int.emod_nonneg ((c % 2147483549 + 61) * 27) (show (2147483477 : Int) ≠ 0 by decide)
      have g1 := Int.emod_lt_of_pos ((c % 2147483549 + 61) * 27) (show (0 : Int) < 2147483477 by decide)
      exact q _ _ (same_upd hl) hl ⟨_, _, upd_same, by split <;> omega, by omega, by omega⟩
    cases ns with
    | nil =>
      refine iteF ?_
      refine ⟨_, rfl, _, _, rfl, rfl, ⟨by decide, by decide, by decide⟩, _, _, rfl, rfl, _, _, rfl, ?_⟩
      refine ⟨_, rfl, .inl ⟨_, rfl, ?_⟩⟩
      refine ⟨_, _, rfl, rfl, by show (0 : Int) < 2147483549; decide, _, _, rfl, rfl, .inl ⟨_, rfl, ?_⟩⟩
      refine ⟨_, rfl, _, _, rfl, rfl, .inl ⟨by decide, by decide⟩, _, _, rfl, rfl, _, _, rfl, rfl, ⟨by decide, by decide, by decide⟩, ?_⟩
      refine ⟨_, _, rfl, rfl, wm (a := 32) (b := 32) (by decide) (by decide) (by decide), _, _, rfl, rfl, by show (0 : Int) < 2147483477; decide, _, _, rfl, rfl, by show 2 ≤ sizeLine; decide, fun l hl => fin 61 l hl⟩
    | cons n ns =>
      refine ite2 (fun _ => ?_) (fun e => ?_)
      · refine ⟨_, rfl, _, rfl, a, _, 0, _, rfl, rfl, hs, atI_nat (j := 0) (xs := (n :: ns).map V.int) rfl, n, rfl, ?_⟩
        have g0 := Int.emod_nonneg (if n < 0 then -n else n) (show (2147483549 : Int) ≠ 0 by decide)
        have g1 := Int.emod_lt_of_pos (if n < 0 then -n else n) (show (0 : Int) < 2147483549 by decide)
        refine ⟨_, rfl, _, _, rfl, rfl, ⟨by decide, by decide, by decide⟩, _, _, rfl, rfl, _, _, rfl, ?_⟩
        refine ⟨_, rfl, .inl ⟨_, rfl, ?_⟩⟩
        refine ⟨_, _, rfl, rfl, by show (0 : Int) < 2147483549; decide, _, _, rfl, rfl, .inl ⟨_, rfl, ?_⟩⟩
        refine ⟨_, rfl, _, _, rfl, rfl, .inl ⟨by decide, by decide⟩, _, _, rfl, rfl, _, _, rfl, rfl, ⟨by decide, by decide, by decide⟩, ?_⟩
        refine ⟨_, _, rfl, rfl, wm (a := 32) (b := 32) (by show ((if n < 0 then -n else n) % 2147483549 + 61).natAbs < 4294967296; omega) (by decide) (by decide), _, _, rfl, rfl, by show (0 : Int) < 2147483477; decide, _, _, rfl, rfl, by show 2 ≤ sizeLine; decide, fun l hl => fin _ l hl⟩
      · exact absurd (decide_eq_true (by show (0 : Int) < ((_ : Nat) : Int); rw [List.length_map, List.length_cons]; omega)) e
end
end KD

/-! KL3 -/
set_option Elab.async false
set_option linter.all false
set_option maxRecDepth 100000
set_option maxHeartbeats 4000000
set_option exponentiation.threshold 20000
namespace KD
open PySem PySem.Spec PyProof.Rows L2 KR KM
section
variable {P : Program} {w : World} {K : PySem.W.Frag} {mg : Str → Option Value} {base : Heap}
theorem sc_law_ratio : FnScope ["_law_number", "_law_under", "_law_shared", "_law_sign_here"] ["_law_number", "_law_under"] (defScope s_law_ratio) := ⟨rfl, rfl, rfl, by decide +kernel, rfl, by decide +kernel, by decide +kernel⟩
theorem c_law_ratio {k : Nat} (D : Df K mg "_law_ratio" s_law_ratio) (C : Cal P w K mg base k "_law_gcd" ["_law_one", "_law_other"] spLawGcd) : Cal P w K mg base (k + 1) "_law_ratio" ["_law_number", "_law_under"] spLowest := by
  refine mkCal D sc_law_ratio (fun _ _ _ _ _ _ us hl => match us, hl with | [_, _], _ => rfl) (fun vs H Q E h => ?_) (fun f cdv A outer s H vs Q E hr h => ?_)
  · obtain ⟨n, u, b, rfl, _⟩ := h; rfl
  · obtain ⟨n, u, b, rfl, hu, hb, h0, h9, q⟩ := h
    refine ⟨_, pss_cons (ps_set (i := 2) sc_law_ratio.nd rfl (.inl rfl) (pe_cal C hr (by rfl) (pa_cons (pv 0) (pa_cons (pv 1) pa_nil))))
      (pss_cons (ps_set (i := 3) sc_law_ratio.nd rfl (.inl rfl) (pe_ifExp (pt_cmpR op_gt (pv 1) pe_int (nomark _)) pe_int (pe_un un_neg pe_int)))
      (pss_one (ps_ret (pe_tup (pa_cons (pe_op op_fdivW (pe_op op_mul (pv 3) (pv 0)) (pv 2)) (pa_cons (pe_op op_fdivW (pe_op op_mul (pv 3) (pv 1)) (pv 2)) pa_nil)))))), ?_⟩
    refine ⟨_, rfl, _, rfl, n, u, rfl, ?_⟩
    refine ⟨_, rfl, _, _, rfl, rfl, _, rfl, ite2 (fun _ => ?_) (fun e => ?_)⟩
    · have g0 : 0 < n.natAbs.gcd u := Nat.gcd_pos_of_pos_right _ (by omega)
      have g1 : n.natAbs.gcd u ≤ u := Nat.le_of_dvd (by omega) (Nat.gcd_dvd_right _ _)
      have cw : ∀ i : Int, CDivW i ((n.natAbs.gcd u : Nat) : Int) := fun i => wide_div (by omega) (by rw [Int.natAbs_natCast]; omega) h0 h9
      refine ⟨_, rfl, _, rfl, _, _, rfl, rfl, .inl ⟨by decide, by decide⟩, _, rfl, _, _, rfl, rfl, cw _, ?_⟩
      refine ⟨_, rfl, _, rfl, _, _, rfl, rfl, .inl ⟨by decide, by decide⟩, _, rfl, _, _, rfl, rfl, cw _, by show 2 ≤ sizeLine; decide, fun p hp => ?_⟩
      refine q _ _ (same_upd hp) ⟨p, rfl, ?_⟩
      rw [upd_same, mk_num n u hu, mk_den n u hu, Int.one_mul, Int.one_mul]
      rfl
    · exact absurd (decide_eq_true (by show (u : Int) > 0; omega)) e

theorem sc_law_plus : FnScope ["_law_one", "_law_other"] ["_law_one", "_law_other"] (defScope s_law_plus) := ⟨rfl, rfl, rfl, by decide +kernel, rfl, by decide +kernel, by decide +kernel⟩
theorem c_law_plus {k : Nat} (D : Df K mg "_law_plus" s_law_plus) (C : Cal P w K mg base k "_law_ratio" ["_law_number", "_law_under"] spLowest) : Cal P w K mg base (k + 1) "_law_plus" ["_law_one", "_law_other"] spPlus := by
  refine mkCal D sc_law_plus (fun _ _ _ _ _ _ us hl => match us, hl with | [_, _], _ => rfl) (fun vs H Q E h => ?_) (fun f cdv A outer s H vs Q E hr h => ?_)
  · obtain ⟨x, y, p, q, b, c, rfl, _⟩ := h; rfl
  · obtain ⟨x, y, p, q, b, c, rfl, ⟨a1, rfl, h1⟩, ⟨a2, rfl, h2⟩, s1, s2, hz, k⟩ := h
    have t1 := SqT.of (K := K) h1
    have t2 := SqT.of (K := K) h2
    refine ⟨_, pss_one (ps_ret (pe_cal C hr (by rfl) (pa_cons
      (pe_op op_add (pe_op op_mulW (pe_ix ix_tup (pv 0) pe_int (fun _ _ => rfl)) (pe_ix ix_tup (pv 1) pe_int (fun _ _ => rfl))) (pe_op op_mulW (pe_ix ix_tup (pv 1) pe_int (fun _ _ => rfl)) (pe_ix ix_tup (pv 0) pe_int (fun _ _ => rfl))))
      (pa_cons (pe_op op_mulW (pe_ix ix_tup (pv 0) pe_int (fun _ _ => rfl)) (pe_ix ix_tup (pv 1) pe_int (fun _ _ => rfl))) pa_nil)))), ?_⟩
    refine ⟨_, rfl, a1, _, 0, _, rfl, rfl, t1, rfl, _, rfl, a2, _, 1, _, rfl, rfl, t2, rfl, _, _, rfl, rfl, wm s1.1 (den_abs s2) (by omega), ?_⟩
    refine ⟨_, rfl, a2, _, 0, _, rfl, rfl, t2, rfl, _, rfl, a1, _, 1, _, rfl, rfl, t1, rfl, _, _, rfl, rfl, wm s2.1 (den_abs s1) (by omega), _, _, rfl, rfl, ?_⟩
    refine ⟨_, rfl, a1, _, 1, _, rfl, rfl, t1, rfl, _, rfl, a2, _, 1, _, rfl, rfl, t2, rfl, _, _, rfl, rfl, wm (den_abs s1) (den_abs s2) (by omega), ?_⟩
    refine ⟨_, p.den * q.den, b + c + 1, by rw [← cast_mul]; rfl, Nat.mul_ne_zero p.den_nz q.den_nz, Nat.lt_of_lt_of_le (den_mul_lt s1 s2) (Nat.pow_le_pow_right (by decide) (Nat.le_succ _)), Nat.succ_pos _, hz, fun v H' sm hv => ?_⟩
    exact k v H' sm (by rw [add_mk]; exact hv)

theorem sc_law_less : FnScope ["_law_one", "_law_other"] ["_law_one", "_law_other"] (defScope s_law_less) := ⟨rfl, rfl, rfl, by decide +kernel, rfl, by decide +kernel, by decide +kernel⟩
theorem c_law_less {k : Nat} (D : Df K mg "_law_less" s_law_less) (C : Cal P w K mg base k "_law_ratio" ["_law_number", "_law_under"] spLowest) : Cal P w K mg base (k + 1) "_law_less" ["_law_one", "_law_other"] spLess := by
  refine mkCal D sc_law_less (fun _ _ _ _ _ _ us hl => match us, hl with | [_, _], _ => rfl) (fun vs H Q E h => ?_) (fun f cdv A outer s H vs Q E hr h => ?_)
  · obtain ⟨x, y, p, q, b, c, rfl, _⟩ := h; rfl
  · obtain ⟨x, y, p, q, b, c, rfl, ⟨a1, rfl, h1⟩, ⟨a2, rfl, h2⟩, s1, s2, hz, k⟩ := h
    have t1 := SqT.of (K := K) h1
    have t2 := SqT.of (K := K) h2
    refine ⟨_, pss_one (ps_ret (pe_cal C hr (by rfl) (pa_cons
      (pe_op op_sub (pe_op op_mulW (pe_ix ix_tup (pv 0) pe_int (fun _ _ => rfl)) (pe_ix ix_tup (pv 1) pe_int (fun _ _ => rfl))) (pe_op op_mulW (pe_ix ix_tup (pv 1) pe_int (fun _ _ => rfl)) (pe_ix ix_tup (pv 0) pe_int (fun _ _ => rfl))))
      (pa_cons (pe_op op_mulW (pe_ix ix_tup (pv 0) pe_int (fun _ _ => rfl)) (pe_ix ix_tup (pv 1) pe_int (fun _ _ => rfl))) pa_nil)))), ?_⟩
    refine ⟨_, rfl, a1, _, 0, _, rfl, rfl, t1, rfl, _, rfl, a2, _, 1, _, rfl, rfl, t2, rfl, _, _, rfl, rfl, wm s1.1 (den_abs s2) (by omega), ?_⟩
    refine ⟨_, rfl, a2, _, 0, _, rfl, rfl, t2, rfl, _, rfl, a1, _, 1, _, rfl, rfl, t1, rfl, _, _, rfl, rfl, wm s2.1 (den_abs s1) (by omega), _, _, rfl, rfl, ?_⟩
    refine ⟨_, rfl, a1, _, 1, _, rfl, rfl, t1, rfl, _, rfl, a2, _, 1, _, rfl, rfl, t2, rfl, _, _, rfl, rfl, wm (den_abs s1) (den_abs s2) (by omega), ?_⟩
    refine ⟨_, p.den * q.den, b + c + 1, by rw [← cast_mul]; rfl, Nat.mul_ne_zero p.den_nz q.den_nz, Nat.lt_of_lt_of_le (den_mul_lt s1 s2) (Nat.pow_le_pow_right (by decide) (Nat.le_succ _)), Nat.succ_pos _, hz, fun v H' sm hv => ?_⟩
    exact k v H' sm (by rw [sub_mk]; exact hv)

theorem sc_law_by : FnScope ["_law_one", "_law_other"] ["_law_one", "_law_other"] (defScope s_law_by) := ⟨rfl, rfl, rfl, by decide +kernel, rfl, by decide +kernel, by decide +kernel⟩
theorem c_law_by {k : Nat} (D : Df K mg "_law_by" s_law_by) (C : Cal P w K mg base k "_law_ratio" ["_law_number", "_law_under"] spLowest) : Cal P w K mg base (k + 1) "_law_by" ["_law_one", "_law_other"] spTimes := by
  refine mkCal D sc_law_by (fun _ _ _ _ _ _ us hl => match us, hl with | [_, _], _ => rfl) (fun vs H Q E h => ?_) (fun f cdv A outer s H vs Q E hr h => ?_)
  · obtain ⟨x, y, p, q, b, c, rfl, _⟩ := h; rfl
  · obtain ⟨x, y, p, q, b, c, rfl, ⟨a1, rfl, h1⟩, ⟨a2, rfl, h2⟩, s1, s2, hz, k⟩ := h
    have t1 := SqT.of (K := K) h1
    have t2 := SqT.of (K := K) h2
    refine ⟨_, pss_one (ps_ret (pe_cal C hr (by rfl) (pa_cons
      (pe_op op_mulW (pe_ix ix_tup (pv 0) pe_int (fun _ _ => rfl)) (pe_ix ix_tup (pv 1) pe_int (fun _ _ => rfl)))
      (pa_cons (pe_op op_mulW (pe_ix ix_tup (pv 0) pe_int (fun _ _ => rfl)) (pe_ix ix_tup (pv 1) pe_int (fun _ _ => rfl))) pa_nil)))), ?_⟩
    refine ⟨_, rfl, a1, _, 0, _, rfl, rfl, t1, rfl, _, rfl, a2, _, 0, _, rfl, rfl, t2, rfl, _, _, rfl, rfl, wm s1.1 s2.1 (by omega), ?_⟩
    refine ⟨_, rfl, a1, _, 1, _, rfl, rfl, t1, rfl, _, rfl, a2, _, 1, _, rfl, rfl, t2, rfl, _, _, rfl, rfl, wm (den_abs s1) (den_abs s2) (by omega), ?_⟩
    refine ⟨_, p.den * q.den, b + c + 1, by rw [← cast_mul]; rfl, Nat.mul_ne_zero p.den_nz q.den_nz, Nat.lt_of_lt_of_le (den_mul_lt s1 s2) (Nat.pow_le_pow_right (by decide) (Nat.le_succ _)), Nat.succ_pos _, hz, fun v H' sm hv => ?_⟩
    exact k v H' sm (by rw [mul_mk]; exact hv)
end
end KD

/-! KL4 -/
set_option Elab.async false
set_option linter.all false
set_option maxRecDepth 100000
set_option maxHeartbeats 4000000
set_option exponentiation.threshold 20000
namespace KD
open PySem PySem.Spec PyProof.Rows L2 KR KM
def isg (n : Int) : Int := if 0 < n then 1 else if n < 0 then -1 else 0
theorem isg_num (q : Rat) : isg q.num = sgn q := (sgn_num q).symm
def spLawDrawn : Sp := fun vs H Q _ => ∃ p, vs = [.ref p] ∧ PotAt H p ∧ ∀ v q H', Rt H' v q → Sz 3 q → PotAt H' p → Kp [p] H H' → Q v H'
def spLawSign : Sp := fun vs H Q _ => ∃ (a : Addr) (n : Int) (y : V), vs = [.ref a] ∧ H a = some (.tup [.int n, y]) ∧ Q (.int (isg n)) H
def spLawFlat : Sp := fun vs H Q _ => ∃ p, vs = [.ref p] ∧ PotAt H p ∧ ∀ v q0 q1 H', Rw H' v [q0, q1] → Sz 3 q0 → Sz 3 q1 → PotAt H' p → Kp [p] H H' → Q v H'
theorem kp_tk {p : Addr} {H H' : Hp} (h : PotAt H p) (k : Kp [p] H H') : TK H H' := h.tk k
theorem PotAt.same {p : Addr} {H H' : Hp} (h : PotAt H p) (s : Same H H') : PotAt H' p := by
  obtain ⟨m, z, e, r⟩ := h
  exact ⟨m, z, s _ _ e, r⟩
section
variable {P : Program} {w : World} {K : PySem.W.Frag} {mg : Str → Option Value} {base : Heap}
theorem sc_law_drawn : FnScope ["_law_pot_here", "_law_way"] ["_law_pot_here"] (defScope s_law_drawn) := ⟨rfl, rfl, rfl, by decide +kernel, rfl, by decide +kernel, by decide +kernel⟩
theorem c_law_drawn {k : Nat} (D : Df K mg "_law_drawn" s_law_drawn) (CD : Cal P w K mg base k "_law_draw" ["_law_pot_here", "_law_room"] spDraw) (CR : Cal P w K mg base k "_law_ratio" ["_law_number", "_law_under"] spLowest) : Cal P w K mg base (k + 1) "_law_drawn" ["_law_pot_here"] spLawDrawn := by
  refine mkCal D sc_law_drawn (fun _ _ _ _ _ _ us hl => match us, hl with | [_], _ => rfl) (fun vs H Q E h => ?_) (fun f cdv A outer s H vs Q E hr h => ?_)
  · obtain ⟨p, rfl, _⟩ := h; rfl
  · obtain ⟨p, rfl, pt, k⟩ := h
    refine ⟨_, pss_cons (ps_set (i := 1) sc_law_drawn.nd rfl (.inl rfl) (pe_cal CD hr (by rfl) (pa_cons (pv 0) (pa_cons pe_int pa_nil))))
      (pss_cons (ps_if (pt_cmpR op_eq (pv 1) pe_int (nomark _)) (pss_one (ps_ret (pe_cal CR hr (by rfl) (pa_cons (pe_op op_sub (pe_cal CD hr (by rfl) (pa_cons (pv 0) (pa_cons pe_int pa_nil))) pe_int)
          (pa_cons (pe_op op_add pe_int (pe_cal CD hr (by rfl) (pa_cons (pv 0) (pa_cons pe_int pa_nil)))) pa_nil))))) pss_nil)
      (pss_one (ps_ret (pe_tup (pa_cons (pe_op op_sub (pe_cal CD hr (by rfl) (pa_cons (pv 0) (pa_cons pe_int pa_nil))) pe_int) (pa_cons pe_int pa_nil)))))), ?_⟩
    refine ⟨_, rfl, p, 4, rfl, pt, by decide, by decide, fun d0 H1 d00 d01 pt1 k1 => ?_⟩
    refine ⟨_, rfl, rfl, _, rfl, ite2 (fun _ => ?_) (fun _ => ?_)⟩
    · refine ⟨_, rfl, p, 13, rfl, pt1, by decide, by decide, fun d H2 h0 h1 pt2 k2 => ⟨_, _, rfl, rfl, ?_⟩⟩
      refine ⟨_, rfl, p, 6, rfl, pt2, by decide, by decide, fun e H3 g0 g1 pt3 k3 => ⟨_, _, rfl, rfl, ?_⟩⟩
      have e1 : (1 : Int) + e = ((e.toNat + 1 : Nat) : Int) := by omega
      refine ⟨d - 6, e.toNat + 1, 3, by rw [← e1]; rfl, by omega, by omega, by decide, by decide, fun v H4 s4 rv => ?_⟩
      refine k v _ H4 rv (mk_sz (by omega) (by omega) (by omega)) (pt3.same s4) (((k1.trans k2).trans k3).trans (Kp.of s4))
    · refine ⟨_, rfl, p, 9, rfl, pt1, by decide, by decide, fun d H2 h0 h1 pt2 k2 => ⟨_, _, rfl, rfl, by show 2 ≤ sizeLine; decide, fun t ht => ?_⟩⟩
      have s3 := same_upd (o := .tup [.int (d - 4), .int 1]) ht
      refine k _ ((d - 4 : Int) : Rat) _ ⟨t, rfl, ?_⟩ ⟨?_, by show 1 < 8; decide⟩ (pt2.same s3) ((k1.trans k2).trans (Kp.of s3))
      · rw [upd_same]; rfl
      · show (d - 4).natAbs < 8
        omega

theorem sc_law_sign : FnScope ["_law_ratio_here"] ["_law_ratio_here"] (defScope s_law_sign) := ⟨rfl, rfl, rfl, by decide +kernel, rfl, by decide +kernel, by decide +kernel⟩
theorem c_law_sign (D : Df K mg "_law_sign" s_law_sign) : Cal P w K mg base 1 "_law_sign" ["_law_ratio_here"] spLawSign := by
  refine mkCal D sc_law_sign (fun _ _ _ _ _ _ us hl => match us, hl with | [_], _ => rfl) (fun vs H Q E h => ?_) (fun f cdv A outer s H vs Q E hr h => ?_)
  · obtain ⟨a, n, y, rfl, _⟩ := h; rfl
  · obtain ⟨a, n, y, rfl, e, k⟩ := h
    have t1 := SqT.of (K := K) e
    refine ⟨_, pss_one (ps_ret (pe_ifExp (pt_cmpR op_gt (pe_ix ix_tup (pv 0) pe_int (fun _ _ => rfl)) pe_int (nomark _)) pe_int (pe_ifExp (pt_cmpR op_lt (pe_ix ix_tup (pv 0) pe_int (fun _ _ => rfl)) pe_int (nomark _)) (pe_un un_neg pe_int) pe_int))), ?_⟩
    refine ⟨_, rfl, a, _, 0, _, rfl, rfl, t1, rfl, _, _, rfl, rfl, _, rfl, ite2 (fun c => ?_) (fun c => ?_)⟩
    · have c' : n > 0 := of_decide_eq_true c
      have e1 : isg n = 1 := if_pos c'
      rw [e1] at k
      exact k
    · have c1 : ¬ 0 < n := fun z => c (decide_eq_true z)
      refine ⟨_, rfl, a, _, 0, _, rfl, rfl, t1, rfl, _, _, rfl, rfl, _, rfl, ite2 (fun c => ?_) (fun c => ?_)⟩
      · have c' : n < 0 := of_decide_eq_true c
        have e1 : isg n = -1 := by unfold isg; rw [if_neg c1, if_pos c']
        rw [e1] at k
        exact ⟨_, rfl, k⟩
      · have c' : ¬ n < 0 := fun z => c (decide_eq_true z)
        have e1 : isg n = 0 := by unfold isg; rw [if_neg c1, if_neg c']
        rw [e1] at k
        exact k

theorem sc_law_flat : FnScope ["_law_pot_here", "_law_first"] ["_law_pot_here"] (defScope s_law_flat) := ⟨rfl, rfl, rfl, by decide +kernel, rfl, by decide +kernel, by decide +kernel⟩
theorem c_law_flat {k : Nat} (D : Df K mg "_law_flat" s_law_flat) (C : Cal P w K mg base k "_law_drawn" ["_law_pot_here"] spLawDrawn) : Cal P w K mg base (k + 1) "_law_flat" ["_law_pot_here"] spLawFlat := by
  refine mkCal D sc_law_flat (fun _ _ _ _ _ _ us hl => match us, hl with | [_], _ => rfl) (fun vs H Q E h => ?_) (fun f cdv A outer s H vs Q E hr h => ?_)
  · obtain ⟨p, rfl, _⟩ := h; rfl
  · obtain ⟨p, rfl, pt, k⟩ := h
    refine ⟨_, pss_cons (ps_set (i := 1) sc_law_flat.nd rfl (.inl rfl) (pe_cal C hr (by rfl) (pa_cons (pv 0) pa_nil)))
      (pss_one (ps_ret (pe_tup (pa_cons (pv 1) (pa_cons (pe_cal C hr (by rfl) (pa_cons (pv 0) pa_nil)) pa_nil))))), ?_⟩
    refine ⟨_, rfl, p, rfl, pt, fun v1 q1 H1 r1 z1 pt1 k1 => ?_⟩
    refine ⟨_, rfl, _, rfl, p, rfl, pt1, fun v2 q2 H2 r2 z2 pt2 k2 => ⟨by show 2 ≤ sizeLine; decide, fun t ht => ?_⟩⟩
    have s3 := same_upd (o := .tup [v1, v2]) ht
    exact k _ q1 q2 _ (Rw.mk2 upd_same ((r1.keep (pt1.tk k2)).keep (tk_of s3)) (r2.keep (tk_of s3))) z1 z2 (pt2.same s3) ((k1.trans k2).trans (Kp.of s3))
end
end KD

/-! KL5 -/
set_option Elab.async false
set_option linter.all false
set_option maxRecDepth 100000
set_option maxHeartbeats 4000000
set_option exponentiation.threshold 20000
namespace KD
open PySem PySem.Spec PyProof.Rows L2 KR KM
abbrev s_law_due : Stmt := topS 39
abbrev s_law_mean : Stmt := topS 40
abbrev s_law_led : Stmt := topS 41
def spLawMean : Sp := fun vs H Q _ => ∃ x y z p0 p1 q0 q1 t, vs = [x, y, z] ∧ Rw H x [p0, p1] ∧ Rw H y [q0, q1] ∧ Rt H z t ∧ (Sz 3 p0 ∧ Sz 3 p1 ∧ Sz 3 q0 ∧ Sz 3 q1 ∧ Sz 3 t) ∧ ∀ v r0 r1 H', Same H H' → Rw H' v [r0, r1] → Sz 14 r0 → Sz 14 r1 → Q v H'
def spLawLed : Sp := fun vs H Q _ => ∃ (l : Addr) (x0 x1 x2 x3 y z : V) (a b c d m n p0 p1 : Rat), vs = [.ref l, y, z] ∧ H l = some (.lst [x0, x1, x2, x3]) ∧ (Rt H x0 a ∧ Rt H x1 b ∧ Rt H x2 c ∧ Rt H x3 d) ∧ Rw H y [m, n] ∧ Rw H z [p0, p1] ∧
  (Sz 3 a ∧ Sz 3 b ∧ Sz 3 c ∧ Sz 3 d ∧ Sz 3 m ∧ Sz 3 n) ∧ Sz 14 p0 ∧ Sz 14 p1 ∧ ∀ v H', Same H H' → Rw H' v [a * p0 + b * p1 + m, c * p0 + d * p1 + n] → Q v H'
def spLawDue : Sp := fun vs H Q _ => ∃ x y z p0 p1 q0 q1 r0 r1 b, vs = [x, y, z] ∧ Rw H x [p0, p1] ∧ Rw H y [q0, q1] ∧ Rw H z [r0, r1] ∧ (Sz b p0 ∧ Sz b p1 ∧ Sz b q0 ∧ Sz b q1 ∧ Sz b r0 ∧ Sz b r1) ∧ 8 * b + 5 ≤ 9000 ∧
  ∀ H', Same H H' → Q (.int (sgn (det p0 p1 q0 q1 r0 r1))) H'
section
variable {P : Program} {w : World} {K : PySem.W.Frag} {mg : Str → Option Value} {base : Heap}
theorem sc_law_led : FnScope ["_law_row", "_law_move", "_law_point", "_law_first", "_law_second"] ["_law_row", "_law_move", "_law_point"] (defScope s_law_led) := ⟨rfl, rfl, rfl, by decide +kernel, rfl, by decide +kernel, by decide +kernel⟩
theorem c_law_led {k : Nat} (D : Df K mg "_law_led" s_law_led) (CP : Cal P w K mg base k "_law_plus" ["_law_one", "_law_other"] spPlus) (CB : Cal P w K mg base k "_law_by" ["_law_one", "_law_other"] spTimes) : Cal P w K mg base (k + 1) "_law_led" ["_law_row", "_law_move", "_law_point"] spLawLed := by
  refine mkCal D sc_law_led (fun _ _ _ _ _ _ us hl => match us, hl with | [_, _, _], _ => rfl) (fun vs H Q E h => ?_) (fun f cdv A outer s H vs Q E hr h => ?_)
  · obtain ⟨l, x0, x1, x2, x3, y, z, a, b, c, d, m, n, p0, p1, rfl, _⟩ := h; rfl
  · obtain ⟨l, x0, x1, x2, x3, y, z, a, b, c, d, m, n, p0, p1, rfl, hl, ⟨r0, r1, r2, r3⟩, hy, hz, ⟨za, zb, zc, zd, zm, zn⟩, zp0, zp1, k⟩ := h
    obtain ⟨ay, y0, y1, rfl, ey, g0, g1⟩ := rw2 hy
    obtain ⟨az, z0, z1, rfl, ez, f0, f1⟩ := rw2 hz
    refine ⟨_, pss_cons (ps_set (i := 3) sc_law_led.nd rfl (.inl rfl) (pe_cal CP hr (by rfl) (pa_cons (pe_cal CB hr (by rfl) (pa_cons (pe_ix ix_list (pv 0) pe_int (fun _ _ => rfl)) (pa_cons (pe_ix ix_tup (pv 2) pe_int (fun _ _ => rfl)) pa_nil)))
        (pa_cons (pe_cal CB hr (by rfl) (pa_cons (pe_ix ix_list (pv 0) pe_int (fun _ _ => rfl)) (pa_cons (pe_ix ix_tup (pv 2) pe_int (fun _ _ => rfl)) pa_nil))) pa_nil))))
      (pss_cons (ps_set (i := 4) sc_law_led.nd rfl (.inl rfl) (pe_cal CP hr (by rfl) (pa_cons (pe_cal CB hr (by rfl) (pa_cons (pe_ix ix_list (pv 0) pe_int (fun _ _ => rfl)) (pa_cons (pe_ix ix_tup (pv 2) pe_int (fun _ _ => rfl)) pa_nil)))
        (pa_cons (pe_cal CB hr (by rfl) (pa_cons (pe_ix ix_list (pv 0) pe_int (fun _ _ => rfl)) (pa_cons (pe_ix ix_tup (pv 2) pe_int (fun _ _ => rfl)) pa_nil))) pa_nil))))
      (pss_one (ps_ret (pe_tup (pa_cons (pe_cal CP hr (by rfl) (pa_cons (pv 3) (pa_cons (pe_ix ix_tup (pv 1) pe_int (fun _ _ => rfl)) pa_nil)))
        (pa_cons (pe_cal CP hr (by rfl) (pa_cons (pv 4) (pa_cons (pe_ix ix_tup (pv 1) pe_int (fun _ _ => rfl)) pa_nil))) pa_nil)))))), ?_⟩
    refine ⟨_, rfl, l, _, 0, _, rfl, rfl, SqL.of hl, rfl, _, rfl, az, _, 0, _, rfl, rfl, SqT.of ez, rfl, x0, z0, a, p0, 3, 14, rfl, r0, f0, za, zp0, by decide, fun v1 H1 s1 k1 => ?_⟩
    refine ⟨_, rfl, l, _, 1, _, rfl, rfl, SqL.of (s1 _ _ hl), rfl, _, rfl, az, _, 1, _, rfl, rfl, SqT.of (s1 _ _ ez), rfl, x1, z1, b, p1, 3, 14, rfl, r1.keep (tk_of s1), f1.keep (tk_of s1), zb, zp1, by decide, fun v2 H2 s2 k2 => ?_⟩
    refine ⟨v1, v2, _, _, 17, 17, rfl, k1.keep (tk_of s2), k2, za.mul zp0, zb.mul zp1, by decide, fun v3 H3 s3 k3 => ?_⟩
    have S3 := (s1.trans s2).trans s3
    refine ⟨_, rfl, l, _, 2, _, rfl, rfl, SqL.of (S3 _ _ hl), rfl, _, rfl, az, _, 0, _, rfl, rfl, SqT.of (S3 _ _ ez), rfl, x2, z0, c, p0, 3, 14, rfl, r2.keep (tk_of S3), f0.keep (tk_of S3), zc, zp0, by decide, fun v4 H4 s4 k4 => ?_⟩
    have S4 := S3.trans s4
    refine ⟨_, rfl, l, _, 3, _, rfl, rfl, SqL.of (S4 _ _ hl), rfl, _, rfl, az, _, 1, _, rfl, rfl, SqT.of (S4 _ _ ez), rfl, x3, z1, d, p1, 3, 14, rfl, r3.keep (tk_of S4), f1.keep (tk_of S4), zd, zp1, by decide, fun v5 H5 s5 k5 => ?_⟩
    refine ⟨v4, v5, _, _, 17, 17, rfl, k4.keep (tk_of s5), k5, zc.mul zp0, zd.mul zp1, by decide, fun v6 H6 s6 k6 => ?_⟩
    have S46 := (s4.trans s5).trans s6
    have S6 := S3.trans S46
    refine ⟨_, rfl, _, rfl, ay, _, 0, _, rfl, rfl, SqT.of (S6 _ _ ey), rfl, v3, y0, _, m, 35, 3, rfl, k3.keep (tk_of S46), g0.keep (tk_of S6), (za.mul zp0).add (zb.mul zp1), zm, by decide, fun v7 H7 s7 k7 => ?_⟩
    have S7 := S6.trans s7
    refine ⟨_, rfl, _, rfl, ay, _, 1, _, rfl, rfl, SqT.of (S7 _ _ ey), rfl, v6, y1, _, n, 35, 3, rfl, k6.keep (tk_of s7), g1.keep (tk_of S7), (zc.mul zp0).add (zd.mul zp1), zn, by decide, fun v8 H8 s8 k8 => ⟨by show 2 ≤ sizeLine; decide, fun t ht => ?_⟩⟩
    have s9 := same_upd (o := .tup [v7, v8]) ht
    exact k _ _ ((S7.trans s8).trans s9) (Rw.mk2 upd_same (k7.keep (tk_of (s8.trans s9))) (k8.keep (tk_of s9)))

theorem sc_law_mean : FnScope ["_law_one", "_law_other", "_law_part", "_law_near", "_law_far"] ["_law_one", "_law_other", "_law_part"] (defScope s_law_mean) := ⟨rfl, rfl, rfl, by decide +kernel, rfl, by decide +kernel, by decide +kernel⟩
theorem c_law_mean {k : Nat} (T : Free mg) (D : Df K mg "_law_mean" s_law_mean) (CP : Cal P w K mg base k "_law_plus" ["_law_one", "_law_other"] spPlus) (CB : Cal P w K mg base k "_law_by" ["_law_one", "_law_other"] spTimes) (CL : Cal P w K mg base k "_law_less" ["_law_one", "_law_other"] spLess) : Cal P w K mg base (k + 1) "_law_mean" ["_law_one", "_law_other", "_law_part"] spLawMean := by
  refine mkCal D sc_law_mean (fun _ _ _ _ _ _ us hl => match us, hl with | [_, _, _], _ => rfl) (fun vs H Q E h => ?_) (fun f cdv A outer s H vs Q E hr h => ?_)
  · obtain ⟨x, y, z, p0, p1, q0, q1, t, rfl, _⟩ := h; rfl
  · obtain ⟨x, y, z, p0, p1, q0, q1, t, rfl, ⟨a1, xs, rfl, h1, r1⟩, ⟨a2, ys, rfl, h2, r2⟩, hz, ⟨zp0, zp1, zq0, zq1, zt⟩, k⟩ := h
    have l1 : xs.length = 2 := Paired.length r1
    have l2 : ys.length = 2 := Paired.length r2
    refine ⟨_, pss_one (ps_ret (pe_callTy call_tuple_of (by rfl) T.tuple_ (by decide +kernel) (pa_cons
      (pe_lc (own := [("_law_near", 3), ("_law_far", 4)]) (g := gTup K 2 (gCons (gName 3) (gCons (gName 4) gNil))) rfl sc_law_mean.nd (RZ.pi_zipA (by rfl) T.zip_ (pa_cons (pv 0) (pa_cons (pv 1) pa_nil)))
        (blkOk_by (N := ["_law_one", "_law_other", "_law_part", "_law_near", "_law_far"]) (sc := defScope s_law_mean) (own := [("_law_near", 3), ("_law_far", 4)]) (by decide +kernel))
        (fun _ _ _ _ _ => pg_tup rfl (pgs_cons (pg_name (i := 3) sc_law_mean.nd rfl (.inl rfl) (.inr rfl)) (pgs_cons (pg_name (i := 4) sc_law_mean.nd rfl (.inl rfl) (.inr rfl)) pgs_nil)))
        (fun _ _ _ _ _ => pts_nil) (fun _ _ _ _ _ => pe_cal CP hr (by rfl) (pa_cons (pv 3) (pa_cons (pe_cal CB hr (by rfl) (pa_cons (pv 2) (pa_cons (pe_cal CL hr (by rfl) (pa_cons (pv 4) (pa_cons (pv 3) pa_nil))) pa_nil))) pa_nil)))) pa_nil))), ?_⟩
    let fm : Rat → Rat → Rat := fun p q => p + t * (q - p)
    refine ⟨_, rfl, _, rfl, a1, a2, xs, ys, rfl, .inr ⟨SqT.of h1, SqT.of h2, fun L hL => ?_⟩⟩
    refine lc_zipT (K := K) (a := a1) (b := a2) (xs := xs) (ys := ys) (by omega) (fun i H' => Grow H L (List.zipWith fm ([p0, p1].take i) ([q0, q1].take i)) H') ?_ (fun i H' g => ⟨SqT.of (g.1 _ _ h1), SqT.of (g.1 _ _ h2)⟩) (fun i x y T H' ex ey g hT => ?_) (fun H' g => ?_)
    · simpa using Grow.zero hL
    · obtain ⟨p, ep, rp⟩ := rows_get r1 ex
      obtain ⟨q, eq, rq⟩ := rows_get r2 ey
      have zp : Sz 3 p := by have := List.mem_of_getElem? ep; simp at this; rcases this with rfl | rfl <;> assumption
      have zq : Sz 3 q := by have := List.mem_of_getElem? eq; simp at this; rcases this with rfl | rfl <;> assumption
      have sT := same_upd (o := .tup [x, y]) hT
      have S := g.1.trans sT
      refine ⟨T, [x, y], rfl, .inl (.inl upd_same), rfl, x, [y], rfl, y, [], rfl, rfl, rfl, ?_⟩
      refine yes_then ?_
      refine ⟨_, rfl, _, rfl, _, rfl, _, rfl, y, x, q, p, 3, 3, rfl, rq.keep (tk_of S), rp.keep (tk_of S), zq, zp, by decide, fun v1 H1 s1 k1 => ?_⟩
      refine ⟨z, v1, t, _, 3, 7, rfl, hz.keep (tk_of (S.trans s1)), k1, zt, zq.sub zp, by decide, fun v2 H2 s2 k2 => ?_⟩
      refine ⟨x, v2, p, _, 3, 10, rfl, rp.keep (tk_of ((S.trans s1).trans s2)), k2, zp, zt.mul (zq.sub zp), by decide, fun v H4 s4 hv => ?_⟩
      rw [zip_take fm [p0, p1] [q0, q1] ep eq]
      exact g.more hL (sT.trans ((s1.trans s2).trans s4)) hv (by rw [List.length_zipWith, List.length_take]; simp; omega)
    · obtain ⟨s0, acc, e, ra⟩ := g
      rw [l1] at ra
      refine ⟨L, acc, rfl, .inl ⟨SqL.of e, fun t' ht => ?_⟩⟩
      have s2 := same_upd (o := .tup acc) ht
      exact k _ (fm p0 q0) (fm p1 q1) _ (s0.trans s2) ⟨t', acc, rfl, upd_same, rtAll_keep ra (tk_of s2)⟩ (zp0.add (zt.mul (zq0.sub zp0))) (zp1.add (zt.mul (zq1.sub zp1)))
end
end KD

/-! KL6 -/
set_option Elab.async false
set_option linter.all false
set_option maxRecDepth 100000
set_option maxHeartbeats 4000000
set_option exponentiation.threshold 20000
namespace KD
open PySem PySem.Spec PyProof.Rows L2 KR KM
section
variable {P : Program} {w : World} {K : PySem.W.Frag} {mg : Str → Option Value} {base : Heap}
theorem rl2 {H : Hp} {xs : List V} {p0 p1 : Rat} (r : RtAll H xs [p0, p1]) : ∃ x0 x1, xs = [x0, x1] ∧ Rt H x0 p0 ∧ Rt H x1 p1 := by
  cases r with
  | cons r0 r => cases r with
    | cons r1 r => cases r; exact ⟨_, _, rfl, r0, r1⟩
theorem sc_law_due : FnScope ["_law_one", "_law_other", "_law_third", "_law_near", "_law_far", "_law_a", "_law_b"] ["_law_one", "_law_other", "_law_third"] (defScope s_law_due) := ⟨rfl, rfl, rfl, by decide +kernel, rfl, by decide +kernel, by decide +kernel⟩
theorem c_law_due {k : Nat} (T : Free mg) (D : Df K mg "_law_due" s_law_due) (CB : Cal P w K mg base k "_law_by" ["_law_one", "_law_other"] spTimes) (CL : Cal P w K mg base k "_law_less" ["_law_one", "_law_other"] spLess) (CS : Cal P w K mg base k "_law_sign" ["_law_ratio_here"] spLawSign) : Cal P w K mg base (k + 1) "_law_due" ["_law_one", "_law_other", "_law_third"] spLawDue := by
  refine mkCal D sc_law_due (fun _ _ _ _ _ _ us hl => match us, hl with | [_, _, _], _ => rfl) (fun vs H Q E h => ?_) (fun f cdv A outer s H vs Q E hr h => ?_)
  · obtain ⟨x, y, z, p0, p1, q0, q1, r0, r1, b, rfl, _⟩ := h; rfl
  · obtain ⟨x, y, z, p0, p1, q0, q1, r0, r1, b, rfl, ⟨a1, xs, rfl, h1, t1⟩, ⟨a2, ys, rfl, h2, t2⟩, ⟨a3, zs, rfl, h3, t3⟩, ⟨z1, z2, z3, z4, z5, z6⟩, hb, k⟩ := h
    have l1 : xs.length = 2 := Paired.length t1
    have l2 : ys.length = 2 := Paired.length t2
    have l3 : zs.length = 2 := Paired.length t3
    refine ⟨_, pss_cons (ps_par (i := 3) (j := 4) (by rfl) sc_law_due.nd rfl rfl (by decide) rfl rfl
      (pa_cons (pe_lc (own := [("_law_a", 5), ("_law_b", 6)]) (g := gTup K 2 (gCons (gName 5) (gCons (gName 6) gNil))) rfl sc_law_due.nd (RZ.pi_zipA (by rfl) T.zip_ (pa_cons (pv 0) (pa_cons (pv 1) pa_nil)))
        (blkOk_by (N := ["_law_one", "_law_other", "_law_third", "_law_near", "_law_far", "_law_a", "_law_b"]) (sc := defScope s_law_due) (own := [("_law_a", 5), ("_law_b", 6)]) (by decide +kernel))
        (fun _ _ _ _ _ => pg_tup rfl (pgs_cons (pg_name (i := 5) sc_law_due.nd rfl (.inl rfl) (.inr rfl)) (pgs_cons (pg_name (i := 6) sc_law_due.nd rfl (.inl rfl) (.inr rfl)) pgs_nil)))
        (fun _ _ _ _ _ => pts_nil) (fun _ _ _ _ _ => pe_cal CL hr (by rfl) (pa_cons (pv 6) (pa_cons (pv 5) pa_nil))))
      (pa_cons (pe_lc (own := [("_law_a", 5), ("_law_b", 6)]) (g := gTup K 2 (gCons (gName 5) (gCons (gName 6) gNil))) rfl sc_law_due.nd (RZ.pi_zipA (by rfl) T.zip_ (pa_cons (pv 1) (pa_cons (pv 2) pa_nil)))
        (blkOk_by (N := ["_law_one", "_law_other", "_law_third", "_law_near", "_law_far", "_law_a", "_law_b"]) (sc := defScope s_law_due) (own := [("_law_a", 5), ("_law_b", 6)]) (by decide +kernel))
        (fun _ _ _ _ _ => pg_tup rfl (pgs_cons (pg_name (i := 5) sc_law_due.nd rfl (.inl rfl) (.inr rfl)) (pgs_cons (pg_name (i := 6) sc_law_due.nd rfl (.inl rfl) (.inr rfl)) pgs_nil)))
        (fun _ _ _ _ _ => pts_nil) (fun _ _ _ _ _ => pe_cal CL hr (by rfl) (pa_cons (pv 6) (pa_cons (pv 5) pa_nil)))) pa_nil)) (by rfl))
      (pss_one (ps_ret (pe_cal CS hr (by rfl) (pa_cons (pe_cal CL hr (by rfl) (pa_cons (pe_cal CB hr (by rfl) (pa_cons (pe_ix ix_list (pv 3) pe_int (fun _ _ => rfl)) (pa_cons (pe_ix ix_list (pv 4) pe_int (fun _ _ => rfl)) pa_nil)))
        (pa_cons (pe_cal CB hr (by rfl) (pa_cons (pe_ix ix_list (pv 3) pe_int (fun _ _ => rfl)) (pa_cons (pe_ix ix_list (pv 4) pe_int (fun _ _ => rfl)) pa_nil))) pa_nil))) pa_nil)))), ?_⟩
    let fl : Rat → Rat → Rat := fun p q => q - p
    have step : ∀ (ps qs : List Rat) (H0 H' : Hp) (L : Addr) (i : Nat) (x y : V) (T : Addr), True := fun _ _ _ _ _ _ _ _ _ => trivial
    refine ⟨_, rfl, _, rfl, a1, a2, xs, ys, rfl, .inr ⟨SqT.of h1, SqT.of h2, fun L hL => ?_⟩⟩
    refine lc_zipT (K := K) (a := a1) (b := a2) (xs := xs) (ys := ys) (by omega) (fun i H' => Grow H L (List.zipWith fl ([p0, p1].take i) ([q0, q1].take i)) H') ?_ (fun i H' g => ⟨SqT.of (g.1 _ _ h1), SqT.of (g.1 _ _ h2)⟩) (fun i x y T H' ex ey g hT => ?_) (fun H' g => ?_)
    · simpa using Grow.zero hL
    · obtain ⟨p, ep, rp⟩ := rows_get t1 ex
      obtain ⟨q, eq, rq⟩ := rows_get t2 ey
      have zp : Sz b p := by have := List.mem_of_getElem? ep; simp at this; rcases this with rfl | rfl <;> assumption
      have zq : Sz b q := by have := List.mem_of_getElem? eq; simp at this; rcases this with rfl | rfl <;> assumption
      have sT := same_upd (o := .tup [x, y]) hT
      have S := g.1.trans sT
      refine ⟨T, [x, y], rfl, .inl (.inl upd_same), rfl, x, [y], rfl, y, [], rfl, rfl, rfl, ?_⟩
      refine yes_then ?_
      refine ⟨_, rfl, _, rfl, y, x, q, p, b, b, rfl, rq.keep (tk_of S), rp.keep (tk_of S), zq, zp, by omega, fun v H4 s4 hv => ?_⟩
      rw [zip_take fl [p0, p1] [q0, q1] ep eq]
      exact g.more hL (sT.trans s4) hv (by rw [List.length_zipWith, List.length_take]; simp; omega)
    obtain ⟨sA, acA, eA, rA⟩ := g
    rw [l1] at rA
    have rA' : RtAll H' acA [q0 - p0, q1 - p1] := rA
    obtain ⟨n0, n1, rfl, u0, u1⟩ := rl2 rA'
    have h2' := sA _ _ h2
    have h3' := sA _ _ h3
    have t2' := rtAll_keep t2 (tk_of sA)
    have t3' := rtAll_keep t3 (tk_of sA)
    refine ⟨_, rfl, _, rfl, a2, a3, ys, zs, rfl, .inr ⟨SqT.of h2', SqT.of h3', fun M hM => ?_⟩⟩
    refine lc_zipT (K := K) (a := a2) (b := a3) (xs := ys) (ys := zs) (by omega) (fun i H2 => Grow H' M (List.zipWith fl ([q0, q1].take i) ([r0, r1].take i)) H2) ?_ (fun i H2 g => ⟨SqT.of (g.1 _ _ h2'), SqT.of (g.1 _ _ h3')⟩) (fun i x y T H2 ex ey g hT => ?_) (fun H2 g => ?_)
    · simpa using Grow.zero hM
    · obtain ⟨p, ep, rp⟩ := rows_get t2' ex
      obtain ⟨q, eq, rq⟩ := rows_get t3' ey
      have zp : Sz b p := by have := List.mem_of_getElem? ep; simp at this; rcases this with rfl | rfl <;> assumption
      have zq : Sz b q := by have := List.mem_of_getElem? eq; simp at this; rcases this with rfl | rfl <;> assumption
      have sT := same_upd (o := .tup [x, y]) hT
      have S := g.1.trans sT
      refine ⟨T, [x, y], rfl, .inl (.inl upd_same), rfl, x, [y], rfl, y, [], rfl, rfl, rfl, ?_⟩
      refine yes_then ?_
      refine ⟨_, rfl, _, rfl, y, x, q, p, b, b, rfl, rq.keep (tk_of S), rp.keep (tk_of S), zq, zp, by omega, fun v H4 s4 hv => ?_⟩
      rw [zip_take fl [q0, q1] [r0, r1] ep eq]
      exact g.more hM (sT.trans s4) hv (by rw [List.length_zipWith, List.length_take]; simp; omega)
    obtain ⟨sB, acB, eB, rB⟩ := g
    rw [l2] at rB
    have rB' : RtAll H2 acB [r0 - q0, r1 - q1] := rB
    obtain ⟨m0, m1, rfl, w0, w1⟩ := rl2 rB'
    refine ⟨_, _, rfl, ?_⟩
    have eA2 := sB _ _ eA
    have zf0 := z3.sub z1
    have zf1 := z4.sub z2
    have zg0 := z5.sub z3
    have zg1 := z6.sub z4
    have tB := tk_of sB
    refine ⟨_, rfl, L, _, 0, _, rfl, rfl, SqL.of eA2, rfl, _, rfl, M, _, 1, _, rfl, rfl, SqL.of eB, rfl, n0, m1, _, _, _, _, rfl, u0.keep tB, w1, zf0, zg1, by omega, fun v3 H3 s3 k3 => ?_⟩
    refine ⟨_, rfl, L, _, 1, _, rfl, rfl, SqL.of (s3 _ _ eA2), rfl, _, rfl, M, _, 0, _, rfl, rfl, SqL.of (s3 _ _ eB), rfl, n1, m0, _, _, _, _, rfl, u1.keep (tB.trans (tk_of s3)), w0.keep (tk_of s3), zf1, zg0, by omega, fun v4 H4 s4 k4 => ?_⟩
    refine ⟨v3, v4, _, _, _, _, rfl, k3.keep (tk_of s4), k4, zf0.mul zg1, zf1.mul zg0, by omega, fun v5 H5 s5 k5 => ?_⟩
    obtain ⟨a5, rfl, e5⟩ := k5
    refine ⟨a5, _, _, rfl, e5, ?_⟩
    rw [isg_num]
    exact k H5 (((sA.trans sB).trans s3).trans (s4.trans s5))
end
end KD

/-! KL7 -/
set_option Elab.async false
set_option linter.all false
set_option maxRecDepth 100000
set_option maxHeartbeats 4000000
set_option exponentiation.threshold 20000
namespace KD
open PySem PySem.Spec PyProof.Rows L2 KR KM
abbrev s_law_led_right : Stmt := topS 42
structure Ok (Ts : List Addr) (p : Addr) (H : Hp) : Prop where
  pot : PotAt H p
  tabs : Tabs Ts H
structure Mv (Ts : List Addr) (p : Addr) (H H' : Hp) : Prop where
  kp : Kp (p :: Ts) H H'
  ok : Ok Ts p H'
theorem Mv.refl {Ts : List Addr} {p : Addr} {H : Hp} (o : Ok Ts p H) : Mv Ts p H H := ⟨Kp.refl _ _, o⟩
theorem Mv.trans {Ts : List Addr} {p : Addr} {H H1 H2 : Hp} (a : Mv Ts p H H1) (b : Mv Ts p H1 H2) : Mv Ts p H H2 := ⟨a.kp.trans b.kp, b.ok⟩
theorem Ok.notin {Ts : List Addr} {p : Addr} {H : Hp} (o : Ok Ts p H) : p ∉ Ts := by
  obtain ⟨m, z, e, _⟩ := o.pot
  exact o.tabs.not e (fun ps z => by cases z)
theorem Ok.tk {Ts : List Addr} {p : Addr} {H H' : Hp} (o : Ok Ts p H) (m : Mv Ts p H H') : TK H H' := fun b xs h => by
  obtain ⟨i, z, e, _⟩ := o.pot
  refine m.kp b _ ?_ h
  intro w
  cases w with
  | head => rw [e] at h; cases h
  | tail _ w => exact o.tabs.not h (fun ps z => by cases z) w
theorem Ok.lk {Ts : List Addr} {p b : Addr} {xs : List V} {H H' : Hp} (o : Ok Ts p H) (m : Mv Ts p H H') (h : H b = some (.lst xs)) (hn : b ≠ p) : H' b = some (.lst xs) := by
  refine m.kp b _ ?_ h
  intro w
  cases w with
  | head => exact hn rfl
  | tail _ w => exact o.tabs.not h (fun ps z => by cases z) w
theorem Ok.same {Ts : List Addr} {p : Addr} {H H' : Hp} (o : Ok Ts p H) (s : Same H H') : Mv Ts p H H' := ⟨Kp.of s, o.pot.same s, o.tabs.same s⟩
theorem Ok.draw {Ts : List Addr} {p : Addr} {H H' : Hp} (o : Ok Ts p H) (k : Kp [p] H H') (t : PotAt H' p) : Mv Ts p H H' := by
  refine ⟨k.mono (fun b hb => by cases hb with | head => exact .head _ | tail _ w => cases w), t, fun P hP => ?_⟩
  obtain ⟨ps, e, z⟩ := o.tabs P hP
  exact ⟨ps, k P _ (fun w => by cases w with | head => exact o.notin hP | tail _ w => cases w) e, z⟩
theorem Ok.turn {Ts : List Addr} {p : Addr} {H H' : Hp} (o : Ok Ts p H) (k : Kp Ts H H') (t : Tabs Ts H') : Mv Ts p H H' := by
  refine ⟨k.mono (fun b hb => .tail _ hb), ?_, t⟩
  obtain ⟨m, z, e, r⟩ := o.pot
  exact ⟨m, z, k p _ o.notin e, r⟩
/-- a new object, changed again -/
theorem Mv.put {Ts : List Addr} {p l : Addr} {H0 H : Hp} {o : HO} (m : Mv Ts p H0 H) (o0 : Ok Ts p H0) (hl : H0 l = none) : Mv Ts p H0 (upd H l o) := by
  have hp : l ≠ p := fun z => by
    obtain ⟨i, y, e, _⟩ := o0.pot
    rw [z] at hl; rw [hl] at e; cases e
  have ht : l ∉ Ts := fun z => by
    obtain ⟨ps, e, _⟩ := o0.tabs l z
    rw [hl] at e; cases e
  refine ⟨fun b x n e => ?_, ?_, fun P hP => ?_⟩
  · rw [upd_ne (ne_of_none e hl)]; exact m.kp b x n e
  · obtain ⟨i, y, e, r⟩ := m.ok.pot
    exact ⟨i, y, by rw [upd_ne (Ne.symm hp)]; exact e, r⟩
  · obtain ⟨ps, e, z⟩ := m.ok.tabs P hP
    exact ⟨ps, by rw [upd_ne (fun w => ht (by rw [← w]; exact hP))]; exact e, z⟩
theorem tk_put {H : Hp} {l : Addr} {xs : List V} {o : HO} (e : H l = some (.lst xs)) : TK H (upd H l o) := fun b ys h => by
  rw [upd_ne (ne_of h e (by intro z; cases z))]; exact h

/-- rows made so far -/
def GrowW (H0 : Hp) (D : Addr) (qs : List (List Rat)) (H : Hp) : Prop := Same H0 H ∧ ∃ acc, H D = some (.lst acc) ∧ Paired (Rw H) acc qs
theorem GrowW.zero {H0 : Hp} {D : Addr} (hD : H0 D = none) : GrowW H0 D [] (upd H0 D (.lst [])) := ⟨same_upd hD, [], upd_same, .nil⟩
theorem rws_keep {H H' : Hp} {xs : List V} {qs : List (List Rat)} (h : Paired (Rw H) xs qs) (k : TK H H') : Paired (Rw H') xs qs := Paired.mapP h fun _ _ z => z.keep k
theorem GrowW.more {H0 H H4 : Hp} {D : Addr} {qs : List (List Rat)} {q : List Rat} {v : V} (hD : H0 D = none) (h : GrowW H0 D qs H) (s : Same H H4) (r : Rw H4 v q) (hz : qs.length < 1000) :
    ∃ acc, H4 D = some (.lst acc) ∧ acc.length < sizeLine ∧ GrowW H0 D (qs ++ [q]) (upd H4 D (.lst (acc ++ [v]))) := by
  obtain ⟨s0, acc, e, ra⟩ := h
  refine ⟨acc, s _ _ e, small1000 (by rw [Paired.length ra]; omega), fun b o hb => ?_, acc ++ [v], upd_same, ?_⟩
  · rw [upd_ne (ne_of_none hb hD)]
    exact s _ _ (s0 _ _ hb)
  · have k : TK H4 (upd H4 D (.lst (acc ++ [v]))) := tk_put (s _ _ e)
    exact paired_append (rws_keep (rws_keep ra (tk_of s)) k) (.cons (r.keep k) .nil)
theorem wgets {H : Hp} {xs : List V} {qs : List (List Rat)} (r : Paired (Rw H) xs qs) {i : Nat} {x : V} (h : xs[i]? = some x) : ∃ q, qs[i]? = some q ∧ Rw H x q := by
  induction r generalizing i with
  | nil => simp at h
  | cons a t ih =>
    cases i with
    | zero => simp at h; subst h; exact ⟨_, rfl, a⟩
    | succ i => exact ih (by simpa using h)
theorem rl4 {H : Hp} {xs : List V} {qs : List Rat} (r : RtAll H xs qs) (h : qs.length = 4) : ∃ x0 x1 x2 x3 a b c d, xs = [x0, x1, x2, x3] ∧ qs = [a, b, c, d] ∧ Rt H x0 a ∧ Rt H x1 b ∧ Rt H x2 c ∧ Rt H x3 d := by
  match qs, h, r with
  | [a, b, c, d], _, .cons r0 (.cons r1 (.cons r2 (.cons r3 .nil))) => exact ⟨_, _, _, _, a, b, c, d, rfl, rfl, r0, r1, r2, r3⟩
theorem wl3 {H : Hp} {xs : List V} {a b c : List Rat} (r : Paired (Rw H) xs [a, b, c]) : ∃ x0 x1 x2, xs = [x0, x1, x2] ∧ Rw H x0 a ∧ Rw H x1 b ∧ Rw H x2 c := by
  match xs, r with
  | _, .cons r0 (.cons r1 (.cons r2 .nil)) => exact ⟨_, _, _, rfl, r0, r1, r2⟩
def spLedRight (Ts : List Addr) : Sp := fun vs H Q _ => ∃ (p l : Addr) (x y z : V) (p0 p1 q0 q1 r0 r1 : Rat), vs = [.ref p, .ref l, .int (sgn (det p0 p1 q0 q1 r0 r1))] ∧ Ok Ts p H ∧ H l = some (.lst [x, y, z]) ∧ l ≠ p ∧ Rw H x [p0, p1] ∧ Rw H y [q0, q1] ∧ Rw H z [r0, r1] ∧
  (Sz 14 p0 ∧ Sz 14 p1 ∧ Sz 14 q0 ∧ Sz 14 q1 ∧ Sz 14 r0 ∧ Sz 14 r1) ∧ ∀ H', Mv Ts p H H' → Q (.bl true) H'
end KD

/-! KL8 -/
set_option Elab.async false
set_option linter.all false
set_option maxRecDepth 100000
set_option maxHeartbeats 4000000
set_option exponentiation.threshold 20000
namespace KD
open PySem PySem.Spec PyProof.Rows L2 KR KM
section
variable {P : Program} {w : World} {K : PySem.W.Frag} {mg : Str → Option Value} {base : Heap}
theorem sgn_small (q : Rat) : -1 ≤ sgn q ∧ sgn q ≤ 1 := by
  rcases sgn_vals q with h | h | h <;> rw [h] <;> decide
theorem sc_law_led_right : FnScope ["_law_pot_here", "_law_some", "_law_due_here", "_law_row", "_law_move", "_law_spot", "_law_worth", "_law_late", "_law_point"] ["_law_pot_here", "_law_some", "_law_due_here"] (defScope s_law_led_right) := ⟨rfl, rfl, rfl, by decide +kernel, rfl, by decide +kernel, by decide +kernel⟩
theorem c_law_led_right {k : Nat} {Ts : List Addr} (T2 : Free2 mg) (D : Df K mg "_law_led_right" s_law_led_right) (CF : Cal P w K mg base k "_law_flat" ["_law_pot_here"] spLawFlat) (CD : Cal P w K mg base k "_law_drawn" ["_law_pot_here"] spLawDrawn) (CB : Cal P w K mg base k "_law_by" ["_law_one", "_law_other"] spTimes)
    (CL : Cal P w K mg base k "_law_less" ["_law_one", "_law_other"] spLess) (CS : Cal P w K mg base k "_law_sign" ["_law_ratio_here"] spLawSign) (CE : Cal P w K mg base k "_law_led" ["_law_row", "_law_move", "_law_point"] spLawLed) (CT : Cal P w K mg base k "turn" ["one", "other", "third"] (spTurn Ts)) :
    Cal P w K mg base (k + 1) "_law_led_right" ["_law_pot_here", "_law_some", "_law_due_here"] (spLedRight Ts) := by
  refine mkCal D sc_law_led_right (fun _ _ _ _ _ _ us hl => match us, hl with | [_, _, _], _ => rfl) (fun vs H Q E h => ?_) (fun f cdv A outer s H vs Q E hr h => ?_)
  · obtain ⟨p, l, x, y, z, p0, p1, q0, q1, r0, r1, rfl, _⟩ := h; rfl
  · obtain ⟨p, l, x, y, z, p0, p1, q0, q1, r0, r1, rfl, ok0, hl, hlp, hx, hy, hz, ⟨z1, z2, z3, z4, z5, z6⟩, k⟩ := h
    refine ⟨_, pss_cons (ps_asg (pe_tup (pa_cons (pe_lst pa_nil) (pa_cons (pe_cal CF hr (by rfl) (pa_cons (pv 0) pa_nil)) pa_nil)))
        (pg_tup (by rfl) (pgs_cons (pg_name (i := 3) sc_law_led_right.nd rfl (.inr rfl)) (pgs_cons (pg_name (i := 4) sc_law_led_right.nd rfl (.inr rfl)) pgs_nil))))
      (pss_cons (ps_for PassesOwn.never rfl (pi_range1 (by rfl) T2.range_ (pa_cons pe_int pa_nil)) (pg_name (i := 5) sc_law_led_right.nd rfl (.inl rfl))
        (pss_one (ps_expr (pe_bm PySem.F.plainAttrs_list PySem.F.slot_list_append PySem.F.type_list_append mt_append (pv 3) (pa_cons (pe_cal CD hr (by rfl) (pa_cons (pv 0) pa_nil)) pa_nil)))))
      (pss_cons (ps_set (i := 6) sc_law_led_right.nd rfl (.inl rfl) (pe_cal CS hr (by rfl) (pa_cons (pe_cal CL hr (by rfl) (pa_cons (pe_cal CB hr (by rfl) (pa_cons (pe_ix ix_list (pv 3) pe_int (fun _ _ => rfl)) (pa_cons (pe_ix ix_list (pv 3) pe_int (fun _ _ => rfl)) pa_nil)))
        (pa_cons (pe_cal CB hr (by rfl) (pa_cons (pe_ix ix_list (pv 3) pe_int (fun _ _ => rfl)) (pa_cons (pe_ix ix_list (pv 3) pe_int (fun _ _ => rfl)) pa_nil))) pa_nil))) pa_nil)))
      (pss_cons (ps_setLc (i := 7) (own := [("_law_point", 8)]) (g := gName 8) rfl sc_law_led_right.nd rfl rfl (sw_true rfl rfl rfl (by decide +kernel)) (pi_list (pv 1))
        (blkOk_by (N := ["_law_pot_here", "_law_some", "_law_due_here", "_law_row", "_law_move", "_law_spot", "_law_worth", "_law_late", "_law_point"]) (sc := defScope s_law_led_right) (own := [("_law_point", 8)]) (by decide +kernel))
        (fun _ _ _ _ _ => pg_name (i := 8) sc_law_led_right.nd rfl (.inl rfl) (.inr rfl)) (fun _ _ _ _ _ => pts_nil)
        (fun _ _ _ _ _ => pe_cal CE hr (by rfl) (pa_cons (pv 3) (pa_cons (pv 4) (pa_cons (pv 8) pa_nil)))))
      (pss_one (ps_ret (pe_cmpR op_eq (pe_cal CT hr (by rfl) (pa_cons (pe_ix ix_list (pv 7) pe_int (fun _ _ => rfl)) (pa_cons (pe_ix ix_list (pv 7) pe_int (fun _ _ => rfl)) (pa_cons (pe_ix ix_list (pv 7) pe_int (fun _ _ => rfl)) pa_nil))))
        (pe_op op_mul (pv 2) (pv 6)) (nomark _))))))), ?_⟩
    refine ⟨by show 0 ≤ sizeLine; decide, fun L hL => ?_⟩
    have hLp : L ≠ p := fun z => by
      obtain ⟨i, y, e, _⟩ := ok0.pot
      rw [z] at hL; rw [hL] at e; cases e
    have m0 := ok0.same (same_upd (o := .lst []) hL)
    refine ⟨_, rfl, p, rfl, m0.ok.pot, fun mv cm cn H1 rm zm zn pt1 k1 => ?_⟩
    have mA := m0.ok.draw k1 pt1
    have m1 := m0.trans mA
    have eL1 : H1 L = some (.lst []) := m0.ok.lk mA upd_same hLp
    refine ⟨by show 2 ≤ sizeLine; decide, fun t ht => ?_⟩
    have sT := same_upd (o := .tup [.ref L, mv]) ht
    have mB := m1.ok.same sT
    refine ⟨t, _, rfl, SqT.of upd_same, rfl, _, _, rfl, _, _, rfl, rfl, ?_⟩
    refine ⟨4, rfl, by decide, by decide, for_range (n := 4) (fun i σ H' => ∃ acc qs u, σ = [some (.ref p), some (.ref l), some (.int (sgn (det p0 p1 q0 q1 r0 r1))), some (.ref L), some mv, u, none, none, none] ∧ Mv Ts p H H' ∧ H' L = some (.lst acc) ∧ RtAll H' acc qs ∧ qs.length = i ∧ (∀ q ∈ qs, Sz 3 q) ∧ Rw H' mv [cm, cn])
      ⟨[], [], none, rfl, m1.trans mB, sT _ _ eL1, .nil, rfl, (fun q h => nomatch h), rm.keep (tk_of sT)⟩ (fun i σ H' hi h => ?_) (fun σ H' h => ?_)⟩
    · obtain ⟨acc, qs, u, rfl, m, eL, ra, ln, sz, rmv⟩ := h
      refine ⟨_, rfl, .inl ⟨rfl, _, SqL.of eL⟩, _, rfl, p, rfl, m.ok.pot, fun v q H2 rv zq pt2 k2 => ?_⟩
      have mC := m.ok.draw k2 pt2
      have eL2 := m.ok.lk mC eL hLp
      have kk := m.ok.tk mC
      refine ⟨L, _, _, rfl, rfl, eL2, small1000 (by rw [Paired.length ra]; omega), ?_⟩
      have kp := tk_put (o := .lst (acc ++ [v])) eL2
      refine ⟨acc ++ [v], qs ++ [q], some (.int (0 + i)), rfl, (m.trans mC).put ok0 hL, upd_same, paired_append (rtAll_keep (rtAll_keep ra kk) kp) (.cons (rv.keep kp) .nil), by rw [List.length_append, ln]; rfl, fun q' h => ?_, (rmv.keep kk).keep kp⟩
      rw [List.mem_append] at h
      rcases h with h | h
      · exact sz q' h
      · cases h with
        | head => exact zq
        | tail _ h => cases h
    obtain ⟨acc, qs, u, rfl, m, eL, ra, ln, sz, rmv⟩ := h
    obtain ⟨x0, x1, x2, x3, a, b, c, d, rfl, rfl, g0, g1, g2, g3⟩ := rl4 ra ln
    have za : Sz 3 a := sz a (by simp)
    have zb : Sz 3 b := sz b (by simp)
    have zc : Sz 3 c := sz c (by simp)
    have zd : Sz 3 d := sz d (by simp)
    have tl := SqL.of (K := K) eL
    refine ⟨_, rfl, L, _, 0, _, rfl, rfl, tl, rfl, _, rfl, L, _, 3, _, rfl, rfl, tl, rfl, x0, x3, a, d, 3, 3, rfl, g0, g3, za, zd, by decide, fun v1 H2 s2 k2 => ?_⟩
    have tl2 := SqL.of (K := K) (s2 _ _ eL)
    refine ⟨_, rfl, L, _, 1, _, rfl, rfl, tl2, rfl, _, rfl, L, _, 2, _, rfl, rfl, tl2, rfl, x1, x2, b, c, 3, 3, rfl, g1.keep (tk_of s2), g2.keep (tk_of s2), zb, zc, by decide, fun v2 H3 s3 k3 => ?_⟩
    refine ⟨v1, v2, _, _, 6, 6, rfl, k2.keep (tk_of s3), k3, za.mul zd, zb.mul zc, by decide, fun v3 H4 s4 k4 => ?_⟩
    obtain ⟨a5, rfl, e5⟩ := k4
    refine ⟨a5, _, _, rfl, e5, ?_⟩
    rw [isg_num]
    have S := (s2.trans s3).trans s4
    have mD := m.ok.same S
    have mE := m.trans mD
    have hl4 : H4 l = some (.lst [x, y, z]) := ok0.lk mE hl hlp
    refine ⟨_, rfl, l, rfl, ⟨_, SqL.of hl4⟩, fun M hM => ?_⟩
    let led : Rat → Rat → List Rat := fun p0 p1 => [a * p0 + b * p1 + cm, c * p0 + d * p1 + cn]
    refine lc_list (K := K) (a := l) (xs := [x, y, z]) (fun i H' => GrowW H4 M ([led p0 p1, led q0 q1, led r0 r1].take i) H') (by simpa using GrowW.zero hM) (fun i H' _ h => SqL.of (h.1 _ _ hl4)) (fun i v H' ev g => ?_) (fun H' g => ?_)
    · have tk4 : TK H H' := (ok0.tk mE).trans (tk_of g.1)
      have hv : ∃ s0 s1, Rw H' v [s0, s1] ∧ Sz 14 s0 ∧ Sz 14 s1 ∧ [led p0 p1, led q0 q1, led r0 r1][i]? = some (led s0 s1) ∧ i < 3 := by
        match i, ev with
        | 0, ev => cases ev; exact ⟨p0, p1, hx.keep tk4, z1, z2, rfl, by decide⟩
        | 1, ev => cases ev; exact ⟨q0, q1, hy.keep tk4, z3, z4, rfl, by decide⟩
        | 2, ev => cases ev; exact ⟨r0, r1, hz.keep tk4, z5, z6, rfl, by decide⟩
      obtain ⟨s0, s1, rv, y0, y1, ei, hi⟩ := hv
      have SS := S.trans g.1
      refine ⟨rfl, ?_⟩
      refine yes_then ?_
      refine ⟨_, rfl, _, rfl, _, rfl, L, x0, x1, x2, x3, mv, v, a, b, c, d, cm, cn, s0, s1, rfl, SS _ _ eL, ⟨g0.keep (tk_of SS), g1.keep (tk_of SS), g2.keep (tk_of SS), g3.keep (tk_of SS)⟩, rmv.keep (tk_of SS), rv, ⟨za, zb, zc, zd, zm, zn⟩, y0, y1, fun v2 H5 s5 r5 => ?_⟩
      rw [List.take_add_one, ei]
      exact g.more hM s5 r5 (by rw [List.length_take]; simp; omega)
    · obtain ⟨sM, acc, eM, rM⟩ := g
      obtain ⟨y0, y1, y2, rfl, w0, w1, w2⟩ := wl3 rM
      have tM := SqL.of (K := K) eM
      have mF := mE.trans (mE.ok.same sM)
      refine ⟨_, rfl, M, _, 0, _, rfl, rfl, tM, rfl, _, rfl, M, _, 1, _, rfl, rfl, tM, rfl, _, rfl, M, _, 2, _, rfl, rfl, tM, rfl, ?_⟩
      have zl : ∀ {e f g s t : Rat}, Sz 3 e → Sz 3 f → Sz 3 g → Sz 14 s → Sz 14 t → Sz 39 (e * s + f * t + g) := fun he hf hg hs ht => (((he.mul hs).add (hf.mul ht)).add hg).mono (by decide)
      refine ⟨y0, y1, y2, _, _, _, _, _, _, 39, rfl, w0, w1, w2, ⟨zl za zb zm z1 z2, zl zc zd zn z1 z2, zl za zb zm z3 z4, zl zc zd zn z3 z4, zl za zb zm z5 z6, zl zc zd zn z5 z6⟩, by decide, mF.ok.tabs, fun H6 k6 t6 => ?_⟩
      have mG := mF.trans (mF.ok.turn k6 t6)
      refine ⟨_, rfl, _, rfl, _, _, rfl, rfl, .inl ?_, rfl, ?_⟩
      · have := sgn_small (det p0 p1 q0 q1 r0 r1); omega
      · have e := det_led a b c d cm cn p0 p1 q0 q1 r0 r1
        rw [e, sgn_mul, Int.mul_comm (sgn (a * d - b * c)), decide_eq_true rfl]
        exact k H6 mG
end
end KD

/-! KL9 -/
set_option Elab.async false
set_option linter.all false
set_option maxRecDepth 100000
set_option maxHeartbeats 4000000
set_option exponentiation.threshold 20000
namespace KD
open PySem PySem.Spec PyProof.Rows L2 KR KM
section
variable {X : Cx}
/-- a, b, c = e, f, g with plain local names -/
def tPar3 (i j k : Nat) (ta : TA) : TS := fun D σ H => ta σ H fun vs H1 => ∃ v w z, vs = [v, w, z] ∧ D.nx (((σ.set i (some v)).set j (some w)).set k (some z)) H1
theorem ps_par3 {i j k : Nat} {x y z : Str} {a b c : Expr} {ta : TA} {px py pz pt pos : Pos} {kt k2 pt2} (hc : X.calm = true) (hN : X.N.Nodup) (hi : X.N[i]? = some x) (hj : X.N[j]? = some y) (hk : X.N[k]? = some z) (hij : i ≠ j) (hik : i ≠ k) (hjk : j ≠ k)
    (hx : X.env.scope.names.lookup x = some .local) (hy : X.env.scope.names.lookup y = some .local) (hz : X.env.scope.names.lookup z = some .local) (ha : PA X [a, b, c] ta)
    (hw : swappedStores [.Tuple [.Name x px, .Name y py, .Name z pz] kt pt] (.Tuple [a, b, c] k2 pt2) X.env = pure (some [x, y, z]))
    (hs : swapsWithSole [.Tuple [.Name x px, .Name y py, .Name z pz] kt pt] (.Tuple [a, b, c] k2 pt2) pos.line X.env = pure false := by rfl) :
    PS X (.Assign [.Tuple [.Name x px, .Name y py, .Name z pz] kt pt] (.Tuple [a, b, c] k2 pt2) pos) (tPar3 i j k ta) := by
  refine ⟨fun pins s σ H D I h => ?_⟩
  rw [exec_Assign_arm]
  refine wpAny_bind (wpAny_standAt ?_)
  rw [hs]
  refine wpAny_bind (wpAny_pure ?_)
  rw [if_neg (by decide)]
  refine wpAny_bind (Tuple_ (thn (ha.run _ pins s σ H _ I h) fun us s1 ⟨vs, H1, I1, r1, q1⟩ => ?_))
  obtain ⟨v, w, t, e1, q1⟩ := q1
  subst e1
  obtain ⟨u1, u2, u3, rfl, rv, rw', rt⟩ : ∃ u1 u2 u3, us = [u1, u2, u3] ∧ RelV v u1 ∧ RelV w u2 ∧ RelV t u3 := by
    cases r1 with
    | cons p q =>
      cases q with
      | cons p' q' =>
        cases q' with
        | cons p'' q'' =>
          cases q''
          exact ⟨_, _, _, rfl, p, p', p''⟩
  refine wpAny_newObj_type ?_ (by show 3 ≤ sizeLine; decide)
  have I2 : Inv X pins σ H1 { s1 with heap := s1.heap.push { cls := .type "tuple", data := .seq [u1, u2, u3].toArray } } := I1.kept (t' := s1.toks) fun b o e => Heap.get?_push_of_some _ e
  rw [hw]
  refine wpAny_bind (wpAny_pure ?_)
  show wpAny (model X.prog X.w) X.A (do rule "assign.swapped-stores"; let items ← unpackItems (.ref s1.heap.objs.size) 3 none; assignInOrder [fun v => bindName X.env z v, fun v => bindName X.env y v, fun v => bindName X.env x v] items.reverse; pure Flow.next) _ _ _
  refine wpAny_bind (wpAny_rule (wpAny_bind (unpackItems_tuple (items := #[u1, u2, u3]) (I.ok.hd hc) (IsTup.new s1.heap _) fun h' hx' => ?_)))
  have I3 := I2.kept (h' := h') (t' := s1.toks) fun b o e => hx' b o (Nat.ne_of_lt (Heap.lt_size e)) e
  show wpAny _ _ (assignInOrder [fun v => bindName X.env z v, fun v => bindName X.env y v, fun v => bindName X.env x v] [u3, u2, u1] >>= fun _ => pure Flow.next) _ _ _
  refine wpAny_bind (assignInOrder_cons (wpAny_bindName (store_ok I3 hN hk (.inl hz) rt (fun s2 I4 => ?_) (.inr hz))))
  refine assignInOrder_cons (wpAny_bindName (store_ok I4 hN hj (.inl hy) rw' (fun s3 I5 => ?_) (.inr hy)))
  refine assignInOrder_cons (wpAny_bindName (store_ok I5 hN hi (.inl hx) rv (fun s4 I6 => assignInOrder_nil (wpAny_pure ?_)) (.inr hx)))
  have e : ((σ.set k (some t)).set j (some w)).set i (some v) = ((σ.set i (some v)).set j (some w)).set k (some t) := by
    rw [List.set_comm _ _ (Ne.symm hij), List.set_comm _ _ (Ne.symm hik), List.set_comm _ _ (Ne.symm hjk)]
  rw [e] at I6
  exact ⟨_, H1, I6, q1⟩
end
end KD

/-! KL10 -/
set_option Elab.async false
set_option linter.all false
set_option maxRecDepth 100000
set_option maxHeartbeats 4000000
set_option exponentiation.threshold 20000
namespace KD
open PySem PySem.Spec PyProof.Rows L2 KR KM
abbrev s_law_space_right : Stmt := topS 43
section
variable {P : Program} {w : World} {K : PySem.W.Frag} {mg : Str → Option Value} {base : Heap}
theorem eq_fin {Q : VK} {H : Hp} {a b : Int} (h : a = b) (k : Q (.bl true) H) : Q (.bl (decide (V.int a = V.int b))) H := by
  rw [decide_eq_true (congrArg V.int h)]
  exact k
theorem sc_law_space_right : FnScope ["_law_pot_here", "_law_some", "_law_due_here", "_law_rise", "_law_height", "_law_found", "_law_point"] ["_law_pot_here", "_law_some", "_law_due_here"] (defScope s_law_space_right) := ⟨rfl, rfl, rfl, by decide +kernel, rfl, by decide +kernel, by decide +kernel⟩
theorem c_law_space_right {k : Nat} {Ts : List Addr} (D : Df K mg "_law_space_right" s_law_space_right) (CF : Cal P w K mg base k "_law_flat" ["_law_pot_here"] spLawFlat) (CD : Cal P w K mg base k "_law_drawn" ["_law_pot_here"] spLawDrawn) (CB : Cal P w K mg base k "_law_by" ["_law_one", "_law_other"] spTimes)
    (CP : Cal P w K mg base k "_law_plus" ["_law_one", "_law_other"] spPlus) (CS : Cal P w K mg base k "_law_sign" ["_law_ratio_here"] spLawSign) (CT : Cal P w K mg base k "plane_through" ["one", "other", "third"] (spPlaneThrough Ts)) :
    Cal P w K mg base (k + 1) "_law_space_right" ["_law_pot_here", "_law_some", "_law_due_here"] (spLedRight Ts) := by
  refine mkCal D sc_law_space_right (fun _ _ _ _ _ _ us hl => match us, hl with | [_, _, _], _ => rfl) (fun vs H Q E h => ?_) (fun f cdv A outer s H vs Q E hr h => ?_)
  · obtain ⟨p, l, x, y, z, p0, p1, q0, q1, r0, r1, rfl, _⟩ := h; rfl
  · obtain ⟨p, l, x, y, z, p0, p1, q0, q1, r0, r1, rfl, ok0, hl, hlp, hx, hy, hz, ⟨z1, z2, z3, z4, z5, z6⟩, k⟩ := h
    refine ⟨_, pss_cons (ps_par3 (i := 3) (j := 4) (k := 5) (by rfl) sc_law_space_right.nd rfl rfl rfl (by decide) (by decide) (by decide) rfl rfl rfl
        (pa_cons (pe_cal CF hr (by rfl) (pa_cons (pv 0) pa_nil)) (pa_cons (pe_cal CD hr (by rfl) (pa_cons (pv 0) pa_nil)) (pa_cons (pe_lst pa_nil) pa_nil))) (by rfl))
      (pss_cons (ps_for PassesOwn.never rfl (pi_list (pv 1)) (pg_name (i := 6) sc_law_space_right.nd rfl (.inl rfl))
        (pss_one (ps_expr (pe_bm PySem.F.plainAttrs_list PySem.F.slot_list_append PySem.F.type_list_append mt_append (pv 5) (pa_cons (pe_op op_catT (pv 6) (pe_tup (pa_cons
          (pe_cal CP hr (by rfl) (pa_cons (pv 4) (pa_cons (pe_cal CP hr (by rfl) (pa_cons (pe_cal CB hr (by rfl) (pa_cons (pe_ix ix_tup (pv 3) pe_int (fun _ _ => rfl)) (pa_cons (pe_ix ix_tup (pv 6) pe_int (fun _ _ => rfl)) pa_nil)))
            (pa_cons (pe_cal CB hr (by rfl) (pa_cons (pe_ix ix_tup (pv 3) pe_int (fun _ _ => rfl)) (pa_cons (pe_ix ix_tup (pv 6) pe_int (fun _ _ => rfl)) pa_nil))) pa_nil))) pa_nil))) pa_nil))) pa_nil)))))
      (pss_one (ps_ret (pe_or (pe_cmpR op_eq (pv 2) pe_int (nomark _)) (pe_one (pe_cmpR op_eq (pe_cal CS hr (by rfl) (pa_cons (pe_tup (pa_cons (pe_ix ix_tup
          (pe_cal CT hr (by rfl) (pa_cons (pe_ix ix_list (pv 5) pe_int (fun _ _ => rfl)) (pa_cons (pe_ix ix_list (pv 5) pe_int (fun _ _ => rfl)) (pa_cons (pe_ix ix_list (pv 5) pe_int (fun _ _ => rfl)) pa_nil)))) pe_int (fun _ _ => rfl)) (pa_cons pe_int pa_nil))) pa_nil)) (pv 2) (nomark _))))))), ?_⟩
    refine ⟨_, rfl, p, rfl, ok0.pot, fun rise s0 s1 H1 rr y0 y1 pt1 k1 => ?_⟩
    have mA := ok0.draw k1 pt1
    refine ⟨_, rfl, p, rfl, pt1, fun height hh H2 rh y2 pt2 k2 => ?_⟩
    have mB := mA.ok.draw k2 pt2
    have m2 := mA.trans mB
    refine ⟨by show 0 ≤ sizeLine; decide, fun L hL => ⟨_, _, _, rfl, ?_⟩⟩
    obtain ⟨ar, g0, g1, rfl, er, i0, i1⟩ := rw2 (rr.keep (mA.ok.tk mB))
    have hl2 : H2 l = some (.lst [x, y, z]) := ok0.lk m2 hl hlp
    let sp : Rat → Rat → List Rat := fun p0 p1 => [p0, p1, hh + (s0 * p0 + s1 * p1)]
    have tl : SqL K (upd H2 L (.lst [])) l [x, y, z] := SqL.of (same_upd hL _ _ hl2)
    refine ⟨_, rfl, l, rfl, ⟨_, tl⟩, for_list (xs := [x, y, z]) (fun i σ H' => ∃ u, σ = [some (.ref p), some (.ref l), some (.int (sgn (det p0 p1 q0 q1 r0 r1))), some (.ref ar), some height, some (.ref L), u] ∧ GrowW H2 L ([sp p0 p1, sp q0 q1, sp r0 r1].take i) H')
      ⟨none, rfl, by simpa using GrowW.zero hL⟩ (fun i σ H' _ h => ?_) (fun i v σ H' ev h => ?_) (fun σ H' h => ?_)⟩
    · obtain ⟨u, rfl, g⟩ := h
      exact SqL.of (g.1 _ _ hl2)
    · obtain ⟨u, rfl, g⟩ := h
      have tk2 : TK H H' := (ok0.tk m2).trans (tk_of g.1)
      have hv : ∃ e0 e1, Rw H' v [e0, e1] ∧ Sz 14 e0 ∧ Sz 14 e1 ∧ [sp p0 p1, sp q0 q1, sp r0 r1][i]? = some (sp e0 e1) ∧ i < 3 := by
        match i, ev with
        | 0, ev => cases ev; exact ⟨p0, p1, hx.keep tk2, z1, z2, rfl, by decide⟩
        | 1, ev => cases ev; exact ⟨q0, q1, hy.keep tk2, z3, z4, rfl, by decide⟩
        | 2, ev => cases ev; exact ⟨r0, r1, hz.keep tk2, z5, z6, rfl, by decide⟩
      obtain ⟨e0, e1, rv, ze0, ze1, ei, hi⟩ := hv
      obtain ⟨av, b0, b1, rfl, ea, j0, j1⟩ := rw2 rv
      obtain ⟨sg, acc, eL, ra⟩ := g
      have er' := sg _ _ er
      refine ⟨_, rfl, .inl ⟨rfl, _, SqL.of eL⟩, _, rfl, _, rfl, ?_⟩
      refine ⟨_, rfl, ar, _, 0, _, rfl, rfl, SqT.of er', rfl, _, rfl, av, _, 0, _, rfl, rfl, SqT.of ea, rfl, g0, b0, s0, e0, 3, 14, rfl, i0.keep (tk_of sg), j0, y0, ze0, by decide, fun v1 H3 s3 k3 => ?_⟩
      refine ⟨_, rfl, ar, _, 1, _, rfl, rfl, SqT.of (s3 _ _ er'), rfl, _, rfl, av, _, 1, _, rfl, rfl, SqT.of (s3 _ _ ea), rfl, g1, b1, s1, e1, 3, 14, rfl, i1.keep (tk_of (sg.trans s3)), j1.keep (tk_of s3), y1, ze1, by decide, fun v2 H4 s4 k4 => ?_⟩
      refine ⟨v1, v2, _, _, 17, 17, rfl, k3.keep (tk_of s4), k4, y0.mul ze0, y1.mul ze1, by decide, fun v3 H5 s5 k5 => ?_⟩
      have s35 := (s3.trans s4).trans s5
      refine ⟨height, v3, hh, _, 3, 35, rfl, rh.keep (tk_of (sg.trans s35)), k5, y2, (y0.mul ze0).add (y1.mul ze1), by decide, fun v4 H6 s6 k6 => ⟨by show 1 ≤ sizeLine; decide, fun t ht => ?_⟩⟩
      have s7 := same_upd (o := .tup [v4]) ht
      have s37 := (s35.trans s6).trans s7
      refine ⟨av, t, _, _, rfl, rfl, SqT.of (s37 _ _ ea), SqT.of upd_same, (fun z => nomatch z), by show 3 ≤ sizeLine; decide, (fun z => nomatch z), fun _ tt htt => ?_⟩
      have s8 := same_upd (o := .tup ([b0, b1] ++ [v4])) htt
      have s38 := s37.trans s8
      have rn : Rw (upd (upd H6 t (.tup [v4])) tt (.tup ([b0, b1] ++ [v4]))) (.ref tt) (sp e0 e1) :=
        Rw.mk3 (x0 := b0) (x1 := b1) (x2 := v4) upd_same (j0.keep (tk_of s38)) (j1.keep (tk_of s38)) (k6.keep (tk_of (s7.trans s8)))
      obtain ⟨acc', ea', la, gw⟩ := GrowW.more hL ⟨sg, acc, eL, ra⟩ s38 rn (by rw [List.length_take]; simp; omega)
      refine ⟨L, _, _, rfl, rfl, ea', la, some (.ref av), rfl, ?_⟩
      rw [List.take_add_one, ei]
      exact gw
    obtain ⟨u, rfl, sg, acc, eL, ra⟩ := h
    obtain ⟨w0, w1, w2, rfl, t0, t1, t2⟩ := wl3 ra
    have m3 := m2.trans (m2.ok.same sg)
    refine ⟨_, rfl, rfl, _, rfl, ite2 (fun c => k H' m3) (fun c => ?_)⟩
    have hd : det p0 p1 q0 q1 r0 r1 ≠ 0 := fun z => c (decide_eq_true (by rw [z, sgn_zero]))
    have eu : uz p0 p1 (hh + (s0 * p0 + s1 * p1)) q0 q1 (hh + (s0 * q0 + s1 * q1)) r0 r1 (hh + (s0 * r0 + s1 * r1)) = det p0 p1 q0 q1 r0 r1 := det_cross p0 p1 q0 q1 r0 r1
    have tL := SqL.of (K := K) eL
    have zs : ∀ {e0 e1 : Rat}, Sz 14 e0 → Sz 14 e1 → Sz 39 e0 ∧ Sz 39 e1 ∧ Sz 39 (hh + (s0 * e0 + s1 * e1)) := fun h0 h1 => ⟨h0.mono (by decide), h1.mono (by decide), (y2.add ((y0.mul h0).add (y1.mul h1))).mono (by decide)⟩
    refine ⟨_, rfl, L, _, 0, _, rfl, rfl, tL, rfl, _, rfl, L, _, 1, _, rfl, rfl, tL, rfl, _, rfl, L, _, 2, _, rfl, rfl, tL, rfl, ?_⟩
    refine ⟨w0, w1, w2, _, _, _, _, _, _, _, _, _, 39, rfl, t0, t1, t2, zs z1 z2, zs z3 z4, zs z5 z6, by decide, m3.ok.tabs, .inr (.inr (by rw [eu]; exact hd)), fun tp H7 k7 tb7 e7 => ?_⟩
    have m4 := m3.trans (m3.ok.turn k7 tb7)
    refine ⟨tp, _, 2, _, rfl, rfl, SqT.of e7, rfl, by show 2 ≤ sizeLine; decide, fun t ht => ?_⟩
    have ps := plane_sign (ux p0 p1 (hh + (s0 * p0 + s1 * p1)) q0 q1 (hh + (s0 * q0 + s1 * q1)) r0 r1 (hh + (s0 * r0 + s1 * r1))) (uy p0 p1 (hh + (s0 * p0 + s1 * p1)) q0 q1 (hh + (s0 * q0 + s1 * q1)) r0 r1 (hh + (s0 * r0 + s1 * r1))) (uz p0 p1 (hh + (s0 * p0 + s1 * p1)) q0 q1 (hh + (s0 * q0 + s1 * q1)) r0 r1 (hh + (s0 * r0 + s1 * r1))) (ud p0 p1 (hh + (s0 * p0 + s1 * p1)) q0 q1 (hh + (s0 * q0 + s1 * q1)) r0 r1 (hh + (s0 * r0 + s1 * r1))) (by rw [eu]; exact hd)
    refine ⟨t, _, _, rfl, upd_same, _, rfl, rfl, ?_⟩
    exact eq_fin (ps.trans (congrArg sgn eu)) (k _ (m4.trans (m4.ok.same (same_upd ht))))
end
end KD

/-! KL11 -/
set_option Elab.async false
set_option linter.all false
set_option maxRecDepth 100000
set_option maxHeartbeats 4000000
set_option exponentiation.threshold 20000
namespace KD
open PySem PySem.Spec PyProof.Rows L2 KR KM
/-- by names alone -/
structure CalK0 (P : Program) (w : World) (K : PySem.W.Frag) (mg : Str → Option Value) (base : Heap) (k : Nat) (x : Str) (ps ks : List Str) (g : List Value → List Value) (gV : List V → List V) (sp : Sp) : Prop where
  ex : ∃ f fd, mg x = some (.ref f) ∧ PySem.W.keepIn K (.ref f) = true ∧ (∀ (s : Shared) (ws : List Value), K.In s.heap → (g ws).length = ps.length → BindsTo s fd ⟨[], ks.zip ws⟩ (ps.zip (g ws))) ∧ (∀ {zs : List V} {ws : List Value}, Vals zs ws → Vals (gV zs) (g ws)) ∧ FnOk P w K mg base CX0 k f fd ps sp
section
variable {P : Program} {w : World} {K : PySem.W.Frag} {mg : Str → Option Value} {base : Heap}
theorem Cal.names {k : Nat} {x : Str} {ps ks : List Str} {g : List Value → List Value} {gV : List V → List V} {sp : Sp} {st : Stmt} (D : Df K mg x st) (C : Cal P w K mg base k x ps sp)
    (h : ∀ (kV doc pm : Value) (an : Option Addr) (cdv ct : Value) (ws : List Value), (g ws).length = ps.length → bindArgs (PySem.W.fnOf x x (defArgs st) (defBody st) (defScope st) .none kV doc pm an cdv ct) ⟨[], ks.zip ws⟩ = pure (ps.zip (g ws)))
    (r : ∀ {zs : List V} {ws : List Value}, Vals zs ws → Vals (gV zs) (g ws)) : CalK0 P w K mg base k x ps ks g gV sp := by
  obtain ⟨f, fd, gm, kp, ⟨st', F'⟩, b, ok⟩ := C.ex
  obtain ⟨f2, fd2, F, g2⟩ := D.ex
  have ef : f = f2 := by rw [gm] at g2; injection g2 with z; injection z
  subst ef
  obtain ⟨oc, od, kV, doc, pm, an, cdv, ct, osl, rfl, lk, hcd⟩ := F.ex
  obtain ⟨oc', od', kV', doc', pm', an', cdv', ct', osl', rfl, lk', hcd'⟩ := F'.ex
  rw [lk] at lk'
  injection lk' with z
  injection z with _ _ z _
  injection z with z
  refine ⟨f, _, gm, kp, fun s ws _ hl => ?_, r, ok⟩
  rw [← z]
  exact .of_eq (h kV doc pm an cdv ct ws hl)
def tCallK0 (sp : Sp) (gV : List V → List V) (tk : TA) : TE := fun σ H Q => tk σ H fun zs H2 => sp (gV zs) H2 Q E0
theorem pe_calK0 {X : Cx} {k : Nat} {ps ks : List Str} {g : List Value → List Value} {gV : List V → List V} {sp : Sp} {x : Str} {p pos : Pos} {kws : List Keyword} {tk : TA} (C : CalK0 X.prog X.w X.K X.mg X.base k x ps ks g gV sp) (hr : Room k X.A) (hg : Gl X x) (hkw : PK X kws tk)
    (hall : (backToKw pos (keywordEach kws X.env)).all (·.1.isSome) = true := by rfl) (hks : (backToKw pos (keywordEach kws X.env)).filterMap (·.1) = ks := by rfl) (hdb : (x == ("__debug__" : Str)) = false := by decide)
    (hpl : ((backTo pos (starEach [] X.env)).any (·.1) || (backToKw pos (keywordEach kws X.env)).any (·.1.isNone)) = false := by rfl) : PE X (.Call (.Name x p) [] kws pos) (tCallK0 sp gV tk) := by
  obtain ⟨f, fd, gm, kp, hb, hrel, F⟩ := C.ex
  refine ⟨fun pins s σ H Q I h => ?_⟩
  refine wpAny_Call_Name_kw (ld_glob I hg gm ?_ hdb)
  refine PySem.W.callWith_KW0 (h₀ := X.base) I.ok.mod.kin kp hall (thn (hkw.run pos pins s σ H _ I h) fun ws s2 ⟨zs, H2, I2, rz, q2⟩ => ⟨I2.kIn, ?_⟩) hpl
  rw [hks]
  have r2 := hrel rz
  have hl : (g ws).length = ps.length := by rw [← r2.length]; exact F.len _ _ _ _ q2
  refine wpAny_call (codeAny_mono (F.run X.A X.stack s2 H2 ⟨[], ks.zip ws⟩ (g ws) (gV zs) Q E0 hr I2.env0 (hb s2 ws I2.kIn hl) r2 q2) fun r s' hq => ?_)
  cases r with
  | error e => exact False.elim hq
  | ok fl =>
    cases fl with
    | ret u => exact I2.after hq
    | next => exact False.elim hq
    | brk => exact False.elim hq
    | cont => exact False.elim hq
def kwTurn {α : Type} : List α → List α
  | [a, b, c] => [b, c, a]
  | _ => []
theorem turn_names {k : Nat} {Ts : List Addr} (D : Df K mg "turn" s_turn) (C : Cal P w K mg base k "turn" ["one", "other", "third"] (spTurn Ts)) : CalK0 P w K mg base k "turn" ["one", "other", "third"] ["third", "one", "other"] kwTurn kwTurn (spTurn Ts) := by
  refine Cal.names D C (fun kV doc pm an cdv ct ws hl => ?_) (fun {zs ws} r => ?_)
  · match ws, hl with
    | [a, b, c], _ => rfl
  · cases r with
    | nil => exact .nil
    | cons r1 r => cases r with
      | nil => exact .nil
      | cons r2 r => cases r with
        | nil => exact .nil
        | cons r3 r => cases r with
          | nil => exact .cons r2 (.cons r3 (.cons r1 .nil))
          | cons r4 r => exact .nil
end
end KD

/-! KL12 -/
set_option Elab.async false
set_option linter.all false
set_option maxRecDepth 100000
set_option maxHeartbeats 4000000
set_option exponentiation.threshold 20000
namespace KD
open PySem PySem.Spec PyProof.Rows L2 KR KM
abbrev s_law_right : Stmt := topS 44
abbrev s_law : Stmt := topS 45
def spLawRight (Ts : List Addr) : Sp := fun vs H Q _ => ∃ p, vs = [.ref p] ∧ Ok Ts p H ∧ ∀ H', Mv Ts p H H' → Q (.bl true) H'
section
variable {P : Program} {w : World} {K : PySem.W.Frag} {mg : Str → Option Value} {base : Heap}
def shOk (d : PyData) : Prop := d.showable = true ∧ d.hasDict = false ∧ d.depth ≤ 20 ∧ d.shown.length ≤ 100
instance (d : PyData) : Decidable (shOk d) := by unfold shOk; infer_instance
theorem sh3 (q : Rat) : shOk (.list [.int (sgn q), .int (sgn q), .int (sgn q)]) := by
  rcases sgn_vals q with h | h | h <;> rw [h] <;> decide +kernel
theorem sh2 (q : Rat) : shOk (.list [.int (-sgn q), .int (-sgn q)]) := by
  rcases sgn_vals q with h | h | h <;> rw [h] <;> decide +kernel
theorem shLine {d : PyData} (h : shOk d) : d.shown.length ≤ sizeLine := Nat.le_trans h.2.2.2 (by decide)
theorem sc_law_right : FnScope ["_law_pot_here", "_law_number", "_law_one", "_law_other", "_law_third", "_law_due_here", "_law_told"] ["_law_pot_here"] (defScope s_law_right) := ⟨rfl, rfl, rfl, by decide +kernel, rfl, by decide +kernel, by decide +kernel⟩
theorem c_law_right {k : Nat} {Ts : List Addr} (T2 : Free2 mg) (D : Df K mg "_law_right" s_law_right) (CF : Cal P w K mg base k "_law_flat" ["_law_pot_here"] spLawFlat) (CDr : Cal P w K mg base k "_law_draw" ["_law_pot_here", "_law_room"] spDraw) (CDn : Cal P w K mg base k "_law_drawn" ["_law_pot_here"] spLawDrawn)
    (CM : Cal P w K mg base k "_law_mean" ["_law_one", "_law_other", "_law_part"] spLawMean) (CDu : Cal P w K mg base k "_law_due" ["_law_one", "_law_other", "_law_third"] spLawDue) (CT : Cal P w K mg base k "turn" ["one", "other", "third"] (spTurn Ts)) (CK : CalK0 P w K mg base k "turn" ["one", "other", "third"] ["third", "one", "other"] kwTurn kwTurn (spTurn Ts))
    (CI : Cal P w K mg base k "is_flat_point" ["value"] (spIsRow Ts 2)) (CE : Cal P w K mg base k "_law_led_right" ["_law_pot_here", "_law_some", "_law_due_here"] (spLedRight Ts)) (CS : Cal P w K mg base k "_law_space_right" ["_law_pot_here", "_law_some", "_law_due_here"] (spLedRight Ts)) :
    CalG P w K mg base (k + 1) "_law_right" ["_law_pot_here"] (spLawRight Ts) := by
  refine mkCalG D sc_law_right (fun _ _ _ _ _ _ us hl => match us, hl with | [_], _ => rfl) (fun vs H Q E h => ?_) (fun f cdv A outer s H vs Q E hg hr h => ?_)
  · obtain ⟨p, rfl, _⟩ := h; rfl
  · obtain ⟨p, rfl, ok0, k⟩ := h
    refine ⟨_, pss_cons (ps_for PassesOwn.never rfl (pi_range1 (by rfl) T2.range_ (pa_cons pe_int pa_nil)) (pg_name (i := 1) sc_law_right.nd rfl (.inl rfl))
        (pss_cons (ps_par (i := 2) (j := 3) (by rfl) sc_law_right.nd rfl rfl (by decide) rfl rfl (pa_cons (pe_cal CF hr (by rfl) (pa_cons (pv 0) pa_nil)) (pa_cons (pe_cal CF hr (by rfl) (pa_cons (pv 0) pa_nil)) pa_nil)) (by rfl))
        (pss_cons (ps_set (i := 4) sc_law_right.nd rfl (.inl rfl) (pe_ifExp (pt_cmpR op_gt (pe_cal CDr hr (by rfl) (pa_cons (pv 0) (pa_cons pe_int pa_nil))) pe_int (nomark _)) (pe_cal CF hr (by rfl) (pa_cons (pv 0) pa_nil))
          (pe_cal CM hr (by rfl) (pa_cons (pv 2) (pa_cons (pv 3) (pa_cons (pe_cal CDn hr (by rfl) (pa_cons (pv 0) pa_nil)) pa_nil))))))
        (pss_cons (ps_set (i := 5) sc_law_right.nd rfl (.inl rfl) (pe_cal CDu hr (by rfl) (pa_cons (pv 2) (pa_cons (pv 3) (pa_cons (pv 4) pa_nil)))))
        (pss_cons (ps_set (i := 6) sc_law_right.nd rfl (.inl rfl) (pe_lst (pa_cons (pe_cal CT hr (by rfl) (pa_cons (pv 2) (pa_cons (pv 3) (pa_cons (pv 4) pa_nil)))) (pa_cons (pe_cal CT hr (by rfl) (pa_cons (pv 3) (pa_cons (pv 4) (pa_cons (pv 2) pa_nil))))
          (pa_cons (pe_calK0 CK hr (by rfl) (pk_cons (pv 2) (pk_cons (pv 3) (pk_cons (pv 4) pk_nil)))) pa_nil)))))
        (pss_cons (ps_if (PW.pt (pw_or (pt_cmpR op_isnot_bl (pe_cal CI hr (by rfl) (pa_cons (pv 4) pa_nil)) pe_bl (nomark _)) (pw_or1 (pt_cmpR op_ne (pe_callB (call_repr hg hr.units) (by rfl) T2.repr_ (by decide +kernel) (pa_cons (pv 6) pa_nil))
            (pe_callB (call_repr hg hr.units) (by rfl) T2.repr_ (by decide +kernel) (pa_cons (pe_lst (pa_cons (pv 5) (pa_cons (pv 5) (pa_cons (pv 5) pa_nil)))) pa_nil)) (nomark _))))) (pss_one (ps_ret pe_bl)) pss_nil)
        (pss_cons (ps_if (pt_cmpR op_ne (pe_callB (call_repr hg hr.units) (by rfl) T2.repr_ (by decide +kernel) (pa_cons (pe_lst (pa_cons (pe_cal CT hr (by rfl) (pa_cons (pv 3) (pa_cons (pv 2) (pa_cons (pv 4) pa_nil)))) (pa_cons (pe_cal CT hr (by rfl) (pa_cons (pv 2) (pa_cons (pv 4) (pa_cons (pv 3) pa_nil)))) pa_nil))) pa_nil))
            (pe_callB (call_repr hg hr.units) (by rfl) T2.repr_ (by decide +kernel) (pa_cons (pe_lst (pa_cons (pe_un un_neg (pv 5)) (pa_cons (pe_un un_neg (pv 5)) pa_nil))) pa_nil)) (nomark _)) (pss_one (ps_ret pe_bl)) pss_nil)
        (pss_one (ps_if (PW.pt (pw_or (pt_not (pt_val (pe_cal CE hr (by rfl) (pa_cons (pv 0) (pa_cons (pe_lst (pa_cons (pv 2) (pa_cons (pv 3) (pa_cons (pv 4) pa_nil)))) (pa_cons (pv 5) pa_nil))))))
            (pw_or1 (pt_not (pt_val (pe_cal CS hr (by rfl) (pa_cons (pv 0) (pa_cons (pe_lst (pa_cons (pv 2) (pa_cons (pv 3) (pa_cons (pv 4) pa_nil)))) (pa_cons (pv 5) pa_nil))))))))) (pss_one (ps_ret pe_bl)) pss_nil)))))))))
      (pss_one (ps_ret pe_bl)), ?_⟩
    refine ⟨5, rfl, by decide, by decide, for_range (n := 5) (fun i σ H' => ∃ u1 u2 u3 u4 u5 u6, σ = [some (.ref p), u1, u2, u3, u4, u5, u6] ∧ Mv Ts p H H')
      ⟨none, none, none, none, none, none, rfl, Mv.refl ok0⟩ (fun i σ H' hi h => ?_) (fun σ H' h => ?_)⟩
    · obtain ⟨u1, u2, u3, u4, u5, u6, rfl, m⟩ := h
      refine ⟨_, rfl, p, rfl, m.ok.pot, fun one p0 p1 H1 ro y1 y2 pt1 k1 => ⟨_, rfl, p, rfl, pt1, fun other q0 q1 H2 rq y3 y4 pt2 k2 => ⟨_, _, rfl, ?_⟩⟩⟩
      have mA := m.ok.draw k1 pt1
      have mB := mA.ok.draw k2 pt2
      have ro2 := ro.keep (mA.ok.tk mB)
      refine ⟨_, rfl, p, 3, rfl, pt2, by decide, by decide, fun d H3 d0 d1 pt3 k3 => ⟨_, _, rfl, rfl, _, rfl, ite2 (fun _ => ?_) (fun _ => ?_)⟩⟩
      refine ⟨_, rfl, p, rfl, pt3, fun third r0 r1 H4 rt z5 z6 pt4 k4 => ?_⟩
      have mC := mB.ok.draw k3 pt3
      have mD := mC.ok.draw k4 pt4
      have mE := mC.trans mD
      have z5 := z5.mono (show 3 ≤ 14 by decide)
      have z6 := z6.mono (show 3 ≤ 14 by decide)
      rotate_left
      refine ⟨_, rfl, _, rfl, _, rfl, p, rfl, pt3, fun part tq H4' rp zp pt4 k4 => ?_⟩
      have mC := mB.ok.draw k3 pt3
      have mD' := mC.ok.draw k4 pt4
      have kk := mB.ok.tk (mC.trans mD')
      refine ⟨one, other, part, p0, p1, q0, q1, tq, rfl, ro2.keep kk, rq.keep kk, rp, ⟨y1, y2, y3, y4, zp⟩, fun third r0 r1 H4 s4 rt z5 z6 => ?_⟩
      have mD := mD'.trans (mD'.ok.same s4)
      have mE := mC.trans mD
      rotate_left
      all_goals
        have k4 := mB.ok.tk mE
        have M4 := m.trans ((mA.trans mB).trans mE)
        have ro4 := ro2.keep k4
        have rq4 := rq.keep k4
        have z1 := y1.mono (show 3 ≤ 14 by decide)
        have z2 := y2.mono (show 3 ≤ 14 by decide)
        have z3 := y3.mono (show 3 ≤ 14 by decide)
        have z4 := y4.mono (show 3 ≤ 14 by decide)
        refine ⟨_, rfl, _, rfl, _, rfl, one, other, third, p0, p1, q0, q1, r0, r1, 14, rfl, ro4, rq4, rt, ⟨z1, z2, z3, z4, z5, z6⟩, by decide, fun H5 s5 => ?_⟩
        have m5 := mE.ok.same s5
        have ok5 := m5.ok
        have M5 := M4.trans m5
        have o5 := ro4.keep (tk_of s5)
        have q5 := rq4.keep (tk_of s5)
        have t5 := rt.keep (tk_of s5)
        clear ro ro2 rq ro4 rq4
        refine ⟨_, rfl, _, rfl, _, rfl, one, other, third, p0, p1, q0, q1, r0, r1, 14, rfl, o5, q5, t5, ⟨z1, z2, z3, z4, z5, z6⟩, by decide, ok5.tabs, fun H6 k6 b6 => ?_⟩
        have m6 := ok5.turn k6 b6
        have kk6 := ok5.tk m6
        refine ⟨_, rfl, _, rfl, _, rfl, other, third, one, q0, q1, r0, r1, p0, p1, 14, rfl, q5.keep kk6, t5.keep kk6, o5.keep kk6, ⟨z3, z4, z5, z6, z1, z2⟩, by decide, m6.ok.tabs, fun H7 k7 b7 => ?_⟩
        have m7 := m6.trans (m6.ok.turn k7 b7)
        have kk7 := ok5.tk m7
        refine ⟨_, rfl, _, rfl, _, rfl, other, third, one, q0, q1, r0, r1, p0, p1, 14, rfl, q5.keep kk7, t5.keep kk7, o5.keep kk7, ⟨z3, z4, z5, z6, z1, z2⟩, by decide, m7.ok.tabs, fun H8 k8 b8 => ?_⟩
        have m8 := m7.trans (m7.ok.turn k8 b8)
        rw [det_rot p0 p1 q0 q1 r0 r1]
        refine ⟨by show 3 ≤ sizeLine; decide, fun L hL => ?_⟩
        have notp : ∀ {H : Hp} {M : Addr}, Ok Ts p H → H M = none → M ≠ p := fun {H M} o hM z => by
          obtain ⟨i, y, e, _⟩ := o.pot
          rw [z] at hM; rw [hM] at e; cases e
        have hLp : L ≠ p := notp m8.ok hL
        have m9 := m8.trans (m8.ok.same (same_upd (o := .lst [.int (sgn (det p0 p1 q0 q1 r0 r1)), .int (sgn (det p0 p1 q0 q1 r0 r1)), .int (sgn (det p0 p1 q0 q1 r0 r1))]) hL))
        refine ⟨_, rfl, third, _, rfl, t5.keep (ok5.tk m9), rfl, m9.ok.tabs, fun H10 k10 b10 => ?_⟩
        have mX := m9.ok.turn k10 b10
        have m10 := m9.trans mX
        have eL := m9.ok.lk mX upd_same hLp
        refine ⟨true, true, rfl, rfl, _, rfl, iteF ?_⟩
        refine ⟨_, rfl, L, .list [.int _, .int _, .int _], rfl, .lst (SqL.of eL) (.cons (.int _) (.cons (.int _) (.cons (.int _) .nil))), (sh3 _).1, (sh3 _).2.1, (sh3 _).2.2.1, shLine (sh3 _), ?_⟩
        refine ⟨_, rfl, _, rfl, _, rfl, by show 3 ≤ sizeLine; decide, fun M hM => ?_⟩
        have m11 := m10.trans (m10.ok.same (same_upd (o := .lst [.int (sgn (det p0 p1 q0 q1 r0 r1)), .int (sgn (det p0 p1 q0 q1 r0 r1)), .int (sgn (det p0 p1 q0 q1 r0 r1))]) hM))
        refine ⟨M, .list [.int _, .int _, .int _], rfl, .lst (SqL.of upd_same) (.cons (.int _) (.cons (.int _) (.cons (.int _) .nil))), (sh3 _).1, (sh3 _).2.1, (sh3 _).2.2.1, shLine (sh3 _), rfl, _, rfl, ?_⟩
        rw [decide_eq_true rfl]
        refine iteF ?_
        have kkA := ok5.tk m11
        refine ⟨_, rfl, _, rfl, _, rfl, other, one, third, q0, q1, p0, p1, r0, r1, 14, rfl, q5.keep kkA, o5.keep kkA, t5.keep kkA, ⟨z3, z4, z1, z2, z5, z6⟩, by decide, m11.ok.tabs, fun H12 k12 b12 => ?_⟩
        have m12 := m11.trans (m11.ok.turn k12 b12)
        have kkB := ok5.tk m12
        refine ⟨_, rfl, _, rfl, _, rfl, one, third, other, p0, p1, r0, r1, q0, q1, 14, rfl, o5.keep kkB, t5.keep kkB, q5.keep kkB, ⟨z1, z2, z5, z6, z3, z4⟩, by decide, m12.ok.tabs, fun H13 k13 b13 => ?_⟩
        have m13 := m12.trans (m12.ok.turn k13 b13)
        rw [det_swap1 p0 p1 q0 q1 r0 r1, det_swap2 p0 p1 q0 q1 r0 r1, sgn_opp]
        refine ⟨by show 2 ≤ sizeLine; decide, fun N hN => ?_⟩
        have m14 := m13.trans (m13.ok.same (same_upd (o := .lst [.int (-sgn (det p0 p1 q0 q1 r0 r1)), .int (-sgn (det p0 p1 q0 q1 r0 r1))]) hN))
        refine ⟨N, .list [.int _, .int _], rfl, .lst (SqL.of upd_same) (.cons (.int _) (.cons (.int _) .nil)), (sh2 _).1, (sh2 _).2.1, (sh2 _).2.2.1, shLine (sh2 _), ?_⟩
        refine ⟨_, rfl, _, rfl, _, rfl, _, rfl, by show 2 ≤ sizeLine; decide, fun O hO => ?_⟩
        have m15 := m14.trans (m14.ok.same (same_upd (o := .lst [.int (-sgn (det p0 p1 q0 q1 r0 r1)), .int (-sgn (det p0 p1 q0 q1 r0 r1))]) hO))
        refine ⟨O, .list [.int _, .int _], rfl, .lst (SqL.of upd_same) (.cons (.int _) (.cons (.int _) .nil)), (sh2 _).1, (sh2 _).2.1, (sh2 _).2.2.1, shLine (sh2 _), rfl, _, rfl, ?_⟩
        rw [decide_eq_true rfl]
        refine iteF ?_
        refine ⟨_, rfl, _, rfl, _, rfl, _, rfl, by show 3 ≤ sizeLine; decide, fun U hU => ⟨_, rfl, ?_⟩⟩
        have m16 := m15.trans (m15.ok.same (same_upd (o := .lst [one, other, third]) hU))
        have kkC := ok5.tk m16
        refine ⟨p, U, one, other, third, p0, p1, q0, q1, r0, r1, rfl, m16.ok, upd_same, notp m15.ok hU, o5.keep kkC, q5.keep kkC, t5.keep kkC, ⟨z1, z2, z3, z4, z5, z6⟩, fun H17 n17 => ⟨true, rfl, iteF ?_⟩⟩
        have m17 := m16.trans n17
        refine ⟨_, rfl, _, rfl, _, rfl, _, rfl, by show 3 ≤ sizeLine; decide, fun W hW => ⟨_, rfl, ?_⟩⟩
        have m18 := m17.trans (m17.ok.same (same_upd (o := .lst [one, other, third]) hW))
        have kkD := ok5.tk m18
        refine ⟨p, W, one, other, third, p0, p1, q0, q1, r0, r1, rfl, m18.ok, upd_same, notp m17.ok hW, o5.keep kkD, q5.keep kkD, t5.keep kkD, ⟨z1, z2, z3, z4, z5, z6⟩, fun H19 n19 => ⟨true, rfl, iteF ?_⟩⟩
        exact ⟨_, _, _, _, _, _, rfl, M5.trans (m18.trans n19)⟩
    · obtain ⟨u1, u2, u3, u4, u5, u6, rfl, m⟩ := h
      exact k H' m
end
end KD

/-! KE1 -/
set_option Elab.async false
set_option linter.all false
set_option maxRecDepth 100000
set_option maxHeartbeats 4000000
namespace KD
open PySem PySem.Spec PyProof.Rows L2 KR
/-- the heap that the law's call is told: empty tables at D, the script's list (if fz) under glass -/
def HpEnd (D : List Addr) (fz : Bool) (a : Addr) (o : Obj) (xs : List V) : Hp := fun b => if b ∈ D then some (.tbl #[]) else if fz = true ∧ b = a then some (.frz o (.lst xs)) else none
theorem hpEnd_some {D : List Addr} {fz : Bool} {a b : Addr} {o : Obj} {xs : List V} {u : HO} (h : HpEnd D fz a o xs b = some u) : (b ∈ D ∧ u = .tbl #[]) ∨ (b ∉ D ∧ fz = true ∧ b = a ∧ u = .frz o (.lst xs)) := by
  unfold HpEnd at h
  by_cases h1 : b ∈ D
  · rw [if_pos h1] at h; cases h; exact .inl ⟨h1, rfl⟩
  · rw [if_neg h1] at h
    by_cases h2 : fz = true ∧ b = a
    · rw [if_pos h2] at h; cases h; exact .inr ⟨h1, h2.1, h2.2, rfl⟩
    · rw [if_neg h2] at h; cases h
structure EndIn (K : PySem.W.Frag) (mg : Str → Option Value) (cs : List (Addr × Addr)) (h : Heap) : Prop where
  tb : ∀ p ∈ cs, h.get? p.2 = some { cls := .none, data := .fields #[] }
  nk : ∀ p ∈ cs, K.lookup p.2 = none
  cd : ∀ p ∈ cs, PySem.W.CodeHd h p.1 p.2
/-- no plain object is told of -/
theorem EndIn.off {K : PySem.W.Frag} {mg : Str → Option Value} {cs : List (Addr × Addr)} {h : Heap} (I : EndIn K mg cs h) {fz : Bool} {a b : Addr} {oa o : Obj} {xs : List V} {vs : Array Value} (ha : h.get? a = some { cls := .type "list", data := .seq vs }) (e : h.get? b = some o)
    (n1 : ∀ ws n, o.data ≠ .seq ws n) (n2 : o.data ≠ .fields #[]) : HpEnd (cs.map (·.2)) fz a oa xs b = none := by
  cases q : HpEnd (cs.map (·.2)) fz a oa xs b with
  | none => rfl
  | some u =>
    rcases hpEnd_some q with ⟨m, _⟩ | ⟨_, _, m, _⟩
    · obtain ⟨p, hp, ep⟩ := List.mem_map.mp m
      have t := I.tb p hp
      rw [ep, e] at t
      cases t
      exact absurd rfl n2
    · subst m
      rw [e] at ha
      cases ha
      exact absurd rfl (n1 _ _)
theorem EndIn.ns {K : PySem.W.Frag} {mg : Str → Option Value} {cs : List (Addr × Addr)} {h : Heap} (I : EndIn K mg cs h) {fz : Bool} {a : Addr} {oa : Obj} {xs : List V} {vs : Array Value} (ha : h.get? a = some { cls := .type "list", data := .seq vs }) {b : Addr} {m : Str → Option Value} (g : h.Ns b m) :
    (hidT h (HpEnd (cs.map (·.2)) fz a oa xs)).Ns b m := by
  obtain ⟨o, es, ep, e, d, r⟩ := g
  exact ⟨o, es, ep, hidT_get e (I.off ha e (fun ws n z => by rw [d] at z; cases z) (fun z => by rw [d] at z; cases z)), d, r⟩
theorem EndIn.tab {K : PySem.W.Frag} {mg : Str → Option Value} {cs : List (Addr × Addr)} {h : Heap} (I : EndIn K mg cs h) {fz : Bool} {a : Addr} {oa : Obj} {xs : List V} {vs : Array Value} (ha : h.get? a = some { cls := .type "list", data := .seq vs }) (g : h.Ns mainGlobals mg)
    (hbm : ∃ (bm : Addr) (ob : Obj), mg "__builtins__" = some (.ref bm) ∧ bm ≠ builtinsNs ∧ h.get? bm = some ob ∧ ob.cls = .type "module" ∧ ob.dict = some builtinsNs ∧ ob.data = .plain) {p : Addr × Addr} (hp : p ∈ cs) : GxR.TabB (hidT h (HpEnd (cs.map (·.2)) fz a oa xs)) mg p.1 p.2 := by
  have tp := I.tb p hp
  obtain ⟨bm, ob, b1, b2, b3, b4, b5, b6⟩ := hbm
  obtain ⟨og, es, ep, eg, dg, _⟩ := g
  have noP : p.2 ≠ mainGlobals := fun z => by rw [z, eg] at tp; cases tp; cases dg
  refine ⟨?_, ⟨bm, ob, b1, b2, fun z => ?_, fun z => ?_, hidT_get b3 (I.off ha b3 (fun ws n z => by rw [b6] at z; cases z) (fun z => by rw [b6] at z; cases z)), b4, b5, b6⟩, Ne.symm noP⟩
  · obtain ⟨o, us, file, tf, flags, tg, inF, text, tt, e1, r1, r2, r3, rest⟩ := I.cd p hp
    exact ⟨o, us, file, tf, flags, tg, inF, text, tt, hidT_get e1 (I.off ha e1 (fun ws n z => by rw [r2] at z; cases z) (fun z => by rw [r2] at z; cases z; simp at r3)), r1, r2, r3, rest⟩
  · rw [z, eg] at b3; cases b3; rw [dg] at b6; cases b6
  · rw [z, tp] at b3; cases b3; cases b6
end KD

/-! KE2 -/
set_option Elab.async false
set_option linter.all false
set_option maxRecDepth 100000
set_option maxHeartbeats 4000000
namespace KD
open PySem PySem.Spec PyProof.Rows L2 KR
theorem end_callG {P : Program} {w : World} {K : PySem.W.Frag} {mg mb : Str → Option Value} {k : Nat} {fa a : Addr} {cs : List (Addr × Addr)} {fd : FuncData} {x : Str} {sp : Sp} {s : Shared} {vs : List Value} {ns : List Int}
    (KX : K.In s.heap) (hns : s.heap.Ns mainGlobals mg) (hb : s.heap.Ns builtinsNs mb) (hbb : ∀ x : Str, x ≠ "__name__" → mb x = bootBuiltins x) (hlim : s.heap.NoLimit) (hg : s.gens = #[]) (I : EndIn K mg cs s.heap)
    (hbm : ∃ (bm : Addr) (ob : Obj), mg "__builtins__" = some (.ref bm) ∧ bm ≠ builtinsNs ∧ s.heap.get? bm = some ob ∧ ob.cls = .type "module" ∧ ob.dict = some builtinsNs ∧ ob.data = .plain)
    (ha : s.heap.get? a = some { cls := .type "list", data := .seq vs.toArray }) (hi : IntsAre vs ns) (hl : ns.length ≤ sizeLine) (hr : Room k callerA)
    (F : ∀ base : Heap, K.In base → base.Ns mainGlobals mg → (∀ p ∈ cs, GxR.TabB base mg p.1 p.2) → FnOkG P w K mg base k fa fd [x] sp) (hbind : ∀ (s : Shared) (u : Value), BindsTo s fd ⟨[u], []⟩ [(x, u)])
    (hsp : ∀ H : Hp, (∀ p ∈ cs, H p.2 = some (.tbl #[])) → SqL K H a (ns.map V.int) → sp [.ref a] H (fun v _ => v = .bl true) E0) :
    codeAny (model P w) callerA (.call (.ref fa) ⟨[.ref a], []⟩) (fun r s' => r = .ok (.ret (.bool true)) ∧ OldK s.heap s'.heap ∧ s'.os = s.os ∧ AllBare s'.gens) s := by
  have rv := vals_ints hi
  have aD : a ∉ cs.map (·.2) := fun z => by
    obtain ⟨p, hp, ep⟩ := List.mem_map.mp z
    have t := I.tb p hp
    rw [ep, ha] at t
    cases t
  let H : Hp := HpEnd (cs.map (·.2)) (K.lookup a).isNone a { cls := .type "list", data := .seq vs.toArray } (ns.map V.int)
  have Ht : ∀ p ∈ cs, H p.2 = some (.tbl #[]) := fun p hp => if_pos (List.mem_map.mpr ⟨p, hp, rfl⟩)
  have ok : HOk P w H s.heap := fun b u e => by
    rcases hpEnd_some e with ⟨m, rfl⟩ | ⟨_, _, rfl, rfl⟩
    · obtain ⟨p, hp, rfl⟩ := List.mem_map.mp m
      exact I.tb p hp
    · exact ⟨ha, by rw [List.length_map]; exact hl, vs, _, rv, ha⟩
  have S : SqL K H a (ns.map V.int) := by
    cases hk : K.lookup a with
    | none => exact .inl (.inr ⟨_, (if_neg aD).trans (if_pos ⟨by rw [hk]; rfl, rfl⟩)⟩)
    | some o =>
      have e := KX a o hk
      rw [ha] at e
      cases e
      exact .inr ⟨_, vs.toArray, _, hk, rfl, rfl, rfl, by rw [List.size_toArray, hi.length]; exact hl, by simpa using rv⟩
  have KB : K.In (hidT s.heap H) := fun b o e => hidT_get (KX b o e) (by
    cases q : H b with
    | none => rfl
    | some u =>
      rcases hpEnd_some q with ⟨m, _⟩ | ⟨_, z, rfl, _⟩
      · obtain ⟨p, hp, rfl⟩ := List.mem_map.mp m
        rw [I.nk p hp] at e; cases e
      · rw [e] at z; cases z)
  have M : L2.Mod K mg (hidT s.heap H) := by
    obtain ⟨mc, l1, l2⟩ := hlim
    exact ⟨KB, I.ns ha hns, ⟨mb, I.ns ha hb, hbb⟩, ⟨mc, I.ns ha l1, l2⟩⟩
  have e0 : Env0 P w K mg (hidT s.heap H) callerA [] s H :=
    { frames := rfl, mod := M, bs := fun b o e => of_hidT e, bsz := Nat.le_of_eq (hidT_size _ _), funs := trivial, frf := fun b hb => (nomatch hb), hok := ok, bare := .of_eq hg }
  have G := F _ KB (I.ns ha hns) (fun p hp => I.tab ha hns hbm hp)
  refine codeAny_mono (G.run callerA [] s H ⟨[.ref a], []⟩ [.ref a] [.ref a] _ _ rfl hr e0 (hbind s (.ref a)) (.cons rfl .nil) (hsp H Ht S)) fun r s' h => ?_
  match r, h with
  | .ok (.ret u), ⟨v, H', os, bare, un, ok', r', q⟩ =>
    cases (show v = .bl true from q)
    cases (show u = Value.bool true from r')
    have old : ∀ b o, b ∉ cs.map (·.2) → s.heap.get? b = some o → s'.heap.get? b = some o := fun b o nb e => by
      cases q : H b with
      | none => exact un.keep b o e q (fun z => nomatch z) (fun z => nomatch z)
      | some u =>
        rcases hpEnd_some q with ⟨m, _⟩ | ⟨_, _, rfl, rfl⟩
        · exact absurd m nb
        · rw [ha] at e
          cases e
          exact (ok' b _ (un.frzs b _ _ q)).1
    have grown : ∀ p ∈ cs, ∃ more : Array Value, s'.heap.get? p.2 = some { cls := .none, data := .fields more } := fun p hp => by
      obtain ⟨more, z⟩ := un.tbls p.2 #[] (Ht p hp)
      exact ⟨_, ok' p.2 _ z⟩
    refine ⟨rfl, ⟨fun b o e => ?_, fun b o e => ?_⟩, os, bare⟩
    · by_cases m : b ∈ cs.map (·.2)
      · obtain ⟨p, hp, rfl⟩ := List.mem_map.mp m
        obtain ⟨more, hm⟩ := grown p hp
        rw [I.tb p hp] at e
        cases e
        exact .inr (.inl ⟨((I.cd p hp).tab (I.tb p hp)).isCodeTable, rfl, #[], more, rfl, by rw [Array.empty_append]; exact hm⟩)
      · exact .inl (old b o m e)
    · by_cases m : b ∈ cs.map (·.2)
      · obtain ⟨p, hp, rfl⟩ := List.mem_map.mp m
        obtain ⟨more, hm⟩ := grown p hp
        exact ⟨_, hm⟩
      · exact ⟨o, old b o m e⟩

/-- the table of the def named y is empty at the heap h -/
def EmptyTab (K : PySem.W.Frag) (mg : Str → Option Value) (h : Heap) (y : Str) : Prop := ∀ (f c P : Addr) (o : Obj) (fd : FuncData) (e : Value) (dd : Option Addr) (vs : Array Value) (sl : Array (Option Value)),
  mg y = some (.ref f) → K.lookup f = some o → o.data = .func fd → fd.code = .ref c → K.lookup c = some ⟨e, dd, .fields vs, sl⟩ → vs[11]? = some (.ref P) → h.get? P = some { cls := .none, data := .fields #[] } ∧ PySem.W.CodeHd h c P
def LawG (l : PySem.W.OpenLaw) (w : World) (K : PySem.W.Frag) (k n : Nat) (x : Str) (mg : Str → Option Value) (fa : Addr) (h : Heap) : Prop :=
  ∃ (fd : FuncData) (cs : List (Addr × Addr)) (sp : Sp), EndIn K mg cs h ∧ (∀ (s : Shared) (u : Value), BindsTo s fd ⟨[u], []⟩ [(x, u)]) ∧ (∀ (H : Hp) (a : Addr) (ns : List Int), ns.length ≤ n → (∀ p ∈ cs, H p.2 = some (.tbl #[])) → SqL K H a (ns.map V.int) → sp [.ref a] H (fun v _ => v = .bl true) E0) ∧
    ∀ base : Heap, K.In base → base.Ns mainGlobals mg → (∀ p ∈ cs, GxR.TabB base mg p.1 p.2) → FnOkG l.prog w K mg base k fa fd [x] sp
theorem end_walk {l : PySem.W.OpenLaw} {n k : Nat} {q : Program} {loose : List Str} {XP : (Str → Option Value) → Heap → Prop} {YP : World → Heap → Prop} {d : DefRec} {K : Params → PySem.W.Frag} {x : Str} (names : List Str)
    (hn : l.most = some n) (hn2 : n ≤ sizeLine) (hdf : d.params.defaults = []) (hr : Room k callerA) (hrec : ∀ y ∈ names, ((recsOf q).any fun e => e.name == y) = true) (hY : ∀ (w : World) (h : Heap), YP w h → (K w.params).In h)
    (F : ∀ (w : World) (mg : Str → Option Value) (fa : Addr) (h : Heap), YP w h → (K w.params).In h → h.Ns mainGlobals mg → mg d.name = some (.ref fa) → (∀ y ∈ names, EmptyTab (K w.params) mg h y) → LawG l w (K w.params) k n x mg fa h) :
    PySem.W.WalkO q loose XP YP l.row.toRowW d [] (fun f vs => PySem.call f vs) := by
  refine Att.attach_callB hn hdf fun w s₀ s₁ mg mb fa o pm cd doc a vs ns G Y ho hd hcd hmg hobj hints hlen hbits hg => ?_
  have KX := hY w _ Y
  have emp : ∀ y ∈ names, EmptyTab (K w.params) mg s₁.heap y := fun y hy f c P o1 fd1 e dd vs1 sl k0 k1 k2 k3 k4 k5 => by
    obtain ⟨dL, hm, hn1⟩ := List.any_eq_true.mp (hrec y hy)
    have en : dL.name = y := beq_iff_eq.mp hn1
    obtain ⟨f', o', fd', c', P', h1, h2, h3, h4, h5, h6⟩ := G.T.tab dL hm
    rw [en, k0] at h1
    cases h1
    rw [KX _ _ k1] at h2
    cases h2
    rw [k2] at h3
    cases h3
    rw [k3] at h4
    cases h4
    have cdh := PySem.W.CodeHd.of h5 h6
    obtain ⟨⟨oc, vc, e1, _, e3, e4⟩, hP⟩ := h6
    rw [KX _ _ k4] at e1
    cases e1
    cases e3
    rw [k5] at e4
    cases e4
    exact ⟨hP, cdh⟩
  obtain ⟨fd, cs, sp, I, hb, hsp, hF⟩ := F w mg fa _ Y KX G.T.g hmg emp
  exact end_callG KX G.T.g G.T.b G.T.builtins G.T.nolimit hg I G.T.bmain hobj hints (Nat.le_trans hlen hn2) hr hF hb (fun H hH hS => hsp H a ns hlen hH hS)
end KD

/-! KE3 -/
set_option Elab.async false
set_option linter.all false
set_option maxRecDepth 100000
set_option maxHeartbeats 4000000
set_option exponentiation.threshold 20000
namespace KD
open PySem PySem.Spec PyProof.Rows L2 KR KM
def spLaw (K : PySem.W.Frag) (Ts : List Addr) : Sp := fun vs H Q _ => ∃ (a : Addr) (ns : List Int), vs = [.ref a] ∧ SqL K H a (ns.map V.int) ∧ Tabs Ts H ∧ ∀ H', Q (.bl true) H'
/-- a def's facts in the fragment -/
structure Fd (K : PySem.W.Frag) (x : Str) (st : Stmt) (f : Addr) : Prop where
  at_ : PySem.W.nsIn K mainGlobals x = some (some (.ref f))
  fun_ : ∃ fd, Fun K x x st f fd
structure FdC (K : PySem.W.Frag) (x : Str) (st : Stmt) (f c T : Addr) : Prop where
  at_ : PySem.W.nsIn K mainGlobals x = some (some (.ref f))
  fun_ : ∃ fd o, Fun K x x st f fd ∧ K.lookup f = some o ∧ o.data = .func fd ∧ fd.code = .ref c
  code_ : ∃ e dd vs sl, K.lookup c = some ⟨e, dd, .fields vs, sl⟩ ∧ vs[11]? = some (.ref T)
  none_ : K.lookup T = none
theorem fd_mk {K : PySem.W.Frag} {x : Str} {st : Stmt} {f : Addr} {od an : Option Addr} {sl : Array (Option Value)} {oc kV dc pm cd ct : Value} (a : PySem.W.nsIn K mainGlobals x = some (some (.ref f)))
    (l : K.lookup f = some ⟨oc, od, .func (PySem.W.fnOf x x (defArgs st) (defBody st) (defScope st) .none kV dc pm an cd ct), sl⟩) (c : PySem.W.codeIn K cd x = true) (k : PySem.W.keepIn K (.ref f) = true) : Fd K x st f := ⟨a, _, fun_mk l c k⟩
theorem fdc_mk {K : PySem.W.Frag} {x : Str} {st : Stmt} {f co T : Addr} {od an dd : Option Addr} {sl sl2 : Array (Option Value)} {oc kV dc pm ct e : Value} {vs : Array Value} (a : PySem.W.nsIn K mainGlobals x = some (some (.ref f)))
    (l : K.lookup f = some ⟨oc, od, .func (PySem.W.fnOf x x (defArgs st) (defBody st) (defScope st) .none kV dc pm an (.ref co) ct), sl⟩) (c : PySem.W.codeIn K (.ref co) x = true) (k : PySem.W.keepIn K (.ref f) = true)
    (l2 : K.lookup co = some ⟨e, dd, .fields vs, sl2⟩) (v : vs[11]? = some (.ref T)) (n : K.lookup T = none) : FdC K x st f co T := ⟨a, ⟨_, _, fun_mk l c k, l, rfl, rfl⟩, ⟨_, _, _, _, l2, v⟩, n⟩
section
variable {K : PySem.W.Frag} {h : Heap} {mg : Str → Option Value}
theorem Fd.df {x : Str} {st : Stmt} {f : Addr} (F : Fd K x st f) (X : K.In h) (G : h.Ns mainGlobals mg) : Df K mg x st := by
  obtain ⟨fd, z⟩ := F.fun_
  exact ⟨f, fd, z, PySem.W.mg_of X G F.at_⟩
theorem FdC.df {x : Str} {st : Stmt} {f c T : Addr} {base : Heap} (F : FdC K x st f c T) (X : K.In h) (G : h.Ns mainGlobals mg) (B : GxR.TabB base mg c T) : DfC K mg base x st T := by
  obtain ⟨fd, o, z, _, _, e⟩ := F.fun_
  exact ⟨f, fd, c, z, PySem.W.mg_of X G F.at_, e, B⟩
theorem FdC.tab {x : Str} {st : Stmt} {f c T : Addr} (F : FdC K x st f c T) (X : K.In h) (G : h.Ns mainGlobals mg) (E : EmptyTab K mg h x) : h.get? T = some { cls := .none, data := .fields #[] } ∧ PySem.W.CodeHd h c T := by
  obtain ⟨fd, o, _, l, d, e⟩ := F.fun_
  obtain ⟨e', dd, vs, sl, l2, v⟩ := F.code_
  exact E f c T o fd e' dd vs sl (PySem.W.mg_of X G F.at_) l d e l2 v
end
theorem sc_law : FnScope ["_law_script"] ["_law_script"] (defScope s_law) := ⟨rfl, rfl, rfl, by decide +kernel, rfl, by decide +kernel, by decide +kernel⟩
theorem ok_law {P : Program} {w : World} {K : PySem.W.Frag} {mg : Str → Option Value} {base : Heap} {k : Nat} {Ts : List Addr} {f : Addr} {fd : FuncData} (F : Fun K "law" "law" s_law f fd) (CP : Cal P w K mg base k "_law_pot" ["_law_script", "_law_k"] (spPot K)) (CR : CalG P w K mg base k "_law_right" ["_law_pot_here"] (spLawRight Ts)) :
    FnOkG P w K mg base (k + 1) f fd ["_law_script"] (spLaw K Ts) := by
  refine okG F sc_law (fun vs H Q E h => ?_) (fun cdv A outer s H vs Q E hg hr h => ?_)
  · obtain ⟨a, ns, rfl, _⟩ := h; rfl
  · obtain ⟨a, ns, rfl, S, tb, q⟩ := h
    refine ⟨_, pss_one (ps_ret (pe_calG CR hg hr (by rfl) (pa_cons (pe_cal CP hr (by rfl) (pa_cons (pv 0) (pa_cons pe_int pa_nil))) pa_nil))), ?_⟩
    refine ⟨_, rfl, a, ns, rfl, S, fun p H1 s1 hp pt => ?_⟩
    exact ⟨p, rfl, ⟨pt, tb.same s1⟩, fun H' _ => q H'⟩
theorem tabs_start {cs : List (Addr × Addr)} {H : Hp} (h : ∀ p ∈ cs, H p.2 = some (.tbl #[])) : Tabs (cs.map (·.2)) H := fun T hT => by
  obtain ⟨p, hp, e⟩ := List.mem_map.mp hT
  exact ⟨#[], by rw [← e]; exact h p hp, by trivial⟩
end KD

/-! KE4 -/
set_option Elab.async false
set_option linter.all false
set_option maxRecDepth 100000
set_option maxHeartbeats 4000000
set_option exponentiation.threshold 20000
namespace KD
open PySem PySem.Spec PyProof.Rows L2 KR KM
structure Txt (K : PySem.W.Frag) (f_is_integer f_is_tuple_of f_is_ratio f_lowest f_ratio_plus f_ratio_contrary f_ratio_less f_ratio_times f_ratio_sum f_ratio_sign f_row_less f_length_product f_cross_row f_check_point f_turn f_whole_plane f_plane_through f__law_pot f__law_draw f__law_gcd f__law_ratio f__law_plus f__law_less f__law_by f__law_drawn f__law_sign f__law_flat f__law_due f__law_mean f__law_led f__law_led_right f__law_space_right f__law_right f_law : Addr) : Prop where
  d_is_integer : Fd K "is_integer" s_is_integer f_is_integer
  d_is_tuple_of : Fd K "is_tuple_of" s_is_tuple_of f_is_tuple_of
  d_is_ratio : Fd K "is_ratio" s_is_ratio f_is_ratio
  d_lowest : Fd K "lowest" s_lowest f_lowest
  d_ratio_plus : Fd K "ratio_plus" s_ratio_plus f_ratio_plus
  d_ratio_contrary : Fd K "ratio_contrary" s_ratio_contrary f_ratio_contrary
  d_ratio_less : Fd K "ratio_less" s_ratio_less f_ratio_less
  d_ratio_times : Fd K "ratio_times" s_ratio_times f_ratio_times
  d_ratio_sum : Fd K "ratio_sum" s_ratio_sum f_ratio_sum
  d_ratio_sign : Fd K "ratio_sign" s_ratio_sign f_ratio_sign
  d_row_less : Fd K "row_less" s_row_less f_row_less
  d_length_product : Fd K "length_product" s_length_product f_length_product
  d_cross_row : Fd K "cross_row" s_cross_row f_cross_row
  d_check_point : Fd K "check_point" s_check_point f_check_point
  d_turn : Fd K "turn" s_turn f_turn
  d_whole_plane : Fd K "whole_plane" s_whole_plane f_whole_plane
  d_plane_through : Fd K "plane_through" s_plane_through f_plane_through
  d_law_pot : Fd K "_law_pot" s_law_pot f__law_pot
  d_law_draw : Fd K "_law_draw" s_law_draw f__law_draw
  d_law_gcd : Fd K "_law_gcd" s_law_gcd f__law_gcd
  d_law_ratio : Fd K "_law_ratio" s_law_ratio f__law_ratio
  d_law_plus : Fd K "_law_plus" s_law_plus f__law_plus
  d_law_less : Fd K "_law_less" s_law_less f__law_less
  d_law_by : Fd K "_law_by" s_law_by f__law_by
  d_law_drawn : Fd K "_law_drawn" s_law_drawn f__law_drawn
  d_law_sign : Fd K "_law_sign" s_law_sign f__law_sign
  d_law_flat : Fd K "_law_flat" s_law_flat f__law_flat
  d_law_due : Fd K "_law_due" s_law_due f__law_due
  d_law_mean : Fd K "_law_mean" s_law_mean f__law_mean
  d_law_led : Fd K "_law_led" s_law_led f__law_led
  d_law_led_right : Fd K "_law_led_right" s_law_led_right f__law_led_right
  d_law_space_right : Fd K "_law_space_right" s_law_space_right f__law_space_right
  d_law_right : Fd K "_law_right" s_law_right f__law_right
  d_law : Fd K "law" s_law f_law
structure TxtC (K : PySem.W.Frag) (f1 c1 T1 f2 c2 T2 : Addr) : Prop where
  flat : FdC K "is_flat_point" s_is_flat_point f1 c1 T1
  point : FdC K "is_point" s_is_point f2 c2 T2
structure TxtN (K : PySem.W.Frag) : Prop where
  n_isinstance : PySem.W.nsIn K mainGlobals "isinstance" = some none
  n_int : PySem.W.nsIn K mainGlobals "int" = some none
  n_bool : PySem.W.nsIn K mainGlobals "bool" = some none
  n_tuple : PySem.W.nsIn K mainGlobals "tuple" = some none
  n_len : PySem.W.nsIn K mainGlobals "len" = some none
  n_all : PySem.W.nsIn K mainGlobals "all" = some none
  n_zip : PySem.W.nsIn K mainGlobals "zip" = some none
  n_abs : PySem.W.nsIn K mainGlobals "abs" = some none
  n_max : PySem.W.nsIn K mainGlobals "max" = some none
  n_divmod : PySem.W.nsIn K mainGlobals "divmod" = some none
  n_range : PySem.W.nsIn K mainGlobals "range" = some none
  n_repr : PySem.W.nsIn K mainGlobals "repr" = some none
  n_gcd : PySem.W.nsIn K mainGlobals "gcd" = some (some (.builtin "math.gcd"))
  n_lcm : PySem.W.nsIn K mainGlobals "lcm" = some (some (.builtin "math.lcm"))
theorem TxtN.free {K : PySem.W.Frag} {h : Heap} {mg : Str → Option Value} (N : TxtN K) (X : K.In h) (G : h.Ns mainGlobals mg) : Free mg :=
  ⟨PySem.W.mg_none_of X G N.n_isinstance, PySem.W.mg_none_of X G N.n_int, PySem.W.mg_none_of X G N.n_bool, PySem.W.mg_none_of X G N.n_tuple, PySem.W.mg_none_of X G N.n_len, PySem.W.mg_none_of X G N.n_all, PySem.W.mg_none_of X G N.n_zip, PySem.W.mg_of X G N.n_gcd⟩
theorem TxtN.free2 {K : PySem.W.Frag} {h : Heap} {mg : Str → Option Value} (N : TxtN K) (X : K.In h) (G : h.Ns mainGlobals mg) : Free2 mg :=
  ⟨PySem.W.mg_none_of X G N.n_abs, PySem.W.mg_none_of X G N.n_max, PySem.W.mg_none_of X G N.n_divmod, PySem.W.mg_none_of X G N.n_range, PySem.W.mg_none_of X G N.n_repr⟩
theorem all_law {l : PySem.W.OpenLaw} {w : World} {K : PySem.W.Frag} {h : Heap} {mg : Str → Option Value} {fa f_is_integer f_is_tuple_of f_is_ratio f_lowest f_ratio_plus f_ratio_contrary f_ratio_less f_ratio_times f_ratio_sum f_ratio_sign f_row_less f_length_product f_cross_row f_check_point f_turn f_whole_plane f_plane_through f__law_pot f__law_draw f__law_gcd f__law_ratio f__law_plus f__law_less f__law_by f__law_drawn f__law_sign f__law_flat f__law_due f__law_mean f__law_led f__law_led_right f__law_space_right f__law_right f_law f1 c1 T1 f2 c2 T2 : Addr} (X : K.In h) (G : h.Ns mainGlobals mg) (hfa : mg "law" = some (.ref fa)) (F : Txt K f_is_integer f_is_tuple_of f_is_ratio f_lowest f_ratio_plus f_ratio_contrary f_ratio_less f_ratio_times f_ratio_sum f_ratio_sign f_row_less f_length_product f_cross_row f_check_point f_turn f_whole_plane f_plane_through f__law_pot f__law_draw f__law_gcd f__law_ratio f__law_plus f__law_less f__law_by f__law_drawn f__law_sign f__law_flat f__law_due f__law_mean f__law_led f__law_led_right f__law_space_right f__law_right f_law) (C : TxtC K f1 c1 T1 f2 c2 T2) (N : TxtN K)
    (emp : ∀ y ∈ (["is_flat_point", "is_point"] : List Str), EmptyTab K mg h y) : LawG l w K 11 63 "_law_script" mg fa h := by
  obtain ⟨fd, FL⟩ := F.d_law.fun_
  have ef : fa = f_law := by
    have e := hfa.symm.trans (PySem.W.mg_of X G F.d_law.at_)
    injection e with e
    injection e
  subst ef
  have T := N.free X G
  have U2 := N.free2 X G
  obtain ⟨t1, cd1⟩ := C.flat.tab X G (emp _ (.head _))
  obtain ⟨t2, cd2⟩ := C.point.tab X G (emp _ (.tail _ (.head _)))
  refine ⟨fd, [(c1, T1), (c2, T2)], spLaw K [T1, T2], ⟨fun p hp => ?_, fun p hp => ?_, fun p hp => ?_⟩, ?_, fun H a ns _ ht S => ⟨a, ns, rfl, S, tabs_start ht, fun _ => rfl⟩, fun base XB GB TB => ?_⟩
  · cases hp with
    | head => exact t1
    | tail _ hp => cases hp with
      | head => exact t2
      | tail _ hp => cases hp
  · cases hp with
    | head => exact C.flat.none_
    | tail _ hp => cases hp with
      | head => exact C.point.none_
      | tail _ hp => cases hp
  · cases hp with
    | head => exact cd1
    | tail _ hp => cases hp with
      | head => exact cd2
      | tail _ hp => cases hp
  · obtain ⟨oc, od, kV, doc, pm, an, cdv, ct, osl, rfl, lk, hcd⟩ := FL.ex
    exact fun s u => .of_eq rfl
  · have B1 := TB (c1, T1) (.head _)
    have B2 := TB (c2, T2) (.tail _ (.head _))
    have P1 : T1 ∈ ([T1, T2] : List Addr) := .head _
    have P2 : T2 ∈ ([T1, T2] : List Addr) := .tail _ (.head _)
    have C_p_is_integer := c_is_integer (P := l.prog) (w := w) (base := base) T (F.d_is_integer.df X G)
    have C_p_is_tuple_of := c_is_tuple_of (P := l.prog) (w := w) (base := base) T (F.d_is_tuple_of.df X G)
    have C_p_lowest := c_lowest (P := l.prog) (w := w) (base := base) T (F.d_lowest.df X G)
    have C_p_ratio_plus := c_ratio_plus (P := l.prog) (w := w) (base := base) (F.d_ratio_plus.df X G) (Cal.mono C_p_lowest (show 1 ≤ 1 by decide))
    have C_p_ratio_times := c_ratio_times (P := l.prog) (w := w) (base := base) (F.d_ratio_times.df X G) (Cal.mono C_p_lowest (show 1 ≤ 1 by decide))
    have C_p_ratio_contrary := c_ratio_contrary (P := l.prog) (w := w) (base := base) (F.d_ratio_contrary.df X G)
    have C_p_ratio_less := c_ratio_less (P := l.prog) (w := w) (base := base) (F.d_ratio_less.df X G) (Cal.mono C_p_ratio_plus (show 2 ≤ 2 by decide)) (Cal.mono C_p_ratio_contrary (show 1 ≤ 2 by decide))
    have C_p_ratio_sum := c_ratio_sum (P := l.prog) (w := w) (base := base) (F.d_ratio_sum.df X G) (Cal.mono C_p_ratio_plus (show 2 ≤ 2 by decide))
    have C_p_ratio_sign := c_ratio_sign (P := l.prog) (w := w) (base := base) (F.d_ratio_sign.df X G)
    have C_p_is_ratio := c_is_ratio (P := l.prog) (w := w) (base := base) T (F.d_is_ratio.df X G) (Cal.mono C_p_is_tuple_of (show 1 ≤ 1 by decide)) (Cal.mono C_p_is_integer (show 1 ≤ 1 by decide))
    have C_p_is_flat_point := c_is_flat_point (P := l.prog) (w := w) (base := base) P1 T (C.flat.df X G B1) (Cal.mono C_p_is_tuple_of (show 1 ≤ 2 by decide)) (Cal.mono C_p_is_ratio (show 2 ≤ 2 by decide))
    have C_p_is_point := c_is_point (P := l.prog) (w := w) (base := base) P2 T (C.point.df X G B2) (Cal.mono C_p_is_tuple_of (show 1 ≤ 2 by decide)) (Cal.mono C_p_is_ratio (show 2 ≤ 2 by decide))
    have C_p_row_less := c_row_less (P := l.prog) (w := w) (base := base) T (F.d_row_less.df X G) (Cal.mono C_p_ratio_less (show 3 ≤ 3 by decide))
    have C_p_length_product := c_length_product (P := l.prog) (w := w) (base := base) T (F.d_length_product.df X G) (Cal.mono C_p_ratio_times (show 2 ≤ 3 by decide)) (Cal.mono C_p_ratio_sum (show 3 ≤ 3 by decide))
    have C_p_cross_row := c_cross_row (P := l.prog) (w := w) (base := base) (F.d_cross_row.df X G) (Cal.mono C_p_ratio_times (show 2 ≤ 3 by decide)) (Cal.mono C_p_ratio_less (show 3 ≤ 3 by decide))
    have C_p_check_point := c_check_point (P := l.prog) (w := w) (base := base) (F.d_check_point.df X G) (Cal.mono C_p_is_point (show 6 ≤ 6 by decide))
    have C_p_turn := c_turn (P := l.prog) (w := w) (base := base) (F.d_turn.df X G) (Cal.mono C_p_is_flat_point (show 6 ≤ 6 by decide)) (Cal.mono C_p_row_less (show 4 ≤ 6 by decide)) (Cal.mono C_p_ratio_times (show 2 ≤ 6 by decide)) (Cal.mono C_p_ratio_less (show 3 ≤ 6 by decide)) (Cal.mono C_p_ratio_sign (show 1 ≤ 6 by decide))
    have C_p_whole_plane := c_whole_plane (P := l.prog) (w := w) (base := base) T (PySem.W.mg_of X G N.n_lcm) (F.d_whole_plane.df X G)
    have C_p_plane_through := c_plane_through (P := l.prog) (w := w) (base := base) (F.d_plane_through.df X G) (Cal.mono C_p_check_point (show 7 ≤ 7 by decide)) (Cal.mono C_p_row_less (show 4 ≤ 7 by decide)) (Cal.mono C_p_cross_row (show 4 ≤ 7 by decide)) (Cal.mono C_p_length_product (show 4 ≤ 7 by decide)) (Cal.mono C_p_whole_plane (show 1 ≤ 7 by decide))
    have C_law_gcd := c_law_gcd (P := l.prog) (w := w) (base := base) U2 (F.d_law_gcd.df X G)
    have C_law_draw := c_law_draw (P := l.prog) (w := w) (base := base) T U2 (F.d_law_draw.df X G)
    have C_law_pot := c_law_pot (P := l.prog) (w := w) (base := base) T U2 (F.d_law_pot.df X G)
    have C_law_ratio := c_law_ratio (P := l.prog) (w := w) (base := base) (F.d_law_ratio.df X G) (Cal.mono C_law_gcd (show 1 ≤ 1 by decide))
    have C_law_plus := c_law_plus (P := l.prog) (w := w) (base := base) (F.d_law_plus.df X G) (Cal.mono C_law_ratio (show 2 ≤ 2 by decide))
    have C_law_less := c_law_less (P := l.prog) (w := w) (base := base) (F.d_law_less.df X G) (Cal.mono C_law_ratio (show 2 ≤ 2 by decide))
    have C_law_by := c_law_by (P := l.prog) (w := w) (base := base) (F.d_law_by.df X G) (Cal.mono C_law_ratio (show 2 ≤ 2 by decide))
    have C_law_drawn := c_law_drawn (P := l.prog) (w := w) (base := base) (F.d_law_drawn.df X G) (Cal.mono C_law_draw (show 1 ≤ 2 by decide)) (Cal.mono C_law_ratio (show 2 ≤ 2 by decide))
    have C_law_sign := c_law_sign (P := l.prog) (w := w) (base := base) (F.d_law_sign.df X G)
    have C_law_flat := c_law_flat (P := l.prog) (w := w) (base := base) (F.d_law_flat.df X G) (Cal.mono C_law_drawn (show 3 ≤ 3 by decide))
    have C_law_due := c_law_due (P := l.prog) (w := w) (base := base) T (F.d_law_due.df X G) (Cal.mono C_law_by (show 3 ≤ 3 by decide)) (Cal.mono C_law_less (show 3 ≤ 3 by decide)) (Cal.mono C_law_sign (show 1 ≤ 3 by decide))
    have C_law_mean := c_law_mean (P := l.prog) (w := w) (base := base) T (F.d_law_mean.df X G) (Cal.mono C_law_plus (show 3 ≤ 3 by decide)) (Cal.mono C_law_by (show 3 ≤ 3 by decide)) (Cal.mono C_law_less (show 3 ≤ 3 by decide))
    have C_law_led := c_law_led (P := l.prog) (w := w) (base := base) (F.d_law_led.df X G) (Cal.mono C_law_plus (show 3 ≤ 3 by decide)) (Cal.mono C_law_by (show 3 ≤ 3 by decide))
    have C_law_led_right := c_law_led_right (P := l.prog) (w := w) (base := base) U2 (F.d_law_led_right.df X G) (Cal.mono C_law_flat (show 4 ≤ 7 by decide)) (Cal.mono C_law_drawn (show 3 ≤ 7 by decide)) (Cal.mono C_law_by (show 3 ≤ 7 by decide)) (Cal.mono C_law_less (show 3 ≤ 7 by decide)) (Cal.mono C_law_sign (show 1 ≤ 7 by decide)) (Cal.mono C_law_led (show 4 ≤ 7 by decide)) (Cal.mono C_p_turn (show 7 ≤ 7 by decide))
    have C_law_space_right := c_law_space_right (P := l.prog) (w := w) (base := base) (F.d_law_space_right.df X G) (Cal.mono C_law_flat (show 4 ≤ 8 by decide)) (Cal.mono C_law_drawn (show 3 ≤ 8 by decide)) (Cal.mono C_law_by (show 3 ≤ 8 by decide)) (Cal.mono C_law_plus (show 3 ≤ 8 by decide)) (Cal.mono C_law_sign (show 1 ≤ 8 by decide)) (Cal.mono C_p_plane_through (show 8 ≤ 8 by decide))
    have C_names := turn_names (F.d_turn.df X G) (Cal.mono C_p_turn (show 7 ≤ 9 by decide))
    have C_right := c_law_right U2 (F.d_law_right.df X G) (Cal.mono C_law_flat (show 4 ≤ 9 by decide)) (Cal.mono C_law_draw (show 1 ≤ 9 by decide)) (Cal.mono C_law_drawn (show 3 ≤ 9 by decide)) (Cal.mono C_law_mean (show 4 ≤ 9 by decide)) (Cal.mono C_law_due (show 4 ≤ 9 by decide)) (Cal.mono C_p_turn (show 7 ≤ 9 by decide)) C_names (Cal.mono C_p_is_flat_point (show 6 ≤ 9 by decide)) (Cal.mono C_law_led_right (show 8 ≤ 9 by decide)) (Cal.mono C_law_space_right (show 9 ≤ 9 by decide))
    exact ok_law FL (Cal.mono C_law_pot (show 1 ≤ 10 by decide)) C_right
end KD

/-! Fin14 -/
set_option Elab.async false
set_option linter.all false
set_option maxRecDepth 100000
open PySem PySem.W PyProof.Rows
set_option maxHeartbeats 0 in
theorem PySem.Challenge.cw_websolids_k14_whole_turning_holds : PySem.Challenge.rw_websolids_k14_whole_turning.Holds := by
  w_on; o_law; k_head; (case hw => w_witness2)
  k_fill
  refine KD.end_walk (l := PySem.Challenge.rw_websolids_k14_whole_turning) (n := 63) (k := 11) (x := "_law_script") ["is_flat_point", "is_point"] rfl (by decide) rfl ⟨rfl, by decide, by decide⟩ ?hrec (fun w h Y => PySem.W.kIn_of Y) ?F
  case hrec =>
    intro y hy
    cases hy with
    | head => first | rfl | decide +kernel
    | tail _ hy =>
      cases hy with
      | head => first | rfl | decide +kernel
      | tail _ hy => cases hy
  case F =>
    intro w mg fa h Y KX G hmg emp
    refine' KD.all_law KX G hmg ?tx ?tc ?tn emp
    case tx =>
      constructor
      all_goals
        refine' KD.fd_mk ?a ?l ?c ?k
        (case a => k_is); (case l => k_is); (case c => k_is); (case k => k_is)
    case tc =>
      constructor
      all_goals
        refine' KD.fdc_mk ?a ?l ?c ?k ?l2 ?v ?n
        (case a => k_is); (case l => k_is); (case c => k_is); (case k => k_is); (case l2 => k_is); (case v => rfl); (case n => first | rfl | kernel_rfl)
    case tn =>
      constructor
      all_goals k_is
