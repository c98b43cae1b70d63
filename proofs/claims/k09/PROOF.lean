import PyProof.Rows.All
import Wide.All
import OpenK.AllK
import Wide.FinOn
import HandS.ForMost
import HandS.AnyAll
import HandS.GenList
import HandS.EndTab
import PyProof.TupleOfGen
import HandS.TupAny
import HandS.TupMul
import HandS.Evl
import HandS.IsInst
import HandS.Style
import HandS.Zip
import HandS.Codes
import HandS.Deep
import HandS.More
import HandS.Wide
import HandS.EndOwn
import HandS.Strs
import KE.DataMinMax
import OpenK.KEqL
import HandS.SortKw
import HandS.TryOnly
import KE.KRevSl
import PySem.Challenge.RW_fewestrules_k09_forms_of_rules
set_option Elab.async false
set_option linter.all false
set_option maxRecDepth 100000
set_option maxHeartbeats 2000000
namespace Gx
open PySem PySem.Spec PyProof.Rows L2 GenW
open GxR (TabB TabG Tabbed)

/-- the context of a generator expression's own frame -/
abbrev gcx (X : Cx) (s : Shared) (H : Hp) (cenv : Env) (A : Around) (fp : List Addr) (pn : List (Addr × Obj)) : Cx :=
  { X with A := A.deeper cenv, s_0 := s, H_0 := H, env := cenv, outer := X.stack, stack := cenv :: X.stack, ex := fp, fn := fun _ => false, calm := true, pn := pn, xe := fun _ _ => False }
abbrev genv (X : Cx) (scope : Scope) (C : Addr) (code : Value) : Env := genEnv scope (cloFrom X.env.cells scope.names []) C code builtinsNs X.env

section
variable {X : Cx} {pins : List (Addr × Obj)} {σ : L2.St} {H : Hp} {s : Shared}
theorem gx_start {scope : Scope} {own : List (Str × Nat)} {fp : List Addr} {A : Around} {code : Value} {a : Addr} {go : Obj} {s5 : Shared} {m0 : Str → Option Value} (I : Inv X pins σ H s) (ok : BlkOk X.N X.env.scope scope own) (hnc : ∀ y ∈ scope.names, y.2 ≠ .cell) (hN : X.N.Nodup)
    (hfp : ∀ b ∈ fp, FpOk X pins H b ∧ b < s.heap.objs.size) (hA : A.handled = none) (hfr : A.frames = some X.stack) (hos : s5.os = s.os) (hba : AllBare s5.gens) (hk : ∀ b o, s.heap.get? b = some o → s5.heap.get? b = some o) (hns : s5.heap.Ns s.heap.objs.size m0)
    (ha : s5.heap.get? a = some go) (haC : s.heap.objs.size < a) (hgo : ∀ v, go.data ≠ .cell v) :
    Inv (gcx X s H (genv X scope s.heap.objs.size code) A fp [(a, go)]) [] (wipe σ (own.map (·.2))) H s5 := by
  have hfree : ∀ y ∈ scope.names, y.2 = .free → ∃ c, X.env.cells.lookup y.1 = some c := fun y hy e => by
    rcases ok.free y hy e with k | k
    · exact I.ok.has _ (.inl k)
    · exact I.ok.has _ (.inr k)
  have cm : ∀ {y c}, (y, c) ∈ cloFrom X.env.cells scope.names [] → X.env.cells.lookup y = some c ∧ c < s.heap.objs.size := fun {y c} hm => by
    rcases cloFrom_mem hm with hm | ⟨h1, rfl⟩
    · cases hm
    · obtain ⟨c, hc⟩ := hfree _ h1 rfl
      rw [hc]
      obtain ⟨w, z⟩ := I.cell _ _ hc
      exact ⟨rfl, z.lt⟩
  have mem : ∀ {y c}, (genv X scope s.heap.objs.size code).cells.lookup y = some c → X.env.cells.lookup y = some c ∧ c < s.heap.objs.size := fun {y c} e => cm (PySem.mem_of_lookup e)
  have look : ∀ {y}, scope.names.lookup y = some .free → ∃ c, (genv X scope s.heap.objs.size code).cells.lookup y = some c ∧ X.env.cells.lookup y = some c := fun {y} hl => by
    have hy : (y, NameKind.free) ∈ scope.names := PySem.mem_of_lookup hl
    obtain ⟨c', e'⟩ := mem_lookup (cloFrom_has (cells := X.env.cells) (acc := []) hy)
    exact ⟨c', e', (cm (PySem.mem_of_lookup e')).1⟩
  have okB : (gcx X s H (genv X scope s.heap.objs.size code) A fp [(a, go)]).Ok := by
    refine ⟨I.ok.mod, ok.kind, I.ok.glob, rfl, Nat.le_refl _, fun y z c e1 e2 => I.ok.inj y z c (mem e1).1 (mem e2).1, fun y hy => ?_, fun y c z e => ?_, fun _ => hA, Around.frames_deeper hfr, .inr ⟨rfl, rfl⟩,
      fun b hb => ⟨Nat.ne_of_lt (hfp b hb).2, fun y c e z => (hfp b hb).1.2.2.2.2.1 y c (mem e).1 z⟩, I.bs, Nat.le_trans I.ok.bsz I.sz, fun b o e hb => ?_, fun b hb z => ?_, I.stack, I.stkFree⟩
    · have hy : scope.names.lookup y = some .cell ∨ scope.names.lookup y = some .free := hy
      rcases hy with hy | hy
      · exact absurd rfl (hnc _ (PySem.mem_of_lookup hy))
      · obtain ⟨c, h1, _⟩ := look hy
        exact ⟨c, h1⟩
    · have z : false = true := z
      cases z
    · rcases (hfp b hb).1.2.2.2.1 with z | z
      · exact I.ok.noex b o e z
      · exact absurd (Nat.lt_of_lt_of_le (Heap.lt_size e) (Nat.le_trans I.ok.bsz z)) (Nat.lt_irrefl _)
    · rcases List.mem_cons.mp (I.stkSub b z) with z | z
      · exact (hfp b hb).1.2.1 z
      · exact (hfp b hb).1.2.2.1 z
  refine ⟨okB, hos, hba, Un.kept hk, ⟨m0, hns, fun i y av e1 e2 e3 => ?_⟩, fun y c e => ?_, I.hok.fresh (Nat.le_refl _), fun y c e => I.freeC y c (mem e).1, fun p hp => ?_, I.hok.kept hk, by rw [wipe_length]; exact I.len⟩
  · obtain ⟨e2, hne⟩ := wipe_some e2
    have hfr : scope.names.lookup y = some .free := by
      have no : ∀ k, scope.names.lookup y = some k → ¬ (k = .local ∨ k = .cell) := fun k hk hh => by
        rcases ok.own _ (PySem.mem_of_lookup hk) hh with e' | e'
        · obtain ⟨p, hp, hpy⟩ := List.mem_map.mp e'
          have e3 := ok.ix p hp
          have hpy : p.1 = y := hpy
          rw [hpy] at e3
          exact hne (List.mem_map.mpr ⟨p, hp, nodup_ix hN e3 e1⟩)
        · exact e' (List.mem_of_getElem? e1)
      have e3 : Vis scope y := e3
      rcases e3 with e3 | e3 | e3
      · exact absurd (.inl rfl) (no _ e3)
      · exact absurd (.inr rfl) (no _ e3)
      · exact e3
    obtain ⟨m, hn, hl⟩ := I.loc
    have hvis : Vis X.env.scope y := (ok.free _ (PySem.mem_of_lookup hfr) rfl).elim (fun k => .inr (.inl k)) (fun k => .inr (.inr k))
    obtain ⟨w, r, q⟩ := hl i y av e1 e2 hvis
    refine ⟨w, r, .inr ⟨.inr hfr, ?_⟩⟩
    obtain ⟨c, h1, h2⟩ := look hfr
    rcases q with ⟨k, _⟩ | ⟨_, c', e', z⟩
    · have k : X.env.scope.names.lookup y = some .local := k
      rcases ok.free _ (PySem.mem_of_lookup hfr) rfl with k' | k' <;> rw [show X.env.scope.names.lookup y = _ from k'] at k <;> cases k
    · rw [h2] at e'; cases e'
      exact ⟨c, h1, z.keeps hk⟩
  · obtain ⟨h1, _⟩ := mem e
    obtain ⟨w, z⟩ := I.cell y c h1
    exact ⟨w, z.keeps hk⟩
  · have hp : p ∈ [(a, go)] ++ [] := hp
    rw [List.append_nil] at hp
    rw [List.mem_singleton.mp hp]
    refine ⟨ha, I.hok.fresh (Nat.le_of_lt haC), Nat.ne_of_gt haC, fun z => ?_, hgo⟩
    have h1 := I.stkSub a z
    rcases List.mem_cons.mp h1 with e | e
    · have h2 := I.lt
      rw [← e] at h2
      exact Nat.lt_irrefl _ (Nat.lt_trans h2 haC)
    · exact I.nofs (Nat.le_of_lt haC) e

/-- asleep: the consumer may change its own objects (pl), all else is kept -/
structure Wake (pl pl' : List (Addr × Obj)) (s s' : Shared) : Prop where
  os : s'.os = s.os
  bare : AllBare s'.gens
  keep : ∀ b o, b ∉ pl.map (·.1) → s.heap.get? b = some o → s'.heap.get? b = some o
  same : pl'.map (·.1) = pl.map (·.1)
  pin : ∀ p ∈ pl', s'.heap.get? p.1 = some p.2 ∧ ∀ v, p.2.data ≠ .cell v
theorem Inv.wake {pl pl' : List (Addr × Obj)} {s' : Shared} (I : Inv X pl σ H s) (hpl : ∀ b ∈ pl.map (·.1), X.s_0.heap.objs.size ≤ b ∧ b ≠ X.env.locals ∧ (∀ x c, X.env.cells.lookup x = some c → c ≠ b) ∧ ∀ p ∈ X.pn, p.1 ≠ b) (z : Wake pl pl' s s') : Inv X pl' σ H s' := by
  have I0 : Inv X [] σ H s := I.pins_of fun p hp => by simp at hp
  have hz : ∀ b ∈ pl.map (·.1), H b = none ∧ b ∉ X.fs := fun b hb => by
    obtain ⟨p, hp, e⟩ := List.mem_map.mp hb
    obtain ⟨_, h2, _, h4, _⟩ := I.pin p (List.mem_append_right _ hp)
    rw [← e]
    exact ⟨h2, h4⟩
  have nt : ∀ b u, H b = some u → b ∉ pl.map (·.1) := fun b u q hb => by
    rw [(hz b hb).1] at q
    cases q
  obtain ⟨z1, z2, z3, z4, z5⟩ := z
  obtain ⟨hh, g, d, t, o⟩ := s'
  have ho : o = s.os := z1
  subst ho
  have thr : ∀ b ∈ pl.map (·.1), ∃ ob, hh.get? b = some ob := fun b hb => by
    rw [← z4] at hb
    obtain ⟨p, hp, e⟩ := List.mem_map.mp hb
    rw [← e]
    exact ⟨_, (z5 p hp).1⟩
  have J : Inv X [] σ H { s with heap := hh, gens := g, drawn := d, toks := t } := by
    refine I0.step (g' := g) (t' := t) (d' := d) (ch := pl.map (·.1)) (fun b hb => ?_)
      (fun b ob _ _ hc q _ => z3 b ob hc q) (fun b ob _ _ hc q _ => ⟨ob.slots, z3 b ob hc q⟩) (fun _ _ _ _ n => n) (fun b ob hc q => ⟨ob, z3 b ob hc q⟩)
      (fun _ _ q => q) (fun _ _ _ q => q) (fun b ps q => ⟨#[], by rw [q]; simp⟩) (fun m hm => ?_) (fun b u q => ?_) z2
    · obtain ⟨q1, q2, q3, q4⟩ := hpl b hb
      refine ⟨.inr q1, q2, q3, fun p hp => ?_⟩
      rw [List.append_nil] at hp
      exact q4 p hp
    · obtain ⟨ob, es, ep, ho, r⟩ := hm
      exact ⟨ob, es, ep, z3 _ ob (fun q => (hpl _ q).2.1 rfl) ho, r⟩
    · refine (I0.hok b u q).stay (fun c v hc y => z3 c v ?_ y) (fun _ y => y) fun _ _ y => y
      rcases hc with y | y
      · rw [y]; exact nt b u q
      · exact nt c _ y
  refine J.pins_of fun p hp => ?_
  have hb : p.1 ∈ pl.map (·.1) := by
    rw [← z4]
    exact List.mem_map.mpr ⟨p, hp, rfl⟩
  exact ⟨(z5 p hp).1, (hz p.1 hb).1, (hpl p.1 hb).2.1, (hz p.1 hb).2, (z5 p hp).2⟩
end
end Gx

namespace Gx
open PySem PySem.Spec PyProof.Rows L2 GenW
open GxR (TabB TabG Tabbed)

abbrev Cons := List V → List (Addr × Obj) → Prop
/-- one turn of the walk: ys is what has been handed out -/
def Step (J : It) (g : TG) (tt : TT) (te : TE) (vs : List Nat) (σ0 : L2.St) (W : Nat → Nat → List V → Hp → Prop) (Fin : List V → Hp → Prop) (Yd : List V → V → Hp → Prop → Prop) : Prop :=
  ∀ i m ys H, W i m ys H → (J.stop i H ∧ Fin ys H) ∨ (J.go i H ∧ ∃ Nx : List V → Hp → Prop, (∀ ys' H', Nx ys' H' → ∃ m', m' < m ∧ W (i + 1) m' ys' H') ∧ ∀ x H', J.yld i H x H' → g x σ0 H' fun σ2 H2 => wipe σ2 vs = σ0 ∧ tt σ2 H2 fun b H3 =>
    if b = true then te σ2 H3 fun y H4 => Yd ys y H4 (Nx (ys ++ [y]) H4) else Nx ys H3)
/-- the generator's end -/
def GEndR (X' : Cx) (Cs : Cons) (Fin : List V → Hp → Prop) : GenEnd := fun _ _ r s1 => r = .ok .next ∧ ∃ ys H' σ' pl, Cs ys pl ∧ Inv X' pl σ' H' s1 ∧ Fin ys H'
/-- an item is handed out -/
def GItem (X' : Cx) (Cs : Cons) (Yd : List V → V → Hp → Prop → Prop) : Protocol := fun _ _ v s1 kap =>
  ∃ ys y H σ' pl N, Cs ys pl ∧ RelV y v ∧ Inv X' pl σ' H s1 ∧ Yd ys y H N ∧ (N → ∀ s' pl', Cs (ys ++ [y]) pl' → Wake pl pl' s1 s' → kap (.send .none) s')

section
variable {X : Cx} {s4 : Shared} {H4 : Hp} {cenv : Env} {A : Around} {fp : List Addr} {a : Addr} {go : Obj} {it : Addr} {J : It} {tn : Nat → Heap → Prop} {elt tg iter : Expr} {ifs : List Expr} {scope : Scope} {pos : Pos} {g : TG} {tt : TT} {te : TE}
  {vs : List Nat} {σ : L2.St} {W : Nat → Nat → List V → Hp → Prop} {Fin : List V → Hp → Prop} {Yd : List V → V → Hp → Prop → Prop} {Cs : Cons} {lim : Nat}
theorem over_gx {c : Code} (hc : c = .compLoop (.GeneratorExp elt [⟨tg, iter, ifs, 0⟩] scope pos) 0 (.ref it) .none cenv ∨ c = .compStart (.GeneratorExp elt [⟨tg, iter, ifs, 0⟩] scope pos) 0 (.ref it) .none cenv) : A.over c [] = A.deeper cenv := by
  rcases hc with rfl | rfl
  all_goals
    first
      | rfl
      | (obtain ⟨hd, d, fr, gs, u⟩ := A; simp [Around.over, Around.deeper, marksOver, frameCount, unitsOf, envsOf, guardsOf, pushEnvs, pushGuards, Code.envs, Code.env?, Code.isFrame, Code.guards, Code.isGuard, Code.weight, Code.frames, Code.isCreation, Code.isCaller, Code.cUnits])

theorem gx_loop (T : Turn X.prog X.w X.K tg J fp it tn) (pg : PG (gcx X s4 H4 cenv A fp [(a, go)]) tg g) (pt : PTs (gcx X s4 H4 cenv A fp [(a, go)]) ifs tt) (pe : PE (gcx X s4 H4 cenv A fp [(a, go)]) elt te) (hA : A.handled = none)
    (hlim : s4.heap.objs.size ≤ lim) (hal : a < lim) (hC : cenv.locals < lim) (hcl : ∀ x c, cenv.cells.lookup x = some c → c < lim) (hfpl : ∀ b ∈ fp, b < lim) (hfpa : a ∉ fp) (hco : cenv.scope.isCoroutine = false) (hCs : ∀ ys pl, Cs ys pl → ∀ b ∈ pl.map (·.1), lim ≤ b)
    (step : Step J g tt te vs (wipe σ vs) W Fin Yd) :
    ∀ (m n i : Nat) (ys : List V) (s₀ s : Shared) (H : Hp) (pl : List (Addr × Obj)), m < n → W i m ys H → Cs ys pl → Inv (gcx X s4 H4 cenv A fp [(a, go)]) pl (wipe σ vs) H s → tn i s.heap → (∀ b ∈ fp, H b = none) →
      Seg (model X.prog X.w) A (GEndR (gcx X s4 H4 cenv A fp [(a, go)]) Cs Fin) (GItem (gcx X s4 H4 cenv A fp [(a, go)]) Cs Yd) n s₀
        (.compLoop (.GeneratorExp elt [⟨tg, iter, ifs, 0⟩] scope pos) 0 (.ref it) .none cenv)
        ((model X.prog X.w).den (.compLoop (.GeneratorExp elt [⟨tg, iter, ifs, 0⟩] scope pos) 0 (.ref it) .none cenv)) [] s := by
  have hover : A.over (.compLoop (.GeneratorExp elt [⟨tg, iter, ifs, 0⟩] scope pos) 0 (.ref it) .none cenv) [] = A.deeper cenv := over_gx (.inl rfl)
  have plk : ∀ {ys pl}, Cs ys pl → ∀ b ∈ pl.map (·.1), s4.heap.objs.size ≤ b ∧ b ≠ cenv.locals ∧ (∀ x c, cenv.cells.lookup x = some c → c ≠ b) ∧ ∀ p ∈ [(a, go)], p.1 ≠ b := fun {ys pl} hc b hb => by
    have h1 : lim ≤ b := hCs ys pl hc b hb
    refine ⟨Nat.le_trans hlim h1, Nat.ne_of_gt (Nat.lt_of_lt_of_le hC h1), fun x c e => Nat.ne_of_lt (Nat.lt_of_lt_of_le (hcl x c e) h1), fun p hp => ?_⟩
    rw [List.mem_singleton.mp hp]
    exact Nat.ne_of_lt (Nat.lt_of_lt_of_le hal h1)
  have stat : ∀ {ys pl σ' H' s'}, Cs ys pl → Inv (gcx X s4 H4 cenv A fp [(a, go)]) pl σ' H' s' → (∀ b ∈ fp, H' b = none) → ∀ b ∈ fp, FpOk (gcx X s4 H4 cenv A fp [(a, go)]) pl H' b := fun {ys pl σ' H' s'} hc I hn b hb => by
    refine ⟨hn b hb, (I.ok.exf b hb).1, I.ok.exfs b hb, .inl hb, fun x c e => (I.ok.exf b hb).2 x c e, fun p hp => ?_⟩
    rcases List.mem_append.mp hp with hp | hp
    · have hp : p ∈ [(a, go)] := hp
      rw [List.mem_singleton.mp hp]
      exact fun z => hfpa (by rw [show a = b from z]; exact hb)
    · have h1 := hCs ys pl hc p.1 (List.mem_map.mpr ⟨p, hp, rfl⟩)
      exact Nat.ne_of_gt (Nat.lt_of_lt_of_le (hfpl b hb) h1)
  intro m
  induction m using Nat.strongRecOn with
  | ind m ih =>
    intro n i ys s₀ s H pl hmn w hc I st hnf
    show Seg _ A _ _ _ s₀ _ ((compTurn (.GeneratorExp elt [⟨tg, iter, ifs, 0⟩] scope pos) 0 (.ref it) .none cenv).onRaise (leaving cenv)) [] s
    rw [compTurn_gen, Sem.onRaise_eq_wrap]
    refine seg_bind_wrap (wpAny_standAt ?_)
    rcases step i m ys H w with ⟨stop, fin⟩ | ⟨go', Nx, hNx, turn⟩
    · refine seg_bind_wrap ?_
      rw [hover]
      refine wpAny_mono (T.done (gcx X s4 H4 cenv A fp [(a, go)]) rfl rfl rfl rfl i pl s _ H (fun _ _ => False) I (stat hc I hnf) st stop) (fun r s6 ⟨hr, I6⟩ => ?_) fun _ _ z => z.elim
      subst hr
      exact seg_end (.ok .next) ⟨rfl, ys, H, _, pl, hc, I6, fin⟩
    · refine seg_bind_wrap ?_
      rw [hover]
      refine wpAny_mono (T.item (gcx X s4 H4 cenv A fp [(a, go)]) rfl rfl rfl rfl i pl s _ H (fun _ _ => False) I (stat hc I hnf) st go') (fun r s6 ⟨u, hr, h6⟩ => ?_) fun _ _ z => z.elim
      subst hr
      refine seg_bind_wrap ?_
      rw [hover]
      refine wpAny_mono h6 (fun _ s7 ⟨x, H7, I7, r7, y7, st7, n7⟩ => ?_) fun _ _ z => z.elim
      have I7' := I7.pinned (stat hc I7 n7) (T.obj _ _ st7)
      refine seg_bind_wrap ?_
      rw [hover]
      refine wpAny_mono (pg.run _ s7 _ H7 x u _ I7' r7 (turn x H7 y7)) (fun _ s8 ⟨σ8, H8, I8, hw8, q8⟩ => ?_) fun _ _ (z : False) => z.elim
      refine seg_bind_wrap ?_
      rw [hover]
      refine wpAny_mono (pt.run _ s8 σ8 H8 _ I8 q8) (fun b s9 ⟨H9, I9, q9⟩ => ?_) fun _ _ (z : False) => z.elim
      have pin' : ∀ {s' : Shared} {H' : Hp} {σ' : L2.St}, Inv (gcx X s4 H4 cenv A fp [(a, go)]) (pl ++ pinsAt fp s7.heap) σ' H' s' → ∀ b ∈ fp, ∀ o, s7.heap.get? b = some o → s'.heap.get? b = some o ∧ H' b = none := fun {s' H' σ'} I' b hb o e =>
        let z := I'.pin (b, o) (List.mem_append_right _ (List.mem_append_right _ (mem_pinsAt hb e)))
        ⟨z.1, z.2.1⟩
      have nfp' : ∀ {s' : Shared} {H' : Hp} {σ' : L2.St}, Inv (gcx X s4 H4 cenv A fp [(a, go)]) (pl ++ pinsAt fp s7.heap) σ' H' s' → ∀ b ∈ fp, H' b = none := fun {s' H' σ'} I' b hb => by
        obtain ⟨o, e, _⟩ := T.obj _ _ st7 b hb
        exact (pin' I' b hb o e).2
      have hl : (wipe σ vs).length = σ8.length := by rw [← hw8, wipe_length]
      have weak : ∀ {s' : Shared} {H' : Hp} {pl' : List (Addr × Obj)}, Inv (gcx X s4 H4 cenv A fp [(a, go)]) pl' σ8 H' s' → Inv (gcx X s4 H4 cenv A fp [(a, go)]) pl' (wipe σ vs) H' s' := fun {s' H' pl'} I' => I'.weak hl fun j v e => by
        rw [← hw8] at e
        exact (wipe_some e).1
      cases b with
      | false =>
        simp only [Bool.false_eq_true, if_false] at q9 ⊢
        obtain ⟨m', hm, w'⟩ := hNx ys H9 q9
        exact seg_again rfl (ih m' hm n (i + 1) ys s₀ s9 H9 pl (by omega) w' hc (weak I9.unpinned) (T.keep _ _ _ st7 fun b hb o e => (pin' I9 b hb o e).1) (nfp' I9))
      | true =>
        simp only [if_true] at q9 ⊢
        obtain ⟨n, rfl⟩ : ∃ n', n = n' + 1 := ⟨n - 1, by omega⟩
        have hy : ∀ v, yieldOut cenv v = yieldValue v := fun v => by simp only [yieldOut, hco, Bool.false_eq_true, if_false]
        simp only [hy]
        rw [Sem.bind_eq_wrap', Sem.bind_eq_wrap', Sem.wrap_wrap, Sem.wrap_wrap]
        refine seg_wrap ?_
        rw [hover]
        refine wpAny_mono (pe.run _ s9 σ8 H9 _ I9 q9) (fun z s10 ⟨yv, H10, I10, r10, q10⟩ => ?_) fun _ _ (z : False) => z.elim
        refine seg_at (seg_yield rfl rfl rfl ?_)
        refine ⟨ys, yv, H10, σ8, pl, _, hc, r10, I10.unpinned, q10, fun nx s'' pl' hc' hwk => ?_⟩
        obtain ⟨m', hm, w'⟩ := hNx (ys ++ [yv]) H10 nx
        have I11 := Inv.wake I10.unpinned (plk hc) hwk
        refine seg_again rfl (ih m' hm n (i + 1) (ys ++ [yv]) s'' s'' H10 pl' (by omega) w' hc' (weak I11) (T.keep _ _ _ st7 fun b hb o e => hwk.keep b o (fun z => ?_) (pin' I10 b hb o e).1) (nfp' I10))
        exact absurd (Nat.lt_of_lt_of_le (hfpl b hb) (hCs ys pl hc b z)) (Nat.lt_irrefl _)

theorem gx_startSeg (T : Turn X.prog X.w X.K tg J fp it tn) (pg : PG (gcx X s4 H4 cenv A fp [(a, go)]) tg g) (pt : PTs (gcx X s4 H4 cenv A fp [(a, go)]) ifs tt) (pe : PE (gcx X s4 H4 cenv A fp [(a, go)]) elt te) (hA : A.handled = none)
    (hlim : s4.heap.objs.size ≤ lim) (hal : a < lim) (hC : cenv.locals < lim) (hcl : ∀ x c, cenv.cells.lookup x = some c → c < lim) (hfpl : ∀ b ∈ fp, b < lim) (hfpa : a ∉ fp) (hco : cenv.scope.isCoroutine = false) (hCs : ∀ ys pl, Cs ys pl → ∀ b ∈ pl.map (·.1), lim ≤ b)
    (step : Step J g tt te vs (wipe σ vs) W Fin Yd) {m n : Nat} {s₀ s : Shared} {H : Hp} {pl : List (Addr × Obj)} (hmn : m < n) (w : W 0 m [] H) (hc : Cs [] pl) (I : Inv (gcx X s4 H4 cenv A fp [(a, go)]) pl (wipe σ vs) H s) (st : tn 0 s.heap) (hnf : ∀ b ∈ fp, H b = none) :
      Seg (model X.prog X.w) A (GEndR (gcx X s4 H4 cenv A fp [(a, go)]) Cs Fin) (GItem (gcx X s4 H4 cenv A fp [(a, go)]) Cs Yd) n s₀
        (.compStart (.GeneratorExp elt [⟨tg, iter, ifs, 0⟩] scope pos) 0 (.ref it) .none cenv)
        ((model X.prog X.w).den (.compStart (.GeneratorExp elt [⟨tg, iter, ifs, 0⟩] scope pos) 0 (.ref it) .none cenv)) [] s := by
  have loop := gx_loop (iter := iter) (scope := scope) (pos := pos) T pg pt pe hA hlim hal hC hcl hfpl hfpa hco hCs step m n 0 [] s₀ s H pl hmn w hc I st hnf
  show Seg _ A _ _ _ s₀ _ ((compStart (.GeneratorExp elt [⟨tg, iter, ifs, 0⟩] scope pos) 0 (.ref it) .none cenv).onRaise (leaving cenv)) [] s
  unfold compStart
  rw [Sem.onRaise_eq_wrap]
  show Seg _ A _ _ _ s₀ _ ((ask >>= _).wrap _ _ _ _) [] s
  refine seg_bind_wrap (wpAny_askSetting ?_)
  split
  · exact seg_again rfl loop
  · first
      | exact seg_bind_wrap (wpAny_rule (seg_bind_wrap (wpAny_standAt (seg_bind_wrap (T.self _ 0 s _ _ st (seg_again rfl loop))))))
      | (refine seg_bind_wrap (wpAny_rule ?_); show Seg _ A _ _ _ s₀ _ ((standAt iter.pos >>= _).wrap _ _ _ _) [] s; exact seg_bind_wrap (wpAny_standAt (seg_bind_wrap (T.self _ 0 s _ _ st (seg_again rfl loop)))))
end
end Gx

namespace Gx
open PySem PySem.Spec PyProof.Rows L2 GenW
open GxR (TabB TabG Tabbed)

section
variable {X : Cx} {pins : List (Addr × Obj)} {σ : L2.St} {H : Hp} {s : Shared}
theorem gx_back {s4 s1 s' : Shared} {H4 H' : Hp} {cenv : Env} {A : Around} {fp : List Addr} {pn pl : List (Addr × Obj)} {σ' : L2.St} (I4 : Inv X pins σ H4 s4) (hfp : ∀ b ∈ fp, FpOk X pins H4 b) (I' : Inv (gcx X s4 H4 cenv A fp pn) pl σ' H' s1) (hos : s'.os = s1.os) (hb : AllBare s'.gens)
    (hk : ∀ b o, s1.heap.get? b = some o → s'.heap.get? b = some o) : Inv X pins σ H' s' := by
  have u : Un (frs X.stack) fp H4 H' s4.heap s1.heap := I'.base
  refine I4.call' (ch := fp) (hos.trans I'.os) (u.trans (Un.kept hk)) (I'.hok.kept hk) hb fun b hb => ?_
  obtain ⟨_, h1, h2, h3, h4, h5⟩ := hfp b hb
  exact ⟨h3, h1, h4, h5⟩

/-- the generator expression is made: nothing of it has run -/
theorem gx_make {elt tg iter : Expr} {ifs : List Expr} {scope : Scope} {gpos : Pos} {own : List (Str × Nat)} {c P : Addr} {wi : TI} {Q : Value → Shared → Prop} {R : It → Hp → Prop} (hh : X.A.handled = none) (hroom : X.A.depth < recursionLimit) (TB : TabB X.base X.mg c P) (hcode : X.env.code = .ref c)
    (ok : BlkOk X.N X.env.scope scope own) (hnc : ∀ y ∈ scope.names, y.2 ≠ .cell) (hdot : scope.names.lookup (".0" : Str) = some NameKind.local) (hco : scope.isCoroutine = false) (hi : PI X tg iter wi) (hs : ∀ v, genFold iter X.env v = pure v) (I : Inv X pins σ H s)
    (h : wi σ H fun J H1 => TabG H1 P ∧ R J H1)
    (hQ : ∀ (J : It) (H1 H2 : Hp) (s4 s5 : Shared) (it : Addr) (fp : List Addr) (tn : Nat → Heap → Prop) (code : Value) (a : Addr) (go : Obj) (g : Nat), R J H1 → Tabbed P H1 H2 → Inv X pins σ H2 s4 → Turn X.prog X.w X.K tg J fp it tn → tn 0 s5.heap → (∀ b ∈ fp, FpOk X pins H2 b ∧ b < s4.heap.objs.size) →
      s5.os = s4.os → AllBare s5.gens → (∀ b o, s4.heap.get? b = some o → s5.heap.get? b = some o) → s5.heap.Ns s4.heap.objs.size (fun y => if y = ".0" then some (.ref it) else none) → s5.heap.get? a = some go → s4.heap.objs.size < a → a < s5.heap.objs.size → (∀ v, go.data ≠ .cell v) →
      (∀ h' : Heap, h'.get? a = some go → h'.IsGen a g) → s5.gens[g]? = some (.fresh (.compStart (.GeneratorExp elt [⟨tg, iter, ifs, 0⟩] scope gpos) 0 (.ref it) .none (genv X scope s4.heap.objs.size code))) → s5.heap.NoLimit → Q (.ref a) s5) :
    wpAny (model X.prog X.w) X.A (eval (.GeneratorExp elt [⟨tg, iter, ifs, 0⟩] scope gpos) X.env) Q X.xe s := by
  have hfree : ∀ y ∈ scope.names, y.2 = .free → ∃ c, X.env.cells.lookup y.1 = some c := fun y hy e => by
    rcases ok.free y hy e with k | k
    · exact I.ok.has _ (.inl k)
    · exact I.ok.has _ (.inr k)
  refine wpAny_GeneratorExp_make hco (closure_ok hfree) hnc hdot ok.kind hroom ?_ hs
  refine thn (hi.run pins s σ H _ I h) fun xv s1 h1 => thn h1 fun itv s2 h2 => ?_
  obtain ⟨it, fp, tn, J, H1, rfl, I2, T, st2, f2, ⟨ps, hP, ht⟩, r2⟩ := h2
  refine ⟨I2.nolimit, ?_⟩
  have hPs : s2.heap.get? P = some { cls := .none, data := .fields ps } := I2.hok P _ hP
  have cd : PySem.W.CodeHd s2.heap c P := TB.code.keeps I2.bk
  have cont : ∀ (code : Value) (h3 : Heap) (tk : Nat) (more : Array Value), Heap.ExtBut P s2.heap h3 → h3.get? P = some { cls := .none, data := .fields (ps ++ more) } → TriplesOk (ps ++ more).toList →
      wpAny (model X.prog X.w) X.A (builtinsFor X.env.globals X.env.builtins) (fun bi s₄ =>
        ∀ h', h'.Ns s₄.heap.objs.size (fun y => if y = ".0" then some (Value.ref it) else none) → Heap.SameBut s₄.heap.objs.size (s₄.heap.push { cls := .type "frame", data := .dict #[] }) h' →
          Q (.ref h'.objs.size) { s₄ with
            gens := s₄.gens.push (.fresh (.compStart (.GeneratorExp elt [⟨tg, iter, ifs, 0⟩] scope gpos) 0 (.ref it) .none (genEnv scope (cloFrom X.env.cells scope.names []) s₄.heap.objs.size code bi X.env))),
            toks := s₄.toks + 1 + 1 + 1,
            heap := h'.push { cls := .type "generator", data := .fields #[.int s₄.gens.size 0, .str "<genexpr>" (s₄.toks + 1), .str (X.env.qual ++ "<genexpr>") (s₄.toks + 1 + 1)] } }) X.xe { s2 with heap := h3, toks := tk } := by
    intro code h3 tk more hx hP3 ht3
    obtain ⟨bm, ob, e1, e2, e3, e4, e5, e6, e7, e8⟩ := TB.bm
    have keep3 : ∀ b u, b ≠ P → s2.heap.get? b = some u → h3.get? b = some u := fun b u hb e => hx b u hb e
    refine wpAny_builtinsFor (m := X.mg) (by rw [I2.ok.glob]; exact (I2.mod.glob.keeps I2.bk).extBut hx TB.gP) e1 e2 (keep3 _ _ e4 (I2.bk _ _ e5)) e6 e7 e8 ?_
    intro h' hn' hs'
    have hsz : h'.objs.size = h3.objs.size + 1 := by
      have := hs'.1
      rw [Heap.size_push] at this
      exact this
    have I3 : Inv X pins σ (upd H1 P (.tbl (ps ++ more))) { s2 with heap := h3, toks := tk } :=
      GxR.inv_tab (more := more) (h' := h3) (g' := s2.gens) (d' := s2.drawn) (t' := tk) I2 hP keep3 hP3 I2.bare
    have keep' : ∀ b o, h3.get? b = some o → h'.get? b = some o := fun b o e => hs'.extBut b o (Nat.ne_of_lt (Heap.lt_size e)) (Heap.get?_push_of_some _ e)
    generalize hgo : ({ cls := .type "generator", data := .fields #[.int s2.gens.size 0, .str "<genexpr>" (tk + 1), .str (X.env.qual ++ "<genexpr>") (tk + 1 + 1)] } : Obj) = go
    have keep5 : ∀ b o, h3.get? b = some o → (h'.push go).get? b = some o := fun b o e => Heap.get?_push_of_some _ (keep' b o e)
    have hlt : ∀ b ∈ fp, b < h3.objs.size := fun b hb => by
      obtain ⟨o, e, _⟩ := T.obj _ _ st2 b hb
      refine Heap.lt_size (keep3 b o (fun z => ?_) e)
      have := (f2 b hb).1
      rw [z, hP] at this
      cases this
    have fne : ∀ b ∈ fp, b ≠ P := fun b hb z => by
      have := (f2 b hb).1
      rw [z, hP] at this
      cases this
    refine hQ J H1 (upd H1 P (.tbl (ps ++ more))) { s2 with heap := h3, toks := tk } _ it fp tn code h'.objs.size go s2.gens.size r2 ⟨⟨ps ++ more, upd_same, ht3⟩, fun b hb => upd_ne hb⟩ I3 T
      (T.keep _ _ _ st2 fun b hb o e => keep5 b o (keep3 b o (fne b hb) e)) (fun b hb => ⟨⟨by rw [upd_ne (fne b hb)]; exact (f2 b hb).1, (f2 b hb).2⟩, hlt b hb⟩) rfl (AllBare.push I2.bare rfl) keep5 ?_ ?_ ?_ ?_ ?_ ?_ ?_ ?_
    · exact hn'.keeps fun b o e => Heap.get?_push_of_some _ e
    · rw [← hgo]
      exact Heap.get?_push_size _ rfl
    · show h3.objs.size < h'.objs.size
      omega
    · show _ < (h'.push _).objs.size
      rw [Heap.size_push]
      exact Nat.lt_succ_self _
    · rw [← hgo]
      intro v z
      cases z
    · intro hh e
      rw [← hgo] at e
      exact ⟨_, _, _, e, rfl, rfl, rfl⟩
    · exact Array.getElem?_push_size ..
    · exact I3.nolimit.keeps keep5
  cases hf : codeAmong gpos ps.toList with
  | none =>
    refine wpAny_genexprCodeX hcode (cd.code hPs ht) (cd.tab hPs) hf fun c' h' tk hx hge hlt hco' _ htab' _ => ?_
    obtain ⟨o1, vs, f1, tf, fl, tg', inF, tx, tt, op, _, _, _, _, _, _, _, _, _, htr, _⟩ := hco'
    exact cont _ h' tk _ hx htab'.2 htr
  | some cv =>
    refine wpAny_genexprCode_hit hcode (cd.code hPs ht) hf ?_
    have := cont cv s2.heap s2.toks #[] (Heap.ExtBut.refl _ _) (by simpa using hPs) (by simpa using ht)
    exact this

end
end Gx

namespace Gx
open PySem PySem.Spec PyProof.Rows L2 GenW
open GxR (TabB TabG Tabbed)

theorem boot_allG : bootBuiltins "all" = some (.builtin "all") := by decide +kernel
def Cs0 : Cons := fun _ pl => pl = []
/-- all: goes on at True, ends at False *) -/
def YdAll (Stop : Hp → Prop) : List V → V → Hp → Prop → Prop := fun _ y H N => ∃ k, y = .bl k ∧ if k = true then N else Stop H
def YdAny (Stop : Hp → Prop) : List V → V → Hp → Prop → Prop := fun _ y H N => ∃ k, y = .bl k ∧ if k = true then Stop H else N
section
variable {X : Cx} {pins : List (Addr × Obj)} {σ : L2.St} {H : Hp} {s : Shared}
variable {s4 : Shared} {H4 : Hp} {cenv : Env} {A : Around} {fp : List Addr} {a : Addr} {go : Obj} {g : Nat} {R' : Result → Shared → Prop} {Fin : List V → Hp → Prop} {Stop : Hp → Prop}
theorem wake0 {s1 : Shared} {x y : GenState} (hb : AllBare s1.gens) (hx : x.bare = true) (hy : y.bare = true) : Wake [] [] s1 ((s1.setGen g x).setGen g y) :=
  ⟨rfl, allBare_setGen (s := s1.setGen g x) (allBare_setGen hb hx) hy, fun _ _ _ e => e, rfl, fun p hp => by simp at hp⟩
theorem all_drain (hh : A.handled = none) (hd : A.depth < recursionLimit) (hgo : ∀ h : Heap, h.get? a = some go → h.IsGen a g)
    (hT : ∀ ys s1 H' σ', Inv (gcx X s4 H4 cenv A.in1.in1 fp [(a, go)]) [] σ' H' s1 → Fin ys H' → ∀ s', s'.os = s1.os → AllBare s'.gens → (∀ b o, s1.heap.get? b = some o → s'.heap.get? b = some o) → R' (.ok (.ret (.bool true))) s')
    (hF : ∀ s1 H' σ', Inv (gcx X s4 H4 cenv A.in1.in1 fp [(a, go)]) [] σ' H' s1 → Stop H' → ∀ s', s'.os = s1.os → AllBare s'.gens → (∀ b o, s1.heap.get? b = some o → s'.heap.get? b = some o) → R' (.ok (.ret (.bool false))) s') :
    ∀ (n : Nat) (s : Shared), s.heap.IsGen a g → s.heap.NoLimit → (∃ gs, s.gens[g]? = some gs ∧ gs.Goes (model X.prog X.w) A.in1.in1 (GEndR (gcx X s4 H4 cenv A.in1.in1 fp [(a, go)]) Cs0 Fin) (GItem (gcx X s4 H4 cenv A.in1.in1 fp [(a, go)]) Cs0 (YdAll Stop)) n (.send .none) (s.setGen g .running)) →
      codeAny (model X.prog X.w) A (.builtin "all.loop" ⟨[.ref a], []⟩) R' s := by
  intro n
  induction n with
  | zero =>
    intro s hg hl ⟨gs, hgs, hgo'⟩
    refine codeAny_builtin F.entry_all_loop ?_
    rw [Around.under_plainId F.plain_all_loop _]
    show wpAny _ A.in1 (pyNext (.ref a) >>= _) _ _ s
    refine wpAny_bind (wpAny_pyNext_genexpQ (A := A.in1) (P := fun _ _ s1 => ∃ ys H' σ' pl, Cs0 ys pl ∧ Inv (gcx X s4 H4 cenv A.in1.in1 fp [(a, go)]) pl σ' H' s1 ∧ Fin ys H') hh hl hd hg hgs hgo' (fun v s₁ gs' hbare hv => ?_) fun s₁ hp h' hk => ?_)
    · obtain ⟨ys, y, H', σ', pl, N, hc, rv, I', ⟨k, rfl, q⟩, kap⟩ := hv
      have hc : pl = [] := hc
      subst hc
      obtain rfl : v = Value.bool k := rv
      refine wpAny_bind (wpAny_holding (wpAny_truthy_bool ?_))
      refine wpAny_bind (wpAny_letGo ?_)
      cases k with
      | true =>
        rw [if_pos rfl] at q
        exact False.elim (kap q _ [] rfl (wake0 (g := g) (x := gs') (y := .running) I'.bare hbare rfl))
      | false =>
        rw [if_neg Bool.false_ne_true] at q
        simp only [Bool.false_eq_true, if_false]
        exact wpAny_bind (wpAny_rule (wpAny_pure (hF s₁ H' σ' I' q _ rfl (allBare_setGen I'.bare hbare) fun _ _ e => e)))
    · obtain ⟨ys, H', σ', pl, hc, I', f⟩ := hp
      have hc : pl = [] := hc
      subst hc
      exact wpAny_bind (wpAny_rule (wpAny_pure (hT ys s₁ H' σ' I' f _ rfl (allBare_setGen I'.bare rfl) hk)))
  | succ n ih =>
    intro s hg hl ⟨gs, hgs, hgo'⟩
    have hgl : g < s.gens.size := (Array.getElem?_eq_some_iff.mp hgs).1
    refine codeAny_builtin F.entry_all_loop ?_
    rw [Around.under_plainId F.plain_all_loop _]
    show wpAny _ A.in1 (pyNext (.ref a) >>= _) _ _ s
    refine wpAny_bind (wpAny_gsz (n := g + 1) hgl (wpAny_pyNext_genexpQ (A := A.in1) (P := fun _ _ s1 => ∃ ys H' σ' pl, Cs0 ys pl ∧ Inv (gcx X s4 H4 cenv A.in1.in1 fp [(a, go)]) pl σ' H' s1 ∧ Fin ys H') hh hl hd hg hgs hgo' (fun v s₁ gs' hbare hv => ?_) fun s₁ hp h' hk => ?_))
    · intro hsz
      obtain ⟨ys, y, H', σ', pl, N, hc, rv, I', ⟨k, rfl, q⟩, kap⟩ := hv
      have hc : pl = [] := hc
      subst hc
      obtain rfl : v = Value.bool k := rv
      refine wpAny_bind (wpAny_holding (wpAny_truthy_bool ?_))
      refine wpAny_bind (wpAny_letGo ?_)
      cases k with
      | true =>
        rw [if_pos rfl] at q
        simp only [if_true]
        have hsz1 : g < s₁.gens.size := by
          have q : (s₁.setGen g gs').gens.size = s₁.gens.size := setGen_size _ _ _
          have hsz' : g + 1 ≤ (s₁.setGen g gs').gens.size := hsz
          omega
        refine wpAny_pure ⟨plainId_quiet F.plain_all_loop _, ih (s₁.setGen g gs') (hgo _ (I'.pin (a, go) (List.mem_append_left _ (List.mem_singleton.mpr rfl))).1) I'.nolimit ⟨gs', setGen_at hsz1, ?_⟩⟩
        exact kap q _ [] rfl (wake0 (g := g) (x := gs') (y := .running) I'.bare hbare rfl)
      | false =>
        rw [if_neg Bool.false_ne_true] at q
        simp only [Bool.false_eq_true, if_false]
        exact wpAny_bind (wpAny_rule (wpAny_pure (hF s₁ H' σ' I' q _ rfl (allBare_setGen I'.bare hbare) fun _ _ e => e)))
    · intro hsz
      obtain ⟨ys, H', σ', pl, hc, I', f⟩ := hp
      have hc : pl = [] := hc
      subst hc
      exact wpAny_bind (wpAny_rule (wpAny_pure (hT ys s₁ H' σ' I' f _ rfl (allBare_setGen I'.bare rfl) hk)))

theorem any_drain (hh : A.handled = none) (hd : A.depth < recursionLimit) (hgo : ∀ h : Heap, h.get? a = some go → h.IsGen a g)
    (hT : ∀ ys s1 H' σ', Inv (gcx X s4 H4 cenv A.in1.in1 fp [(a, go)]) [] σ' H' s1 → Fin ys H' → ∀ s', s'.os = s1.os → AllBare s'.gens → (∀ b o, s1.heap.get? b = some o → s'.heap.get? b = some o) → R' (.ok (.ret (.bool false))) s')
    (hF : ∀ s1 H' σ', Inv (gcx X s4 H4 cenv A.in1.in1 fp [(a, go)]) [] σ' H' s1 → Stop H' → ∀ s', s'.os = s1.os → AllBare s'.gens → (∀ b o, s1.heap.get? b = some o → s'.heap.get? b = some o) → R' (.ok (.ret (.bool true))) s') :
    ∀ (n : Nat) (s : Shared), s.heap.IsGen a g → s.heap.NoLimit → (∃ gs, s.gens[g]? = some gs ∧ gs.Goes (model X.prog X.w) A.in1.in1 (GEndR (gcx X s4 H4 cenv A.in1.in1 fp [(a, go)]) Cs0 Fin) (GItem (gcx X s4 H4 cenv A.in1.in1 fp [(a, go)]) Cs0 (YdAny Stop)) n (.send .none) (s.setGen g .running)) →
      codeAny (model X.prog X.w) A (.builtin "any.loop" ⟨[.ref a], []⟩) R' s := by
  intro n
  induction n with
  | zero =>
    intro s hg hl ⟨gs, hgs, hgo'⟩
    refine codeAny_builtin F.entry_any_loop ?_
    rw [Around.under_plainId F.plain_any_loop _]
    show wpAny _ A.in1 (pyNext (.ref a) >>= _) _ _ s
    refine wpAny_bind (wpAny_pyNext_genexpQ (A := A.in1) (P := fun _ _ s1 => ∃ ys H' σ' pl, Cs0 ys pl ∧ Inv (gcx X s4 H4 cenv A.in1.in1 fp [(a, go)]) pl σ' H' s1 ∧ Fin ys H') hh hl hd hg hgs hgo' (fun v s₁ gs' hbare hv => ?_) fun s₁ hp h' hk => ?_)
    · obtain ⟨ys, y, H', σ', pl, N, hc, rv, I', ⟨k, rfl, q⟩, kap⟩ := hv
      have hc : pl = [] := hc
      subst hc
      obtain rfl : v = Value.bool k := rv
      refine wpAny_bind (wpAny_holding (wpAny_truthy_bool ?_))
      refine wpAny_bind (wpAny_letGo ?_)
      cases k with
      | false =>
        rw [if_neg Bool.false_ne_true] at q
        exact False.elim (kap q _ [] rfl (wake0 (g := g) (x := gs') (y := .running) I'.bare hbare rfl))
      | true =>
        rw [if_pos rfl] at q
        simp only [if_true]
        exact wpAny_bind (wpAny_rule (wpAny_pure (hF s₁ H' σ' I' q _ rfl (allBare_setGen I'.bare hbare) fun _ _ e => e)))
    · obtain ⟨ys, H', σ', pl, hc, I', f⟩ := hp
      have hc : pl = [] := hc
      subst hc
      exact wpAny_bind (wpAny_rule (wpAny_pure (hT ys s₁ H' σ' I' f _ rfl (allBare_setGen I'.bare rfl) hk)))
  | succ n ih =>
    intro s hg hl ⟨gs, hgs, hgo'⟩
    have hgl : g < s.gens.size := (Array.getElem?_eq_some_iff.mp hgs).1
    refine codeAny_builtin F.entry_any_loop ?_
    rw [Around.under_plainId F.plain_any_loop _]
    show wpAny _ A.in1 (pyNext (.ref a) >>= _) _ _ s
    refine wpAny_bind (wpAny_gsz (n := g + 1) hgl (wpAny_pyNext_genexpQ (A := A.in1) (P := fun _ _ s1 => ∃ ys H' σ' pl, Cs0 ys pl ∧ Inv (gcx X s4 H4 cenv A.in1.in1 fp [(a, go)]) pl σ' H' s1 ∧ Fin ys H') hh hl hd hg hgs hgo' (fun v s₁ gs' hbare hv => ?_) fun s₁ hp h' hk => ?_))
    · intro hsz
      obtain ⟨ys, y, H', σ', pl, N, hc, rv, I', ⟨k, rfl, q⟩, kap⟩ := hv
      have hc : pl = [] := hc
      subst hc
      obtain rfl : v = Value.bool k := rv
      refine wpAny_bind (wpAny_holding (wpAny_truthy_bool ?_))
      refine wpAny_bind (wpAny_letGo ?_)
      cases k with
      | false =>
        rw [if_neg Bool.false_ne_true] at q
        simp only [Bool.false_eq_true, if_false]
        have hsz1 : g < s₁.gens.size := by
          have q : (s₁.setGen g gs').gens.size = s₁.gens.size := setGen_size _ _ _
          have hsz' : g + 1 ≤ (s₁.setGen g gs').gens.size := hsz
          omega
        refine wpAny_pure ⟨plainId_quiet F.plain_any_loop _, ih (s₁.setGen g gs') (hgo _ (I'.pin (a, go) (List.mem_append_left _ (List.mem_singleton.mpr rfl))).1) I'.nolimit ⟨gs', setGen_at hsz1, ?_⟩⟩
        exact kap q _ [] rfl (wake0 (g := g) (x := gs') (y := .running) I'.bare hbare rfl)
      | true =>
        rw [if_pos rfl] at q
        simp only [if_true]
        exact wpAny_bind (wpAny_rule (wpAny_pure (hF s₁ H' σ' I' q _ rfl (allBare_setGen I'.bare hbare) fun _ _ e => e)))
    · intro hsz
      obtain ⟨ys, H', σ', pl, hc, I', f⟩ := hp
      have hc : pl = [] := hc
      subst hc
      exact wpAny_bind (wpAny_rule (wpAny_pure (hT ys s₁ H' σ' I' f _ rfl (allBare_setGen I'.bare rfl) hk)))

/-- all(elt for target in iter if ..): W by the turn and a measure -/
def tAllG (P : Addr) (wi : TI) (g : TG) (tt : TT) (te : TE) (vs : List Nat) : TE := fun σ H Q => wi σ H fun J H1 => TabG H1 P ∧ ∀ H2, Tabbed P H1 H2 → ∃ W : Nat → Nat → Hp → Prop, (∃ m, W 0 m H2) ∧ ∀ i m H, W i m H →
  (J.stop i H ∧ Q (.bl true) H) ∨ (J.go i H ∧ ∃ Nx : Hp → Prop, (∀ H', Nx H' → ∃ m', m' < m ∧ W (i + 1) m' H') ∧ ∀ x H', J.yld i H x H' → g x (wipe σ vs) H' fun σ2 H2 => wipe σ2 vs = wipe σ vs ∧ tt σ2 H2 fun b H3 =>
    if b = true then te σ2 H3 fun y H4 => ∃ k, y = .bl k ∧ if k = true then Nx H4 else Q (.bl false) H4 else Nx H3)
def tAnyG (P : Addr) (wi : TI) (g : TG) (tt : TT) (te : TE) (vs : List Nat) : TE := fun σ H Q => wi σ H fun J H1 => TabG H1 P ∧ ∀ H2, Tabbed P H1 H2 → ∃ W : Nat → Nat → Hp → Prop, (∃ m, W 0 m H2) ∧ ∀ i m H, W i m H →
  (J.stop i H ∧ Q (.bl false) H) ∨ (J.go i H ∧ ∃ Nx : Hp → Prop, (∀ H', Nx H' → ∃ m', m' < m ∧ W (i + 1) m' H') ∧ ∀ x H', J.yld i H x H' → g x (wipe σ vs) H' fun σ2 H2 => wipe σ2 vs = wipe σ vs ∧ tt σ2 H2 fun b H3 =>
    if b = true then te σ2 H3 fun y H4 => ∃ k, y = .bl k ∧ if k = true then Q (.bl true) H4 else Nx H4 else Nx H3)

theorem lookup_lt {c : Addr} {y : Str} {scope : Scope} {own : List (Str × Nat)} (I : Inv X pins σ H s) (ok : BlkOk X.N X.env.scope scope own) (e : (cloFrom X.env.cells scope.names []).lookup y = some c) : c < s.heap.objs.size := by
  rcases cloFrom_mem (PySem.mem_of_lookup e) with hm | ⟨h1, rfl⟩
  · cases hm
  · obtain ⟨c, hc⟩ : ∃ c, X.env.cells.lookup y = some c := by
      rcases ok.free _ h1 rfl with k | k
      · exact I.ok.has _ (.inl k)
      · exact I.ok.has _ (.inr k)
    rw [hc]
    obtain ⟨w, z⟩ := I.cell _ _ hc
    exact z.lt

/-- what the body's parts must be, whatever the frame -/
abbrev ForG (X : Cx) (scope : Scope) (k : Nat) (D : Cx → Prop) : Prop := ∀ (s : Shared) (H : Hp) (C : Addr) (code : Value) (A : Around) (fp : List Addr) (pn : List (Addr × Obj)), Room k (A.deeper (genv X scope C code)) → D (gcx X s H (genv X scope C code) A fp pn)

theorem pe_allG {elt tg iter : Expr} {ifs : List Expr} {scope : Scope} {gpos p pos : Pos} {own : List (Str × Nat)} {c P : Addr} {wi : TI} {g : TG} {tt : TT} {te : TE} {k : Nat}
    (hr : Room (k + 4) X.A) (hg : Gl X "all") (hm : X.mg "all" = none) (TB : TabB X.base X.mg c P) (hcode : X.env.code = .ref c) (hN : X.N.Nodup) (hi : PI X tg iter wi)
    (ok : BlkOk X.N X.env.scope scope own) (hnc : ∀ y ∈ scope.names, y.2 ≠ .cell) (hdot : scope.names.lookup (".0" : Str) = some NameKind.local) (hco : scope.isCoroutine = false)
    (pg : ForG X scope k fun X' => PG X' tg g) (pt : ForG X scope k fun X' => PTs X' ifs tt) (pe : ForG X scope k fun X' => PE X' elt te)
    (hs : ∀ v, genFold iter X.env v = pure v := by intro _; rfl)
    (he : starEach [.GeneratorExp elt [⟨tg, iter, ifs, 0⟩] scope gpos] X.env = (false, eval (.GeneratorExp elt [⟨tg, iter, ifs, 0⟩] scope gpos) X.env) :: starEach [] X.env := by rfl) :
    PE X (.Call (.Name "all" p) [.GeneratorExp elt [⟨tg, iter, ifs, 0⟩] scope gpos] [] pos) (tAllG P wi g tt te (own.map (·.2))) := by
  refine ⟨fun pins s σ H Q I h => ?_⟩
  refine wpAny_Call_Name_kw (ld_blt I hg hm boot_allG ?_)
  refine PyProof.Rows.callWith_builtin1 ?_ he (by rfl)
  rw [he]
  show wpAny _ _ (spliced ((false, eval (.GeneratorExp elt [⟨tg, iter, ifs, 0⟩] scope gpos) X.env) :: backTo pos (starEach [] X.env))) _ _ s
  refine Calls.spliced_cons (gx_make hr.hd (by have := hr.dp; omega) TB hcode ok hnc hdot hco hi hs I h fun J H1 H2 s4 s5 it fp tn code a go gn r hT I4 T st5 hfp hos hba hk hns ha haC hal hgo hgen hgs hlim => ?_)
  refine Calls.spliced_nil ?_
  refine call_function_tree F.kind_all F.plain_all F.entry_all (F.args_all1 _) ?_
  unfold Builtin.«all»
  refine wpAny_bind (m := oneArg "all" _) (wpAny_pure ?_)
  refine wpAny_bind (wpAny_pyIter_gen (hgen _ ha) ?_)
  refine wpAny_pure ⟨plainId_quiet F.plain_all_loop _, ?_⟩
  obtain ⟨W, ⟨m, w⟩, turn⟩ := r H2 hT
  have hA : X.A.in1.in1.handled = none := hr.hd
  have hfr : X.A.in1.in1.frames = some X.stack := I4.ok.frames
  have hroom : Room k (X.A.in1.in1.deeper (genv X scope s4.heap.objs.size code)) := by
    refine ⟨hr.hd, ?_, ?_⟩
    · have := hr.dp
      show X.A.depth + 1 + 3 * k + 5 < _
      omega
    · have := hr.un
      show X.A.units + 1 + 1 + 3 + 16 * k + 200 < _
      omega
  have I5 := gx_start (code := code) I4 ok hnc hN hfp hA hfr hos hba hk hns ha haC hgo
  refine all_drain (X := X) (s4 := s4) (H4 := H2) (cenv := genv X scope s4.heap.objs.size code) (fp := fp) (go := go) (g := gn) (Fin := fun _ H' => Q (.bl true) H') (Stop := fun H' => Q (.bl false) H') hr.hd (by have := hr.dp; omega) hgen
    (fun ys s1 H' σ' I' q s' e1 e2 e3 => ?_) (fun s1 H' σ' I' q s' e1 e2 e3 => ?_) (m + 1) s5 (hgen _ ha) hlim ⟨_, hgs, rfl, ?_⟩
  · exact ⟨.bl true, H', gx_back I4 (fun b hb => (hfp b hb).1) I' e1 e2 e3, rfl, q⟩
  · exact ⟨.bl false, H', gx_back I4 (fun b hb => (hfp b hb).1) I' e1 e2 e3, rfl, q⟩
  · have hfl : ∀ b ∈ fp, b < s5.heap.objs.size := fun b hb => by
      obtain ⟨o, e, _⟩ := T.obj _ _ st5 b hb
      exact Heap.lt_size e
    have h45 : s4.heap.objs.size ≤ s5.heap.objs.size := Nat.le_of_lt (Nat.lt_trans haC hal)
    have I5' : Inv (gcx X s4 H2 (genv X scope s4.heap.objs.size code) X.A.in1.in1 fp [(a, go)]) [] (wipe σ (own.map (·.2))) H2 (s5.setGen gn .running) := by
      refine I5.call' (ch := []) rfl (Un.kept fun _ _ e => e) (I5.hok.kept fun _ _ e => e) (allBare_setGen hba rfl) fun b hb => ?_
      simp at hb
    refine gx_startSeg (X := X) (s4 := s4) (H4 := H2) (cenv := genv X scope s4.heap.objs.size code) (a := a) (go := go) (lim := s5.heap.objs.size) (W := fun i m _ H => W i m H) (tt := tt) (te := te) (g := g) T (pg s4 H2 _ code _ fp _ hroom) (pt s4 H2 _ code _ fp _ hroom) (pe s4 H2 _ code _ fp _ hroom) hA h45 hal
      (Nat.lt_trans haC hal) (fun y c e => Nat.lt_of_lt_of_le (lookup_lt I4 ok e) h45) hfl (fun hz => absurd (Nat.lt_trans haC (hfp a hz).2) (Nat.lt_irrefl _)) hco (fun ys pl hc b hb => ?_) (fun i m ys H w => ?_) (Nat.lt_succ_self m) w rfl I5' st5 (fun b hb => (hfp b hb).1.1)
    · have hc : pl = [] := hc
      subst hc
      simp at hb
    · rcases turn i m H w with ⟨h1, h2⟩ | ⟨h1, Nx, h2, h3⟩
      · exact .inl ⟨h1, h2⟩
      · refine .inr ⟨h1, fun _ => Nx, fun _ => h2, fun x H' y => ?_⟩
        exact h3 x H' y

theorem pe_anyG {elt tg iter : Expr} {ifs : List Expr} {scope : Scope} {gpos p pos : Pos} {own : List (Str × Nat)} {c P : Addr} {wi : TI} {g : TG} {tt : TT} {te : TE} {k : Nat}
    (hr : Room (k + 4) X.A) (hg : Gl X "any") (hm : X.mg "any" = none) (TB : TabB X.base X.mg c P) (hcode : X.env.code = .ref c) (hN : X.N.Nodup) (hi : PI X tg iter wi)
    (ok : BlkOk X.N X.env.scope scope own) (hnc : ∀ y ∈ scope.names, y.2 ≠ .cell) (hdot : scope.names.lookup (".0" : Str) = some NameKind.local) (hco : scope.isCoroutine = false)
    (pg : ForG X scope k fun X' => PG X' tg g) (pt : ForG X scope k fun X' => PTs X' ifs tt) (pe : ForG X scope k fun X' => PE X' elt te)
    (hs : ∀ v, genFold iter X.env v = pure v := by intro _; rfl)
    (he : starEach [.GeneratorExp elt [⟨tg, iter, ifs, 0⟩] scope gpos] X.env = (false, eval (.GeneratorExp elt [⟨tg, iter, ifs, 0⟩] scope gpos) X.env) :: starEach [] X.env := by rfl) :
    PE X (.Call (.Name "any" p) [.GeneratorExp elt [⟨tg, iter, ifs, 0⟩] scope gpos] [] pos) (tAnyG P wi g tt te (own.map (·.2))) := by
  refine ⟨fun pins s σ H Q I h => ?_⟩
  refine wpAny_Call_Name_kw (ld_blt I hg hm boot_any ?_)
  refine PyProof.Rows.callWith_builtin1 ?_ he (by rfl)
  rw [he]
  show wpAny _ _ (spliced ((false, eval (.GeneratorExp elt [⟨tg, iter, ifs, 0⟩] scope gpos) X.env) :: backTo pos (starEach [] X.env))) _ _ s
  refine Calls.spliced_cons (gx_make hr.hd (by have := hr.dp; omega) TB hcode ok hnc hdot hco hi hs I h fun J H1 H2 s4 s5 it fp tn code a go gn r hT I4 T st5 hfp hos hba hk hns ha haC hal hgo hgen hgs hlim => ?_)
  refine Calls.spliced_nil ?_
  refine call_function_tree F.kind_any F.plain_any F.entry_any (F.args_any1 _) ?_
  unfold Builtin.«any»
  refine wpAny_bind (m := oneArg "any" _) (wpAny_pure ?_)
  refine wpAny_bind (wpAny_pyIter_gen (hgen _ ha) ?_)
  refine wpAny_pure ⟨plainId_quiet F.plain_any_loop _, ?_⟩
  obtain ⟨W, ⟨m, w⟩, turn⟩ := r H2 hT
  have hA : X.A.in1.in1.handled = none := hr.hd
  have hfr : X.A.in1.in1.frames = some X.stack := I4.ok.frames
  have hroom : Room k (X.A.in1.in1.deeper (genv X scope s4.heap.objs.size code)) := by
    refine ⟨hr.hd, ?_, ?_⟩
    · have := hr.dp
      show X.A.depth + 1 + 3 * k + 5 < _
      omega
    · have := hr.un
      show X.A.units + 1 + 1 + 3 + 16 * k + 200 < _
      omega
  have I5 := gx_start (code := code) I4 ok hnc hN hfp hA hfr hos hba hk hns ha haC hgo
  refine any_drain (X := X) (s4 := s4) (H4 := H2) (cenv := genv X scope s4.heap.objs.size code) (fp := fp) (go := go) (g := gn) (Fin := fun _ H' => Q (.bl false) H') (Stop := fun H' => Q (.bl true) H') hr.hd (by have := hr.dp; omega) hgen
    (fun ys s1 H' σ' I' q s' e1 e2 e3 => ?_) (fun s1 H' σ' I' q s' e1 e2 e3 => ?_) (m + 1) s5 (hgen _ ha) hlim ⟨_, hgs, rfl, ?_⟩
  · exact ⟨.bl false, H', gx_back I4 (fun b hb => (hfp b hb).1) I' e1 e2 e3, rfl, q⟩
  · exact ⟨.bl true, H', gx_back I4 (fun b hb => (hfp b hb).1) I' e1 e2 e3, rfl, q⟩
  · have hfl : ∀ b ∈ fp, b < s5.heap.objs.size := fun b hb => by
      obtain ⟨o, e, _⟩ := T.obj _ _ st5 b hb
      exact Heap.lt_size e
    have h45 : s4.heap.objs.size ≤ s5.heap.objs.size := Nat.le_of_lt (Nat.lt_trans haC hal)
    have I5' : Inv (gcx X s4 H2 (genv X scope s4.heap.objs.size code) X.A.in1.in1 fp [(a, go)]) [] (wipe σ (own.map (·.2))) H2 (s5.setGen gn .running) := by
      refine I5.call' (ch := []) rfl (Un.kept fun _ _ e => e) (I5.hok.kept fun _ _ e => e) (allBare_setGen hba rfl) fun b hb => ?_
      simp at hb
    refine gx_startSeg (X := X) (s4 := s4) (H4 := H2) (cenv := genv X scope s4.heap.objs.size code) (a := a) (go := go) (lim := s5.heap.objs.size) (W := fun i m _ H => W i m H) (tt := tt) (te := te) (g := g) T (pg s4 H2 _ code _ fp _ hroom) (pt s4 H2 _ code _ fp _ hroom) (pe s4 H2 _ code _ fp _ hroom) hA h45 hal
      (Nat.lt_trans haC hal) (fun y c e => Nat.lt_of_lt_of_le (lookup_lt I4 ok e) h45) hfl (fun hz => absurd (Nat.lt_trans haC (hfp a hz).2) (Nat.lt_irrefl _)) hco (fun ys pl hc b hb => ?_) (fun i m ys H w => ?_) (Nat.lt_succ_self m) w rfl I5' st5 (fun b hb => (hfp b hb).1.1)
    · have hc : pl = [] := hc
      subst hc
      simp at hb
    · rcases turn i m H w with ⟨h1, h2⟩ | ⟨h1, Nx, h2, h3⟩
      · exact .inl ⟨h1, h2⟩
      · refine .inr ⟨h1, fun _ => Nx, fun _ => h2, fun x H' y => ?_⟩
        exact h3 x H' y
end
end Gx

namespace Gx
open PySem PySem.Spec PyProof.Rows L2 GenW
open GxR (TabB TabG Tabbed)

def CsS (S : Addr) : Cons := fun ys pl => ∃ (acc : Array Value) (c : Nat), Vals ys acc.toList ∧ pl = [(S, lstObj acc c)]
def YdL : List V → V → Hp → Prop → Prop := fun ys _ _ N => ys.length < sizeLine ∧ N
section
variable {X : Cx} {pins : List (Addr × Obj)} {σ : L2.St} {H : Hp} {s : Shared}
variable {s4 : Shared} {H4 : Hp} {cenv : Env} {A : Around} {fp : List Addr} {a : Addr} {go : Obj} {g : Nat} {R' : Result → Shared → Prop} {Fin : List V → Hp → Prop}
theorem ext_drain {S : Addr} {res : Value} (hh : A.handled = none) (hd : A.depth < recursionLimit) (hgo : ∀ h : Heap, h.get? a = some go → h.IsGen a g) (hSa : S ≠ a) (hSc : S ≠ cStatics)
    (hT : ∀ ys s1 H' σ' acc c, Vals ys acc.toList → Inv (gcx X s4 H4 cenv A.in1.in1 fp [(a, go)]) [(S, lstObj acc c)] σ' H' s1 → Fin ys H' → ∀ s', s'.os = s1.os → AllBare s'.gens → (∀ b o, s1.heap.get? b = some o → s'.heap.get? b = some o) → R' (.ok (.ret res)) s') :
    ∀ (n : Nat) (s : Shared), s.heap.IsGen a g → s.heap.NoLimit → (∃ gs, s.gens[g]? = some gs ∧ gs.Goes (model X.prog X.w) A.in1.in1 (GEndR (gcx X s4 H4 cenv A.in1.in1 fp [(a, go)]) (CsS S) Fin) (GItem (gcx X s4 H4 cenv A.in1.in1 fp [(a, go)]) (CsS S) YdL) n (.send .none) (s.setGen g .running)) →
      codeAny (model X.prog X.w) A (.builtin "list.extend.loop" ⟨[.ref S, .ref a, res], []⟩) R' s := by
  intro n
  induction n with
  | zero =>
    intro s hg hl ⟨gs, hgs, hgo'⟩
    refine codeAny_builtin F.entry_extend_loop ?_
    rw [Around.under_plainId F.plain_extend_loop _]
    show wpAny _ A.in1 (pyNext (.ref a) >>= _) _ _ s
    refine wpAny_bind (wpAny_pyNext_genexpQ (A := A.in1) (P := fun _ _ s1 => ∃ ys H' σ' pl, CsS S ys pl ∧ Inv (gcx X s4 H4 cenv A.in1.in1 fp [(a, go)]) pl σ' H' s1 ∧ Fin ys H') hh hl hd hg hgs hgo' (fun v s₁ gs' hbare hv => ?_) fun s₁ hp h' hk => ?_)
    · obtain ⟨ys, y, H', σ', pl, N, ⟨acc, c, hv, rfl⟩, rv, I', ⟨hz, q⟩, kap⟩ := hv
      have hS1 : s₁.heap.get? S = some (lstObj acc c) := (I'.pin (S, lstObj acc c) (List.mem_append_right _ (List.mem_singleton.mpr rfl))).1
      obtain ⟨c', hS'⟩ : ∃ c', (s₁.heap.update S (Obj.mapSeq (·.push v))).get? S = some (lstObj (acc.push v) c') := ⟨_, Heap.get?_update_self _ hS1 rfl⟩
      refine False.elim (kap q { (s₁.setGen g gs').setGen g .running with heap := s₁.heap.update S (Obj.mapSeq (·.push v)) } [(S, lstObj (acc.push v) c')] ⟨acc.push v, c', ?_, rfl⟩ ⟨rfl, ?_, fun b o hb e => ?_, rfl, fun p hp => ?_⟩)
      · rw [Array.toList_push]
        exact hv.append (.cons rv .nil)
      · exact allBare_setGen (s := s₁.setGen g gs') (allBare_setGen I'.bare hbare) rfl
      · exact (Heap.get?_update_other _ _ (fun z : S = b => hb (by rw [← z]; exact List.mem_singleton.mpr rfl))).trans e
      · rw [List.mem_singleton.mp hp]
        exact ⟨hS', fun v z => by cases z⟩
    · obtain ⟨ys, H', σ', pl, ⟨acc, c, hv, rfl⟩, I', f⟩ := hp
      exact wpAny_pure (hT ys s₁ H' σ' acc c hv I' f _ rfl (allBare_setGen I'.bare rfl) hk)
  | succ n ih =>
    intro s hg hl ⟨gs, hgs, hgo'⟩
    have hgl : g < s.gens.size := (Array.getElem?_eq_some_iff.mp hgs).1
    refine codeAny_builtin F.entry_extend_loop ?_
    rw [Around.under_plainId F.plain_extend_loop _]
    show wpAny _ A.in1 (pyNext (.ref a) >>= _) _ _ s
    refine wpAny_bind (wpAny_gsz (n := g + 1) hgl (wpAny_pyNext_genexpQ (A := A.in1) (P := fun _ _ s1 => ∃ ys H' σ' pl, CsS S ys pl ∧ Inv (gcx X s4 H4 cenv A.in1.in1 fp [(a, go)]) pl σ' H' s1 ∧ Fin ys H') hh hl hd hg hgs hgo' (fun v s₁ gs' hbare hv => ?_) fun s₁ hp h' hk => ?_))
    · intro hsz
      obtain ⟨ys, y, H', σ', pl, N, ⟨acc, c, hv, rfl⟩, rv, I', ⟨hz, q⟩, kap⟩ := hv
      have hS1 : s₁.heap.get? S = some (lstObj acc c) := (I'.pin (S, lstObj acc c) (List.mem_append_right _ (List.mem_singleton.mpr rfl))).1
      obtain ⟨c', hS'⟩ : ∃ c', (s₁.heap.update S (Obj.mapSeq (·.push v))).get? S = some (lstObj (acc.push v) c') := ⟨_, Heap.get?_update_self _ hS1 rfl⟩
      have hasz : acc.size = ys.length := by
        have e1 := hv.length
        have e2 : acc.toList.length = acc.size := by simp
        omega
      have hsz1 : g < s₁.gens.size := by
        have q : (s₁.setGen g gs').gens.size = s₁.gens.size := setGen_size _ _ _
        have hsz' : g + 1 ≤ (s₁.setGen g gs').gens.size := hsz
        omega
      show wpAny _ A.in1 (updateSeq S (·.push v) >>= _) _ _ _
      refine wpAny_bind ?_
      refine wpAny_updateSeq hS1 rfl (wpAny_pure ⟨plainId_quiet F.plain_extend_loop _, ?_⟩) (by rw [hasz]; exact Nat.le_of_lt hz) (by show (acc.push v).size ≤ sizeLine + 1; rw [Array.size_push, hasz]; omega)
      have keep3 : ∀ b o, b ≠ S → s₁.heap.get? b = some o → (s₁.heap.update S (Obj.mapSeq (·.push v))).get? b = some o := fun b o hbS e => (Heap.get?_update_other _ _ (Ne.symm hbS)).trans e
      refine ih { s₁.setGen g gs' with heap := s₁.heap.update S (Obj.mapSeq (·.push v)) } ?_ ?_ ⟨gs', setGen_at hsz1, ?_⟩
      · refine hgo _ (keep3 a go (Ne.symm hSa) (I'.pin (a, go) (List.mem_append_left _ (List.mem_singleton.mpr rfl))).1)
      · obtain ⟨mc, hns, hnn⟩ := I'.nolimit
        exact ⟨mc, hns.at' fun o e => keep3 _ o (Ne.symm hSc) e, hnn⟩
      · refine kap q { (s₁.setGen g gs').setGen g .running with heap := s₁.heap.update S (Obj.mapSeq (·.push v)) } [(S, lstObj (acc.push v) c')] ⟨acc.push v, c', ?_, rfl⟩ ⟨rfl, ?_, fun b o hb e => ?_, rfl, fun p hp => ?_⟩
        · rw [Array.toList_push]
          exact hv.append (.cons rv .nil)
        · exact allBare_setGen (s := s₁.setGen g gs') (allBare_setGen I'.bare hbare) rfl
        · exact keep3 b o (fun z => hb (by rw [z]; exact List.mem_singleton.mpr rfl)) e
        · rw [List.mem_singleton.mp hp]
          exact ⟨hS', fun v z => by cases z⟩
    · intro hsz
      obtain ⟨ys, H', σ', pl, ⟨acc, c, hv, rfl⟩, I', f⟩ := hp
      exact wpAny_pure (hT ys s₁ H' σ' acc c hv I' f _ rfl (allBare_setGen I'.bare rfl) hk)

theorem code_tuple_new_gx {I : Addr} {Post : Shared → Array Value → Prop} {P : Program} {w : World} {E : Value → Shared → Prop} {Q₁ : Value → Shared → Prop} (hTI : s.TypeIs (.ref I) "generator")
    (hcol : ∀ (Q : List Value → Shared → Prop) (E : Value → Shared → Prop), (∀ s' acc, Post s' acc → Q acc.toList s') → wpAny (model P w) A.in1 (collect (.ref I)) Q E s)
    (h : ∀ s' acc, Post s' acc → acc.size ≤ sizeLine ∧ Q₁ (.ref s'.heap.objs.size) { s' with heap := s'.heap.push { cls := .type "tuple", data := .seq acc } }) :
    codeAny (model P w) A (.call (.builtin "tuple.__new__") ⟨[.type "tuple", .ref I], []⟩) (wants Q₁ E) s := by
  refine codeAny_of_tree ?_
  show wpAny _ A.in1 (do checkBuiltinCall "tuple.__new__" ⟨[.type "tuple", .ref I], []⟩; again (.builtin "tuple.__new__" ⟨[.type "tuple", .ref I], []⟩)) _ _ s
  refine wpAny_bind (wpAny_of_eq (F.newCall_tuple_1 _) (wpAny_pure ⟨plainId_quiet F.plain_tuple_new _, codeAny_builtin F.entry_tuple_new ?_⟩))
  rw [Around.under_plainId F.plain_tuple_new _]
  have hsub := sub_tuple_self
  have hinit := init_tuple_lookup
  have hmh := madeHere_tuple
  wp_walk using wpAny_typeOf hTI, hcol
  intro s' acc hp
  obtain ⟨hsz, hq⟩ := h s' acc hp
  show wpAny _ _ (Builtin.Tuple.tupleExact acc.toList.toArray >>= fun v => ret v) _ _ _
  unfold Builtin.Tuple.tupleExact
  refine wpAny_bind (wpAny_newObj_type ?_ (by show acc.toList.toArray.size ≤ sizeLine; simp only [Array.toArray_toList]; exact hsz))
  refine wpAny_pure ?_
  have e : acc.toList.toArray = acc := by simp
  rw [e]
  exact hq
end
end Gx

namespace Gx
open PySem PySem.Spec PyProof.Rows L2 GenW
open GxR (TabB TabG Tabbed)
section
variable {X : Cx} {pins : List (Addr × Obj)} {σ : L2.St} {H : Hp} {s : Shared}
/-- an object that is a tuple and nothing else -/
def FT (o : Obj) : Prop := o.cls = .type "tuple" ∧ o.dict = none
/-- tuple(elt for target in iter if ..): W by the turn, a measure and the items so far -/
def tTupG (P : Addr) (wi : TI) (g : TG) (tt : TT) (te : TE) (vs : List Nat) : TE := fun σ H Q => wi σ H fun J H1 => TabG H1 P ∧ ∀ H2, Tabbed P H1 H2 → ∃ W : Nat → Nat → List V → Hp → Prop, (∃ m, W 0 m [] H2) ∧ ∀ i m ys H, W i m ys H →
  (J.stop i H ∧ ys.length ≤ sizeLine ∧ ∀ p o, H p = none → FT o → Q (.ref p) (upd H p (.frz o (.tup ys)))) ∨ (J.go i H ∧ ∃ Nx : List V → Hp → Prop, (∀ ys' H', Nx ys' H' → ∃ m', m' < m ∧ W (i + 1) m' ys' H') ∧ ∀ x H', J.yld i H x H' → g x (wipe σ vs) H' fun σ2 H2 => wipe σ2 vs = wipe σ vs ∧ tt σ2 H2 fun b H3 =>
    if b = true then te σ2 H3 fun y H4 => ys.length < sizeLine ∧ Nx (ys ++ [y]) H4 else Nx ys H3)

theorem gx_collect {A : Around} {s4 : Shared} {H4 : Hp} {cenv : Env} {fp : List Addr} {a : Addr} {go : Obj} {g : Nat} {Fin : List V → Hp → Prop} {c : Code} {Q : List Value → Shared → Prop} {E : Value → Shared → Prop} {n : Nat} (hh : A.handled = none) (hd : A.depth < recursionLimit) (hgo : ∀ h : Heap, h.get? a = some go → h.IsGen a g)
    (ha : s.heap.get? a = some go) (hlim : s.heap.NoLimit) (hba : AllBare s.gens) (hgs : s.gens[g]? = some (.fresh c))
    (seg : ∀ s2 : Shared, s2.os = s.os → AllBare s2.gens → (∀ b o, s.heap.get? b = some o → s2.heap.get? b = some o) → (∃ c, s2.heap.get? s.heap.objs.size = some (lstObj #[] c)) →
      Seg (model X.prog X.w) A.in1.in1 (GEndR (gcx X s4 H4 cenv A.in1.in1 fp [(a, go)]) (CsS s.heap.objs.size) Fin) (GItem (gcx X s4 H4 cenv A.in1.in1 fp [(a, go)]) (CsS s.heap.objs.size) YdL) n s2 c ((model X.prog X.w).den c) [] s2)
    (hQ : ∀ ys s1 H' σ' acc c, Vals ys acc.toList → Inv (gcx X s4 H4 cenv A.in1.in1 fp [(a, go)]) [(s.heap.objs.size, lstObj acc c)] σ' H' s1 → Fin ys H' → ∀ s', s'.os = s1.os → AllBare s'.gens → (∀ b o, s1.heap.get? b = some o → s'.heap.get? b = some o) → Q acc.toList s') :
    wpAny (model X.prog X.w) A (collect (.ref a)) Q E s := by
  have hal : a < s.heap.objs.size := Heap.lt_size ha
  have hSa : s.heap.objs.size ≠ a := Nat.ne_of_gt hal
  have hSc : s.heap.objs.size ≠ cStatics := Nat.ne_of_gt (let ⟨_, hn, _⟩ := hlim; hn.lt)
  have tyI : ∀ {h : Heap} {t : Nat}, (∀ b o, s.heap.get? b = some o → h.get? b = some o) → ({ s with heap := h, toks := t } : Shared).TypeIs (.ref a) "generator" := fun {h t} k => Heap.IsGen.typeIs (s := { s with heap := h, toks := t }) (hgo _ (k _ _ ha))
  unfold collect
  refine wpAny_bind (wpAny_runValue (codeAny_builtin F.entry_proto_collect ?_))
  rw [Around.under_plainId F.plain_proto_collect _]
  show wpAny _ A.in1 (newList [] >>= fun l => again (.builtin "list.__iadd__" ⟨[l, .ref a], []⟩)) _ _ s
  refine wpAny_bind (wpAny_newObj_type ?_)
  refine wpAny_pure ⟨plainId_quiet F.plain_list_iadd _, codeAny_builtin F.entry_list_iadd ?_⟩
  rw [Around.under_plainId F.plain_list_iadd _]
  have k1 : ∀ b o, s.heap.get? b = some o → (s.heap.push { cls := .type "list", data := .seq ([] : List Value).toArray }).get? b = some o := fun b o e => Heap.get?_push_of_some _ e
  show wpAny _ A.in1 (Builtin.List.listExtendWith (.ref s.heap.objs.size) (.ref a) (.ref s.heap.objs.size)) _ _ _
  unfold Builtin.List.listExtendWith
  refine wpAny_bind (wpAny_typeOf (tyI k1) ?_)
  have h1 : Builtin.List.listSameRef (.ref s.heap.objs.size) (.ref a) = false := by simp [Builtin.List.listSameRef, hSa]
  have h2 : (Value.type "generator" == Value.type "list") = false := by decide
  have h3 : (Value.type "generator" == Value.type "tuple") = false := by decide
  simp only [h1, h2, h3, Bool.or_false, Bool.false_eq_true, if_false]
  refine wpAny_bind (wpAny_pyIter_gen (s := { s with heap := _ }) (hgo _ (k1 _ _ ha)) ?_)
  refine wpAny_bind (wpAny_holding ?_)
  unfold Builtin.List.listLengthHint
  refine wpAny_bind (wpAny_specialOf (tyI k1) F.gen_no_len ?_)
  show wpAny _ A.in1 (specialOf (Value.ref a) (Str.ofString "__length_hint__") >>= _) _ _ _
  refine wpAny_bind (wpAny_specialOf (tyI k1) F.gen_no_hint ?_)
  refine wpAny_pure ?_
  show wpAny _ A.in1 (rule "list.extend.makes-room" >>= fun _ => Builtin.List.listTouch (.ref s.heap.objs.size) >>= fun _ =>
    again (.builtin "list.extend.loop" ⟨[.ref s.heap.objs.size, .ref a, .ref s.heap.objs.size], []⟩)) _ _ _
  refine wpAny_bind (wpAny_rule ?_)
  have hS₁ : (s.heap.push { cls := .type "list", data := .seq ([] : List Value).toArray }).get? s.heap.objs.size = some { cls := .type "list", data := .seq ([] : List Value).toArray } := Heap.get?_push_size _ rfl
  refine wpAny_bind ?_
  show wpAny _ A.in1 (updateSeq s.heap.objs.size (·.push .none) >>= fun _ => updateSeq s.heap.objs.size (·.pop)) _ _ _
  refine wpAny_bind (wpAny_updateSeq hS₁ rfl ?_)
  have hS₂ := Heap.get?_update_self (Obj.mapSeq (·.push Value.none)) hS₁ rfl
  refine wpAny_updateSeq hS₂ rfl ?_
  have hS₃ := Heap.get?_update_self (Obj.mapSeq (·.pop)) hS₂ rfl
  have k3 : ∀ b o, s.heap.get? b = some o →
      (((s.heap.push { cls := .type "list", data := .seq ([] : List Value).toArray }).update s.heap.objs.size (Obj.mapSeq (·.push Value.none))).update s.heap.objs.size (Obj.mapSeq (·.pop))).get? b = some o :=
    fun b o e => (Heap.get?_update_other _ _ (Nat.ne_of_gt (Heap.lt_size e))).trans ((Heap.get?_update_other _ _ (Nat.ne_of_gt (Heap.lt_size e))).trans (k1 b o e))
  refine wpAny_pure ⟨plainId_quiet F.plain_extend_loop _, ?_⟩
  refine ext_drain (X := X) (s4 := s4) (H4 := H4) (cenv := cenv) (fp := fp) (go := go) (g := g) (Fin := Fin) hh hd hgo hSa hSc (fun ys s1 H' σ' acc c' hv I' f s' e1 e2 e3 => ?_) n _ (hgo _ (k3 _ _ ha)) (hlim.keeps k3) ⟨_, hgs, rfl, ?_⟩
  · show wpAny _ A (load s.heap.objs.size >>= _) _ _ s'
    have hS1 : s1.heap.get? s.heap.objs.size = some (lstObj acc c') := (I'.pin (s.heap.objs.size, lstObj acc c') (List.mem_append_right _ (List.mem_singleton.mpr rfl))).1
    refine wpAny_bind (wpAny_load (e3 _ _ hS1) ?_)
    exact wpAny_pure (hQ ys s1 H' σ' acc c' hv I' f s' e1 e2 e3)
  · exact seg _ rfl (allBare_setGen (s := { s with heap := _ }) hba rfl) k3 ⟨_, hS₃⟩

theorem pe_tupG {elt tg iter : Expr} {ifs : List Expr} {scope : Scope} {gpos p pos : Pos} {own : List (Str × Nat)} {c P : Addr} {wi : TI} {g : TG} {tt : TT} {te : TE} {k : Nat}
    (hr : Room (k + 4) X.A) (hg : Gl X "tuple") (hm : X.mg "tuple" = none) (TB : TabB X.base X.mg c P) (hcode : X.env.code = .ref c) (hN : X.N.Nodup) (hi : PI X tg iter wi)
    (ok : BlkOk X.N X.env.scope scope own) (hnc : ∀ y ∈ scope.names, y.2 ≠ .cell) (hdot : scope.names.lookup (".0" : Str) = some NameKind.local) (hco : scope.isCoroutine = false)
    (pg : ForG X scope k fun X' => PG X' tg g) (pt : ForG X scope k fun X' => PTs X' ifs tt) (pe : ForG X scope k fun X' => PE X' elt te)
    (hs : ∀ v, genFold iter X.env v = pure v := by intro _; rfl)
    (he : starEach [.GeneratorExp elt [⟨tg, iter, ifs, 0⟩] scope gpos] X.env = (false, eval (.GeneratorExp elt [⟨tg, iter, ifs, 0⟩] scope gpos) X.env) :: starEach [] X.env := by rfl) :
    PE X (.Call (.Name "tuple" p) [.GeneratorExp elt [⟨tg, iter, ifs, 0⟩] scope gpos] [] pos) (tTupG P wi g tt te (own.map (·.2))) := by
  refine ⟨fun pins s σ H Q I h => ?_⟩
  refine wpAny_Call_Name_kw (ld_blt I hg hm boot_tuple ?_)
  refine PyProof.Rows.callWith_type1 ?_ he (by rfl)
  rw [he]
  show wpAny _ _ (spliced ((false, eval (.GeneratorExp elt [⟨tg, iter, ifs, 0⟩] scope gpos) X.env) :: backTo pos (starEach [] X.env))) _ _ s
  refine Calls.spliced_cons (gx_make hr.hd (by have := hr.dp; omega) TB hcode ok hnc hdot hco hi hs I h fun J H1 H2 s4 s5 it fp tn code a go gn r hT I4 T st5 hfp hos hba hk hns ha haC hal hgo hgen hgs hlim => ?_)
  refine Calls.spliced_nil ?_
  obtain ⟨W, ⟨m, w⟩, turn⟩ := r H2 hT
  have hA : X.A.in1.in1.in1.in1.handled = none := hr.hd
  have hfr : X.A.in1.in1.in1.in1.frames = some X.stack := I4.ok.frames
  have hroom : Room k (X.A.in1.in1.in1.in1.deeper (genv X scope s4.heap.objs.size code)) := by
    refine ⟨hr.hd, ?_, ?_⟩
    · have := hr.dp
      show X.A.depth + 1 + 3 * k + 5 < _
      omega
    · have := hr.un
      show X.A.units + 1 + 1 + 1 + 1 + 3 + 16 * k + 200 < _
      omega
  have I5 := gx_start (code := code) I4 ok hnc hN hfp hA hfr hos hba hk hns ha haC hgo
  have hfl : ∀ b ∈ fp, b < s5.heap.objs.size := fun b hb => by
    obtain ⟨o, e, _⟩ := T.obj _ _ st5 b hb
    exact Heap.lt_size e
  have h45 : s4.heap.objs.size ≤ s5.heap.objs.size := Nat.le_of_lt (Nat.lt_trans haC hal)
  refine callType_codes (Q₁ := fun obj s₁ => s₁.TypeIs obj "tuple" ∧ EP X pins σ Q obj s₁) F.called_tuple (F.typeCall_tuple_1 _) F.entry_object_init
    (code_tuple_new_gx (Post := fun s' acc => ∃ ys s1 H' σ' c, Vals ys acc.toList ∧ Inv (gcx X s4 H2 (genv X scope s4.heap.objs.size code) X.A.in1.in1.in1.in1 fp [(a, go)]) [(s5.heap.objs.size, lstObj acc c)] σ' H' s1 ∧ (ys.length ≤ sizeLine ∧ ∀ p o, H' p = none → FT o → Q (.ref p) (upd H' p (.frz o (.tup ys)))) ∧ s'.os = s1.os ∧ AllBare s'.gens ∧ ∀ b o, s1.heap.get? b = some o → s'.heap.get? b = some o)
      (Heap.IsGen.typeIs (hgen _ ha)) (fun Q2 E2 hQ2 => ?_) fun s' acc hp => ?_) fun obj s₁ h₁ => ?_
  · refine gx_collect (A := X.A.in1.in1) (s4 := s4) (H4 := H2) (cenv := genv X scope s4.heap.objs.size code) (fp := fp) (go := go) (g := gn) (n := m + 1) (Fin := fun ys H' => ys.length ≤ sizeLine ∧ ∀ p o, H' p = none → FT o → Q (.ref p) (upd H' p (.frz o (.tup ys)))) hr.hd (by have := hr.dp; show X.A.depth < _; omega) hgen ha hlim hba hgs (fun s2 e1 e2 e3 e4 => ?_) (fun ys s1 H' σ' acc c hv I' f s' e1 e2 e3 => hQ2 s' acc ⟨ys, s1, H', σ', c, hv, I', f, e1, e2, e3⟩)
    obtain ⟨cS, heS⟩ := e4
    have I6 : Inv (gcx X s4 H2 (genv X scope s4.heap.objs.size code) X.A.in1.in1.in1.in1 fp [(a, go)]) [] (wipe σ (own.map (·.2))) H2 s2 :=
      I5.call' (ch := []) e1 (Un.kept e3) (I5.hok.kept e3) e2 fun b hb => by simp at hb
    have I7 : Inv (gcx X s4 H2 (genv X scope s4.heap.objs.size code) X.A.in1.in1.in1.in1 fp [(a, go)]) [(s5.heap.objs.size, lstObj #[] cS)] (wipe σ (own.map (·.2))) H2 s2 :=
      I6.pins_of fun p hp => by
        rw [List.mem_singleton.mp hp]
        refine ⟨heS, I5.hok.fresh (Nat.le_refl _), Nat.ne_of_gt (Nat.lt_trans haC hal), I5.nofs (Nat.le_refl _), fun v z => by cases z⟩
    refine gx_startSeg (X := X) (s4 := s4) (H4 := H2) (cenv := genv X scope s4.heap.objs.size code) (a := a) (go := go) (lim := s5.heap.objs.size) (W := W) (tt := tt) (te := te) (g := g) T (pg s4 H2 _ code _ fp _ hroom) (pt s4 H2 _ code _ fp _ hroom) (pe s4 H2 _ code _ fp _ hroom) hA h45 hal
      (Nat.lt_trans haC hal) (fun y c e => Nat.lt_of_lt_of_le (lookup_lt I4 ok e) h45) hfl (fun hz => absurd (Nat.lt_trans haC (hfp a hz).2) (Nat.lt_irrefl _)) hco (fun ys pl hc b hb => ?_) (fun i m ys H w => ?_) (Nat.lt_succ_self m) w ⟨#[], cS, .nil, rfl⟩ I7
      (T.keep _ _ _ st5 fun b hb o e => e3 b o e) (fun b hb => (hfp b hb).1.1)
    · obtain ⟨acc, c, _, rfl⟩ := hc
      have hb : b ∈ [s5.heap.objs.size] := hb
      rw [List.mem_singleton.mp hb]
      exact Nat.le_refl _
    · rcases turn i m ys H w with ⟨h1, h2⟩ | ⟨h1, Nx, h2, h3⟩
      · exact .inl ⟨h1, h2⟩
      · exact .inr ⟨h1, Nx, h2, fun x H' y => h3 x H' y⟩
  · obtain ⟨ys, s1, H', σ', c', hv, I', ⟨hz, q⟩, e1, e2, e3⟩ := hp
    have hasz : acc.size = ys.length := by
      have e1 := hv.length
      have e2 : acc.toList.length = acc.size := by simp
      omega
    refine ⟨by rw [hasz]; exact hz, ⟨_, Heap.get?_push_size _ rfl, rfl⟩, ?_⟩
    have I8 : Inv X pins σ H' s' := gx_back I4 (fun b hb => (hfp b hb).1) I' e1 e2 e3
    have nP : H' s'.heap.objs.size = none := I8.hok.fresh (Nat.le_refl _)
    refine ⟨.ref s'.heap.objs.size, _, ?_, rfl, q _ { cls := .type "tuple", data := .seq acc } nP ⟨rfl, rfl⟩⟩
    refine I8.laid (t' := s'.toks) (fun b o e => Heap.get?_push_of_some _ e) (Nat.le_refl _) ⟨Heap.get?_push_size _ rfl, hz, acc.toList, hv, ?_⟩
    exact ⟨_, Heap.get?_push_size _ rfl, rfl, 0, by simp⟩
  · exact ⟨h₁.1, F.args_object_init_2 obj _, object_init_meets F.called_tuple.init.lookup F.called_tuple.made (by decide) X.prog X.w X.A.in1 _ s₁ ⟨h₁.1, rfl, h₁.2⟩⟩
end
end Gx

namespace Tx
open PySem PySem.Spec PyProof.Rows L2 Gx
/-- a new tuple, known whole -/
def New (H : Hp) (Q : VK) (xs : List V) : Prop := ∀ (p : Addr) (o : Obj), H p = none → FT o → Q (.ref p) (upd H p (.frz o (.tup xs)))
section
variable {X : Cx} {pins : List (Addr × Obj)} {σ : L2.St} {H : Hp} {s : Shared} {Q : VK}
theorem put {xs : List V} {its : List Value} (I : Inv X pins σ H s) (r : Vals xs its) (z : xs.length ≤ sizeLine) (q : New H Q xs) {t : Nat} : EP X pins σ Q (.ref s.heap.objs.size) { s with heap := s.heap.push { cls := .type "tuple", data := .seq its.toArray }, toks := t } :=
  ⟨.ref s.heap.objs.size, _, I.laid (t' := t) (o := .frz { cls := .type "tuple", data := .seq its.toArray } (.tup xs)) (fun b u e => Heap.get?_push_of_some _ e) (Nat.le_refl _) ⟨Heap.get?_push_size _ rfl, z, its, r, IsTup.new _ _⟩, rfl, q _ _ (I.hok.fresh (Nat.le_refl _)) ⟨rfl, rfl⟩⟩
end
section
variable {X : Cx} {es : List Expr} {pos : Pos} {t : TA}
def tNew (t : TA) : TE := fun σ H Q => t σ H fun xs H1 => xs.length ≤ sizeLine ∧ New H1 Q xs
theorem pe_new {n : Nat} (h : PA X es t) : PE X (.Tuple es n pos) (tNew t) :=
  ⟨fun pins s σ H Q I hq => wpAny_Tuple_spliced (thn (h.run pos pins s σ H _ I hq) fun us s1 ⟨xs, H1, I1, r, z, q⟩ => ⟨by rw [← r.length]; exact z, put I1 r z q (t := s1.toks)⟩)⟩
theorem call_new : CallR X (.type "tuple") (fun xs H Q => ∃ p ys, xs = [.ref p] ∧ ((SqL X.K H p ys ∧ New H Q ys) ∨ (SqT X.K H p ys ∧ Q (.ref p) H))) := by
  intro pins s σ H xs us Q I r h
  obtain ⟨p, ys, rfl, h⟩ := h
  obtain ⟨u, rfl, rx⟩ := vals1 r
  cases rx
  rcases h with ⟨hq, q⟩ | ⟨hq, q⟩
  · obtain ⟨its, r', pl, hz⟩ := I.list hq
    refine call_tuple_list pl.isList (fun h' kp => ?_) (by rw [List.size_toArray, ← r'.length]; exact hz)
    exact put (I.kept (t' := s.toks) kp) r' hz q (t := s.toks)
  · obtain ⟨its, r', pl, hz⟩ := I.tuple hq
    exact call_tuple_same pl ⟨.ref p, H, I, rfl, q⟩
def rCat (K : PySem.W.Frag) : R2 := fun x y H Q => ∃ a b xs ys, x = .ref a ∧ y = .ref b ∧ SqT K H a xs ∧ SqT K H b ys ∧ xs.length + ys.length ≤ sizeLine ∧ (xs = [] → Q (.ref b) H) ∧ (ys = [] → Q (.ref a) H) ∧ New H Q (xs ++ ys)
theorem op_new : OpR X (binaryOp .Add) (rCat X.K) := by
  intro pins s σ H x y v u Q I rx ry h
  obtain ⟨a, b, xs, ys, rfl, rfl, ha, hb, hz, q0, q1, q2⟩ := h
  by_cases hx : xs = []
  · exact op_catA pins s σ H _ _ v u Q I rx ry ⟨a, b, xs, ys, rfl, rfl, ha, hb, hz, q0, fun z => absurd hx z, fun z => absurd hx z⟩
  cases rx
  cases ry
  obtain ⟨its, r1, p1, _⟩ := I.tuple ha
  obtain ⟨its2, r2, p2, _⟩ := I.tuple hb
  refine HT.cat_tup p1 p2 (fun z => hx (r1.nil_iff.mp z)) (fun z => ⟨.ref a, H, I, rfl, q1 (r2.nil_iff.mp z)⟩) (fun z => ?_) (by rw [← r1.length, ← r2.length]; exact hz)
  exact put I (r1.append r2) (by rw [List.length_append]; exact hz) q2 (t := s.toks)
def rCut (K : PySem.W.Frag) : V → Option Int → Option Int → Hp → VK → Prop := fun x lo hi H Q => ∃ a xs, x = .ref a ∧ SqT K H a xs ∧
  (HT.sIx xs.length 0 lo = 0 ∧ HT.sIx xs.length xs.length hi = xs.length → Q (.ref a) H) ∧ New H Q (cutV xs lo hi)
theorem sl_new : SlR X (rCut X.K) := by
  intro pins s σ H x v vl vu lo hi sl Q I rx hs pl pu h
  obtain ⟨a, xs, rfl, hx, q1, q2⟩ := h
  by_cases hw : HT.sIx xs.length 0 lo = 0 ∧ HT.sIx xs.length xs.length hi = xs.length
  · exact sl_tupA pins s σ H _ v vl vu lo hi sl Q I rx hs pl pu ⟨a, xs, rfl, hx, q1, fun z => absurd hw z⟩
  cases rx
  obtain ⟨its, r, ht, hz⟩ := I.tuple hx
  have hlen : its.toArray.size = xs.length := by rw [List.size_toArray]; exact r.length.symm
  refine ⟨"tuple", _, PyProof.Rows.slot_tuple_getitem.lookup, ht.typeIs, ?_⟩
  refine HT.getItem_tuple_cut ht hs pl pu (by rw [hlen]; exact hw) ?_ (by rw [hlen]; exact hz)
  rw [hlen]
  exact put I ((r.drop (HT.sIx xs.length 0 lo)).take (HT.sIx xs.length xs.length hi - HT.sIx xs.length 0 lo)) (Nat.le_trans (cutV_length xs lo hi) hz) q2 (t := s.toks)
def rRep (K : PySem.W.Frag) : R2 := fun x y H Q => ∃ l k xs, x = .ref l ∧ y = .int k ∧ SqT K H l xs ∧ xs ≠ [] ∧ 2 ≤ k ∧ k ≤ 1000 ∧ xs.length ≤ 1000 ∧ New H Q (List.replicate k.toNat xs).flatten
theorem op_times : OpR X (binaryOp .Mult) (rRep X.K) := by
  intro pins s σ H x y v u Q I rx ry h
  obtain ⟨l, k, xs, rfl, rfl, isT, some', two, most, short, q⟩ := h
  obtain ⟨tk, rfl⟩ := ry
  cases rx
  obtain ⟨its, r, ⟨⟨c, d, dat, sl⟩, at_l, c_is, n, d_is⟩, _⟩ := I.tuple isT
  simp only at c_is d_is
  subst c_is d_is
  have same : its.length = xs.length := r.length.symm
  have full : its.toArray.isEmpty = false := by
    cases its with
    | nil => exact absurd (List.eq_nil_of_length_eq_zero same.symm) some'
    | cons a b => rfl
  have much : k.toNat * xs.length ≤ 1000000 := Nat.le_trans (Nat.mul_le_mul (show k.toNat ≤ 1000 by omega) short) (by decide)
  have line : (1000000 : Nat) ≤ sizeLine := by rw [sizeLine_eq]; decide
  have cnt : its.toArray.size = xs.length := by rw [List.size_toArray, same]
  have prod : ((its.toArray.size : Nat) : Int) * k ≤ 1000000 := by
    have e : ((its.toArray.size : Nat) : Int) * k = ((k.toNat * xs.length : Nat) : Int) := by
      rw [cnt, Int.natCast_mul, Int.mul_comm]
      congr 1
      omega
    rw [e]
    generalize k.toNat * xs.length = m at much ⊢
    omega
  have w1 : (decide (k < -(2 ^ 63)) || decide (k ≥ 2 ^ 63)) = false := by rw [decide_eq_false (by omega), decide_eq_false (by omega)]; rfl
  have w2 : (its.toArray.isEmpty || k == 1) = false := by
    rw [full, Bool.false_or]
    exact beq_eq_false_iff_ne.mpr (by omega)
  have w3 : (decide (k ≤ 0) || its.toArray.isEmpty) = false := by
    rw [full, Bool.or_false]
    exact decide_eq_false (by omega)
  have w4 : Builtin.Tuple.tupleTooMany (((its.toArray.size : Nat) : Int) * k) = false := by
    unfold Builtin.Tuple.tupleTooMany
    rw [sizeLine_eq]
    exact decide_eq_false (by omega)
  have len1 : (List.replicate k.toNat its).flatten.length ≤ sizeLine := by
    rw [PyProof.Rows.lm_len_rep_flat, same]
    exact Nat.le_trans much line
  have len2 : (List.replicate k.toNat xs).flatten.length ≤ sizeLine := by
    rw [PyProof.Rows.lm_len_rep_flat]
    exact Nat.le_trans much line
  refine wpAny_binaryOp_repeat_ref (T := "tuple") (U := "int") (by decide) ⟨_, at_l, rfl⟩ (fun s' => typeIs_int s' k tk) noFill_tuple_mul F.fills_int_mul F.slot_int_rmul repeat_tuple F.slot_int_index.lookup
    (call_meets F.slot_int_rmul (typeIs_int s k tk) F.entry_int_rmul (F.args_int_rmul_2 _ _) (int_rmul_tuple k tk l its.toArray n d sl)
      ⟨at_l, rfl, ⟨_, at_l, rfl⟩, call_meets F.slot_tuple_mul ⟨_, at_l, rfl⟩ F.entry_tuple_mul (F.args_tuple_mul_2 _ _) (tuple_mulW l its.toArray n d sl k tk w1 w2 w3 (by omega) w4 (by rw [size_rep, List.size_toArray]; exact len1)) ⟨at_l, ?_⟩⟩)
  rw [size_rep]
  exact put I (r.rep k.toNat) len2 q (t := s.toks)
end
end Tx

namespace Dm
open PySem PySem.Spec PyProof.Rows L2
open GxR (TabB TabG Tabbed)

/-- data: what the programs hand about -/
inductive D where
  | non | bl (b : Bool) | int (i : Int) | str (z : Str) | tup (xs : List D) | lst (xs : List D) | strm | wt (xs : List D)

/-- a tuple whose object is known whole -/
def TX (K : PySem.W.Frag) (F : Hp) (a : Addr) (vs : List V) : Prop := SqT K F a vs ∧ ((∃ o, F a = some (HO.frz o (HO.tup vs)) ∧ Gx.FT o) ∨ ∃ o, K.lookup a = some o ∧ Gx.FT o)
mutual
inductive Rep (K : PySem.W.Frag) (st : Addr) (F : Hp) : V → D → Prop
  | non : Rep K st F .non .non
  | bl (b : Bool) : Rep K st F (.bl b) (.bl b)
  | int (i : Int) : Rep K st F (.int i) (.int i)
  | str (z : Str) : Rep K st F (.str z) (.str z)
  | tup {a : Addr} {vs : List V} {xs : List D} (h : TX K F a vs) (r : Reps K st F vs xs) : Rep K st F (.ref a) (.tup xs)
  | lst {a : Addr} {vs : List V} {xs : List D} (h : F a = some (HO.lst vs)) (r : Reps K st F vs xs) : Rep K st F (.ref a) (.lst xs)
  | strm : Rep K st F (.ref st) .strm
  | wt {a : Addr} {vs : List V} {xs : List D} (h : F a = some (HO.tup vs)) (r : Reps K st F vs xs) : Rep K st F (.ref a) (.wt xs)
inductive Reps (K : PySem.W.Frag) (st : Addr) (F : Hp) : List V → List D → Prop
  | nil : Reps K st F [] []
  | cons {v : V} {vs : List V} {x : D} {xs : List D} (h : Rep K st F v x) (t : Reps K st F vs xs) : Reps K st F (v :: vs) (x :: xs)
end
theorem Same.tx {K : PySem.W.Frag} {H H' : Hp} {a : Addr} {xs : List V} (e : Same H H') (h : TX K H a xs) : TX K H' a xs := ⟨Evl.ex_t e h.1, by
  rcases h.2 with ⟨o, h1, h2⟩ | z
  · exact .inl ⟨o, e _ _ h1, h2⟩
  · exact .inr z⟩
theorem Same.tup {K : PySem.W.Frag} {H H' : Hp} {a : Addr} {xs : List V} (e : Same H H') (h : SqT K H a xs) : SqT K H' a xs := Evl.ex_t e h
section
variable {K : PySem.W.Frag} {st : Addr} {F F' : Hp}
mutual
theorem Rep.mono (e : Same F F') : ∀ {v : V} {d : D}, Rep K st F v d → Rep K st F' v d
  | _, _, .non => .non
  | _, _, .bl b => .bl b
  | _, _, .int i => .int i
  | _, _, .str z => .str z
  | _, _, .tup h r => .tup (Same.tx e h) (Reps.mono e r)
  | _, _, .lst h r => .lst (e _ _ h) (Reps.mono e r)
  | _, _, .strm => .strm
  | _, _, .wt h r => .wt (e _ _ h) (Reps.mono e r)
theorem Reps.mono (e : Same F F') : ∀ {vs : List V} {xs : List D}, Reps K st F vs xs → Reps K st F' vs xs
  | _, _, .nil => .nil
  | _, _, .cons h t => .cons (Rep.mono e h) (Reps.mono e t)
end
theorem Reps.length : ∀ {vs : List V} {xs : List D}, Reps K st F vs xs → vs.length = xs.length
  | _, _, .nil => rfl
  | _, _, .cons _ t => by rw [List.length_cons, List.length_cons, Reps.length t]
theorem Reps.get : ∀ {vs : List V} {xs : List D} {i : Nat} {x : D}, Reps K st F vs xs → xs[i]? = some x → ∃ v, vs[i]? = some v ∧ Rep K st F v x
  | _, _, _, _, .nil, e => by simp at e
  | _, _, 0, _, .cons h _, e => by simp at e; subst e; exact ⟨_, rfl, h⟩
  | _, _, i + 1, x, .cons _ t, e => by
    obtain ⟨v, h1, h2⟩ := Reps.get (i := i) (x := x) t (by simpa using e)
    exact ⟨v, by simpa using h1, h2⟩
theorem Reps.getV {vs : List V} {xs : List D} {i : Nat} {v : V} (r : Reps K st F vs xs) (h : vs[i]? = some v) : ∃ x, xs[i]? = some x ∧ Rep K st F v x := by
  have hi : i < xs.length := by rw [← r.length]; exact (List.getElem?_eq_some_iff.mp h).1
  obtain ⟨v', h1, h2⟩ := r.get (List.getElem?_eq_getElem hi)
  rw [h] at h1; cases h1
  exact ⟨_, List.getElem?_eq_getElem hi, h2⟩
theorem Reps.append : ∀ {vs us : List V} {xs ys : List D}, Reps K st F vs xs → Reps K st F us ys → Reps K st F (vs ++ us) (xs ++ ys)
  | _, _, _, _, .nil, s => s
  | _, _, _, _, .cons h t, s => .cons h (Reps.append t s)
theorem Reps.take : ∀ {vs : List V} {xs : List D} (n : Nat), Reps K st F vs xs → Reps K st F (vs.take n) (xs.take n)
  | _, _, 0, _ => .nil
  | _, _, _ + 1, .nil => .nil
  | _, _, n + 1, .cons h t => .cons h (Reps.take n t)
theorem Reps.drop : ∀ {vs : List V} {xs : List D} (n : Nat), Reps K st F vs xs → Reps K st F (vs.drop n) (xs.drop n)
  | _, _, 0, r => r
  | _, _, _ + 1, .nil => .nil
  | _, _, n + 1, .cons _ t => Reps.drop n t
theorem Reps.snoc {vs : List V} {xs : List D} {v : V} {x : D} (r : Reps K st F vs xs) (h : Rep K st F v x) : Reps K st F (vs ++ [v]) (xs ++ [x]) := r.append (.cons h .nil)
end

/-- what stands still -/
def fzn : HO → Bool
  | .lst _ => true
  | .tup _ => true
  | .frz _ _ => true
  | _ => false
def RngOk (K : PySem.W.Frag) (st : Addr) (H F : Hp) : Prop :=
  F st = none ∧ ∃ (cs : Addr) (c k : Int) (ns : List Int), H st = some (.lst [.ref cs, .int c, .int k]) ∧ F cs = some (.lst (ns.map V.int)) ∧ 0 ≤ c ∧ 0 ≤ k
structure Base (K : PySem.W.Frag) (T : List Addr) (st : Addr) (g : Bool) (H F : Hp) : Prop where
  sub : ∀ b o, F b = some o → H b = some o
  kind : ∀ b o, F b = some o → fzn o = true
  tab : ∀ P ∈ T, TabG H P
  rng : g = true → RngOk K st H F
structure Grow (st : Addr) (g : Bool) (H F H' F' : Hp) : Prop where
  ff : Same F F'
  hh : ∀ b o, H b = some o → (∀ ps, o ≠ .tbl ps) → (g = true → b ≠ st) → H' b = some o
  nn : ∀ b, F b = none → H b ≠ none → F' b = none
  al : ∀ b, H b ≠ none → H' b ≠ none
  cs : g = true → ∀ (q : Addr) (c k : Int), H st = some (.lst [.ref q, .int c, .int k]) → ∃ c' k' : Int, H' st = some (.lst [.ref q, .int c', .int k'])
theorem Grow.refl {st : Addr} {g : Bool} {H F : Hp} : Grow st g H F H F := ⟨fun _ _ e => e, fun _ _ e _ _ => e, fun _ e _ => e, fun _ e => e, fun _ _ c k e => ⟨c, k, e⟩⟩
theorem Grow.trans {st : Addr} {g : Bool} {H F H1 F1 H2 F2 : Hp} (a : Grow st g H F H1 F1) (b : Grow st g H1 F1 H2 F2) : Grow st g H F H2 F2 :=
  ⟨fun x o e => b.ff x o (a.ff x o e), fun x o e h1 h2 => b.hh x o (a.hh x o e h1 h2) h1 h2, fun x e h => b.nn x (a.nn x e h) (a.al x h), fun x e => b.al x (a.al x e), fun g q c k e => by
    obtain ⟨c1, k1, e1⟩ := a.cs g q c k e
    exact b.cs g q c1 k1 e1⟩

structure Cfg where
  K : PySem.W.Frag
  T : List Addr
  st : Addr
  g : Bool
  H0 : Hp
  F0 : Hp
inductive Slot where
  | none | val (d : D) | own (xs : List D)
abbrev SD := List Slot
abbrev Tmp := List (Addr × List D)
structure Stt (C : Cfg) (S : SD) (tmp : Tmp) (σ : L2.St) (H F : Hp) : Prop where
  b0 : Base C.K C.T C.st C.g C.H0 C.F0
  base : Base C.K C.T C.st C.g H F
  grow : Grow C.st C.g C.H0 C.F0 H F
  val : ∀ (i : Nat) (d : D), S[i]? = some (Slot.val d) → ∃ v : V, σ[i]? = some (some v) ∧ Rep C.K C.st F v d
  own : ∀ (i : Nat) (xs : List D), S[i]? = some (Slot.own xs) → ∃ (a : Addr) (vs : List V), σ[i]? = some (some (V.ref a)) ∧ F a = none ∧ C.H0 a = none ∧ H a = some (HO.lst vs) ∧ Reps C.K C.st F vs xs
  dis : ∀ (i j : Nat) (xs ys : List D) (a : Addr), S[i]? = some (Slot.own xs) → S[j]? = some (Slot.own ys) → σ[i]? = some (some (V.ref a)) → σ[j]? = some (some (V.ref a)) → i = j
  tm : ∀ (a : Addr) (xs : List D), (a, xs) ∈ tmp → ∃ vs : List V, F a = none ∧ C.H0 a = none ∧ H a = some (HO.lst vs) ∧ Reps C.K C.st F vs xs
  tdis : ∀ (i : Nat) (ys : List D) (a : Addr) (xs : List D), (a, xs) ∈ tmp → S[i]? = some (Slot.own ys) → σ[i]? ≠ some (some (V.ref a))
  tnd : (tmp.map (·.1)).Nodup

section
variable {C : Cfg} {S : SD} {tmp : Tmp} {σ : L2.St} {H F : Hp}
theorem Stt.nst (s : Stt C S tmp σ H F) {a : Addr} (h : C.H0 a = none) (g : C.g = true) : a ≠ C.st := fun e => by
  obtain ⟨_, cs, c, k, ns, h1, _⟩ := s.b0.rng g
  rw [e, h1] at h
  cases h
theorem Stt.fresh0 (s : Stt C S tmp σ H F) {p : Addr} (h : H p = none) : C.H0 p = none := by
  cases q : C.H0 p with
  | none => rfl
  | some o => exact absurd h (s.grow.al p (by rw [q]; exact fun z => by cases z))
theorem Stt.freshF (s : Stt C S tmp σ H F) {p : Addr} (h : H p = none) : F p = none := by
  cases q : F p with
  | none => rfl
  | some o =>
    rw [s.base.sub p o q] at h
    cases h
theorem Base.grow {K : PySem.W.Frag} {T : List Addr} {st : Addr} {g : Bool} {H F H' : Hp} (b : Base K T st g H F) (hh : ∀ b o, H b = some o → H' b = some o) : Base K T st g H' F where
  sub := fun x o e => hh x o (b.sub x o e)
  kind := b.kind
  tab := fun P hP => by
    obtain ⟨ps, h1, h2⟩ := b.tab P hP
    exact ⟨ps, hh _ _ h1, h2⟩
  rng := fun h => by
    obtain ⟨h1, cs, c, k, ns, h2, h3⟩ := b.rng h
    exact ⟨h1, cs, c, k, ns, hh _ _ h2, h3⟩
theorem Base.growF {K : PySem.W.Frag} {T : List Addr} {st : Addr} {g : Bool} {H F : Hp} {p : Addr} {o : HO} (b : Base K T st g H F) (hp : H p = some o) (hf : fzn o = true) (hn : F p = none) (hst : g = true → p ≠ st) : Base K T st g H (upd F p o) where
  sub := fun x u e => by
    by_cases hx : x = p
    · subst hx
      rw [upd_same] at e
      cases e
      exact hp
    · rw [upd_ne hx] at e
      exact b.sub x u e
  kind := fun x u e => by
    by_cases hx : x = p
    · subst hx
      rw [upd_same] at e
      cases e
      exact hf
    · rw [upd_ne hx] at e
      exact b.kind x u e
  tab := b.tab
  rng := fun h => by
    obtain ⟨h1, cs, c, k, ns, h2, h3, h4⟩ := b.rng h
    have sF : Same F (upd F p o) := fun x u e => by
      rw [upd_ne (ne_of_none e hn)]
      exact e
    exact ⟨by rw [upd_ne (Ne.symm (hst h))]; exact h1, cs, c, k, ns, h2, sF _ _ h3, h4⟩
theorem sameF {F : Hp} {p : Addr} {o : HO} (hn : F p = none) : Same F (upd F p o) := fun x u e => by
  rw [upd_ne (ne_of_none e hn)]
  exact e
/-- the heap has grown, nothing that was tracked has changed -/
theorem Stt.grew (s : Stt C S tmp σ H F) {H' : Hp} (hh : ∀ b o, H b = some o → H' b = some o) : Stt C S tmp σ H' F where
  b0 := s.b0
  base := s.base.grow hh
  grow := ⟨s.grow.ff, fun b o e h1 h2 => hh b o (s.grow.hh b o e h1 h2), s.grow.nn, fun b e => by
    cases q : H b with
    | none => exact absurd q (s.grow.al b e)
    | some o =>
      rw [hh b o q]
      exact (fun z => by cases z), fun g q c k e => by
    obtain ⟨c1, k1, e1⟩ := s.grow.cs g q c k e
    exact ⟨c1, k1, hh _ _ e1⟩⟩
  val := s.val
  own := fun i xs h => by
    obtain ⟨a, vs, h1, h2, h3, h4, h5⟩ := s.own i xs h
    exact ⟨a, vs, h1, h2, h3, hh _ _ h4, h5⟩
  dis := s.dis
  tm := fun a xs h => by
    obtain ⟨vs, h2, h3, h4, h5⟩ := s.tm a xs h
    exact ⟨vs, h2, h3, hh _ _ h4, h5⟩
  tdis := s.tdis
  tnd := s.tnd
/-- an object that nobody owns stands still from now on -/
theorem Stt.still (s : Stt C S tmp σ H F) {p : Addr} {o : HO} (hp : H p = some o) (hf : fzn o = true) (hn : F p = none) (h0 : C.H0 p = none) (no : ∀ (i : Nat) (xs : List D), S[i]? = some (Slot.own xs) → σ[i]? ≠ some (some (V.ref p))) (nt : p ∉ tmp.map (·.1)) : Stt C S tmp σ H (upd F p o) where
  b0 := s.b0
  base := s.base.growF hp hf hn (s.nst h0)
  grow := ⟨fun x u e => sameF hn x u (s.grow.ff x u e), s.grow.hh, fun b e h => by
    rw [upd_ne (fun z => h (by rw [z]; exact h0))]
    exact s.grow.nn b e h, s.grow.al, s.grow.cs⟩
  val := fun i d h => by
    obtain ⟨v, h1, h2⟩ := s.val i d h
    exact ⟨v, h1, h2.mono (sameF hn)⟩
  own := fun i xs h => by
    obtain ⟨a, vs, h1, h2, h3, h4, h5⟩ := s.own i xs h
    refine ⟨a, vs, h1, ?_, h3, h4, h5.mono (sameF hn)⟩
    rw [upd_ne (fun z => no i xs h (by rw [← z]; exact h1))]
    exact h2
  dis := s.dis
  tm := fun a xs h => by
    obtain ⟨vs, h2, h3, h4, h5⟩ := s.tm a xs h
    refine ⟨vs, ?_, h3, h4, h5.mono (sameF hn)⟩
    rw [upd_ne (fun z => nt (by rw [← z]; exact List.mem_map.mpr ⟨_, h, rfl⟩))]
    exact h2
  tdis := s.tdis
  tnd := s.tnd
theorem Stt.noOwn (s : Stt C S tmp σ H F) {p : Addr} (h : H p = none) : (∀ (i : Nat) (xs : List D), S[i]? = some (Slot.own xs) → σ[i]? ≠ some (some (V.ref p))) ∧ p ∉ tmp.map (·.1) := by
  refine ⟨fun i xs e z => ?_, fun z => ?_⟩
  · obtain ⟨a, vs, h1, h2, h3, h4, h5⟩ := s.own i xs e
    rw [z] at h1
    cases h1
    rw [h] at h4
    cases h4
  · obtain ⟨q, hq, e⟩ := List.mem_map.mp z
    obtain ⟨vs, h2, h3, h4, h5⟩ := s.tm q.1 q.2 hq
    rw [e, h] at h4
    cases h4
/-- a new object, standing still -/
theorem Stt.newO (s : Stt C S tmp σ H F) {p : Addr} {o : HO} (h : H p = none) (hf : fzn o = true) : Stt C S tmp σ (upd H p o) (upd F p o) :=
  (s.grew (H' := upd H p o) fun b u e => by rw [upd_ne (ne_of_none e h)]; exact e).still upd_same hf (s.freshF h) (s.fresh0 h) (s.noOwn h).1 (s.noOwn h).2
theorem Stt.newT (s : Stt C S tmp σ H F) {p : Addr} {o : Obj} {vs : List V} {xs : List D} (h : H p = none) (ho : Gx.FT o) (r : Reps C.K C.st F vs xs) :
    Stt C S tmp σ (upd H p (.frz o (.tup vs))) (upd F p (.frz o (.tup vs))) ∧ Same F (upd F p (.frz o (.tup vs))) ∧ Rep C.K C.st (upd F p (.frz o (.tup vs))) (.ref p) (.tup xs) :=
  ⟨s.newO h rfl, sameF (s.freshF h), .tup ⟨.inl (.inr ⟨o, upd_same⟩), .inl ⟨o, upd_same, ho⟩⟩ (r.mono (sameF (s.freshF h)))⟩
theorem Stt.newL (s : Stt C S tmp σ H F) {p : Addr} {vs : List V} {xs : List D} (h : H p = none) (r : Reps C.K C.st F vs xs) :
    Stt C S tmp σ (upd H p (.lst vs)) (upd F p (.lst vs)) ∧ Same F (upd F p (.lst vs)) ∧ Rep C.K C.st (upd F p (.lst vs)) (.ref p) (.lst xs) :=
  ⟨s.newO h rfl, sameF (s.freshF h), .lst upd_same (r.mono (sameF (s.freshF h)))⟩
/-- behind a call -/
theorem Stt.called (s : Stt C S tmp σ H F) {H' F' : Hp} (b : Base C.K C.T C.st C.g H' F') (g : Grow C.st C.g H F H' F') : Stt C S tmp σ H' F' where
  b0 := s.b0
  base := b
  grow := s.grow.trans g
  val := fun i d h => by
    obtain ⟨v, h1, h2⟩ := s.val i d h
    exact ⟨v, h1, h2.mono g.ff⟩
  own := fun i xs h => by
    obtain ⟨a, vs, h1, h2, h3, h4, h5⟩ := s.own i xs h
    exact ⟨a, vs, h1, g.nn a h2 (by rw [h4]; exact fun z => by cases z), h3, g.hh a _ h4 (fun ps z => by cases z) (s.nst h3), h5.mono g.ff⟩
  dis := s.dis
  tm := fun a xs h => by
    obtain ⟨vs, h2, h3, h4, h5⟩ := s.tm a xs h
    exact ⟨vs, g.nn a h2 (by rw [h4]; exact fun z => by cases z), h3, g.hh a _ h4 (fun ps z => by cases z) (s.nst h3), h5.mono g.ff⟩
  tdis := s.tdis
  tnd := s.tnd
theorem getset {α : Type} {l : List α} {i j : Nat} {x y : α} (h : (l.set i x)[j]? = some y) : (i = j ∧ y = x) ∨ (i ≠ j ∧ l[j]? = some y) := by
  by_cases e : i = j
  · subst e
    by_cases hi : i < l.length
    · rw [List.getElem?_set_self hi] at h
      exact .inl ⟨rfl, (Option.some.inj h).symm⟩
    · rw [List.getElem?_eq_none (by simpa using hi)] at h
      cases h
  · rw [List.getElem?_set_ne e] at h
    exact .inr ⟨e, h⟩
theorem Stt.set (s : Stt C S tmp σ H F) {i : Nat} {v : V} {d : D} (hi : i < σ.length) (r : Rep C.K C.st F v d) : Stt C (S.set i (Slot.val d)) tmp (σ.set i (some v)) H F where
  b0 := s.b0
  base := s.base
  grow := s.grow
  val := fun j e h => by
    rcases getset h with ⟨rfl, q⟩ | ⟨n, q⟩
    · cases q
      exact ⟨v, List.getElem?_set_self hi, r⟩
    · rw [List.getElem?_set_ne n]
      exact s.val j e q
  own := fun j xs h => by
    rcases getset h with ⟨rfl, q⟩ | ⟨n, q⟩
    · cases q
    · rw [List.getElem?_set_ne n]
      exact s.own j xs q
  dis := fun j k xs ys a h1 h2 h3 h4 => by
    rcases getset h1 with ⟨rfl, q⟩ | ⟨n, q⟩
    · cases q
    rcases getset h2 with ⟨rfl, q2⟩ | ⟨n2, q2⟩
    · cases q2
    rw [List.getElem?_set_ne n] at h3
    rw [List.getElem?_set_ne n2] at h4
    exact s.dis j k xs ys a q q2 h3 h4
  tm := s.tm
  tdis := fun j ys a xs h h1 => by
    rcases getset h1 with ⟨rfl, q⟩ | ⟨n, q⟩
    · cases q
    · rw [List.getElem?_set_ne n]
      exact s.tdis j ys a xs h q
  tnd := s.tnd
/-- a slot gets a list of its own -/
theorem Stt.setOwn (s : Stt C S tmp σ H F) {i : Nat} {p : Addr} {vs : List V} {xs : List D} (hi : i < σ.length) (hF : F p = none) (h0 : C.H0 p = none) (hp : H p = some (HO.lst vs)) (r : Reps C.K C.st F vs xs)
    (no : ∀ (j : Nat) (xs : List D), j ≠ i → S[j]? = some (Slot.own xs) → σ[j]? ≠ some (some (V.ref p))) (nt : p ∉ tmp.map (·.1)) : Stt C (S.set i (Slot.own xs)) tmp (σ.set i (some (V.ref p))) H F where
  b0 := s.b0
  base := s.base
  grow := s.grow
  val := fun j e h => by
    rcases getset h with ⟨rfl, q⟩ | ⟨n, q⟩
    · cases q
    · rw [List.getElem?_set_ne n]
      exact s.val j e q
  own := fun j ys h => by
    rcases getset h with ⟨rfl, q⟩ | ⟨n, q⟩
    · cases q
      exact ⟨p, vs, List.getElem?_set_self hi, hF, h0, hp, r⟩
    · rw [List.getElem?_set_ne n]
      exact s.own j ys q
  dis := fun j k xs ys a h1 h2 h3 h4 => by
    rcases getset h1 with ⟨rfl, q⟩ | ⟨n, q⟩ <;> rcases getset h2 with ⟨rfl, q2⟩ | ⟨n2, q2⟩
    · rfl
    · rw [List.getElem?_set_self hi] at h3
      rw [List.getElem?_set_ne n2] at h4
      cases h3
      exact absurd h4 (no k ys (Ne.symm n2) q2)
    · rw [List.getElem?_set_self hi] at h4
      rw [List.getElem?_set_ne n] at h3
      cases h4
      exact absurd h3 (no j xs (Ne.symm n) q)
    · rw [List.getElem?_set_ne n] at h3
      rw [List.getElem?_set_ne n2] at h4
      exact s.dis j k xs ys a q q2 h3 h4
  tm := s.tm
  tdis := fun j ys a xs h h1 z => by
    rcases getset h1 with ⟨rfl, q⟩ | ⟨n, q⟩
    · rw [List.getElem?_set_self hi] at z
      cases z
      exact nt (List.mem_map.mpr ⟨_, h, rfl⟩)
    · rw [List.getElem?_set_ne n] at z
      exact s.tdis j ys a xs h q z
  tnd := s.tnd
/-- the own list of a slot is written -/
theorem Stt.write (s : Stt C S tmp σ H F) {i : Nat} {a : Addr} {xs ys : List D} {us : List V} (hS : S[i]? = some (Slot.own xs)) (hσ : σ[i]? = some (some (V.ref a))) (r : Reps C.K C.st F us ys) : Stt C (S.set i (Slot.own ys)) tmp σ (upd H a (.lst us)) F := by
  obtain ⟨a', vs, h1, h2, h3, h4, h5⟩ := s.own i xs hS
  rw [hσ] at h1
  cases h1
  have iS : i < S.length := (List.getElem?_eq_some_iff.mp hS).1
  have nF : ∀ b o, F b = some o → b ≠ a := fun b o e z => by rw [z, h2] at e; cases e
  have other : ∀ (j : Nat) (zs : List D), j ≠ i → S[j]? = some (Slot.own zs) → σ[j]? ≠ some (some (V.ref a)) := fun j zs hj h z => hj (s.dis j i zs xs a h hS z hσ)
  refine ⟨s.b0, ⟨fun b o e => ?_, s.base.kind, fun P hP => ?_, fun g => ?_⟩, ⟨s.grow.ff, fun b o e n1 n2 => ?_, s.grow.nn, fun b e => ?_, fun g q c k e => by
    obtain ⟨c1, k1, e1⟩ := s.grow.cs g q c k e
    exact ⟨c1, k1, by rw [upd_ne (Ne.symm (s.nst h3 g))]; exact e1⟩⟩, fun j e h => ?_, fun j zs h => ?_, fun j k zs ws b q1 q2 q3 q4 => ?_, fun b zs h => ?_, fun j zs b ws h h' => ?_, s.tnd⟩
  · rw [upd_ne (nF b o e)]
    exact s.base.sub b o e
  · obtain ⟨ps, q1, q2⟩ := s.base.tab P hP
    exact ⟨ps, by rw [upd_ne (ne_of q1 h4 (fun z => by cases z))]; exact q1, q2⟩
  · obtain ⟨q1, cs, c, k, ns, q2, q3⟩ := s.base.rng g
    exact ⟨q1, cs, c, k, ns, by rw [upd_ne (Ne.symm (s.nst h3 g))]; exact q2, q3⟩
  · rw [upd_ne (fun z => by rw [z, h3] at e; cases e)]
    exact s.grow.hh b o e n1 n2
  · by_cases z : b = a
    · rw [z, upd_same]
      exact fun z => by cases z
    · rw [upd_ne z]
      exact s.grow.al b e
  · rcases getset h with ⟨rfl, q⟩ | ⟨n, q⟩
    · cases q
    · exact s.val j e q
  · rcases getset h with ⟨rfl, q⟩ | ⟨n, q⟩
    · cases q
      exact ⟨a, us, hσ, h2, h3, upd_same, r⟩
    · obtain ⟨b, ws, g1, g2, g3, g4, g5⟩ := s.own j zs q
      refine ⟨b, ws, g1, g2, g3, ?_, g5⟩
      rw [upd_ne (fun z => other j zs (Ne.symm n) q (by rw [← z]; exact g1))]
      exact g4
  · have p1 : ∃ zs', S[j]? = some (Slot.own zs') := by
      rcases getset q1 with ⟨rfl, q⟩ | ⟨n, q⟩
      · exact ⟨_, hS⟩
      · exact ⟨_, q⟩
    have p2 : ∃ zs', S[k]? = some (Slot.own zs') := by
      rcases getset q2 with ⟨rfl, q⟩ | ⟨n, q⟩
      · exact ⟨_, hS⟩
      · exact ⟨_, q⟩
    obtain ⟨z1, p1⟩ := p1
    obtain ⟨z2, p2⟩ := p2
    exact s.dis j k z1 z2 b p1 p2 q3 q4
  · obtain ⟨ws, g2, g3, g4, g5⟩ := s.tm b zs h
    refine ⟨ws, g2, g3, ?_, g5⟩
    rw [upd_ne (fun z => s.tdis i xs b zs h hS (by rw [z]; exact hσ))]
    exact g4
  · rcases getset h' with ⟨rfl, q⟩ | ⟨n, q⟩
    · exact s.tdis i xs b ws h hS
    · exact s.tdis j zs b ws h q
/-- the own list of a slot stands still from now on -/
theorem Stt.freeze (s : Stt C S tmp σ H F) {i : Nat} {xs : List D} (hS : S[i]? = some (Slot.own xs)) : ∃ a F', σ[i]? = some (some (V.ref a)) ∧ Stt C (S.set i (Slot.val (.lst xs))) tmp σ H F' ∧ Same F F' ∧ Rep C.K C.st F' (.ref a) (.lst xs) := by
  obtain ⟨a, vs, h1, h2, h3, h4, h5⟩ := s.own i xs hS
  have iσ : i < σ.length := (List.getElem?_eq_some_iff.mp h1).1
  have other : ∀ (j : Nat) (zs : List D), j ≠ i → S[j]? = some (Slot.own zs) → σ[j]? ≠ some (some (V.ref a)) := fun j zs hj h z => hj (s.dis j i zs xs a h hS z h1)
  -- forget the slot first
  have s1 : Stt C (S.set i Slot.none) tmp σ H F := by
    refine ⟨s.b0, s.base, s.grow, fun j e h => ?_, fun j zs h => ?_, fun j k zs ws b q1 q2 q3 q4 => ?_, s.tm, fun j zs b ws h h' => ?_, s.tnd⟩
    · rcases getset h with ⟨rfl, q⟩ | ⟨n, q⟩
      · cases q
      · exact s.val j e q
    · rcases getset h with ⟨rfl, q⟩ | ⟨n, q⟩
      · cases q
      · exact s.own j zs q
    · rcases getset q1 with ⟨rfl, q⟩ | ⟨n, q⟩
      · cases q
      rcases getset q2 with ⟨rfl, p2⟩ | ⟨n2, p2⟩
      · cases p2
      exact s.dis j k zs ws b q p2 q3 q4
    · rcases getset h' with ⟨rfl, q⟩ | ⟨n, q⟩
      · cases q
      · exact s.tdis j zs b ws h q
  have s2 := s1.still h4 rfl h2 h3 (fun j zs h => by
    rcases getset h with ⟨rfl, q⟩ | ⟨n, q⟩
    · cases q
    · exact other j zs (Ne.symm n) q) (fun z => by
      obtain ⟨q, hq, e⟩ := List.mem_map.mp z
      exact s.tdis i xs q.1 q.2 hq hS (by rw [e]; exact h1))
  have r : Rep C.K C.st (upd F a (.lst vs)) (.ref a) (.lst xs) := .lst upd_same (h5.mono (sameF h2))
  have s3 := s2.set (i := i) iσ r
  refine ⟨a, _, h1, ?_, sameF h2, r⟩
  rw [List.set_set] at s3
  have e : σ.set i (some (V.ref a)) = σ := by
    apply List.ext_getElem?
    intro j
    by_cases hj : i = j
    · subst hj
      rw [List.getElem?_set_self iσ, h1]
    · rw [List.getElem?_set_ne hj]
  rw [e] at s3
  exact s3
end
end Dm

namespace Dm
open PySem PySem.Spec PyProof.Rows L2
open GxR (TabB TabG Tabbed)

/-! ### the canonical readings -/
structure CanE (X : Cx) (e : Expr) (σ : L2.St) (H : Hp) (R : VK) : Prop where
  run : ∀ (pins : List (Addr × Obj)) (s : Shared), Inv X pins σ H s → wpAny (model X.prog X.w) X.A (eval e X.env) (EP X pins σ R) X.xe s
structure CanT (X : Cx) (e : Expr) (σ : L2.St) (H : Hp) (R : Bool → Hp → Prop) : Prop where
  run : ∀ (pins : List (Addr × Obj)) (s : Shared), Inv X pins σ H s → wpAny (model X.prog X.w) X.A (isTrue e X.env (eval e X.env)) (TP X pins σ R) X.xe s
structure CanA (X : Cx) (es : List Expr) (σ : L2.St) (H : Hp) (R : List V → Hp → Prop) : Prop where
  run : ∀ (pos : Pos) (pins : List (Addr × Obj)) (s : Shared), Inv X pins σ H s → wpAny (model X.prog X.w) X.A (spliced (backTo pos (starEach es X.env))) (AP X pins σ R) X.xe s
structure CanS (X : Cx) (st : Stmt) (D : Ends) (σ : L2.St) (H : Hp) : Prop where
  run : ∀ (pins : List (Addr × Obj)) (s : Shared), Inv X pins σ H s → wpAny (model X.prog X.w) X.A (exec st X.env) (SP X pins D) X.xe s
structure CanSs (X : Cx) (st : List Stmt) (D : Ends) (σ : L2.St) (H : Hp) : Prop where
  run : ∀ (pins : List (Addr × Obj)) (s : Shared), Inv X pins σ H s → wpAny (model X.prog X.w) X.A (execs st X.env) (SP X pins D) X.xe s
section
variable {X : Cx} {e : Expr} {es : List Expr} {st : Stmt} {sts : List Stmt}
theorem pe_can : PE X e (CanE X e) := ⟨fun pins s _ _ _ I h => h.run pins s I⟩
theorem pt_can : PT X e (CanT X e) := ⟨fun pins s _ _ _ I h => h.run pins s I⟩
theorem pa_can : PA X es (CanA X es) := ⟨fun pos pins s _ _ _ I h => h.run pos pins s I⟩
theorem ps_can : PS X st (CanS X st) := ⟨fun pins s _ _ _ I h => h.run pins s I⟩
theorem pss_can : PSs X sts (CanSs X sts) := ⟨fun pins s _ _ _ I h => h.run pins s I⟩
theorem of_pe {t : TE} {σ : L2.St} {H : Hp} {R : VK} (p : PE X e t) (q : t σ H R) : CanE X e σ H R := ⟨fun pins s I => p.run pins s σ H R I q⟩
theorem of_pt {t : TT} {σ : L2.St} {H : Hp} {R : Bool → Hp → Prop} (p : PT X e t) (q : t σ H R) : CanT X e σ H R := ⟨fun pins s I => p.run pins s σ H R I q⟩
theorem of_pa {t : TA} {σ : L2.St} {H : Hp} {R : List V → Hp → Prop} (p : PA X es t) (q : t σ H R) : CanA X es σ H R := ⟨fun pos pins s I => p.run pos pins s σ H R I q⟩
theorem of_ps {t : TS} {D : Ends} {σ : L2.St} {H : Hp} (p : PS X st t) (q : t D σ H) : CanS X st D σ H := ⟨fun pins s I => p.run pins s σ H D I q⟩
theorem of_pss {t : TS} {D : Ends} {σ : L2.St} {H : Hp} (p : PSs X sts t) (q : t D σ H) : CanSs X sts D σ H := ⟨fun pins s I => p.run pins s σ H D I q⟩
end

/-! ### what an expression is worth, over data -/
def EvQ (C : Cfg) (X : Cx) (e : Expr) (S : SD) (Q : D → SD → Prop) : Prop := ∀ (tmp : Tmp) (σ : L2.St) (H F : Hp), Stt C S tmp σ H F → ∀ R : VK,
  (∀ v H' F' d S', Stt C S' tmp σ H' F' → Same F F' → Rep C.K C.st F' v d → Q d S' → R v H') → CanE X e σ H R
/-- a new list that nobody knows yet -/
def EvL (C : Cfg) (X : Cx) (e : Expr) (S : SD) (Q : List D → SD → Prop) : Prop := ∀ (tmp : Tmp) (σ : L2.St) (H F : Hp), Stt C S tmp σ H F → ∀ R : VK,
  (∀ p vs H' F' xs S', Stt C S' tmp σ H' F' → Same F F' → F' p = none → C.H0 p = none → H' p = some (HO.lst vs) → (∀ (i : Nat) (ys : List D), S'[i]? = some (Slot.own ys) → σ[i]? ≠ some (some (V.ref p))) → p ∉ tmp.map (·.1) → Reps C.K C.st F' vs xs → Q xs S' → R (.ref p) H') → CanE X e σ H R
def EvA (C : Cfg) (X : Cx) (es : List Expr) (S : SD) (Q : List D → SD → Prop) : Prop := ∀ (tmp : Tmp) (σ : L2.St) (H F : Hp), Stt C S tmp σ H F → ∀ R : List V → Hp → Prop,
  (∀ vs H' F' ds S', Stt C S' tmp σ H' F' → Same F F' → Reps C.K C.st F' vs ds → Q ds S' → R vs H') → CanA X es σ H R
/-- what is read where it stands: a list of a slot's own too -/
inductive PD where
  | d (x : D) | own (i : Nat)
def PD.seq (S : SD) : PD → Option (List D)
  | .d (.tup xs) => some xs
  | .d (.lst xs) => some xs
  | .own i => match S[i]? with
    | some (Slot.own xs) => some xs
    | _ => none
  | _ => none
def RepP (C : Cfg) (S : SD) (σ : L2.St) (F : Hp) (v : V) : PD → Prop
  | .d x => Rep C.K C.st F v x
  | .own i => σ[i]? = some (some v) ∧ ∃ xs, S[i]? = some (Slot.own xs)
def EvP (C : Cfg) (X : Cx) (e : Expr) (S : SD) (Q : PD → SD → Prop) : Prop := ∀ (tmp : Tmp) (σ : L2.St) (H F : Hp), Stt C S tmp σ H F → ∀ R : VK,
  (∀ v H' F' d S', Stt C S' tmp σ H' F' → Same F F' → RepP C S' σ F' v d → Q d S' → R v H') → CanE X e σ H R
section
variable {C : Cfg} {X : Cx} {S : SD} {e a b c : Expr} {es : List Expr} {Q : D → SD → Prop}
theorem ev_mono {Q' : D → SD → Prop} (h : EvQ C X e S Q') (k : ∀ d S', Q' d S' → Q d S') : EvQ C X e S Q := fun tmp σ H F s R r => h tmp σ H F s R fun v H' F' d S' s' e r' q => r v H' F' d S' s' e r' (k d S' q)
theorem ep_ev {Q : PD → SD → Prop} (h : EvQ C X e S fun d S' => Q (.d d) S') : EvP C X e S Q := fun tmp σ H F s R r => h tmp σ H F s R fun v H' F' d S' s' e r' q => r v H' F' (.d d) S' s' e r' q
theorem ev_el (h : EvL C X e S fun xs S' => Q (.lst xs) S') : EvQ C X e S Q := fun tmp σ H F s R r => h tmp σ H F s R fun p vs H' F' xs S' s' e h1 h2 h3 h4 h5 h6 q =>
  r _ H' (upd F' p (HO.lst vs)) (.lst xs) S' (s'.still h3 rfl h1 h2 h4 h5) (fun b o z => sameF h1 b o (e b o z)) (.lst upd_same (h6.mono (sameF h1))) q

/-! names, constants -/
theorem ev_name {i : Nat} {x : Str} {pos : Pos} {d : D} (hS : S[i]? = some (Slot.val d)) (q : Q d S) (hN : X.N[i]? = some x := by rfl)
    (hv : Vis X.env.scope x := by first | exact Or.inl rfl | exact Or.inr (Or.inl rfl) | exact Or.inr (Or.inr rfl)) (hd : (x == ("__debug__" : Str)) = false := by decide) (hcd : (x == ("__classdict__" : Str)) = false := by decide) : EvQ C X (.Name x pos) S Q :=
  fun tmp σ H F s R r => by
    obtain ⟨v, h1, h2⟩ := s.val i d hS
    exact of_pe (pe_var hN hv hd hcd) ⟨v, h1, r v H F d S s (Same.refl F) h2 q⟩
theorem ep_own {i : Nat} {x : Str} {pos : Pos} {xs : List D} {Q : PD → SD → Prop} (hS : S[i]? = some (Slot.own xs)) (q : Q (.own i) S) (hN : X.N[i]? = some x := by rfl)
    (hv : Vis X.env.scope x := by first | exact Or.inl rfl | exact Or.inr (Or.inl rfl) | exact Or.inr (Or.inr rfl)) (hd : (x == ("__debug__" : Str)) = false := by decide) (hcd : (x == ("__classdict__" : Str)) = false := by decide) : EvP C X (.Name x pos) S Q :=
  fun tmp σ H F s R r => by
    obtain ⟨a, vs, h1, h2, h3, h4, h5⟩ := s.own i xs hS
    exact of_pe (pe_var hN hv hd hcd) ⟨_, h1, r _ H F (.own i) S s (Same.refl F) ⟨h1, xs, hS⟩ q⟩
theorem ev_own {i : Nat} {x : Str} {pos : Pos} {xs : List D} (hS : S[i]? = some (Slot.own xs)) (q : Q (.lst xs) (S.set i (Slot.val (.lst xs)))) (hN : X.N[i]? = some x := by rfl)
    (hv : Vis X.env.scope x := by first | exact Or.inl rfl | exact Or.inr (Or.inl rfl) | exact Or.inr (Or.inr rfl)) (hd : (x == ("__debug__" : Str)) = false := by decide) (hcd : (x == ("__classdict__" : Str)) = false := by decide) : EvQ C X (.Name x pos) S Q :=
  fun tmp σ H F s R r => by
    obtain ⟨a, F', h1, h2, h3, h4⟩ := s.freeze hS
    exact of_pe (pe_var hN hv hd hcd) ⟨_, h1, r _ H F' _ _ h2 h3 h4 q⟩
theorem ev_tc {t : TE} {v : V} {d : D} (p : PE X e (tC v)) (hr : ∀ F, Rep C.K C.st F v d) (q : Q d S) : EvQ C X e S Q := fun tmp σ H F s R r => of_pe p (r v H F d S s (Same.refl F) (hr F) q)
theorem ev_int {i : Int} {j pos} (q : Q (.int i) S) : EvQ C X (.Constant (.int i) j pos) S Q := ev_tc (t := tC .non) pe_int (fun _ => .int i) q
theorem ev_bl {i : Bool} {j pos} (q : Q (.bl i) S) : EvQ C X (.Constant (.bool i) j pos) S Q := ev_tc (t := tC .non) pe_bl (fun _ => .bl i) q
theorem ev_non {j pos} (q : Q .non S) : EvQ C X (.Constant .none j pos) S Q := ev_tc (t := tC .non) pe_non (fun _ => .non) q
theorem ev_str {i : Str} {j pos} (q : Q (.str i) S) : EvQ C X (.Constant (.str i) j pos) S Q := ev_tc (t := tC .non) pe_str (fun _ => .str i) q
theorem ev_globI {x : Str} {i : Int} {u : Value} {pos : Pos} (hm : X.mg x = some u) (r : RelV (.int i) u) (q : Q (.int i) S) (hg : Gl X x := by rfl) (hd : (x == ("__debug__" : Str)) = false := by decide) : EvQ C X (.Name x pos) S Q := ev_tc (t := tC .non) (pe_glob hg hm r hd) (fun _ => .int i) q
theorem ev_globS {x : Str} {i : Str} {u : Value} {pos : Pos} (hm : X.mg x = some u) (r : RelV (.str i) u) (q : Q (.str i) S) (hg : Gl X x := by rfl) (hd : (x == ("__debug__" : Str)) = false := by decide) : EvQ C X (.Name x pos) S Q := ev_tc (t := tC .non) (pe_glob hg hm r hd) (fun _ => .str i) q

/-! arguments -/
theorem ea_nil {Q : List D → SD → Prop} (q : Q [] S) : EvA C X [] S Q := fun tmp σ H F s R r => of_pa pa_nil (r [] H F [] S s (Same.refl F) .nil q)
theorem ea_cons {Q : List D → SD → Prop} (h : EvQ C X e S fun d S1 => EvA C X es S1 fun ds S2 => Q (d :: ds) S2) (hs : starEach (e :: es) X.env = (false, eval e X.env) :: starEach es X.env := by rfl) : EvA C X (e :: es) S Q := fun tmp σ H F s R r =>
  of_pa (pa_cons pe_can pa_can hs) (h tmp σ H F s _ fun v H1 F1 d S1 s1 e1 r1 q1 => q1 tmp σ H1 F1 s1 _ fun vs H2 F2 ds S2 s2 e2 r2 q2 => r (v :: vs) H2 F2 (d :: ds) S2 s2 (Same.trans e1 e2) (.cons (r1.mono e2) r2) q2)

/-! and, or, not, if -/
theorem ev_one {op : BoolOp} {pos : Pos} (h : EvQ C X a S Q) : EvQ C X (.BoolOp op [a] pos) S Q := fun tmp σ H F s R r => of_pe (pe_one pe_can) (h tmp σ H F s R r)
theorem ev_and {rest : List Expr} {pos : Pos} (h : EvQ C X a S fun x S1 => ∃ k, x = .bl k ∧ (k = true → EvQ C X (.BoolOp .And (b :: rest) pos) S1 Q) ∧ (k = false → Q (.bl false) S1)) : EvQ C X (.BoolOp .And (a :: b :: rest) pos) S Q := fun tmp σ H F s R r =>
  of_pe (pe_and pe_can pe_can) (h tmp σ H F s _ fun v H1 F1 d S1 s1 e1 r1 ⟨k, hd, q1, q2⟩ => by
    subst hd
    cases r1
    refine ⟨k, rfl, ?_⟩
    cases k with
    | true => rw [if_pos rfl]; exact q1 rfl tmp σ H1 F1 s1 R fun v H' F' d S' s' e2 => r v H' F' d S' s' (Same.trans e1 e2)
    | false => rw [if_neg Bool.false_ne_true]; exact r _ H1 F1 _ S1 s1 e1 (.bl false) (q2 rfl))
theorem ev_or {rest : List Expr} {pos : Pos} (h : EvQ C X a S fun x S1 => ∃ k, x = .bl k ∧ (k = false → EvQ C X (.BoolOp .Or (b :: rest) pos) S1 Q) ∧ (k = true → Q (.bl true) S1)) : EvQ C X (.BoolOp .Or (a :: b :: rest) pos) S Q := fun tmp σ H F s R r =>
  of_pe (pe_or pe_can pe_can) (h tmp σ H F s _ fun v H1 F1 d S1 s1 e1 r1 ⟨k, hd, q1, q2⟩ => by
    subst hd
    cases r1
    refine ⟨k, rfl, ?_⟩
    cases k with
    | false => rw [if_neg Bool.false_ne_true]; exact q1 rfl tmp σ H1 F1 s1 R fun v H' F' d S' s' e2 => r v H' F' d S' s' (Same.trans e1 e2)
    | true => rw [if_pos rfl]; exact r _ H1 F1 _ S1 s1 e1 (.bl true) (q2 rfl))
theorem ev_not {pos : Pos} (h : EvQ C X a S fun x S1 => ∃ k, x = .bl k ∧ Q (.bl (!k)) S1) : EvQ C X (.UnaryOp .Not a pos) S Q := fun tmp σ H F s R r =>
  of_pe (pe_not pe_can) (h tmp σ H F s _ fun v H1 F1 d S1 s1 e1 r1 ⟨k, hd, q1⟩ => by
    subst hd
    cases r1
    exact ⟨k, rfl, r _ H1 F1 _ S1 s1 e1 (.bl _) q1⟩)
theorem ev_if {pos : Pos} (h : EvQ C X c S fun x S1 => ∃ k, x = .bl k ∧ (k = true → EvQ C X a S1 Q) ∧ (k = false → EvQ C X b S1 Q)) (he : ∀ whole, isTrue c X.env whole = (do let v ← whole; standAt c.pos; holding [v] (truthy v)) := by intro _; rfl) : EvQ C X (.IfExp c a b pos) S Q := fun tmp σ H F s R r =>
  of_pe (pe_ifExp (pt_val pe_can he) pe_can pe_can) (h tmp σ H F s _ fun v H1 F1 d S1 s1 e1 r1 ⟨k, hd, q1, q2⟩ => by
    subst hd
    cases r1
    refine ⟨k, rfl, ?_⟩
    cases k with
    | true => rw [if_pos rfl]; exact q1 rfl tmp σ H1 F1 s1 R fun v H' F' d S' s' e2 => r v H' F' d S' s' (Same.trans e1 e2)
    | false => rw [if_neg Bool.false_ne_true]; exact q2 rfl tmp σ H1 F1 s1 R fun v H' F' d S' s' e2 => r v H' F' d S' s' (Same.trans e1 e2))

/-! ### two-place operations -/
def OpS (C : Cfg) (r : R2) (x y : D) (Q : D → Prop) : Prop := ∀ (S : SD) (tmp : Tmp) (σ : L2.St) (H F : Hp) (v u : V), Stt C S tmp σ H F → Rep C.K C.st F v x → Rep C.K C.st F u y → ∀ R : VK,
  (∀ w H' F' z, Stt C S tmp σ H' F' → Same F F' → Rep C.K C.st F' w z → Q z → R w H') → r v u H R
theorem ev_bin {op : Operator} {r : R2} {pos : Pos} (ho : OpR X (binaryOp op) r) (h : EvQ C X a S fun x S1 => EvQ C X b S1 fun y S2 => OpS C r x y fun z => Q z S2) : EvQ C X (.BinOp a op b pos) S Q := fun tmp σ H F s R k =>
  of_pe (pe_op ho pe_can pe_can) (h tmp σ H F s _ fun v H1 F1 d S1 s1 e1 r1 q1 => q1 tmp σ H1 F1 s1 _ fun u H2 F2 d2 S2 s2 e2 r2 q2 =>
    q2 S2 tmp σ H2 F2 v u s2 (r1.mono e2) r2 R fun w H' F' z s3 e3 r3 q3 => k w H' F' z S2 s3 (Same.trans e1 (Same.trans e2 e3)) r3 q3)
theorem ev_cmp {op : CmpOp} {r : R2} {pos : Pos} (ho : OpR X (compareOp op) r) (hm : behindInMarks op b = false) (h : EvQ C X a S fun x S1 => EvQ C X b S1 fun y S2 => OpS C r x y fun z => Q z S2) : EvQ C X (.Compare a [op] [b] pos) S Q := fun tmp σ H F s R k =>
  of_pe (pe_cmpR ho pe_can pe_can hm) (h tmp σ H F s _ fun v H1 F1 d S1 s1 e1 r1 q1 => q1 tmp σ H1 F1 s1 _ fun u H2 F2 d2 S2 s2 e2 r2 q2 =>
    q2 S2 tmp σ H2 F2 v u s2 (r1.mono e2) r2 R fun w H' F' z s3 e3 r3 q3 => k w H' F' z S2 s3 (Same.trans e1 (Same.trans e2 e3)) r3 q3)
theorem ops_I0 {g : Int → Int → V} {f : Int → Int → D} {i j : Int} {Q : D → Prop} (hg : ∀ F, Rep C.K C.st F (g i j) (f i j)) (q : Q (f i j)) : OpS C (rI0 g) (.int i) (.int j) Q := fun S tmp σ H F v u s r1 r2 R k => by
  cases r1
  cases r2
  exact ⟨i, j, rfl, rfl, k _ H F _ s (Same.refl F) (hg F) q⟩
theorem ev_add {pos : Pos} (h : EvQ C X a S fun x S1 => EvQ C X b S1 fun y S2 => ∃ i j, x = .int i ∧ y = .int j ∧ Q (.int (i + j)) S2) : EvQ C X (.BinOp a .Add b pos) S Q :=
  ev_bin op_add (ev_mono h fun x S1 h1 => ev_mono h1 fun y S2 ⟨i, j, e1, e2, q⟩ => by subst e1; subst e2; exact ops_I0 (f := fun i j => .int (i + j)) (fun _ => .int _) q)
theorem ev_sub {pos : Pos} (h : EvQ C X a S fun x S1 => EvQ C X b S1 fun y S2 => ∃ i j, x = .int i ∧ y = .int j ∧ Q (.int (i - j)) S2) : EvQ C X (.BinOp a .Sub b pos) S Q :=
  ev_bin op_sub (ev_mono h fun x S1 h1 => ev_mono h1 fun y S2 ⟨i, j, e1, e2, q⟩ => by subst e1; subst e2; exact ops_I0 (f := fun i j => .int (i - j)) (fun _ => .int _) q)
theorem ev_lt {pos : Pos} (h : EvQ C X a S fun x S1 => EvQ C X b S1 fun y S2 => ∃ i j, x = .int i ∧ y = .int j ∧ Q (.bl (decide (i < j))) S2) : EvQ C X (.Compare a [.Lt] [b] pos) S Q :=
  ev_cmp op_lt (nomark _) (ev_mono h fun x S1 h1 => ev_mono h1 fun y S2 ⟨i, j, e1, e2, q⟩ => by subst e1; subst e2; exact ops_I0 (f := fun i j => .bl (decide (i < j))) (fun _ => .bl _) q)
theorem ev_gt {pos : Pos} (h : EvQ C X a S fun x S1 => EvQ C X b S1 fun y S2 => ∃ i j, x = .int i ∧ y = .int j ∧ Q (.bl (decide (j < i))) S2) : EvQ C X (.Compare a [.Gt] [b] pos) S Q :=
  ev_cmp op_gt (nomark _) (ev_mono h fun x S1 h1 => ev_mono h1 fun y S2 ⟨i, j, e1, e2, q⟩ => by subst e1; subst e2; exact ops_I0 (f := fun i j => .bl (decide (j < i))) (fun _ => .bl _) q)
theorem ev_ge {pos : Pos} (h : EvQ C X a S fun x S1 => EvQ C X b S1 fun y S2 => ∃ i j, x = .int i ∧ y = .int j ∧ Q (.bl (decide (j ≤ i))) S2) : EvQ C X (.Compare a [.GtE] [b] pos) S Q :=
  ev_cmp op_ge (nomark _) (ev_mono h fun x S1 h1 => ev_mono h1 fun y S2 ⟨i, j, e1, e2, q⟩ => by subst e1; subst e2; exact ops_I0 (f := fun i j => .bl (decide (j ≤ i))) (fun _ => .bl _) q)
theorem ev_le {pos : Pos} (h : EvQ C X a S fun x S1 => EvQ C X b S1 fun y S2 => ∃ i j, x = .int i ∧ y = .int j ∧ Q (.bl (decide (i ≤ j))) S2) : EvQ C X (.Compare a [.LtE] [b] pos) S Q :=
  ev_cmp op_le (nomark _) (ev_mono h fun x S1 h1 => ev_mono h1 fun y S2 ⟨i, j, e1, e2, q⟩ => by subst e1; subst e2; exact ops_I0 (f := fun i j => .bl (decide (i ≤ j))) (fun _ => .bl _) q)
/-- equality of two plain things -/
def scalD : D → D → Option Bool
  | .non, .non => some true
  | .non, .int _ => some false
  | .int _, .non => some false
  | .non, .bl _ => some false
  | .bl _, .non => some false
  | .non, .str _ => some false
  | .str _, .non => some false
  | .int i, .int j => some (decide (i = j))
  | .bl i, .bl j => some (decide (i = j))
  | .str i, .str j => some (decide (i = j))
  | .int _, .str _ => some false
  | .str _, .int _ => some false
  | .bl _, .str _ => some false
  | .str _, .bl _ => some false
  | _, _ => none
theorem scalD_ok {F : Hp} {v u : V} {x y : D} {k : Bool} (r1 : Rep C.K C.st F v x) (r2 : Rep C.K C.st F u y) (h : scalD x y = some k) : scal v u = true ∧ decide (v = u) = k := by
  cases r1 <;> cases r2 <;> simp only [scalD, Option.some.injEq, reduceCtorEq] at h <;> subst h <;> refine ⟨rfl, ?_⟩ <;> simp
theorem ev_eq {pos : Pos} (h : EvQ C X a S fun x S1 => EvQ C X b S1 fun y S2 => ∃ k, scalD x y = some k ∧ Q (.bl k) S2) : EvQ C X (.Compare a [.Eq] [b] pos) S Q :=
  ev_cmp op_eq (nomark _) (ev_mono h fun x S1 h1 => ev_mono h1 fun y S2 ⟨k, e1, q⟩ => fun S tmp σ H F v u s r1 r2 R w => by
    obtain ⟨q1, q2⟩ := scalD_ok r1 r2 e1
    refine ⟨q1, ?_⟩
    rw [q2]
    exact w _ H F _ s (Same.refl F) (.bl k) q)
theorem ev_ne {pos : Pos} (h : EvQ C X a S fun x S1 => EvQ C X b S1 fun y S2 => ∃ k, scalD x y = some k ∧ Q (.bl (!k)) S2) : EvQ C X (.Compare a [.NotEq] [b] pos) S Q :=
  ev_cmp op_ne (nomark _) (ev_mono h fun x S1 h1 => ev_mono h1 fun y S2 ⟨k, e1, q⟩ => fun S tmp σ H F v u s r1 r2 R w => by
    obtain ⟨q1, q2⟩ := scalD_ok r1 r2 e1
    refine ⟨q1, ?_⟩
    rw [q2]
    exact w _ H F _ s (Same.refl F) (.bl (!k)) q)
theorem ev_isB {pos : Pos} (h : EvQ C X a S fun x S1 => EvQ C X b S1 fun y S2 => ∃ i j, x = .bl i ∧ y = .bl j ∧ Q (.bl (decide (i = j))) S2) : EvQ C X (.Compare a [.Is] [b] pos) S Q :=
  ev_cmp op_isBl (nomark _) (ev_mono h fun x S1 h1 => ev_mono h1 fun y S2 ⟨i, j, e1, e2, q⟩ => fun S tmp σ H F v u s r1 r2 R w => by
    subst e1; subst e2; cases r1; cases r2
    exact ⟨i, j, rfl, rfl, w _ H F _ s (Same.refl F) (.bl _) q⟩)
theorem ev_nisB {pos : Pos} (h : EvQ C X a S fun x S1 => EvQ C X b S1 fun y S2 => ∃ i j, x = .bl i ∧ y = .bl j ∧ Q (.bl (!decide (i = j))) S2) : EvQ C X (.Compare a [.IsNot] [b] pos) S Q :=
  ev_cmp op_notBl (nomark _) (ev_mono h fun x S1 h1 => ev_mono h1 fun y S2 ⟨i, j, e1, e2, q⟩ => fun S tmp σ H F v u s r1 r2 R w => by
    subst e1; subst e2; cases r1; cases r2
    exact ⟨i, j, rfl, rfl, w _ H F _ s (Same.refl F) (.bl _) q⟩)
/-- a <= b <= c of ints -/
theorem ev_lele {pos : Pos} (h : EvQ C X a S fun x S1 => EvQ C X b S1 fun y S2 => ∃ i j, x = .int i ∧ y = .int j ∧ (i ≤ j → EvQ C X c S2 fun z S3 => ∃ l, z = .int l ∧ Q (.bl (decide (j ≤ l))) S3) ∧ (¬ i ≤ j → Q (.bl false) S2))
    (hm : lastMarks [.LtE, .LtE] [b, c] = false := by with_unfolding_all rfl) : EvQ C X (.Compare a [.LtE, .LtE] [b, c] pos) S Q := fun tmp σ H F s R k =>
  of_pe (pe_chain op_le op_le pe_can pe_can pe_can hm) (h tmp σ H F s _ fun v H1 F1 d S1 s1 e1 r1 q1 => q1 tmp σ H1 F1 s1 _ fun u H2 F2 d2 S2 s2 e2 r2 ⟨i, j, z1, z2, q2, q3⟩ => by
    subst z1; subst z2; cases r1; cases r2
    refine ⟨i, j, rfl, rfl, _, rfl, ?_⟩
    by_cases hij : i ≤ j
    · rw [decide_eq_true hij, if_pos rfl]
      exact q2 hij tmp σ H2 F2 s2 _ fun w H3 F3 d3 S3 s3 e3 r3 ⟨l, z3, q⟩ => by
        subst z3; cases r3
        exact ⟨j, l, rfl, rfl, k _ H3 F3 _ S3 s3 (Same.trans e1 (Same.trans e2 e3)) (.bl _) q⟩
    · rw [decide_eq_false hij, if_neg Bool.false_ne_true]
      exact k _ H2 F2 _ S2 s2 (Same.trans e1 e2) (.bl false) (q3 hij))
end
end Dm

namespace Dm
open PySem PySem.Spec PyProof.Rows L2
open GxR (TabB TabG Tabbed)

/-! ### defs -/
abbrev MD := List D → (D → Prop) → Prop
def spD (K : PySem.W.Frag) (T : List Addr) (m : MD) : Sp := fun vs H Q _ => ∃ (st : Addr) (F : Hp) (ds : List D) (R : D → Prop), Base K T st true H F ∧ Reps K st F vs ds ∧ m ds R ∧
  ∀ v H' F' d, Base K T st true H' F' → Grow st true H F H' F' → Rep K st F' v d → R d → Q v H'
section
variable {C : Cfg} {X : Cx} {S : SD} {e a b c : Expr} {es : List Expr} {Q : D → SD → Prop}
theorem ev_call {k : Nat} {f : Addr} {fd : FuncData} {ps : List Str} {m : MD} {x : Str} {p pos : Pos} (G : FnOk X.prog X.w X.K X.mg X.base CX0 k f fd ps (spD C.K C.T m)) (hr : Room k X.A) (hm : X.mg x = some (.ref f)) (hk : PySem.W.keepIn X.K (.ref f) = true) (hb : Binds X.K fd ps [])
    (h : EvA C X (e :: es) S fun ds S1 => m ds fun d => Q d S1) (hgt : C.g = true := by rfl) (hg : Gl X x := by rfl) (hdb : (x == ("__debug__" : Str)) = false := by decide) (he : starEach (e :: es) X.env = (false, eval e X.env) :: starEach es X.env := by rfl) (hpl : (backTo pos (starEach es X.env)).any (·.1) = false := by rfl) :
    EvQ C X (.Call (.Name x p) (e :: es) [] pos) S Q := fun tmp σ H F s R r =>
  of_pe (pe_call G hr hg hm hk hb .nil pass0 pa_can hdb he hpl) (h tmp σ H F s _ fun vs H1 F1 ds S1 s1 e1 r1 q1 =>
    ⟨C.st, F1, ds, fun d => Q d S1, by rw [← hgt]; exact s1.base, by rw [List.append_nil]; exact r1, q1, fun v H' F' d b g r2 q2 => r v H' F' d S1 (s1.called (by rw [hgt]; exact b) (by rw [hgt]; exact g)) (Same.trans e1 g.ff) r2 q2⟩)

/-! ### statements -/
structure DE where
  nx : SD → Prop
  rt : D → Prop
  bk : SD → Prop := fun _ => False
  ct : SD → Prop := fun _ => False
structure EOk (C : Cfg) (F : Hp) (E : DE) (D' : Ends) : Prop where
  nx : ∀ S' σ' H' F', Stt C S' [] σ' H' F' → Same F F' → E.nx S' → D'.nx σ' H'
  rt : ∀ v H' F' d, Base C.K C.T C.st C.g H' F' → Grow C.st C.g C.H0 C.F0 H' F' → Rep C.K C.st F' v d → E.rt d → D'.rt v H'
  bk : ∀ S' σ' H' F', Stt C S' [] σ' H' F' → Same F F' → E.bk S' → D'.bk σ' H'
  ct : ∀ S' σ' H' F', Stt C S' [] σ' H' F' → Same F F' → E.ct S' → D'.ct σ' H'
theorem EOk.mono {F F' : Hp} {E : DE} {D' : Ends} (h : EOk C F E D') (e : Same F F') : EOk C F' E D' :=
  ⟨fun S' σ' H1 F1 s e1 => h.nx S' σ' H1 F1 s (Same.trans e e1), h.rt, fun S' σ' H1 F1 s e1 => h.bk S' σ' H1 F1 s (Same.trans e e1), fun S' σ' H1 F1 s e1 => h.ct S' σ' H1 F1 s (Same.trans e e1)⟩
def Exs (C : Cfg) (X : Cx) (sts : List Stmt) (S : SD) (E : DE) : Prop := ∀ (σ : L2.St) (H F : Hp), Stt C S [] σ H F → ∀ D' : Ends, EOk C F E D' → CanSs X sts D' σ H
def Ex (C : Cfg) (X : Cx) (st : Stmt) (S : SD) (E : DE) : Prop := ∀ (σ : L2.St) (H F : Hp), Stt C S [] σ H F → ∀ D' : Ends, EOk C F E D' → CanS X st D' σ H
variable {st : Stmt} {sts : List Stmt} {E : DE}
theorem exs_nil (q : E.nx S) : Exs C X [] S E := fun σ H F s D' k => of_pss pss_nil (k.nx S σ H F s (Same.refl F) q)
theorem exs_cons (h : Ex C X st S { E with nx := fun S1 => Exs C X sts S1 E }) : Exs C X (st :: sts) S E := fun σ H F s D' k =>
  of_pss (pss_cons ps_can pss_can) (h σ H F s { D' with nx := CanSs X sts D' } ⟨fun S' σ' H' F' s' e q => q σ' H' F' s' D' (k.mono e), k.rt, k.bk, k.ct⟩)
theorem exs_mono {E' : DE} (h : Exs C X sts S E') (h1 : ∀ S, E'.nx S → E.nx S) (h2 : ∀ d, E'.rt d → E.rt d) (h3 : ∀ S, E'.bk S → E.bk S) (h4 : ∀ S, E'.ct S → E.ct S) : Exs C X sts S E := fun σ H F s D' k =>
  h σ H F s D' ⟨fun S' σ' H' F' s' e q => k.nx S' σ' H' F' s' e (h1 S' q), fun v H' F' d b g r q => k.rt v H' F' d b g r (h2 d q), fun S' σ' H' F' s' e q => k.bk S' σ' H' F' s' e (h3 S' q), fun S' σ' H' F' s' e q => k.ct S' σ' H' F' s' e (h4 S' q)⟩
theorem ex_ret {pos : Pos} (h : EvQ C X e S fun d _ => E.rt d) : Ex C X (.Return (some e) pos) S E := fun σ H F s D' k =>
  of_ps (ps_ret pe_can) (h [] σ H F s D'.rt fun v H' F' d S' s' e' r q => k.rt v H' F' d s'.base s'.grow r q)
theorem ex_retN {pos : Pos} (q : E.rt .non) : Ex C X (.Return none pos) S E := fun σ H F s D' k => of_ps ps_retN (k.rt .non H F .non s.base s.grow .non q)
theorem ex_if {sa sb : List Stmt} {pos : Pos} (h : EvQ C X c S fun x S1 => ∃ k, x = .bl k ∧ (k = true → Exs C X sa S1 E) ∧ (k = false → Exs C X sb S1 E)) (he : ∀ whole, isTrue c X.env whole = (do let v ← whole; standAt c.pos; holding [v] (truthy v)) := by intro _; rfl) : Ex C X (.If c sa sb pos) S E := fun σ H F s D' w =>
  of_ps (ps_if (pt_val pe_can he) pss_can pss_can) (h [] σ H F s _ fun v H1 F1 d S1 s1 e1 r1 ⟨k, hd, q1, q2⟩ => by
    subst hd
    cases r1
    refine ⟨k, rfl, ?_⟩
    cases k with
    | true => rw [if_pos rfl]; exact q1 rfl σ H1 F1 s1 D' (w.mono e1)
    | false => rw [if_neg Bool.false_ne_true]; exact q2 rfl σ H1 F1 s1 D' (w.mono e1))
/-- by truth: lists, tuples, numbers, texts -/
def truD : D → Option Bool
  | .non => some false
  | .bl b => some b
  | .int i => some (i != 0)
  | .tup xs => some (!xs.isEmpty)
  | .lst xs => some (!xs.isEmpty)
  | _ => none
theorem reps_empty {K : PySem.W.Frag} {st : Addr} {F : Hp} {vs : List V} {xs : List D} (r : Reps K st F vs xs) : vs.isEmpty = xs.isEmpty := by
  cases r <;> rfl
theorem truD_ok {tmp : Tmp} {σ : L2.St} {H F : Hp} {v : V} {x : D} {k : Bool} (s : Stt C S tmp σ H F) (r : Rep C.K C.st F v x) (h : truD x = some k) : TruV C.K v H k := by
  cases r <;> simp only [truD, Option.some.injEq, reduceCtorEq] at h <;> subst h
  · rfl
  · rfl
  · rfl
  · rename_i a vs xs h r
    exact .inr (.inl ⟨vs, Same.tup s.base.sub h.1, by rw [reps_empty r]⟩)
  · rename_i a vs xs h r
    exact .inl ⟨vs, .inl (.inl (s.base.sub _ _ h)), by rw [reps_empty r]⟩
theorem ex_ifT {sa sb : List Stmt} {pos : Pos} (h : EvQ C X c S fun x S1 => ∃ k, truD x = some k ∧ (k = true → Exs C X sa S1 E) ∧ (k = false → Exs C X sb S1 E)) (hK : C.K = X.K := by rfl) (he : ∀ whole, isTrue c X.env whole = (do let v ← whole; standAt c.pos; holding [v] (truthy v)) := by intro _; rfl) : Ex C X (.If c sa sb pos) S E := fun σ H F s D' w =>
  of_ps (ps_if (pt_truth pe_can he) pss_can pss_can) (h [] σ H F s _ fun v H1 F1 d S1 s1 e1 r1 ⟨k, hd, q1, q2⟩ => by
    refine ⟨k, by rw [← hK]; exact truD_ok s1 r1 hd, ?_⟩
    cases k with
    | true => rw [if_pos rfl]; exact q1 rfl σ H1 F1 s1 D' (w.mono e1)
    | false => rw [if_neg Bool.false_ne_true]; exact q2 rfl σ H1 F1 s1 D' (w.mono e1))
theorem ex_set {i : Nat} {x : Str} {pos pos' : Pos} (hN : X.N.Nodup) (h : EvQ C X e S fun d S1 => E.nx (S1.set i (Slot.val d))) (hi : X.N[i]? = some x := by rfl) (hx : Loc X.env.scope x := by first | exact Or.inl rfl | exact Or.inr rfl)
    (hs : swapsWith e (some (.Name x pos')) pos.line X.env = pure false := by rfl) (hf : X.fn x = true ∨ X.env.scope.names.lookup x = some .local := by first | exact .inl rfl | exact .inr rfl | assumption) : Ex C X (.Assign [.Name x pos'] e pos) S E := fun σ H F s D' k => ⟨fun pins s0 I => by
  have hl : i < σ.length := by rw [I.len]; exact (List.getElem?_eq_some_iff.mp hi).1
  exact (of_ps (ps_set hN hi hx pe_can hs hf) (h [] σ H F s _ fun v H1 F1 d S1 s1 e1 r1 q1 => k.nx _ _ H1 F1 (s1.set hl r1) e1 q1)).run pins s0 I⟩
/-- a list of one's own -/
theorem ex_setL {i : Nat} {x : Str} {pos pos' : Pos} (hN : X.N.Nodup) (h : EvL C X e S fun xs S1 => E.nx (S1.set i (Slot.own xs))) (hi : X.N[i]? = some x := by rfl) (hx : Loc X.env.scope x := by first | exact Or.inl rfl | exact Or.inr rfl)
    (hs : swapsWith e (some (.Name x pos')) pos.line X.env = pure false := by rfl) (hf : X.fn x = true ∨ X.env.scope.names.lookup x = some .local := by first | exact .inl rfl | exact .inr rfl | assumption) : Ex C X (.Assign [.Name x pos'] e pos) S E := fun σ H F s D' k => ⟨fun pins s0 I => by
  have hl : i < σ.length := by rw [I.len]; exact (List.getElem?_eq_some_iff.mp hi).1
  exact (of_ps (ps_set hN hi hx pe_can hs hf) (h [] σ H F s _ fun p vs H1 F1 xs S1 s1 e1 h1 h2 h3 h4 h5 r1 q1 => k.nx _ _ H1 F1 (s1.setOwn hl h1 h2 h3 r1 (fun j ys _ => h4 j ys) h5) e1 q1)).run pins s0 I⟩

/-! targets -/
structure CanG (X : Cx) (tg : Expr) (v : V) (σ : L2.St) (H : Hp) (R : L2.St → Hp → Prop) : Prop where
  run : ∀ (pins : List (Addr × Obj)) (s : Shared) (u : Value), Inv X pins σ H s → RelV v u → wpAny (model X.prog X.w) X.A (assign tg X.env u) (fun _ s' => ∃ σ' H', Inv X pins σ' H' s' ∧ R σ' H') X.xe s
theorem pg_can {tg : Expr} : PG X tg (CanG X tg) := ⟨fun pins s σ H v u Q I r h => h.run pins s u I r⟩
theorem of_pg {tg : Expr} {t : TG} {v : V} {σ : L2.St} {H : Hp} {R : L2.St → Hp → Prop} (p : PG X tg t) (q : t v σ H R) : CanG X tg v σ H R := ⟨fun pins s u I r => p.run pins s σ H v u R I r q⟩
def AsQ (C : Cfg) (X : Cx) (tg : Expr) (d : D) (S : SD) (Q : SD → Prop) : Prop := ∀ (tmp : Tmp) (σ : L2.St) (H F : Hp) (v : V), Stt C S tmp σ H F → Rep C.K C.st F v d → ∀ R : L2.St → Hp → Prop,
  (∀ σ' H' F' S', Stt C S' tmp σ' H' F' → Same F F' → Q S' → R σ' H') → CanG X tg v σ H R
theorem as_name {i : Nat} {x : Str} {pos : Pos} {d : D} {Q : SD → Prop} (hN : X.N.Nodup) (q : Q (S.set i (Slot.val d))) (hi : X.N[i]? = some x := by rfl) (hx : Loc X.env.scope x := by first | exact Or.inl rfl | exact Or.inr rfl)
    (hf : X.fn x = true ∨ X.env.scope.names.lookup x = some .local := by first | exact .inl rfl | exact .inr rfl | assumption) : AsQ C X (.Name x pos) d S Q := fun tmp σ H F v s r R k => ⟨fun pins s0 u I ru => by
  have hl : i < σ.length := by rw [I.len]; exact (List.getElem?_eq_some_iff.mp hi).1
  exact (of_pg (pg_name hN hi hx hf) (k _ H F _ (s.set hl r) (Same.refl F) q)).run pins s0 u I ru⟩
/-- several targets -/
structure CanGs (X : Cx) (ts : List Expr) (vs : List V) (σ : L2.St) (H : Hp) (R : L2.St → Hp → Prop) : Prop where
  run : ∀ (pins : List (Addr × Obj)) (s : Shared) (us : List Value), Inv X pins σ H s → Vals vs us → wpAny (model X.prog X.w) X.A (assignInOrder ((assignEach ts X.env).map (·.2)) us) (fun _ s' => ∃ σ' H', Inv X pins σ' H' s' ∧ R σ' H') X.xe s
theorem pgs_can {ts : List Expr} : PGs X ts (CanGs X ts) := ⟨fun pins s σ H vs us Q I r h => h.run pins s us I r⟩
theorem of_pgs {ts : List Expr} {t : TGs} {vs : List V} {σ : L2.St} {H : Hp} {R : L2.St → Hp → Prop} (p : PGs X ts t) (q : t vs σ H R) : CanGs X ts vs σ H R := ⟨fun pins s us I r => p.run pins s σ H vs us R I r q⟩
def AsQs (C : Cfg) (X : Cx) (ts : List Expr) (ds : List D) (S : SD) (Q : SD → Prop) : Prop := ∀ (tmp : Tmp) (σ : L2.St) (H F : Hp) (vs : List V), Stt C S tmp σ H F → Reps C.K C.st F vs ds → ∀ R : L2.St → Hp → Prop,
  (∀ σ' H' F' S', Stt C S' tmp σ' H' F' → Same F F' → Q S' → R σ' H') → CanGs X ts vs σ H R
theorem ass_nil {Q : SD → Prop} (q : Q S) : AsQs C X [] [] S Q := fun tmp σ H F vs s r R k => by
  cases r
  exact of_pgs pgs_nil ⟨rfl, k σ H F S s (Same.refl F) q⟩
theorem ass_cons {t : Expr} {ts : List Expr} {d : D} {ds : List D} {Q : SD → Prop} (h : AsQ C X t d S fun S1 => AsQs C X ts ds S1 Q) (hp : PGs X (t :: ts) (gCons (CanG X t) (CanGs X ts)) := by exact pgs_cons pg_can pgs_can) : AsQs C X (t :: ts) (d :: ds) S Q := fun tmp σ H F vs s r R k => by
  cases r with
  | cons r1 r2 =>
    rename_i v vs'
    exact of_pgs hp ⟨v, vs', rfl, h tmp σ H F v s r1 _ fun σ1 H1 F1 S1 s1 e1 q1 => q1 tmp σ1 H1 F1 vs' s1 (r2.mono e1) R fun σ2 H2 F2 S2 s2 e2 q2 => k σ2 H2 F2 S2 s2 (Same.trans e1 e2) q2⟩
theorem as_tup {es : List Expr} {n k : Nat} {pos : Pos} {xs : List D} {Q : SD → Prop} (h : AsQs C X es xs S Q) (hl : xs.length = n) (hK : C.K = X.K := by rfl) (hc : X.calm = true := by rfl) (hn : (assignEach es X.env).length = n := by rfl) (hst : (assignEach es X.env).findIdx? (·.1) = none := by rfl) : AsQ C X (.Tuple es k pos) (.tup xs) S Q := fun tmp σ H F v s r R w => by
  cases r with
  | tup hq rs =>
    rename_i a vs
    exact of_pg (pg_tup hc pgs_can hn hst) ⟨a, vs, rfl, by rw [← hK]; exact Same.tup s.base.sub hq.1, by rw [rs.length]; exact hl, h tmp σ H F vs s rs R w⟩
theorem ex_asg {tg : Expr} {pos : Pos} (h : EvQ C X e S fun d S1 => AsQ C X tg d S1 E.nx) (hs : swapsWithSole [tg] e pos.line X.env = pure false := by rfl) (hw : swappedStores [tg] e X.env = pure none := by rfl)
    (h1 : (assignEach [tg] X.env).map (·.2) = [assign tg X.env] := by rfl) : Ex C X (.Assign [tg] e pos) S E := fun σ H F s D' k =>
  of_ps (ps_asg pe_can pg_can hs hw h1) (h [] σ H F s _ fun v H1 F1 d S1 s1 e1 r1 q1 => q1 [] σ H1 F1 v s1 r1 _ fun σ2 H2 F2 S2 s2 e2 q2 => k.nx S2 σ2 H2 F2 s2 (Same.trans e1 e2) q2)
theorem ex_expr {pos : Pos} (h : EvQ C X e S fun _ S1 => E.nx S1) (hs : swapsWith e none pos.line X.env = pure false := by rfl) : Ex C X (.Expr e pos) S E := fun σ H F s D' k =>
  of_ps (ps_expr pe_can hs) (h [] σ H F s _ fun v H1 F1 d S1 s1 e1 r1 q1 => k.nx S1 σ H1 F1 s1 e1 q1)
end

/-! ### the rule for a def -/
structure FunC (K : PySem.W.Frag) (x qual : Str) (st : Stmt) (c f : Addr) (fd : FuncData) : Prop where
  ex : ∃ (oc : Value) (od : Option Addr) (kV doc pm : Value) (an : Option Addr) (ct : Value) (osl : Array (Option Value)),
    fd = PySem.W.fnOf x qual (defArgs st) (defBody st) (defScope st) .none kV doc pm an (.ref c) ct ∧ K.lookup f = some ⟨oc, od, .func fd, osl⟩ ∧ PySem.W.codeIn K (.ref c) qual = true
  kp : PySem.W.keepIn K (.ref f) = true
theorem FunC.to {K : PySem.W.Frag} {x qual : Str} {st : Stmt} {c f : Addr} {fd : FuncData} (F : FunC K x qual st c f fd) : Fun K x qual st f fd := by
  obtain ⟨oc, od, kV, doc, pm, an, ct, osl, h1, h2, h3⟩ := F.ex
  exact ⟨⟨oc, od, kV, doc, pm, an, _, ct, osl, h1, h2, h3⟩, F.kp⟩
abbrev BX (P : Program) (w : World) (K : PySem.W.Frag) (mg : Str → Option Value) (base : Heap) (N : List Str) (qual : Str) (sc : Scope) (f c : Addr) (A : Around) (outer : List Env) (s : Shared) (H : Hp) (E : XK) : Cx :=
  (cxOf CX0 P w K mg base N qual sc f (.ref c) A outer s H E).nox
theorem stt_start {K : PySem.W.Frag} {T : List Addr} {st : Addr} {g : Bool} {H F : Hp} {N : List Str} {vs : List V} {ds : List D} (b : Base K T st g H F) (r : Reps K st F vs ds) (hl : ds.length ≤ N.length) :
    Stt ⟨K, T, st, g, H, F⟩ (ds.map Slot.val ++ List.replicate (N.length - ds.length) Slot.none) [] (L2.start N vs) H F where
  b0 := b
  base := b
  grow := Grow.refl
  val := fun i d h => by
    have hi : i < ds.length := by
      by_cases hi : i < ds.length
      · exact hi
      · rw [List.getElem?_append_right (by simpa using hi), List.getElem?_replicate] at h
        split at h <;> cases h
    rw [List.getElem?_append_left (by simpa using hi), List.getElem?_map] at h
    cases e : ds[i]? with
    | none => rw [e] at h; cases h
    | some x =>
      rw [e] at h
      cases h
      obtain ⟨v, h1, h2⟩ := r.get e
      refine ⟨v, ?_, h2⟩
      unfold L2.start
      rw [List.getElem?_append_left (by rw [List.length_map, r.length]; exact hi), List.getElem?_map, h1]
      rfl
  own := fun i xs h => by
    by_cases hi : i < ds.length
    · rw [List.getElem?_append_left (by simpa using hi), List.getElem?_map] at h
      cases e : ds[i]? with
      | none => rw [e] at h; cases h
      | some x => rw [e] at h; cases h
    · rw [List.getElem?_append_right (by simpa using hi), List.getElem?_replicate] at h
      split at h <;> cases h
  dis := fun i j xs ys a h _ _ _ => by
    by_cases hi : i < ds.length
    · rw [List.getElem?_append_left (by simpa using hi), List.getElem?_map] at h
      cases e : ds[i]? with
      | none => rw [e] at h; cases h
      | some x => rw [e] at h; cases h
    · rw [List.getElem?_append_right (by simpa using hi), List.getElem?_replicate] at h
      split at h <;> cases h
  tm := fun a xs h => by simp at h
  tdis := fun i ys a xs h => by simp at h
  tnd := by simp
theorem FunC.ok {P : Program} {w : World} {K : PySem.W.Frag} {mg : Str → Option Value} {base : Heap} {x qual : Str} {st : Stmt} {c f : Addr} {fd : FuncData} {N ps : List Str} {k : Nat} {T : List Addr} {m : MD} (F : FunC K x qual st c f fd) (Sc : FnScope N ps (defScope st)) (len : ∀ ds R, m ds R → ds.length = ps.length)
    (hbody : ∀ (A : Around) (outer : List Env) (s : Shared) (H : Hp) (E : XK), Room k (A.deeper (envOfC qual (defScope st) s.heap.objs.size f (.ref c))) → ∀ (sa : Addr) (H0 F0 : Hp) (ds : List D) (R : D → Prop), m ds R →
      Exs ⟨K, T, sa, true, H0, F0⟩ (BX P w K mg base N qual (defScope st) f c A outer s H E) (defBody st) (ds.map Slot.val ++ List.replicate (N.length - ds.length) Slot.none) { nx := fun _ => R .non, rt := R }) : FnOk P w K mg base CX0 (k + 1) f fd ps (spD K T m) := by
  obtain ⟨oc, od, kV, doc, pm, an, ct, osl, rfl, lk, hcd⟩ := F.ex
  refine fn_of lk hcd Sc (fun vs H Q E h => ?_) fun A outer s H vs Q E hr hsp => ?_
  · obtain ⟨sa, F1, ds, R, b, r, hm, _⟩ := h
    rw [r.length]
    exact len ds R hm
  · obtain ⟨sa, F1, ds, R, b, r, hm, q⟩ := hsp
    have hl : ds.length ≤ N.length := by
      have h1 := len ds R hm
      have h2 := congrArg List.length Sc.pre
      rw [List.length_take] at h2
      omega
    have hb := hbody A outer s H E hr sa H F1 ds R hm
    have z := hb (L2.start N vs) H F1 (stt_start b r hl) { nx := fun _ H' => Q .non H', rt := Q } ⟨fun S' σ' H' F' s' e q' => q .non H' F' .non s'.base s'.grow .non q', fun v H' F' d b' g' r' q' => q v H' F' d b' g' r' q', fun _ _ _ _ _ _ z => z.elim, fun _ _ _ _ _ _ z => z.elim⟩
    exact ⟨_, (pss_can (X := BX P w K mg base N qual (defScope st) f c A outer s H E)).nox, z⟩
end Dm

namespace Dm
open PySem PySem.Spec PyProof.Rows L2
open GxR (TabB TabG Tabbed)
section
variable {C : Cfg} {X : Cx} {S : SD} {e a b c : Expr} {es : List Expr} {Q : D → SD → Prop} {tmp : Tmp} {σ : L2.St} {H F : Hp}

/-! ### what is known of a value in the heap -/
theorem rep_tup {v : V} {xs : List D} (s : Stt C S tmp σ H F) (r : Rep C.K C.st F v (.tup xs)) : ∃ p vs, v = .ref p ∧ SqT C.K H p vs ∧ Reps C.K C.st F vs xs := by
  cases r with
  | tup h r => exact ⟨_, _, rfl, Same.tup s.base.sub h.1, r⟩
theorem rep_lst {v : V} {xs : List D} (s : Stt C S tmp σ H F) (r : Rep C.K C.st F v (.lst xs)) : ∃ p vs, v = .ref p ∧ H p = some (HO.lst vs) ∧ Reps C.K C.st F vs xs := by
  cases r with
  | lst h r => exact ⟨_, _, rfl, s.base.sub _ _ h, r⟩
theorem rep_seq {v : V} {pd : PD} {xs : List D} (s : Stt C S tmp σ H F) (r : RepP C S σ F v pd) (h : pd.seq S = some xs) : ∃ p vs, v = .ref p ∧ (SqL C.K H p vs ∨ SqT C.K H p vs) ∧ Reps C.K C.st F vs xs := by
  cases pd with
  | d x =>
    cases x <;> simp only [PD.seq, Option.some.injEq, reduceCtorEq] at h
    · subst h
      obtain ⟨p, vs, e, q, rr⟩ := rep_tup s r
      exact ⟨p, vs, e, .inr q, rr⟩
    · subst h
      obtain ⟨p, vs, e, q, rr⟩ := rep_lst s r
      exact ⟨p, vs, e, .inl (.inl (.inl q)), rr⟩
  | own i =>
    obtain ⟨h1, ys, h2⟩ := r
    simp only [PD.seq, h2, Option.some.injEq] at h
    subst h
    obtain ⟨p, vs, q1, _, _, q4, q5⟩ := s.own i ys h2
    rw [h1] at q1
    cases q1
    exact ⟨p, vs, rfl, .inl (.inl (.inl q4)), q5⟩
/-- what was read where it stands, later -/
theorem RepP.later {S' : SD} {F' : Hp} {v : V} {pd : PD} {xs : List D} (r : RepP C S σ F v pd) (e : Same F F') (h : pd.seq S' = some xs) : RepP C S' σ F' v pd := by
  cases pd with
  | d x => exact Rep.mono e r
  | own i =>
    refine ⟨r.1, ?_⟩
    simp only [PD.seq] at h
    split at h
    · rename_i ys h2
      exact ⟨ys, h2⟩
    · cases h

def isTupP : PD → Bool
  | .d (.tup _) => true
  | _ => false
theorem rep_lstP {v : V} {pd : PD} {xs : List D} (s : Stt C S tmp σ H F) (r : RepP C S σ F v pd) (h : pd.seq S = some xs) (hn : isTupP pd = false) : ∃ p vs, v = .ref p ∧ H p = some (HO.lst vs) ∧ Reps C.K C.st F vs xs := by
  cases pd with
  | d x =>
    cases x <;> simp only [PD.seq, Option.some.injEq, reduceCtorEq] at h
    · cases hn
    · subst h
      exact rep_lst s r
  | own i =>
    obtain ⟨h1, ys, h2⟩ := r
    simp only [PD.seq, h2, Option.some.injEq] at h
    subst h
    obtain ⟨p, vs, q1, _, _, q4, q5⟩ := s.own i ys h2
    rw [h1] at q1
    cases q1
    exact ⟨p, vs, rfl, q4, q5⟩
/-! ### isinstance -/
def tyS : D → String
  | .non => "NoneType"
  | .bl _ => "bool"
  | .int _ => "int"
  | .str _ => "str"
  | .tup _ => "tuple"
  | .lst _ => "list"
  | .strm => "list"
  | .wt _ => "tuple"
def plain : D → Bool
  | .strm => false
  | .wt _ => false
  | _ => true
theorem ty_of {v : V} {d : D} (s : Stt C S tmp σ H F) (r : Rep C.K C.st F v d) (hp : plain d = true) : TyX C.K H v (.type (tyS d)) := by
  cases r with
  | non => exact .base .non
  | bl b => exact .base (.bl b)
  | int i => exact .base (.int i)
  | str z => exact .base (.str z)
  | tup h r =>
    rcases Same.tup s.base.sub h.1 with (h | ⟨o, h⟩) | ⟨o, its, n, h1, h2, _⟩
    · exact .base (.tup h)
    · exact .fTuple h
    · exact .kTuple h1 h2
  | lst h r => exact .base (.lst (s.base.sub _ _ h))
  | strm => cases hp
  | wt h r => cases hp
theorem ev_isi {T : String} {y : Str} {p p2 pos : Pos} (hv : bootBuiltins y = some (.type T)) (hm2 : X.mg y = none) (hm : X.mg "isinstance" = none) (h : EvQ C X a S fun d S1 => plain d = true ∧ ∃ k, kitB (tyS d) T = some k ∧ Q (.bl k) S1)
    (hg : Gl X "isinstance" := by rfl) (hg2 : Gl X y := by rfl) (hK : C.K = X.K := by rfl) (hn : y ≠ "__name__" := by decide) (hd : (y == ("__debug__" : Str)) = false := by decide)
    (he : starEach [a, .Name y p2] X.env = (false, eval a X.env) :: starEach [.Name y p2] X.env := by rfl) (he2 : starEach [.Name y p2] X.env = (false, eval (.Name y p2) X.env) :: starEach [] X.env := by rfl) (hpl : (backTo pos (starEach [.Name y p2] X.env)).any (·.1) = false := by rfl) :
    EvQ C X (.Call (.Name "isinstance" p) [a, .Name y p2] [] pos) S Q := fun tmp σ H F s R r =>
  of_pe (pe_callB call_isi hg hm boot_isinstance (pa_cons pe_can (pa_cons (pe_bltn (v := .ty T) hg2 hm2 hv rfl hn hd) pa_nil he2) he) (hpl := hpl) (he := he))
    (h tmp σ H F s _ fun v H1 F1 d S1 s1 e1 r1 ⟨hp, k, hk, q1⟩ => ⟨v, .ty T, .type (tyS d), .type T, k, rfl, .ty T, by rw [← hK]; exact ty_of s1 r1 hp, kit_ty hk, r _ H1 F1 (.bl k) S1 s1 e1 (.bl k) q1⟩)
def kitT (T : String) : D → Bool
  | .bl _ => T == "bool" || T == "int"
  | .int _ => T == "int"
  | .str _ => T == "str"
  | .tup _ => T == "tuple"
  | .lst _ => T == "list"
  | _ => false
theorem kit_bool (d : D) (hp : plain d = true) : kitB (tyS d) "bool" = some (kitT "bool" d) := by
  cases d <;> first | (cases hp; done) | (simp only [tyS, kitT]; decide +kernel)
theorem kit_int (d : D) (hp : plain d = true) : kitB (tyS d) "int" = some (kitT "int" d) := by
  cases d <;> first | (cases hp; done) | (simp only [tyS, kitT]; decide +kernel)
theorem kit_str (d : D) (hp : plain d = true) : kitB (tyS d) "str" = some (kitT "str" d) := by
  cases d <;> first | (cases hp; done) | (simp only [tyS, kitT]; decide +kernel)
theorem kit_tuple (d : D) (hp : plain d = true) : kitB (tyS d) "tuple" = some (kitT "tuple" d) := by
  cases d <;> first | (cases hp; done) | (simp only [tyS, kitT]; decide +kernel)
theorem kit_list (d : D) (hp : plain d = true) : kitB (tyS d) "list" = some (kitT "list" d) := by
  cases d <;> first | (cases hp; done) | (simp only [tyS, kitT]; decide +kernel)

/-! ### len, subscripts -/
theorem ev_len {p pos : Pos} (hm : X.mg "len" = none) (h : EvP C X a S fun pd S1 => ∃ xs, pd.seq S1 = some xs ∧ Q (.int (xs.length : Int)) S1) (hg : Gl X "len" := by rfl) (hK : C.K = X.K := by rfl)
    (he : starEach [a] X.env = (false, eval a X.env) :: starEach [] X.env := by rfl) : EvQ C X (.Call (.Name "len" p) [a] [] pos) S Q := fun tmp σ H F s R r =>
  of_pe (pe_callB call_len_seq hg hm PySem.boot_len (pa_cons pe_can pa_nil he) (he := he)) (h tmp σ H F s _ fun v H1 F1 pd S1 s1 e1 r1 ⟨xs, hx, q1⟩ => by
    obtain ⟨p, vs, rfl, hs, rr⟩ := rep_seq s1 r1 hx
    refine ⟨p, vs, rfl, by rw [← hK]; exact hs, ?_⟩
    rw [rr.length]
    exact r _ H1 F1 (.int _) S1 s1 e1 (.int _) q1)
theorem ev_lenS {p pos : Pos} (hm : X.mg "len" = none) (h : EvQ C X a S fun d S1 => ∃ z : Str, d = .str z ∧ z.length ≤ sizeLine ∧ Q (.int (z.length : Int)) S1) (hg : Gl X "len" := by rfl)
    (he : starEach [a] X.env = (false, eval a X.env) :: starEach [] X.env := by rfl) : EvQ C X (.Call (.Name "len" p) [a] [] pos) S Q := fun tmp σ H F s R r =>
  of_pe (pe_callB call_len_str hg hm PySem.boot_len (pa_cons pe_can pa_nil he) (he := he)) (h tmp σ H F s _ fun v H1 F1 d S1 s1 e1 r1 ⟨z, hd, hz, q1⟩ => by
    subst hd
    cases r1
    exact ⟨z, rfl, hz, r _ H1 F1 (.int _) S1 s1 e1 (.int _) q1⟩)
theorem atI_len {α β : Type} {xs : List α} {ys : List β} {i : Int} {x : α} (hl : xs.length = ys.length) (h : atI xs i = some x) : ∃ j, ixN ys.length i = some j ∧ xs[j]? = some x := by
  unfold atI at h
  rw [hl] at h
  cases e : ixN ys.length i with
  | none => rw [e] at h; cases h
  | some j => rw [e] at h; exact ⟨j, rfl, h⟩
theorem Reps.atI {K : PySem.W.Frag} {st : Addr} {vs : List V} {xs : List D} {i : Int} {x : D} (r : Reps K st F vs xs) (h : L2.atI xs i = some x) : ∃ v, L2.atI vs i = some v ∧ Rep K st F v x := by
  obtain ⟨j, h1, h2⟩ := atI_len (ys := vs) r.length.symm h
  obtain ⟨v, h3, h4⟩ := r.get h2
  refine ⟨v, ?_, h4⟩
  unfold L2.atI
  rw [h1]
  exact h3
theorem ev_ix {pos : Pos} (h : EvP C X a S fun pd S1 => EvQ C X b S1 fun y S2 => ∃ xs i d, pd.seq S2 = some xs ∧ y = .int i ∧ L2.atI xs i = some d ∧ Q d S2) (hs : PlainIx b := by exact fun _ _ => rfl) (hK : C.K = X.K := by rfl) : EvQ C X (.Subscript a b pos) S Q := fun tmp σ H F s R r =>
  of_pe (pe_ix ix_seq pe_can pe_can hs) (h tmp σ H F s _ fun v H1 F1 pd S1 s1 e1 r1 q1 => q1 tmp σ H1 F1 s1 _ fun u H2 F2 y S2 s2 e2 r2 ⟨xs, i, d, hx, hy, hd, q2⟩ => by
    subst hy
    cases r2
    obtain ⟨p, vs, rfl, hs, rr⟩ := rep_seq s2 (r1.later e2 hx) hx
    obtain ⟨w, hw, rw'⟩ := rr.atI hd
    have fin := r w H2 F2 d S2 s2 (Same.trans e1 e2) rw' q2
    rw [← hK]
    rcases hs with hs | hs
    · exact .inl ⟨p, vs, i, w, rfl, rfl, hs, hw, fin⟩
    · exact .inr (.inl ⟨p, vs, i, w, rfl, rfl, hs, hw, fin⟩))
theorem ev_ixS {pos : Pos} (h : EvQ C X a S fun x S1 => EvQ C X b S1 fun y S2 => ∃ (z : Str) (i : Int) (n : Nat), x = .str z ∧ y = .int i ∧ z.length ≤ sizeLine ∧ L2.atI z.cps.toList i = some n ∧ Q (.str ⟨#[n]⟩) S2) (hs : PlainIx b := by exact fun _ _ => rfl) : EvQ C X (.Subscript a b pos) S Q := fun tmp σ H F s R r =>
  of_pe (pe_ix ix_seq pe_can pe_can hs) (h tmp σ H F s _ fun v H1 F1 x S1 s1 e1 r1 q1 => q1 tmp σ H1 F1 s1 _ fun u H2 F2 y S2 s2 e2 r2 ⟨z, i, n, hx, hy, hz, hd, q2⟩ => by
    subst hx; subst hy
    cases r1
    cases r2
    exact .inr (.inr ⟨z, i, n, rfl, rfl, hz, hd, r _ H2 F2 _ S2 s2 (Same.trans e1 e2) (.str _) q2⟩))

/-! ### in -/
theorem ev_inSign {pos : Pos} (h : EvQ C X a S fun x S1 => EvQ C X b S1 fun y S2 => ∃ (n : Nat) (z : Str), x = .str ⟨#[n]⟩ ∧ y = .str z ∧ Q (.bl (decide (n ∈ z.cps.toList))) S2) (hm : behindInMarks .In b = false := by rfl) : EvQ C X (.Compare a [.In] [b] pos) S Q :=
  ev_cmp op_in_sign hm (ev_mono h fun x S1 h1 => ev_mono h1 fun y S2 ⟨n, z, e1, e2, q⟩ => fun S tmp σ H F v u s r1 r2 R w => by
    subst e1; subst e2; cases r1; cases r2
    exact ⟨n, z, rfl, rfl, w _ H F _ s (Same.refl F) (.bl _) q⟩)
theorem reps_strs {K : PySem.W.Frag} {st : Addr} : ∀ {zs : List Str} {vs : List V}, Reps K st F vs (zs.map D.str) → vs = zs.map V.str
  | [], _, .nil => rfl
  | z :: zs, _, .cons h t => by
    cases h
    rw [reps_strs t]
    rfl
theorem reps_ints {K : PySem.W.Frag} {st : Addr} : ∀ {zs : List Int} {vs : List V}, Reps K st F vs (zs.map D.int) → vs = zs.map V.int
  | [], _, .nil => rfl
  | z :: zs, _, .cons h t => by
    cases h
    rw [reps_ints t]
    rfl
theorem inV_strs (z : Str) (zs : List Str) : inV (.str z) (zs.map V.str) = decide (z ∈ zs) := by
  unfold inV
  induction zs with
  | nil => rfl
  | cons y ys ih =>
    rw [List.map_cons, List.any_cons, ih]
    by_cases h : y = z
    · subst h
      simp [eqV]
    · have h' : ¬ z = y := fun e => h e.symm
      simp [eqV, h, h']
theorem all_flat_strs (zs : List Str) : (zs.map V.str).all flatV = true := by
  rw [List.all_eq_true]
  intro x hx
  obtain ⟨z, _, rfl⟩ := List.mem_map.mp hx
  rfl
/-- z in (a tuple, a list of texts) -/
theorem ev_inStrs {neg : Bool} {op : CmpOp} {pos : Pos} (ho : OpR X (compareOp op) (rIn X.K neg)) (hm : behindInMarks op b = false) (h : EvQ C X a S fun x S1 => EvP C X b S1 fun pd S2 => ∃ (z : Str) (zs : List Str), x = .str z ∧ pd.seq S2 = some (zs.map D.str) ∧ Q (.bl (if neg then !decide (z ∈ zs) else decide (z ∈ zs))) S2) (hK : C.K = X.K := by rfl) :
    EvQ C X (.Compare a [op] [b] pos) S Q := fun tmp σ H F s R r =>
  of_pe (pe_cmpR ho pe_can pe_can hm) (h tmp σ H F s _ fun v H1 F1 x S1 s1 e1 r1 q1 => q1 tmp σ H1 F1 s1 _ fun u H2 F2 pd S2 s2 e2 r2 ⟨z, zs, hx, hy, q2⟩ => by
    subst hx
    cases r1
    obtain ⟨p, vs, rfl, hs, rr⟩ := rep_seq s2 r2 hy
    obtain rfl := reps_strs rr
    rw [← hK]
    refine ⟨p, _, rfl, hs, rfl, all_flat_strs zs, ?_⟩
    rw [inV_strs]
    exact r _ H2 F2 (.bl _) S2 s2 (Same.trans e1 e2) (.bl _) q2)
theorem ev_in {pos : Pos} (h : EvQ C X a S fun x S1 => EvP C X b S1 fun pd S2 => ∃ (z : Str) (zs : List Str), x = .str z ∧ pd.seq S2 = some (zs.map D.str) ∧ Q (.bl (decide (z ∈ zs))) S2) (hm : behindInMarks .In b = false := by rfl) (hK : C.K = X.K := by rfl) : EvQ C X (.Compare a [.In] [b] pos) S Q :=
  ev_inStrs (neg := false) op_in_seq hm h hK
theorem ev_notIn {pos : Pos} (h : EvQ C X a S fun x S1 => EvP C X b S1 fun pd S2 => ∃ (z : Str) (zs : List Str), x = .str z ∧ pd.seq S2 = some (zs.map D.str) ∧ Q (.bl (!decide (z ∈ zs))) S2) (hm : behindInMarks .NotIn b = false := by rfl) (hK : C.K = X.K := by rfl) : EvQ C X (.Compare a [.NotIn] [b] pos) S Q :=
  ev_inStrs (neg := true) op_notIn_seq hm h hK

/-! ### displays, tuple(..), list(..) -/
theorem sz_of {n : Nat} (h : n ≤ 100000) : n ≤ sizeLine := Nat.le_trans h (by decide)
theorem ev_tup {k : Nat} {pos : Pos} (h : EvA C X es S fun ds S1 => ds.length ≤ 100000 ∧ Q (.tup ds) S1) : EvQ C X (.Tuple es k pos) S Q := fun tmp σ H F s R r =>
  of_pe (Tx.pe_new pa_can) (h tmp σ H F s _ fun vs H1 F1 ds S1 s1 e1 r1 ⟨hl, q⟩ => ⟨by rw [r1.length]; exact sz_of hl, fun p o hp ho => by
    obtain ⟨s2, e2, r2⟩ := s1.newT hp ho r1
    exact r _ _ _ _ S1 s2 (Same.trans e1 e2) r2 q⟩)
theorem el_lst {pos : Pos} {Q : List D → SD → Prop} (h : EvA C X es S fun ds S1 => ds.length ≤ 100000 ∧ Q ds S1) : EvL C X (.List es pos) S Q := fun tmp σ H F s R r =>
  of_pe (pe_lst pa_can) (h tmp σ H F s _ fun vs H1 F1 ds S1 s1 e1 r1 ⟨hl, q⟩ => ⟨by rw [r1.length]; exact sz_of hl, fun p hp =>
    r p vs _ F1 ds S1 (s1.grew fun b u z => by rw [upd_ne (ne_of_none z hp)]; exact z) e1 (s1.freshF hp) (s1.fresh0 hp) upd_same (s1.noOwn hp).1 (s1.noOwn hp).2 r1 q⟩)
theorem ev_tupleOf {p pos : Pos} (hm : X.mg "tuple" = none) (h : EvP C X a S fun pd S1 => ∃ xs, pd.seq S1 = some xs ∧ Q (.tup xs) S1) (hg : Gl X "tuple" := by rfl) (hK : C.K = X.K := by rfl)
    (he : starEach [a] X.env = (false, eval a X.env) :: starEach [] X.env := by rfl) : EvQ C X (.Call (.Name "tuple" p) [a] [] pos) S Q := fun tmp σ H F s R r =>
  of_pe (pe_callTy Tx.call_new hg hm boot_tuple (pa_cons pe_can pa_nil he) (he := he)) (h tmp σ H F s _ fun v H1 F1 pd S1 s1 e1 r1 ⟨xs, hx, q1⟩ => by
    rw [← hK]
    cases hl : isTupP pd with
    | true =>
      cases pd with
      | own i => cases hl
      | d x =>
        cases x <;> simp only [PD.seq, Option.some.injEq, reduceCtorEq] at hx
        · subst hx
          obtain ⟨p', vs', rfl, q', rr'⟩ := rep_tup s1 r1
          exact ⟨p', vs', rfl, .inr ⟨q', r _ H1 F1 (.tup _) S1 s1 e1 r1 q1⟩⟩
        · cases hl
    | false =>
      obtain ⟨p, vs, rfl, hs, rr⟩ := rep_lstP s1 r1 hx hl
      refine ⟨p, vs, rfl, .inl ⟨.inl (.inl hs), fun l o hl ho => ?_⟩⟩
      obtain ⟨s2, e2, r2⟩ := s1.newT hl ho rr
      exact r _ _ _ _ S1 s2 (Same.trans e1 e2) r2 q1)
theorem el_listOf {p pos : Pos} {Q : List D → SD → Prop} (hm : X.mg "list" = none) (h : EvP C X a S fun pd S1 => ∃ xs, pd.seq S1 = some xs ∧ Q xs S1) (hg : Gl X "list" := by rfl) (hK : C.K = X.K := by rfl)
    (he : starEach [a] X.env = (false, eval a X.env) :: starEach [] X.env := by rfl) : EvL C X (.Call (.Name "list" p) [a] [] pos) S Q := fun tmp σ H F s R r =>
  of_pe (pe_callTy call_list_of hg hm boot_list (pa_cons pe_can pa_nil he) (he := he)) (h tmp σ H F s _ fun v H1 F1 pd S1 s1 e1 r1 ⟨xs, hx, q1⟩ => by
    obtain ⟨p, vs, rfl, hs, rr⟩ := rep_seq s1 r1 hx
    rw [← hK]
    exact ⟨p, vs, rfl, hs, fun l hp => r l vs _ F1 xs S1 (s1.grew fun b u z => by rw [upd_ne (ne_of_none z hp)]; exact z) e1 (s1.freshF hp) (s1.fresh0 hp) upd_same (s1.noOwn hp).1 (s1.noOwn hp).2 rr q1⟩)

/-! ### + of tuples, lists, texts; * -/
theorem ev_addT {pos : Pos} (h : EvQ C X a S fun x S1 => EvQ C X b S1 fun y S2 => ∃ xs ys, x = .tup xs ∧ y = .tup ys ∧ xs.length + ys.length ≤ 100000 ∧ Q (.tup (xs ++ ys)) S2) (hK : C.K = X.K := by rfl) : EvQ C X (.BinOp a .Add b pos) S Q :=
  ev_bin Tx.op_new (ev_mono h fun x S1 h1 => ev_mono h1 fun y S2 ⟨xs, ys, e1, e2, hl, q⟩ => fun S tmp σ H F v u s r1 r2 R w => by
    subst e1; subst e2
    obtain ⟨p, vs, rfl, q1, rr1⟩ := rep_tup s r1
    obtain ⟨p2, us, rfl, q2, rr2⟩ := rep_tup s r2
    rw [← hK]
    refine ⟨p, p2, vs, us, rfl, rfl, q1, q2, by rw [rr1.length, rr2.length]; exact sz_of hl, fun z => ?_, fun z => ?_, fun p3 o hp ho => ?_⟩
    · subst z
      cases rr1
      exact w _ H F _ s (Same.refl F) r2 q
    · subst z
      cases rr2
      rw [List.append_nil] at q
      exact w _ H F _ s (Same.refl F) r1 q
    · obtain ⟨s3, e3, r3⟩ := s.newT hp ho (rr1.append rr2)
      exact w _ _ _ _ s3 e3 r3 q)
theorem el_addL {pos : Pos} {Q : List D → SD → Prop} (h : EvQ C X a S fun x S1 => EvQ C X b S1 fun y S2 => ∃ xs ys, x = .lst xs ∧ y = .lst ys ∧ xs.length + ys.length ≤ 100000 ∧ Q (xs ++ ys) S2) : EvL C X (.BinOp a .Add b pos) S Q := fun tmp σ H F s R k =>
  of_pe (pe_op op_cat pe_can pe_can) (h tmp σ H F s _ fun v H1 F1 d S1 s1 e1 r1 q1 => q1 tmp σ H1 F1 s1 _ fun u H2 F2 d2 S2 s2 e2 r2 ⟨xs, ys, z1, z2, hl, q⟩ => by
    subst z1; subst z2
    obtain ⟨p, vs, rfl, q1, rr1⟩ := rep_lst s2 (r1.mono e2)
    obtain ⟨p2, us, rfl, q2, rr2⟩ := rep_lst s2 r2
    exact ⟨p, p2, vs, us, rfl, rfl, q1, q2, by rw [rr1.length, rr2.length]; exact sz_of hl, fun l hp =>
      k l _ _ F2 (xs ++ ys) S2 (s2.grew fun b u z => by rw [upd_ne (ne_of_none z hp)]; exact z) (Same.trans e1 e2) (s2.freshF hp) (s2.fresh0 hp) upd_same (s2.noOwn hp).1 (s2.noOwn hp).2 (rr1.append rr2) q⟩)
theorem ev_addS {pos : Pos} (h : EvQ C X a S fun x S1 => EvQ C X b S1 fun y S2 => ∃ z w : Str, x = .str z ∧ y = .str w ∧ z.length + w.length ≤ sizeLine ∧ Q (.str (z ++ w)) S2) : EvQ C X (.BinOp a .Add b pos) S Q :=
  ev_bin op_add_str (ev_mono h fun x S1 h1 => ev_mono h1 fun y S2 ⟨z, w, e1, e2, hl, q⟩ => fun S tmp σ H F v u s r1 r2 R k => by
    subst e1; subst e2; cases r1; cases r2
    exact ⟨z, w, rfl, rfl, hl, k _ H F _ s (Same.refl F) (.str _) q⟩)
theorem Reps.flat {K : PySem.W.Frag} {st : Addr} {vs : List V} {xs : List D} (r : Reps K st F vs xs) : ∀ n, Reps K st F (List.replicate n vs).flatten (List.replicate n xs).flatten
  | 0 => .nil
  | n + 1 => by
    rw [List.replicate_succ, List.replicate_succ, List.flatten_cons, List.flatten_cons]
    exact r.append (Reps.flat r n)
theorem ev_mulT {pos : Pos} (h : EvQ C X a S fun x S1 => EvQ C X b S1 fun y S2 => ∃ xs k, x = .tup xs ∧ y = .int k ∧ xs ≠ [] ∧ 2 ≤ k ∧ k ≤ 1000 ∧ xs.length ≤ 1000 ∧ Q (.tup (List.replicate k.toNat xs).flatten) S2) (hK : C.K = X.K := by rfl) : EvQ C X (.BinOp a .Mult b pos) S Q :=
  ev_bin Tx.op_times (ev_mono h fun x S1 h1 => ev_mono h1 fun y S2 ⟨xs, k, e1, e2, hn, h2, h3, h4, q⟩ => fun S tmp σ H F v u s r1 r2 R w => by
    subst e1; subst e2
    obtain ⟨p, vs, rfl, q1, rr1⟩ := rep_tup s r1
    cases r2
    rw [← hK]
    refine ⟨p, k, vs, rfl, rfl, q1, fun z => ?_, h2, h3, by rw [rr1.length]; exact h4, fun p3 o hp ho => ?_⟩
    · subst z
      cases rr1
      exact hn rfl
    · obtain ⟨s3, e3, r3⟩ := s.newT hp ho (rr1.flat k.toNat)
      exact w _ _ _ _ s3 e3 r3 q)

/-! ### slices -/
structure CanO (X : Cx) (o : Option Expr) (σ : L2.St) (H : Hp) (R : Option Int → Hp → Prop) : Prop where
  run : ∀ (pins : List (Addr × Obj)) (s : Shared), Inv X pins σ H s → wpAny (model X.prog X.w) X.A (evalPart o X.env) (fun u s' => ∃ o' H', Inv X pins σ H' s' ∧ IsPart u o' ∧ R o' H') X.xe s
theorem po_can {o : Option Expr} : PO X o (CanO X o) := ⟨fun pins s _ _ _ I h => h.run pins s I⟩
def EvO (C : Cfg) (X : Cx) (o : Option Expr) (S : SD) (Q : Option Int → SD → Prop) : Prop := ∀ (tmp : Tmp) (σ : L2.St) (H F : Hp), Stt C S tmp σ H F → ∀ R : Option Int → Hp → Prop,
  (∀ i H' F' S', Stt C S' tmp σ H' F' → Same F F' → Q i S' → R i H') → CanO X o σ H R
theorem eo_none {Q : Option Int → SD → Prop} (q : Q none S) : EvO C X none S Q := fun tmp σ H F s R r => ⟨fun pins s0 I => po_none.run pins s0 σ H R I (r none H F S s (Same.refl F) q)⟩
theorem eo_some {Q : Option Int → SD → Prop} (h : EvQ C X e S fun d S1 => ∃ i, d = .int i ∧ Q (some i) S1) : EvO C X (some e) S Q := fun tmp σ H F s R r => ⟨fun pins s0 I =>
  (po_some pe_can).run pins s0 σ H R I (h tmp σ H F s _ fun v H1 F1 d S1 s1 e1 r1 ⟨i, hd, q⟩ => by
    subst hd; cases r1
    exact ⟨i, rfl, r _ H1 F1 S1 s1 e1 q⟩)⟩
def cutD (xs : List D) (lo hi : Option Int) : List D := (xs.drop (HT.sIx xs.length 0 lo)).take (HT.sIx xs.length xs.length hi - HT.sIx xs.length 0 lo)
theorem Reps.cut {K : PySem.W.Frag} {st : Addr} {vs : List V} {xs : List D} (r : Reps K st F vs xs) (lo hi : Option Int) : Reps K st F (cutV vs lo hi) (cutD xs lo hi) := by
  unfold cutV cutD
  rw [r.length]
  exact (r.drop _).take _
theorem ev_slT {lo hi : Option Expr} {p2 pos : Pos} (h : EvQ C X a S fun x S1 => EvO C X lo S1 fun i S2 => EvO C X hi S2 fun j S3 => ∃ xs, x = .tup xs ∧ Q (.tup (cutD xs i j)) S3) (hK : C.K = X.K := by rfl) : EvQ C X (.Subscript a (.Slice lo hi none p2) pos) S Q := fun tmp σ H F s R r =>
  of_pe (pe_slice Tx.sl_new pe_can po_can po_can) (h tmp σ H F s _ fun v H1 F1 x S1 s1 e1 r1 q1 => q1 tmp σ H1 F1 s1 _ fun i H2 F2 S2 s2 e2 q2 => q2 tmp σ H2 F2 s2 _ fun j H3 F3 S3 s3 e3 ⟨xs, hx, q⟩ => by
    subst hx
    have r3 := (r1.mono e2).mono e3
    obtain ⟨p, vs, rfl, qq, rr⟩ := rep_tup s3 r3
    rw [← hK]
    refine ⟨p, vs, rfl, qq, fun ⟨z1, z2⟩ => ?_, fun p3 o hp ho => ?_⟩
    · rw [rr.length] at z1 z2
      have e : cutD xs i j = xs := by
        unfold cutD
        rw [z1, z2]
        simp
      rw [e] at q
      exact r _ H3 F3 _ S3 s3 (Same.trans e1 (Same.trans e2 e3)) r3 q
    · obtain ⟨s4, e4, r4⟩ := s3.newT hp ho (rr.cut i j)
      exact r _ _ _ _ S3 s4 (Same.trans e1 (Same.trans e2 (Same.trans e3 e4))) r4 q)
theorem ev_slS {lo hi : Option Expr} {p2 pos : Pos} (h : EvQ C X a S fun x S1 => EvO C X lo S1 fun i S2 => EvO C X hi S2 fun j S3 => ∃ z : Str, x = .str z ∧ z.length ≤ sizeLine ∧ Q (.str (cutS z i j)) S3) : EvQ C X (.Subscript a (.Slice lo hi none p2) pos) S Q := fun tmp σ H F s R r =>
  of_pe (pe_slice sl_str pe_can po_can po_can) (h tmp σ H F s _ fun v H1 F1 x S1 s1 e1 r1 q1 => q1 tmp σ H1 F1 s1 _ fun i H2 F2 S2 s2 e2 q2 => q2 tmp σ H2 F2 s2 _ fun j H3 F3 S3 s3 e3 ⟨z, hx, hz, q⟩ => by
    subst hx
    cases r1
    exact ⟨z, rfl, hz, r _ H3 F3 _ S3 s3 (Same.trans e1 (Same.trans e2 e3)) (.str _) q⟩)
theorem el_slL {lo hi : Option Expr} {p2 pos : Pos} {Q : List D → SD → Prop} (h : EvQ C X a S fun x S1 => EvO C X lo S1 fun i S2 => EvO C X hi S2 fun j S3 => ∃ xs, x = .lst xs ∧ Q (cutD xs i j) S3) : EvL C X (.Subscript a (.Slice lo hi none p2) pos) S Q := fun tmp σ H F s R r =>
  of_pe (pe_slice sl_list pe_can po_can po_can) (h tmp σ H F s _ fun v H1 F1 x S1 s1 e1 r1 q1 => q1 tmp σ H1 F1 s1 _ fun i H2 F2 S2 s2 e2 q2 => q2 tmp σ H2 F2 s2 _ fun j H3 F3 S3 s3 e3 ⟨xs, hx, q⟩ => by
    subst hx
    obtain ⟨p, vs, rfl, qq, rr⟩ := rep_lst s3 ((r1.mono e2).mono e3)
    exact ⟨p, vs, rfl, .inl (.inl qq), fun l hp => r l _ _ F3 _ S3 (s3.grew fun b u z => by rw [upd_ne (ne_of_none z hp)]; exact z) (Same.trans e1 (Same.trans e2 e3)) (s3.freshF hp) (s3.fresh0 hp) upd_same (s3.noOwn hp).1 (s3.noOwn hp).2 (rr.cut i j) q⟩)

/-! ### methods of one's own lists -/
/-- xs.pop(e) -/
theorem ev_pop {i : Nat} {x : Str} {p apos cpos : Pos} (h : EvQ C X b S fun d S1 => ∃ xs j y, S1[i]? = some (Slot.own xs) ∧ d = .int (j : Nat) ∧ xs[j]? = some y ∧ xs.length ≤ 100000 ∧ Q y (S1.set i (Slot.own (xs.eraseIdx j)))) {ys0 : List D} (hS : S[i]? = some (Slot.own ys0)) (hN : X.N[i]? = some x := by rfl)
    (hv : Vis X.env.scope x := by first | exact Or.inl rfl | exact Or.inr (Or.inl rfl) | exact Or.inr (Or.inr rfl)) (hd : (x == ("__debug__" : Str)) = false := by decide) (hcd : (x == ("__classdict__" : Str)) = false := by decide)
    (hbase : attributeBase (.Name x p) "pop" X.env (eval (.Name x p) X.env) = eval (.Name x p) X.env := by rfl)
    (hfew : ((backTo cpos (starEach [b] X.env)).all (fun x => !x.1) && (backToKw cpos (keywordEach [] X.env)).all (fun x => x.1.isSome)
      && decide (([b] : List Expr).length + ([] : List Keyword).length + (if ([] : List Keyword).isEmpty then 0 else 1) < 30)) = true := by rfl)
    (hline : (apos.endLine == cpos.line) = true := by rfl) (hs : starEach [b] X.env = (false, eval b X.env) :: starEach [] X.env := by rfl) (hplain : (backTo cpos (starEach [] X.env)).any (·.1) = false := by rfl) :
    EvQ C X (.Call (.Attribute (.Name x p) "pop" apos) [b] [] cpos) S Q := fun tmp σ H F s R r =>
  of_pe (pe_bm PySem.F.plainAttrs_list PySem.F.slot_list_pop PySem.F.type_list_pop mt_popAt (pe_var hN hv hd hcd) (pa_cons pe_can pa_nil hs) hbase hfew hline hs hplain) (by
    obtain ⟨a, vs, h1, h2, h3, h4, h5⟩ := s.own i ys0 hS
    refine ⟨_, h1, .inl ⟨rfl, vs, .inl (.inl h4)⟩, h tmp σ H F s _ fun v H1 F1 d S1 s1 e1 r1 ⟨xs, j, y, hS1, hd1, hy, hl, q⟩ => ?_⟩
    subst hd1
    cases r1
    obtain ⟨a', us, g1, g2, g3, g4, g5⟩ := s1.own i xs hS1
    rw [h1] at g1
    cases g1
    obtain ⟨w, hw, rw'⟩ := g5.get hy
    have hj : j < us.length := (List.getElem?_eq_some_iff.mp hw).1
    have hul : us.length ≤ 100000 := by rw [g5.length]; exact hl
    refine ⟨a, us, (j : Int), j, w, rfl, rfl, g4, by omega, by omega, ?_, hw, ?_⟩
    · unfold seqIndex?
      simp only [show ¬ ((j : Int) < 0) by omega, if_false]
      rw [if_pos (by simp; omega)]
      simp
    · refine r w _ F1 y _ (s1.write hS1 h1 ?_) e1 rw' q
      have e : ∀ {vs : List V} {xs : List D} (n : Nat), Reps C.K C.st F1 vs xs → Reps C.K C.st F1 (vs.eraseIdx n) (xs.eraseIdx n) := fun {vs xs} n rr => by
        rw [List.eraseIdx_eq_take_drop_succ, List.eraseIdx_eq_take_drop_succ]
        exact (rr.take n).append (rr.drop (n + 1))
      exact e j g5)
/-- xs.append(e) -/
theorem ev_append {i : Nat} {x : Str} {p apos cpos : Pos} (h : EvQ C X b S fun d S1 => ∃ xs, S1[i]? = some (Slot.own xs) ∧ xs.length ≤ 100000 ∧ Q .non (S1.set i (Slot.own (xs ++ [d])))) {ys0 : List D} (hS : S[i]? = some (Slot.own ys0)) (hN : X.N[i]? = some x := by rfl)
    (hv : Vis X.env.scope x := by first | exact Or.inl rfl | exact Or.inr (Or.inl rfl) | exact Or.inr (Or.inr rfl)) (hd : (x == ("__debug__" : Str)) = false := by decide) (hcd : (x == ("__classdict__" : Str)) = false := by decide)
    (hbase : attributeBase (.Name x p) "append" X.env (eval (.Name x p) X.env) = eval (.Name x p) X.env := by rfl)
    (hfew : ((backTo cpos (starEach [b] X.env)).all (fun x => !x.1) && (backToKw cpos (keywordEach [] X.env)).all (fun x => x.1.isSome)
      && decide (([b] : List Expr).length + ([] : List Keyword).length + (if ([] : List Keyword).isEmpty then 0 else 1) < 30)) = true := by rfl)
    (hline : (apos.endLine == cpos.line) = true := by rfl) (hs : starEach [b] X.env = (false, eval b X.env) :: starEach [] X.env := by rfl) (hplain : (backTo cpos (starEach [] X.env)).any (·.1) = false := by rfl) :
    EvQ C X (.Call (.Attribute (.Name x p) "append" apos) [b] [] cpos) S Q := fun tmp σ H F s R r =>
  of_pe (pe_bm PySem.F.plainAttrs_list PySem.F.slot_list_append PySem.F.type_list_append mt_append (pe_var hN hv hd hcd) (pa_cons pe_can pa_nil hs) hbase hfew hline hs hplain) (by
    obtain ⟨a, vs, h1, h2, h3, h4, h5⟩ := s.own i ys0 hS
    refine ⟨_, h1, .inl ⟨rfl, vs, .inl (.inl h4)⟩, h tmp σ H F s _ fun v H1 F1 d S1 s1 e1 r1 ⟨xs, hS1, hl, q⟩ => ?_⟩
    obtain ⟨a', us, g1, g2, g3, g4, g5⟩ := s1.own i xs hS1
    rw [h1] at g1
    cases g1
    refine ⟨a, us, v, rfl, rfl, g4, by rw [g5.length]; exact Nat.lt_of_le_of_lt hl (by decide), ?_⟩
    exact r .non _ F1 .non _ (s1.write hS1 h1 (g5.snoc r1)) e1 .non q)
end
end Dm

namespace Dm
open PySem PySem.Spec PyProof.Rows L2
open GxR (TabB TabG Tabbed)
section
variable {C : Cfg} {X : Cx} {S : SD} {e a b c : Expr} {es : List Expr} {Q : D → SD → Prop} {tmp : Tmp} {σ : L2.St} {H F : Hp}
/-! ### what is walked -/
def ItSem (C : Cfg) (J : It) (F : Hp) (xs : List D) : Prop := ∀ (i : Nat) (S : SD) (tmp : Tmp) (σ : L2.St) (H F1 : Hp), Stt C S tmp σ H F1 → Same F F1 →
  (∀ x, xs[i]? = some x → J.go i H ∧ ∀ v H', J.yld i H v H' → ∃ F2, Stt C S tmp σ H' F2 ∧ Same F1 F2 ∧ Rep C.K C.st F2 v x) ∧ (xs.length ≤ i → J.stop i H)
theorem ItSem.mono {J : It} {F F' : Hp} {xs : List D} (h : ItSem C J F xs) (e : Same F F') : ItSem C J F' xs := fun i S tmp σ H F1 s e1 => h i S tmp σ H F1 s (Same.trans e e1)
structure CanI (X : Cx) (tg iter : Expr) (σ : L2.St) (H : Hp) (R : It → Hp → Prop) : Prop where
  run : ∀ (pins : List (Addr × Obj)) (s : Shared), Inv X pins σ H s → wpAny (model X.prog X.w) X.A (eval iter X.env) (fun v s1 => wpAny (model X.prog X.w) X.A (pyIter v) (PIE X pins σ tg R) X.xe s1) X.xe s
theorem pi_can {tg iter : Expr} : PI X tg iter (CanI X tg iter) := ⟨fun pins s _ _ _ I h => h.run pins s I⟩
theorem of_pi {tg iter : Expr} {wi : TI} {R : It → Hp → Prop} (p : PI X tg iter wi) (q : wi σ H R) : CanI X tg iter σ H R := ⟨fun pins s I => p.run pins s σ H R I q⟩
def ItQ (C : Cfg) (X : Cx) (tg iter : Expr) (S : SD) (Q : List D → SD → Prop) : Prop := ∀ (tmp : Tmp) (σ : L2.St) (H F : Hp), Stt C S tmp σ H F → ∀ R : It → Hp → Prop,
  (∀ J H' F' xs S', Stt C S' tmp σ H' F' → Same F F' → ItSem C J F' xs → Q xs S' → R J H') → CanI X tg iter σ H R
variable {tg iter : Expr} {QL : List D → SD → Prop}
theorem sem_tup {p : Addr} {vs : List V} {xs : List D} (hq : SqT C.K F p vs) (rr : Reps C.K C.st F vs xs) : ItSem C (Itt C.K p) F xs := fun i S tmp σ H F1 s e => by
  have hH : SqT C.K H p vs := Same.tup (Same.trans e s.base.sub) hq
  refine ⟨fun x hx => ?_, fun hl => ⟨vs, hH, by rw [rr.length]; exact hl⟩⟩
  obtain ⟨v, h1, h2⟩ := rr.get hx
  exact ⟨⟨vs, v, hH, h1⟩, fun w H' ⟨e1, e2⟩ => by
    subst e1
    have := e2 vs hH
    rw [h1] at this
    cases this
    exact ⟨F1, s, Same.refl F1, h2.mono e⟩⟩
theorem sem_lst {p : Addr} {vs : List V} {xs : List D} (hq : F p = some (HO.lst vs)) (rr : Reps C.K C.st F vs xs) : ItSem C (Itl C.K p) F xs := fun i S tmp σ H F1 s e => by
  have hH : SqL C.K H p vs := .inl (.inl (s.base.sub _ _ (e _ _ hq)))
  refine ⟨fun x hx => ?_, fun hl => ⟨vs, hH, by rw [rr.length]; exact hl⟩⟩
  obtain ⟨v, h1, h2⟩ := rr.get hx
  exact ⟨⟨vs, v, hH, h1⟩, fun w H' ⟨e1, e2⟩ => by
    subst e1
    have := e2 vs hH
    rw [h1] at this
    cases this
    exact ⟨F1, s, Same.refl F1, h2.mono e⟩⟩
theorem it_tup (h : EvQ C X iter S fun d S1 => ∃ xs, d = .tup xs ∧ QL xs S1) (hK : C.K = X.K := by rfl) : ItQ C X tg iter S QL := fun tmp σ H F s R r =>
  of_pi (pi_tup pe_can) (h tmp σ H F s _ fun v H1 F1 d S1 s1 e1 r1 ⟨xs, hd, q⟩ => by
    subst hd
    cases r1 with
    | tup hq rr =>
      rename_i p vs
      rw [← hK]
      exact ⟨p, rfl, ⟨vs, Same.tup s1.base.sub hq.1⟩, r _ H1 F1 xs S1 s1 e1 (sem_tup hq.1 rr) q⟩)
theorem it_lst (h : EvQ C X iter S fun d S1 => ∃ xs, d = .lst xs ∧ QL xs S1) (hK : C.K = X.K := by rfl) : ItQ C X tg iter S QL := fun tmp σ H F s R r =>
  of_pi (pi_list pe_can) (h tmp σ H F s _ fun v H1 F1 d S1 s1 e1 r1 ⟨xs, hd, q⟩ => by
    subst hd
    cases r1 with
    | lst hq rr =>
      rename_i p vs
      rw [← hK]
      exact ⟨p, rfl, ⟨vs, .inl (.inl (s1.base.sub _ _ hq))⟩, r _ H1 F1 xs S1 s1 e1 (sem_lst hq rr) q⟩)
def rngD (lo : Int) (n : Nat) : List D := (List.range n).map fun i => D.int (lo + (i : Nat))
theorem rngD_len (lo : Int) (n : Nat) : (rngD lo n).length = n := by unfold rngD; rw [List.length_map, List.length_range]
theorem rngD_get {lo : Int} {n i : Nat} {x : D} (h : (rngD lo n)[i]? = some x) : i < n ∧ x = .int (lo + (i : Nat)) := by
  have hi : i < n := by have := (List.getElem?_eq_some_iff.mp h).1; rwa [rngD_len] at this
  refine ⟨hi, ?_⟩
  unfold rngD at h
  rw [List.getElem?_map, List.getElem?_range hi] at h
  exact (Option.some.inj h).symm
theorem sem_rng {lo : Int} {n : Nat} : ItSem C (Itr lo n) F (rngD lo n) := fun i S tmp σ H F1 s e => by
  refine ⟨fun x hx => ?_, fun hl => by rw [rngD_len] at hl; exact hl⟩
  obtain ⟨hi, rfl⟩ := rngD_get hx
  exact ⟨hi, fun w H' ⟨e1, e2⟩ => by subst e1; subst e2; exact ⟨F1, s, Same.refl F1, .int _⟩⟩
theorem it_rng {p pos : Pos} (hm : X.mg "range" = none) (h : EvQ C X a S fun d S1 => ∃ n, d = .int n ∧ -1000000 ≤ n ∧ n ≤ 1000000 ∧ QL (rngD 0 n.toNat) S1) (hg : Gl X "range" := by rfl) (hs : starEach [a] X.env = [(false, eval a X.env)] := by rfl) : ItQ C X tg (.Call (.Name "range" p) [a] [] pos) S QL := fun tmp σ H F s R r =>
  of_pi (pi_range1 hg hm (pa_cons pe_can pa_nil hs) hs) (h tmp σ H F s _ fun v H1 F1 d S1 s1 e1 r1 ⟨n, hd, h1, h2, q⟩ => by
    subst hd; cases r1
    exact ⟨n, rfl, by omega, by omega, r _ H1 F1 _ S1 s1 e1 sem_rng q⟩)
theorem it_rng2 {p pos : Pos} (hm : X.mg "range" = none) (h : EvQ C X a S fun d S1 => EvQ C X b S1 fun d2 S2 => ∃ l n, d = .int l ∧ d2 = .int n ∧ -1000000 ≤ l ∧ l ≤ 1000000 ∧ -1000000 ≤ n ∧ n ≤ 1000000 ∧ QL (rngD l (n - l).toNat) S2) (hg : Gl X "range" := by rfl)
    (hs : starEach [a, b] X.env = [(false, eval a X.env), (false, eval b X.env)] := by rfl) (hs2 : starEach [b] X.env = [(false, eval b X.env)] := by rfl) : ItQ C X tg (.Call (.Name "range" p) [a, b] [] pos) S QL := fun tmp σ H F s R r =>
  of_pi (pi_range2 hg hm (pa_cons pe_can (pa_cons pe_can pa_nil hs2) (by rw [hs, hs2])) hs hs2) (h tmp σ H F s _ fun v H1 F1 d S1 s1 e1 r1 q1 => q1 tmp σ H1 F1 s1 _ fun u H2 F2 d2 S2 s2 e2 r2 ⟨l, n, hd, hd2, h1, h2, h3, h4, q⟩ => by
    subst hd; subst hd2; cases r1; cases r2
    exact ⟨l, n, rfl, ⟨by omega, by omega, by omega, by omega⟩, r _ H2 F2 _ S2 s2 (Same.trans e1 e2) sem_rng q⟩)
def signsD (z : Str) : List D := z.cps.toList.map fun n => D.str ⟨#[n]⟩
theorem sem_str {z : Str} : ItSem C (Its z) F (signsD z) := fun i S tmp σ H F1 s e => by
  have hlen : (signsD z).length = z.cps.size := by unfold signsD; simp
  refine ⟨fun x hx => ?_, fun hl => by rw [hlen] at hl; exact hl⟩
  have hi : i < z.cps.size := by have := (List.getElem?_eq_some_iff.mp hx).1; rwa [hlen] at this
  refine ⟨hi, fun w H' ⟨e1, n, e2, e3⟩ => ?_⟩
  subst e1; subst e3
  refine ⟨F1, s, Same.refl F1, ?_⟩
  unfold signsD at hx
  rw [List.getElem?_map] at hx
  have e4 : z.cps.toList[i]? = some n := by rw [Array.getElem?_toList]; exact e2
  rw [e4] at hx
  cases hx
  exact .str _
theorem it_str (h : EvQ C X iter S fun d S1 => ∃ z, d = .str z ∧ QL (signsD z) S1) : ItQ C X tg iter S QL := fun tmp σ H F s R r =>
  of_pi (pi_str pe_can) (h tmp σ H F s _ fun v H1 F1 d S1 s1 e1 r1 ⟨z, hd, q⟩ => by
    subst hd; cases r1
    exact ⟨z, rfl, r _ H1 F1 _ S1 s1 e1 sem_str q⟩)

/-! ### for -/
theorem ex_for {body : List Stmt} {pos : Pos} {E : DE} (h : ItQ C X tg iter S fun xs S1 => ∃ Iv : Nat → SD → Prop, Iv 0 S1 ∧ (∀ i x S, xs[i]? = some x → Iv i S → AsQ C X tg x S fun S2 => Exs C X body S2 { nx := Iv (i + 1), rt := E.rt, bk := E.nx, ct := Iv (i + 1) }) ∧ (∀ S, Iv xs.length S → E.nx S))
    (hc : X.calm = true := by rfl) (hx : X.xe = (fun _ _ => False) := by rfl) (hs : ∀ x, foldedSetIterable iter X.env x = pure x := by intro _; rfl) : Ex C X (.For tg iter body [] pos) S E := fun σ H F s D' k =>
  of_ps (ps_for (by rw [hx]; exact PassesOwn.never) hc pi_can pg_can pss_can hs) (h [] σ H F s _ fun J H1 F1 xs S1 s1 e1 sem ⟨Iv, h0, hstep, hend⟩ => by
    refine ⟨fun i m σ' H' => m = xs.length - i ∧ i ≤ xs.length ∧ ∃ S' F', Stt C S' [] σ' H' F' ∧ Same F1 F' ∧ Iv i S', ⟨xs.length, by omega, Nat.zero_le _, S1, F1, s1, Same.refl F1, h0⟩, ?_⟩
    rintro i m σ' H' ⟨rfl, hi, S', F', s', e', iv⟩
    by_cases hlt : i < xs.length
    · refine .inr ⟨((sem i S' [] σ' H' F' s' e').1 xs[i] (List.getElem?_eq_getElem hlt)).1, fun σ2 H2 => ∃ S2 F2, Stt C S2 [] σ2 H2 F2 ∧ Same F1 F2 ∧ Iv (i + 1) S2, fun σ2 H2 ⟨S2, F2, s2, e2, iv2⟩ => ⟨xs.length - (i + 1), by omega, rfl, hlt, S2, F2, s2, e2, iv2⟩, fun v H2 hy => ?_⟩
      obtain ⟨F2, s2, e2, r2⟩ := ((sem i S' [] σ' H' F' s' e').1 xs[i] (List.getElem?_eq_getElem hlt)).2 v H2 hy
      have ef : Same F1 F2 := Same.trans e' e2
      refine hstep i xs[i] S' (List.getElem?_eq_getElem hlt) iv [] σ' H2 F2 v s2 r2 _ fun σ3 H3 F3 S3 s3 e3 q3 => ?_
      refine q3 σ3 H3 F3 s3 _ ⟨fun S4 σ4 H4 F4 s4 e4 q4 => ⟨S4, F4, s4, Same.trans ef (Same.trans e3 e4), q4⟩, fun v4 H4 F4 d4 b4 g4 r4 q4 => k.rt v4 H4 F4 d4 b4 g4 r4 q4, fun S4 σ4 H4 F4 s4 e4 q4 => k.nx S4 σ4 H4 F4 s4 (Same.trans e1 (Same.trans ef (Same.trans e3 e4))) q4, fun S4 σ4 H4 F4 s4 e4 q4 => ⟨S4, F4, s4, Same.trans ef (Same.trans e3 e4), q4⟩⟩
    · have hi' : i = xs.length := by omega
      subst hi'
      exact .inl ⟨(sem _ S' [] σ' H' F' s' e').2 (Nat.le_refl _), k.nx S' σ' H' F' s' (Same.trans e1 e') (hend S' iv)⟩)

/-! ### the slots of a comprehension's own names -/
def wipeS (S : SD) : List Nat → SD
  | [] => S
  | v :: vs => (wipeS S vs).set v Slot.none
theorem wipeS_get {S : SD} {i : Nat} {q : Slot} : ∀ {vs : List Nat}, (wipeS S vs)[i]? = some q → (q = Slot.none ∨ (S[i]? = some q ∧ i ∉ vs))
  | [], h => .inr ⟨h, by simp⟩
  | v :: vs, h => by
    unfold wipeS at h
    rcases getset h with ⟨rfl, e⟩ | ⟨n, e⟩
    · exact .inl e
    · rcases wipeS_get e with z | ⟨z1, z2⟩
      · exact .inl z
      · exact .inr ⟨z1, by simp only [List.mem_cons, not_or]; exact ⟨fun z => n z.symm, z2⟩⟩
theorem wipe_same {σ : L2.St} {i : Nat} : ∀ {vs : List Nat}, i ∉ vs → (wipe σ vs)[i]? = σ[i]?
  | [], _ => rfl
  | v :: vs, h => by
    simp only [List.mem_cons, not_or] at h
    unfold wipe
    rw [List.getElem?_set_ne (Ne.symm h.1)]
    exact wipe_same h.2
theorem wipe_set {σ : L2.St} {i : Nat} {x : Option V} : ∀ {vs : List Nat}, i ∈ vs → wipe (σ.set i x) vs = wipe σ vs
  | [], h => by simp at h
  | v :: vs, h => by
    unfold wipe
    by_cases hi : i ∈ vs
    · rw [wipe_set hi]
    · have e : v = i := by
        rcases List.mem_cons.mp h with e | e
        · exact e.symm
        · exact absurd e hi
      subst e
      apply List.ext_getElem?
      intro j
      by_cases hj : v = j
      · subst hj
        by_cases hl : v < σ.length
        · rw [List.getElem?_set_self (by rw [wipe_length, List.length_set]; exact hl), List.getElem?_set_self (by rw [wipe_length]; exact hl)]
        · rw [List.getElem?_eq_none (by simp [wipe_length]; omega), List.getElem?_eq_none (by simp [wipe_length]; omega)]
      · rw [List.getElem?_set_ne hj, List.getElem?_set_ne hj]
        by_cases hjv : j ∈ vs
        · have key : ∀ {τ : L2.St} {vs : List Nat}, j ∈ vs → (wipe τ vs)[j]? = if j < τ.length then some none else none := fun {τ vs} hm => by
            induction vs with
            | nil => simp at hm
            | cons u us ih =>
              unfold wipe
              by_cases hu : u = j
              · subst hu
                by_cases hl : u < τ.length
                · rw [List.getElem?_set_self (by rw [wipe_length]; exact hl), if_pos hl]
                · rw [List.getElem?_eq_none (by simp [wipe_length]; omega), if_neg hl]
              · rw [List.getElem?_set_ne hu]
                rcases List.mem_cons.mp hm with z | z
                · exact absurd z.symm hu
                · exact ih z
          rw [key hjv, key hjv, List.length_set]
        · rw [wipe_same hjv, wipe_same hjv, List.getElem?_set_ne hj]
/-- the names forgotten; the slots stand as σ2 has them, or σ, where only these differ -/
theorem Stt.wiped {σ2 : L2.St} {vs : List Nat} (s : Stt C S tmp σ2 H F) (hw : wipe σ2 vs = wipe σ vs) : Stt C (wipeS S vs) tmp σ H F := by
  have same : ∀ {i : Nat}, i ∉ vs → σ[i]? = σ2[i]? := fun {i} hi => by rw [← wipe_same hi, ← hw, wipe_same hi]
  refine ⟨s.b0, s.base, s.grow, fun i d h => ?_, fun i xs h => ?_, fun i j xs ys a h1 h2 h3 h4 => ?_, s.tm, fun i ys a xs h h1 => ?_, s.tnd⟩
  · rcases wipeS_get h with z | ⟨z1, z2⟩
    · cases z
    · rw [same z2]
      exact s.val i d z1
  · rcases wipeS_get h with z | ⟨z1, z2⟩
    · cases z
    · rw [same z2]
      exact s.own i xs z1
  · rcases wipeS_get h1 with z | ⟨z1, z2⟩
    · cases z
    rcases wipeS_get h2 with z | ⟨y1, y2⟩
    · cases z
    rw [same z2] at h3
    rw [same y2] at h4
    exact s.dis i j xs ys a z1 y1 h3 h4
  · rcases wipeS_get h1 with z | ⟨z1, z2⟩
    · cases z
    · rw [same z2]
      exact s.tdis i ys a xs h z1
theorem wipe_wipe {σ : L2.St} {vs : List Nat} : wipe (wipe σ vs) vs = wipe σ vs := by
  have key : ∀ us : List Nat, (∀ u ∈ us, u ∈ vs) → wipe (wipe σ us) vs = wipe σ vs := fun us => by
    induction us with
    | nil => intro _; rfl
    | cons u us ih =>
      intro h
      show wipe ((wipe σ us).set u none) vs = _
      rw [wipe_set (h u List.mem_cons_self)]
      exact ih fun x hx => h x (List.mem_cons_of_mem _ hx)
  exact key vs fun _ h => h
theorem Stt.wipeIn {vs : List Nat} (s : Stt C (wipeS S vs) tmp σ H F) : Stt C (wipeS S vs) tmp (wipe σ vs) H F := by
  have s2 : Stt C (wipeS (wipeS S vs) vs) tmp (wipe σ vs) H F := s.wiped (σ2 := σ) wipe_wipe.symm
  refine ⟨s2.b0, s2.base, s2.grow, fun i d h => ?_, fun i xs h => ?_, fun i j xs ys a h1 h2 h3 h4 => ?_, s2.tm, fun i ys a xs h h1 => ?_, s2.tnd⟩
  · rcases wipeS_get h with z | ⟨z1, z2⟩
    · cases z
    · rw [wipe_same z2]
      exact s.val i d h
  · rcases wipeS_get h with z | ⟨z1, z2⟩
    · cases z
    · rw [wipe_same z2]
      exact s.own i xs h
  · rcases wipeS_get h1 with z | ⟨z1, z2⟩
    · cases z
    rcases wipeS_get h2 with z | ⟨y1, y2⟩
    · cases z
    rw [wipe_same z2] at h3
    rw [wipe_same y2] at h4
    exact s.dis i j xs ys a h1 h2 h3 h4
  · rcases wipeS_get h1 with z | ⟨z1, z2⟩
    · cases z
    · rw [wipe_same z2]
      exact s.tdis i ys a xs h h1

/-! targets of a comprehension -/
def AsW (C : Cfg) (X : Cx) (vs : List Nat) (tg : Expr) (d : D) (S : SD) (Q : SD → Prop) : Prop := ∀ (tmp : Tmp) (σ : L2.St) (H F : Hp) (v : V), Stt C S tmp σ H F → Rep C.K C.st F v d → ∀ R : L2.St → Hp → Prop,
  (∀ σ' H' F' S', Stt C S' tmp σ' H' F' → Same F F' → wipe σ' vs = wipe σ vs → Q S' → R σ' H') → CanG X tg v σ H R
theorem asw_name {vs : List Nat} {i : Nat} {x : Str} {pos : Pos} {d : D} {Q : SD → Prop} (hN : X.N.Nodup) (q : Q (S.set i (Slot.val d))) (hm : i ∈ vs := by decide) (hi : X.N[i]? = some x := by rfl) (hx : Loc X.env.scope x := by first | exact Or.inl rfl | exact Or.inr rfl)
    (hf : X.fn x = true ∨ X.env.scope.names.lookup x = some .local := by first | exact .inl rfl | exact .inr rfl | assumption) : AsW C X vs (.Name x pos) d S Q := fun tmp σ H F v s r R k => ⟨fun pins s0 u I ru => by
  have hl : i < σ.length := by rw [I.len]; exact (List.getElem?_eq_some_iff.mp hi).1
  exact (of_pg (pg_name hN hi hx hf) (k _ H F _ (s.set hl r) (Same.refl F) (wipe_set hm) q)).run pins s0 u I ru⟩
def AsWs (C : Cfg) (X : Cx) (vs : List Nat) (ts : List Expr) (ds : List D) (S : SD) (Q : SD → Prop) : Prop := ∀ (tmp : Tmp) (σ : L2.St) (H F : Hp) (us : List V), Stt C S tmp σ H F → Reps C.K C.st F us ds → ∀ R : L2.St → Hp → Prop,
  (∀ σ' H' F' S', Stt C S' tmp σ' H' F' → Same F F' → wipe σ' vs = wipe σ vs → Q S' → R σ' H') → CanGs X ts us σ H R
theorem asws_nil {vs : List Nat} {Q : SD → Prop} (q : Q S) : AsWs C X vs [] [] S Q := fun tmp σ H F us s r R k => by
  cases r
  exact of_pgs pgs_nil ⟨rfl, k σ H F S s (Same.refl F) rfl q⟩
theorem asws_cons {vs : List Nat} {t : Expr} {ts : List Expr} {d : D} {ds : List D} {Q : SD → Prop} (h : AsW C X vs t d S fun S1 => AsWs C X vs ts ds S1 Q) (hp : PGs X (t :: ts) (gCons (CanG X t) (CanGs X ts)) := by exact pgs_cons pg_can pgs_can) : AsWs C X vs (t :: ts) (d :: ds) S Q := fun tmp σ H F us s r R k => by
  cases r with
  | cons r1 r2 =>
    rename_i v us'
    exact of_pgs hp ⟨v, us', rfl, h tmp σ H F v s r1 _ fun σ1 H1 F1 S1 s1 e1 w1 q1 => q1 tmp σ1 H1 F1 us' s1 (r2.mono e1) R fun σ2 H2 F2 S2 s2 e2 w2 q2 => k σ2 H2 F2 S2 s2 (Same.trans e1 e2) (w2.trans w1) q2⟩
theorem asw_tup {vs : List Nat} {es : List Expr} {n k : Nat} {pos : Pos} {xs : List D} {Q : SD → Prop} (h : AsWs C X vs es xs S Q) (hl : xs.length = n) (hK : C.K = X.K := by rfl) (hc : X.calm = true := by rfl) (hn : (assignEach es X.env).length = n := by rfl) (hst : (assignEach es X.env).findIdx? (·.1) = none := by rfl) : AsW C X vs (.Tuple es k pos) (.tup xs) S Q := fun tmp σ H F v s r R w => by
  cases r with
  | tup hq rs =>
    rename_i a us
    exact of_pg (pg_tup hc pgs_can hn hst) ⟨a, us, rfl, by rw [← hK]; exact Same.tup s.base.sub hq.1, by rw [rs.length]; exact hl, h tmp σ H F us s rs R w⟩

/-! tests of a comprehension -/
structure CanTs (X : Cx) (ifs : List Expr) (σ : L2.St) (H : Hp) (R : Bool → Hp → Prop) : Prop where
  run : ∀ (pins : List (Addr × Obj)) (s : Shared), Inv X pins σ H s →
  wpAny (model X.prog X.w) X.A (forIn ifs true fun c r => if r = true then do let ok ← isTrue c X.env (eval c X.env); pure (ForInStep.yield ok) else pure (ForInStep.yield r)) (TP X pins σ R) X.xe s
theorem pts_can {ifs : List Expr} : PTs X ifs (CanTs X ifs) := ⟨fun pins s _ _ _ I h => h.run pins s I⟩
def TsQ (C : Cfg) (X : Cx) (ifs : List Expr) (S : SD) (Q : Bool → SD → Prop) : Prop := ∀ (tmp : Tmp) (σ : L2.St) (H F : Hp), Stt C S tmp σ H F → ∀ R : Bool → Hp → Prop,
  (∀ k H' F' S', Stt C S' tmp σ H' F' → Same F F' → Q k S' → R k H') → CanTs X ifs σ H R
theorem ts_nil {Q : Bool → SD → Prop} (q : Q true S) : TsQ C X [] S Q := fun tmp σ H F s R r => ⟨fun pins s0 I => pts_nil.run pins s0 σ H R I (r true H F S s (Same.refl F) q)⟩
theorem ts_one {Q : Bool → SD → Prop} (h : EvQ C X c S fun d S1 => ∃ k, d = .bl k ∧ Q k S1) (he : ∀ whole, isTrue c X.env whole = (do let v ← whole; standAt c.pos; holding [v] (truthy v)) := by intro _; rfl) : TsQ C X [c] S Q := fun tmp σ H F s R r => ⟨fun pins s0 I =>
  (pts_one (pt_val pe_can he)).run pins s0 σ H R I (h tmp σ H F s _ fun v H1 F1 d S1 s1 e1 r1 ⟨k, hd, q⟩ => by
    subst hd; cases r1
    exact ⟨k, rfl, r k H1 F1 S1 s1 e1 q⟩)⟩

/-! the list that a comprehension fills -/
theorem Stt.pushTmp (s : Stt C S tmp σ H F) {p : Addr} (h : H p = none) : Stt C S ((p, []) :: tmp) σ (upd H p (.lst [])) F := by
  have s1 := s.grew (H' := upd H p (.lst [])) fun b u e => by rw [upd_ne (ne_of_none e h)]; exact e
  obtain ⟨n1, n2⟩ := s.noOwn h
  refine ⟨s1.b0, s1.base, s1.grow, s1.val, s1.own, s1.dis, fun a xs hm => ?_, fun i ys a xs hm hS => ?_, ?_⟩
  · rcases List.mem_cons.mp hm with z | z
    · cases z
      exact ⟨[], s.freshF h, s.fresh0 h, upd_same, .nil⟩
    · exact s1.tm a xs z
  · rcases List.mem_cons.mp hm with z | z
    · cases z
      exact n1 i ys hS
    · exact s1.tdis i ys a xs z hS
  · rw [List.map_cons]
    exact List.nodup_cons.mpr ⟨n2, s1.tnd⟩
theorem Stt.appTmp {p : Addr} {acc : List D} {y : V} {d : D} (s : Stt C S ((p, acc) :: tmp) σ H F) (r : Rep C.K C.st F y d) : ∃ us, H p = some (HO.lst us) ∧ us.length = acc.length ∧ Stt C S ((p, acc ++ [d]) :: tmp) σ (upd H p (.lst (us ++ [y]))) F := by
  obtain ⟨us, h1, h2, h3, h4⟩ := s.tm p acc List.mem_cons_self
  refine ⟨us, h3, h4.length, ?_⟩
  have nF : ∀ b o, F b = some o → b ≠ p := fun b o e z => by rw [z, h1] at e; cases e
  have nm : p ∉ tmp.map (·.1) := (List.nodup_cons.mp s.tnd).1
  refine ⟨s.b0, ⟨fun b o e => ?_, s.base.kind, fun P hP => ?_, fun g => ?_⟩, ⟨s.grow.ff, fun b o e n1 n2 => ?_, s.grow.nn, fun b e => ?_, fun g q c k e => by
    obtain ⟨c1, k1, e1⟩ := s.grow.cs g q c k e
    exact ⟨c1, k1, by rw [upd_ne (Ne.symm (s.nst h2 g))]; exact e1⟩⟩, s.val, fun j zs h => ?_, s.dis, fun b zs h => ?_, fun j ys b zs h hS => ?_, s.tnd⟩
  · rw [upd_ne (nF b o e)]
    exact s.base.sub b o e
  · obtain ⟨ps, q1, q2⟩ := s.base.tab P hP
    exact ⟨ps, by rw [upd_ne (ne_of q1 h3 (fun z => by cases z))]; exact q1, q2⟩
  · obtain ⟨q1, cs, c, k, ns, q2, q3⟩ := s.base.rng g
    exact ⟨q1, cs, c, k, ns, by rw [upd_ne (Ne.symm (s.nst h2 g))]; exact q2, q3⟩
  · rw [upd_ne (fun z => by rw [z, h2] at e; cases e)]
    exact s.grow.hh b o e n1 n2
  · by_cases z : b = p
    · rw [z, upd_same]
      exact fun z => by cases z
    · rw [upd_ne z]
      exact s.grow.al b e
  · obtain ⟨b, ws, g1, g2, g3, g4, g5⟩ := s.own j zs h
    refine ⟨b, ws, g1, g2, g3, ?_, g5⟩
    rw [upd_ne (fun z => s.tdis j zs p acc List.mem_cons_self h (by rw [← z]; exact g1))]
    exact g4
  · rcases List.mem_cons.mp h with z | z
    · cases z
      exact ⟨us ++ [y], h1, h2, upd_same, h4.snoc r⟩
    · obtain ⟨ws, g2, g3, g4, g5⟩ := s.tm b zs (List.mem_cons_of_mem _ z)
      refine ⟨ws, g2, g3, ?_, g5⟩
      rw [upd_ne (fun e => nm (by rw [← e]; exact List.mem_map.mpr ⟨_, z, rfl⟩))]
      exact g4
  · rcases List.mem_cons.mp h with z | z
    · cases z
      exact s.tdis j ys p acc List.mem_cons_self hS
    · exact s.tdis j ys b zs (List.mem_cons_of_mem _ z) hS
theorem Stt.popTmp {p : Addr} {acc : List D} (s : Stt C S ((p, acc) :: tmp) σ H F) : Stt C S tmp σ H F ∧ ∃ us, F p = none ∧ C.H0 p = none ∧ H p = some (HO.lst us) ∧ Reps C.K C.st F us acc ∧ (∀ (i : Nat) (ys : List D), S[i]? = some (Slot.own ys) → σ[i]? ≠ some (some (V.ref p))) ∧ p ∉ tmp.map (·.1) := by
  obtain ⟨us, h1, h2, h3, h4⟩ := s.tm p acc List.mem_cons_self
  exact ⟨⟨s.b0, s.base, s.grow, s.val, s.own, s.dis, fun a xs h => s.tm a xs (List.mem_cons_of_mem _ h), fun i ys a xs h => s.tdis i ys a xs (List.mem_cons_of_mem _ h), (List.nodup_cons.mp s.tnd).2⟩,
    us, h1, h2, h3, h4, fun i ys hS => s.tdis i ys p acc List.mem_cons_self hS, (List.nodup_cons.mp s.tnd).1⟩

/-! ### comprehensions -/
abbrev ForB (X : Cx) (scope : Scope) (P : Cx → Prop) : Prop := ∀ (s : Shared) (H : Hp) (Ca : Addr) (cl : List (Str × Addr)) (fp : List Addr), P (X.blk s H scope (compEnvC scope cl Ca X.env) fp)
/-- a turn of a comprehension: x is the item -/
def TurnQ (C : Cfg) (All : (Cx → Prop) → Prop) (vs : List Nat) (tg : Expr) (ifs : List Expr) (elt : Expr) (x : D) (S : SD) (Kp : D → SD → Prop) (Sk : SD → Prop) : Prop :=
  All fun X1 => AsW C X1 vs tg x S fun S2 => All fun X2 => TsQ C X2 ifs S2 fun k S3 => (k = true → All fun X3 => EvQ C X3 elt S3 fun y S4 => Kp y (wipeS S4 vs)) ∧ (k = false → Sk (wipeS S3 vs))
theorem wipeS_wipeS {S : SD} {vs : List Nat} : wipeS (wipeS S vs) vs = wipeS S vs := by
  have setset : ∀ {l : SD} {i j : Nat}, (l.set i Slot.none).set j Slot.none = (l.set j Slot.none).set i Slot.none := fun {l i j} => by
    by_cases h : i = j
    · subst h; rfl
    · exact List.set_comm _ _ h
  have push : ∀ {vs : List Nat} {l : SD} {i : Nat}, wipeS (l.set i Slot.none) vs = (wipeS l vs).set i Slot.none := fun {vs} => by
    induction vs with
    | nil => intro l i; rfl
    | cons v vs ih =>
      intro l i
      show (wipeS (l.set i Slot.none) vs).set v Slot.none = ((wipeS l vs).set v Slot.none).set i Slot.none
      rw [ih, setset]
  induction vs with
  | nil => rfl
  | cons v vs ih =>
    show (wipeS ((wipeS S vs).set v Slot.none) vs).set v Slot.none = (wipeS S vs).set v Slot.none
    rw [push, ih, List.set_set]
/-- a comprehension, read -/
abbrev TLc (X : Cx) (elt tg iter : Expr) (ifs : List Expr) (scope : Scope) (vs : List Nat) : TE := tLc (CanI X tg iter) (fun v σ H R => ForB X scope fun X' => CanG X' tg v σ H R) (fun σ H R => ForB X scope fun X' => CanTs X' ifs σ H R) (fun σ H R => ForB X scope fun X' => CanE X' elt σ H R) vs
def LcQ (C : Cfg) (X : Cx) (elt tg iter : Expr) (ifs : List Expr) (scope : Scope) (vs : List Nat) (S : SD) (Q : List D → SD → Prop) : Prop := ∀ (tmp : Tmp) (σ : L2.St) (H F : Hp), Stt C S tmp σ H F → ∀ R : VK,
  (∀ p us H' F' xs S', Stt C S' tmp σ H' F' → Same F F' → F' p = none → C.H0 p = none → H' p = some (HO.lst us) → (∀ (i : Nat) (ys : List D), S'[i]? = some (Slot.own ys) → σ[i]? ≠ some (some (V.ref p))) → p ∉ tmp.map (·.1) → Reps C.K C.st F' us xs → Q xs S' → R (.ref p) H') → TLc X elt tg iter ifs scope vs σ H R
theorem el_of {elt : Expr} {ifs : List Expr} {scope : Scope} {own : List (Str × Nat)} {pos : Pos} (hN : X.N.Nodup) (ok : BlkOk X.N X.env.scope scope own) (h : LcQ C X elt tg iter ifs scope (own.map (·.2)) S QL)
    (hc : X.calm = true := by rfl) (hs : ∀ x, foldedSetIterable iter X.env x = pure x := by intro _; rfl) : EvL C X (.ListComp elt [⟨tg, iter, ifs, 0⟩] scope pos) S QL := fun tmp σ H F s R r =>
  of_pe (pe_lc (wi := CanI X tg iter) (g := fun v σ H R => ForB X scope fun X' => CanG X' tg v σ H R) (tt := fun σ H R => ForB X scope fun X' => CanTs X' ifs σ H R) (te := fun σ H R => ForB X scope fun X' => CanE X' elt σ H R) hc hN pi_can ok
    (fun s0 H0 Ca cl fp => ⟨fun pins s σ H v u Q I rv z => (z s0 H0 Ca cl fp).run pins s u I rv⟩) (fun s0 H0 Ca cl fp => ⟨fun pins s σ H Q I z => (z s0 H0 Ca cl fp).run pins s I⟩) (fun s0 H0 Ca cl fp => ⟨fun pins s σ H Q I z => (z s0 H0 Ca cl fp).run pins s I⟩) hs) (h tmp σ H F s R r)
/-- y = [..] -/
theorem ex_setLc {i : Nat} {y : Str} {py pos spos : Pos} {elt : Expr} {ifs : List Expr} {scope : Scope} {own : List (Str × Nat)} {E : DE} (hN : X.N.Nodup) (ok : BlkOk X.N X.env.scope scope own) (h : LcQ C X elt tg iter ifs scope (own.map (·.2)) S fun xs S1 => E.nx (S1.set i (Slot.own xs)))
    (hy : X.N[i]? = some y := by rfl) (hyl : X.env.scope.names.lookup y = some .local := by rfl) (hsw : swapsWith (.ListComp elt [⟨tg, iter, ifs, 0⟩] scope pos) (some (.Name y py)) spos.line X.env = pure true := by rfl)
    (hc : X.calm = true := by rfl) (hs : ∀ x, foldedSetIterable iter X.env x = pure x := by intro _; rfl) : Ex C X (.Assign [.Name y py] (.ListComp elt [⟨tg, iter, ifs, 0⟩] scope pos) spos) S E := fun σ H F s D' k => ⟨fun pins s0 I => by
  have hl : i < σ.length := by rw [I.len]; exact (List.getElem?_eq_some_iff.mp hy).1
  exact (of_ps (ps_setLc (wi := CanI X tg iter) (g := fun v σ H R => ForB X scope fun X' => CanG X' tg v σ H R) (tt := fun σ H R => ForB X scope fun X' => CanTs X' ifs σ H R) (te := fun σ H R => ForB X scope fun X' => CanE X' elt σ H R) hc hN hy hyl hsw pi_can ok
    (fun s0 H0 Ca cl fp => ⟨fun pins s σ H v u Q I rv z => (z s0 H0 Ca cl fp).run pins s u I rv⟩) (fun s0 H0 Ca cl fp => ⟨fun pins s σ H Q I z => (z s0 H0 Ca cl fp).run pins s I⟩) (fun s0 H0 Ca cl fp => ⟨fun pins s σ H Q I z => (z s0 H0 Ca cl fp).run pins s I⟩) hs)
    (h [] σ H F s _ fun p us H1 F1 xs S1 s1 e1 h1 h2 h3 h4 h5 r1 q1 => k.nx _ _ H1 F1 (s1.setOwn hl h1 h2 h3 r1 (fun j ys _ => h4 j ys) h5) e1 q1)).run pins s0 I⟩
theorem lq_gen {elt : Expr} {ifs : List Expr} {scope : Scope} {own : List (Str × Nat)}
    (h : ItQ C X tg iter S fun xs S1 => ∃ Iv : Nat → List D → SD → Prop, Iv 0 [] (wipeS S1 (own.map (·.2))) ∧ (∀ i x acc S, xs[i]? = some x → Iv i acc (wipeS S (own.map (·.2))) → TurnQ C (ForB X scope) (own.map (·.2)) tg ifs elt x (wipeS S (own.map (·.2))) (fun y S' => acc.length ≤ 100000 ∧ Iv (i + 1) (acc ++ [y]) S') (fun S' => Iv (i + 1) acc S')) ∧
      (∀ acc S, Iv xs.length acc (wipeS S (own.map (·.2))) → QL acc (wipeS S (own.map (·.2))))) : LcQ C X elt tg iter ifs scope (own.map (·.2)) S QL := fun tmp σ H F s R r => by
  refine h tmp σ H F s _ fun J H1 F1 xs S1 s1 e1 sem ⟨Iv, h0, hstep, hend⟩ Dd hD => ?_
  refine ⟨fun i m H' => m = xs.length - i ∧ i ≤ xs.length ∧ ∃ acc S' F', Stt C (wipeS S' (own.map (·.2))) ((Dd, acc) :: tmp) σ H' F' ∧ Same F1 F' ∧ Iv i acc (wipeS S' (own.map (·.2))), ⟨xs.length, by omega, Nat.zero_le _, [], S1, F1, (s1.wiped rfl).pushTmp hD, Same.refl F1, h0⟩, ?_⟩
  rintro i m H' ⟨rfl, hi, acc, S', F', s', e', iv⟩
  by_cases hlt : i < xs.length
  · refine .inr ⟨((sem i _ _ σ H' F' s' e').1 xs[i] (List.getElem?_eq_getElem hlt)).1, fun H2 => ∃ acc S2 F2, Stt C (wipeS S2 (own.map (·.2))) ((Dd, acc) :: tmp) σ H2 F2 ∧ Same F1 F2 ∧ Iv (i + 1) acc (wipeS S2 (own.map (·.2))), fun H2 ⟨acc, S2, F2, s2, e2, iv2⟩ => ⟨xs.length - (i + 1), by omega, rfl, hlt, acc, S2, F2, s2, e2, iv2⟩, fun v H2 hy => ?_⟩
    obtain ⟨F2, s2, e2, r2⟩ := ((sem i _ _ σ H' F' s' e').1 xs[i] (List.getElem?_eq_getElem hlt)).2 v H2 hy
    have ef : Same F1 F2 := Same.trans e' e2
    have turn := hstep i xs[i] acc S' (List.getElem?_eq_getElem hlt) iv
    intro a1 a2 a3 a4 a5
    refine turn a1 a2 a3 a4 a5 _ _ H2 F2 v s2.wipeIn r2 _ fun σ3 H3 F3 S3 s3 e3 w3 q3 => ?_
    rw [wipe_wipe] at w3
    refine ⟨w3, fun b1 b2 b3 b4 b5 => q3 b1 b2 b3 b4 b5 _ σ3 H3 F3 s3 _ fun k H4 F4 S4 s4 e4 ⟨q4, q5⟩ => ?_⟩
    have e14 : Same F1 F4 := Same.trans ef (Same.trans e3 e4)
    cases k with
    | false =>
      rw [if_neg Bool.false_ne_true]
      exact ⟨acc, S4, F4, s4.wiped w3, e14, q5 rfl⟩
    | true =>
      rw [if_pos rfl]
      intro c1 c2 c3 c4 c5
      refine q4 rfl c1 c2 c3 c4 c5 _ σ3 H4 F4 s4 _ fun y H5 F5 d S5 s5 e5 r5 ⟨hl, q6⟩ => ?_
      obtain ⟨us, g1, g2, g3⟩ := (s5.wiped w3).appTmp r5
      exact ⟨us, g1, by rw [g2]; exact Nat.lt_of_le_of_lt hl (by decide), acc ++ [d], S5, _, g3, Same.trans e14 e5, q6⟩
  · have hi' : i = xs.length := by omega
    subst hi'
    obtain ⟨s6, us, g1, g2, g3, g4, g5, g6⟩ := s'.popTmp
    exact .inl ⟨(sem _ _ _ σ H' F' s' e').2 (Nat.le_refl _), r Dd us H' F' acc _ s6 (Same.trans e1 e') g1 g2 g3 g5 g6 g4 (hend acc S' iv)⟩

/-! ### generator expressions -/
abbrev ForQ (X : Cx) (scope : Scope) (k : Nat) (P : Cx → Prop) : Prop := Gx.ForG X scope k P
theorem tabbed_stt {P : Addr} {H2 : Hp} (s : Stt C S tmp σ H F) (hP : P ∈ C.T) (h : Tabbed P H H2) : Stt C S tmp σ H2 F := by
  obtain ⟨⟨ps, h1, h2⟩, h3⟩ := h
  obtain ⟨ps0, g1, g2⟩ := s.base.tab P hP
  have ne : ∀ b o, H b = some o → (∀ ps, o ≠ .tbl ps) → H2 b = some o := fun b o e n => by
    rw [h3 b (fun z => by rw [z, g1] at e; cases e; exact n _ rfl)]
    exact e
  have nz : ∀ o, fzn o = true → ∀ ps, o ≠ .tbl ps := fun o ho ps z => by rw [z] at ho; cases ho
  have hb : Base C.K C.T C.st C.g H2 F := ⟨fun b o e => ne b o (s.base.sub b o e) (nz o (s.base.kind b o e)), s.base.kind, fun P' hP' => by
      by_cases e : P' = P
      · rw [e]; exact ⟨ps, h1, h2⟩
      · obtain ⟨ps', q1, q2⟩ := s.base.tab P' hP'
        exact ⟨ps', by rw [h3 P' e]; exact q1, q2⟩,
    fun g => by
      obtain ⟨q1, cs, c, k, ns, q2, q3⟩ := s.base.rng g
      exact ⟨q1, cs, c, k, ns, ne _ _ q2 (fun ps z => by cases z), q3⟩⟩
  exact s.called hb ⟨Same.refl F, fun b o e n _ => ne b o e n, fun _ e _ => e, fun b e => by
    by_cases z : b = P
    · rw [z, h1]; exact (fun z => by cases z)
    · rw [h3 b z]; exact e, fun g q c k e => ⟨c, k, ne _ _ e (fun ps z => by cases z)⟩⟩
/-- all(test for target in iter) -/
theorem ev_allG {elt : Expr} {ifs : List Expr} {scope : Scope} {gpos p pos : Pos} {own : List (Str × Nat)} {cc P : Addr} {k : Nat} (hr : Room (k + 4) X.A) (hm : X.mg "all" = none) (TB : TabB X.base X.mg cc P) (hP : P ∈ C.T) (hcode : X.env.code = .ref cc) (hN : X.N.Nodup)
    (ok : BlkOk X.N X.env.scope scope own) (hnc : ∀ y ∈ scope.names, y.2 ≠ .cell) (hdot : scope.names.lookup (".0" : Str) = some NameKind.local)
    (h : ItQ C X tg iter S fun xs S1 => ∃ Iv : Nat → SD → Prop, Iv 0 (wipeS S1 (own.map (·.2))) ∧ (∀ i x S, xs[i]? = some x → Iv i (wipeS S (own.map (·.2))) → TurnQ C (ForQ X scope k) (own.map (·.2)) tg ifs elt x (wipeS S (own.map (·.2))) (fun y S' => ∃ t, y = .bl t ∧ if t = true then Iv (i + 1) S' else Q (.bl false) S') (fun S' => Iv (i + 1) S')) ∧
      (∀ S, Iv xs.length (wipeS S (own.map (·.2))) → Q (.bl true) (wipeS S (own.map (·.2)))))
    (hg : Gl X "all" := by rfl) (hco : scope.isCoroutine = false := by rfl) (hs : ∀ v, genFold iter X.env v = pure v := by intro _; rfl)
    (he : starEach [.GeneratorExp elt [⟨tg, iter, ifs, 0⟩] scope gpos] X.env = (false, eval (.GeneratorExp elt [⟨tg, iter, ifs, 0⟩] scope gpos) X.env) :: starEach [] X.env := by rfl) : EvQ C X (.Call (.Name "all" p) [.GeneratorExp elt [⟨tg, iter, ifs, 0⟩] scope gpos] [] pos) S Q := fun tmp σ H F s R r => by
  refine of_pe (Gx.pe_allG (wi := CanI X tg iter) (g := fun v σ H R => ForQ X scope k fun X' => CanG X' tg v σ H R) (tt := fun σ H R => ForQ X scope k fun X' => CanTs X' ifs σ H R) (te := fun σ H R => ForQ X scope k fun X' => CanE X' elt σ H R) hr hg hm TB hcode hN pi_can ok hnc hdot hco
    (fun s0 H0 Ca cd A fp pn hk => ⟨fun pins s σ H v u Q I rv z => (z s0 H0 Ca cd A fp pn hk).run pins s u I rv⟩) (fun s0 H0 Ca cd A fp pn hk => ⟨fun pins s σ H Q I z => (z s0 H0 Ca cd A fp pn hk).run pins s I⟩) (fun s0 H0 Ca cd A fp pn hk => ⟨fun pins s σ H Q I z => (z s0 H0 Ca cd A fp pn hk).run pins s I⟩) hs he) ?_
  refine h tmp σ H F s _ fun J H1 F1 xs S1 s1 e1 sem ⟨Iv, h0, hstep, hend⟩ => ⟨s1.base.tab P hP, fun H2 hT => ?_⟩
  have s2 := tabbed_stt s1 hP hT
  refine ⟨fun i m H' => m = xs.length - i ∧ i ≤ xs.length ∧ ∃ S' F', Stt C (wipeS S' (own.map (·.2))) tmp σ H' F' ∧ Same F1 F' ∧ Iv i (wipeS S' (own.map (·.2))), ⟨xs.length, by omega, Nat.zero_le _, S1, F1, s2.wiped rfl, Same.refl F1, h0⟩, ?_⟩
  rintro i m H' ⟨rfl, hi, S', F', s', e', iv⟩
  by_cases hlt : i < xs.length
  · refine .inr ⟨((sem i _ _ σ H' F' s' e').1 xs[i] (List.getElem?_eq_getElem hlt)).1, fun H2 => ∃ S2 F2, Stt C (wipeS S2 (own.map (·.2))) tmp σ H2 F2 ∧ Same F1 F2 ∧ Iv (i + 1) (wipeS S2 (own.map (·.2))), fun H2 ⟨S2, F2, s2, e2, iv2⟩ => ⟨xs.length - (i + 1), by omega, rfl, hlt, S2, F2, s2, e2, iv2⟩, fun v H2 hy => ?_⟩
    obtain ⟨F2, s2, e2, r2⟩ := ((sem i _ _ σ H' F' s' e').1 xs[i] (List.getElem?_eq_getElem hlt)).2 v H2 hy
    have ef : Same F1 F2 := Same.trans e' e2
    have turn := hstep i xs[i] S' (List.getElem?_eq_getElem hlt) iv
    intro a1 a2 a3 a4 a5 a6 a7 a8
    refine turn a1 a2 a3 a4 a5 a6 a7 a8 _ _ H2 F2 v s2.wipeIn r2 _ fun σ3 H3 F3 S3 s3 e3 w3 q3 => ?_
    rw [wipe_wipe] at w3
    refine ⟨w3, fun b1 b2 b3 b4 b5 b6 b7 b8 => q3 b1 b2 b3 b4 b5 b6 b7 b8 _ σ3 H3 F3 s3 _ fun t H4 F4 S4 s4 e4 ⟨q4, q5⟩ => ?_⟩
    have e14 : Same F1 F4 := Same.trans ef (Same.trans e3 e4)
    cases t with
    | false =>
      rw [if_neg Bool.false_ne_true]
      exact ⟨S4, F4, s4.wiped w3, e14, q5 rfl⟩
    | true =>
      rw [if_pos rfl]
      intro c1 c2 c3 c4 c5 c6 c7 c8
      refine q4 rfl c1 c2 c3 c4 c5 c6 c7 c8 _ σ3 H4 F4 s4 _ fun y H5 F5 d S5 s5 e5 r5 ⟨u, hu, q6⟩ => ?_
      subst hu
      cases r5
      refine ⟨u, rfl, ?_⟩
      cases u with
      | true =>
        rw [if_pos rfl] at q6 ⊢
        exact ⟨S5, F5, s5.wiped w3, Same.trans e14 e5, q6⟩
      | false =>
        rw [if_neg Bool.false_ne_true] at q6 ⊢
        exact r _ H5 F5 (.bl false) _ (s5.wiped w3) (Same.trans e1 (Same.trans e14 e5)) (.bl false) q6
  · have hi' : i = xs.length := by omega
    subst hi'
    exact .inl ⟨(sem _ _ _ σ H' F' s' e').2 (Nat.le_refl _), r _ H' F' (.bl true) _ s' (Same.trans e1 e') (.bl true) (hend S' iv)⟩
/-- tuple(elt for target in iter if ..) -/
theorem ev_tupG {elt : Expr} {ifs : List Expr} {scope : Scope} {gpos p pos : Pos} {own : List (Str × Nat)} {cc P : Addr} {k : Nat} (hr : Room (k + 4) X.A) (hm : X.mg "tuple" = none) (TB : TabB X.base X.mg cc P) (hP : P ∈ C.T) (hcode : X.env.code = .ref cc) (hN : X.N.Nodup)
    (ok : BlkOk X.N X.env.scope scope own) (hnc : ∀ y ∈ scope.names, y.2 ≠ .cell) (hdot : scope.names.lookup (".0" : Str) = some NameKind.local)
    (h : ItQ C X tg iter S fun xs S1 => ∃ Iv : Nat → List D → SD → Prop, Iv 0 [] (wipeS S1 (own.map (·.2))) ∧ (∀ i x acc S, xs[i]? = some x → Iv i acc (wipeS S (own.map (·.2))) → TurnQ C (ForQ X scope k) (own.map (·.2)) tg ifs elt x (wipeS S (own.map (·.2))) (fun y S' => acc.length < 100000 ∧ Iv (i + 1) (acc ++ [y]) S') (fun S' => Iv (i + 1) acc S')) ∧
      (∀ acc S, Iv xs.length acc (wipeS S (own.map (·.2))) → acc.length ≤ 100000 ∧ Q (.tup acc) (wipeS S (own.map (·.2)))))
    (hg : Gl X "tuple" := by rfl) (hco : scope.isCoroutine = false := by rfl) (hs : ∀ v, genFold iter X.env v = pure v := by intro _; rfl)
    (he : starEach [.GeneratorExp elt [⟨tg, iter, ifs, 0⟩] scope gpos] X.env = (false, eval (.GeneratorExp elt [⟨tg, iter, ifs, 0⟩] scope gpos) X.env) :: starEach [] X.env := by rfl) : EvQ C X (.Call (.Name "tuple" p) [.GeneratorExp elt [⟨tg, iter, ifs, 0⟩] scope gpos] [] pos) S Q := fun tmp σ H F s R r => by
  refine of_pe (Gx.pe_tupG (wi := CanI X tg iter) (g := fun v σ H R => ForQ X scope k fun X' => CanG X' tg v σ H R) (tt := fun σ H R => ForQ X scope k fun X' => CanTs X' ifs σ H R) (te := fun σ H R => ForQ X scope k fun X' => CanE X' elt σ H R) hr hg hm TB hcode hN pi_can ok hnc hdot hco
    (fun s0 H0 Ca cd A fp pn hk => ⟨fun pins s σ H v u Q I rv z => (z s0 H0 Ca cd A fp pn hk).run pins s u I rv⟩) (fun s0 H0 Ca cd A fp pn hk => ⟨fun pins s σ H Q I z => (z s0 H0 Ca cd A fp pn hk).run pins s I⟩) (fun s0 H0 Ca cd A fp pn hk => ⟨fun pins s σ H Q I z => (z s0 H0 Ca cd A fp pn hk).run pins s I⟩) hs he) ?_
  refine h tmp σ H F s _ fun J H1 F1 xs S1 s1 e1 sem ⟨Iv, h0, hstep, hend⟩ => ⟨s1.base.tab P hP, fun H2 hT => ?_⟩
  have s2 := tabbed_stt s1 hP hT
  refine ⟨fun i m ys H' => m = xs.length - i ∧ i ≤ xs.length ∧ ∃ acc S' F', Stt C (wipeS S' (own.map (·.2))) tmp σ H' F' ∧ Same F1 F' ∧ Reps C.K C.st F' ys acc ∧ Iv i acc (wipeS S' (own.map (·.2))), ⟨xs.length, by omega, Nat.zero_le _, [], S1, F1, s2.wiped rfl, Same.refl F1, .nil, h0⟩, ?_⟩
  rintro i m ys H' ⟨rfl, hi, acc, S', F', s', e', rr, iv⟩
  by_cases hlt : i < xs.length
  · refine .inr ⟨((sem i _ _ σ H' F' s' e').1 xs[i] (List.getElem?_eq_getElem hlt)).1, fun ys H2 => ∃ acc S2 F2, Stt C (wipeS S2 (own.map (·.2))) tmp σ H2 F2 ∧ Same F1 F2 ∧ Reps C.K C.st F2 ys acc ∧ Iv (i + 1) acc (wipeS S2 (own.map (·.2))), fun ys H2 ⟨acc, S2, F2, s2, e2, rr2, iv2⟩ => ⟨xs.length - (i + 1), by omega, rfl, hlt, acc, S2, F2, s2, e2, rr2, iv2⟩, fun v H2 hy => ?_⟩
    obtain ⟨F2, s2, e2, r2⟩ := ((sem i _ _ σ H' F' s' e').1 xs[i] (List.getElem?_eq_getElem hlt)).2 v H2 hy
    have ef : Same F1 F2 := Same.trans e' e2
    have turn := hstep i xs[i] acc S' (List.getElem?_eq_getElem hlt) iv
    intro a1 a2 a3 a4 a5 a6 a7 a8
    refine turn a1 a2 a3 a4 a5 a6 a7 a8 _ _ H2 F2 v s2.wipeIn r2 _ fun σ3 H3 F3 S3 s3 e3 w3 q3 => ?_
    rw [wipe_wipe] at w3
    refine ⟨w3, fun b1 b2 b3 b4 b5 b6 b7 b8 => q3 b1 b2 b3 b4 b5 b6 b7 b8 _ σ3 H3 F3 s3 _ fun t H4 F4 S4 s4 e4 ⟨q4, q5⟩ => ?_⟩
    have e24 : Same F' F4 := Same.trans e2 (Same.trans e3 e4)
    have e14 : Same F1 F4 := Same.trans ef (Same.trans e3 e4)
    cases t with
    | false =>
      rw [if_neg Bool.false_ne_true]
      exact ⟨acc, S4, F4, s4.wiped w3, e14, rr.mono e24, q5 rfl⟩
    | true =>
      rw [if_pos rfl]
      intro c1 c2 c3 c4 c5 c6 c7 c8
      refine q4 rfl c1 c2 c3 c4 c5 c6 c7 c8 _ σ3 H4 F4 s4 _ fun y H5 F5 d S5 s5 e5 r5 ⟨hl, q6⟩ => ?_
      have rr5 := rr.mono (Same.trans e24 e5)
      exact ⟨by rw [rr5.length]; exact Nat.lt_of_lt_of_le hl (by decide), acc ++ [d], S5, F5, s5.wiped w3, Same.trans e14 e5, rr5.snoc r5, q6⟩
  · have hi' : i = xs.length := by omega
    subst hi'
    obtain ⟨hl, q⟩ := hend acc S' iv
    refine .inl ⟨(sem _ _ _ σ H' F' s' e').2 (Nat.le_refl _), by rw [rr.length]; exact sz_of hl, fun p o hp ho => ?_⟩
    obtain ⟨s3, e3, r3⟩ := s'.newT hp ho rr
    exact r _ _ _ (.tup acc) _ s3 (Same.trans e1 (Same.trans e' e3)) r3 q
end
end Dm

namespace Dm
open PySem PySem.Spec PyProof.Rows L2
open GxR (TabB TabG Tabbed)

/-! ### defs, bundled -/
/-- the def x keeps the promise m, at the level k -/
def Def (P : Program) (w : World) (K : PySem.W.Frag) (mg : Str → Option Value) (base : Heap) (T : List Addr) (k : Nat) (x : Str) (ps : List Str) (m : MD) : Prop :=
  ∃ (f : Addr) (fd : FuncData), FnOk P w K mg base CX0 k f fd ps (spD K T m) ∧ mg x = some (.ref f) ∧ PySem.W.keepIn K (.ref f) = true ∧ Binds K fd ps []
/-- the text of the def x -/
def DefT (K : PySem.W.Frag) (mg : Str → Option Value) (base : Heap) (T : List Addr) (x : Str) (st : Stmt) (ps : List Str) : Prop :=
  ∃ (c P f : Addr) (fd : FuncData), FunC K x x st c f fd ∧ mg x = some (.ref f) ∧ Binds K fd ps [] ∧ TabB base mg c P ∧ P ∈ T
section
variable {P : Program} {w : World} {K : PySem.W.Frag} {mg : Str → Option Value} {base : Heap} {T : List Addr}
theorem def_of {x : Str} {st : Stmt} {N ps : List Str} {k : Nat} {m : MD} (Dt : DefT K mg base T x st ps) (Sc : FnScope N ps (defScope st)) (len : ∀ ds R, m ds R → ds.length = ps.length)
    (hbody : ∀ (c Pt f : Addr), TabB base mg c Pt → Pt ∈ T → ∀ (A : Around) (outer : List Env) (s : Shared) (H : Hp) (E : XK), Room k (A.deeper (envOfC x (defScope st) s.heap.objs.size f (.ref c))) → ∀ (sa : Addr) (H0 F0 : Hp) (ds : List D) (R : D → Prop), m ds R →
      Exs ⟨K, T, sa, true, H0, F0⟩ (BX P w K mg base N x (defScope st) f c A outer s H E) (defBody st) (ds.map Slot.val ++ List.replicate (N.length - ds.length) Slot.none) { nx := fun _ => R .non, rt := R }) : Def P w K mg base T (k + 1) x ps m := by
  obtain ⟨c, Pt, f, fd, F, hm, hb, TB, hP⟩ := Dt
  exact ⟨f, fd, F.ok Sc len (hbody c Pt f TB hP), hm, F.kp, hb⟩
theorem ev_callD {C : Cfg} {X : Cx} {S : SD} {e : Expr} {es : List Expr} {Q : D → SD → Prop} {k : Nat} {ps : List Str} {m : MD} {x : Str} {p pos : Pos} (G : Def X.prog X.w X.K X.mg X.base C.T k x ps m) (hr : Room k X.A)
    (h : EvA C X (e :: es) S fun ds S1 => m ds fun d => Q d S1) (hK : C.K = X.K := by rfl) (hgt : C.g = true := by rfl) (hg : Gl X x := by rfl) (hdb : (x == ("__debug__" : Str)) = false := by decide) (he : starEach (e :: es) X.env = (false, eval e X.env) :: starEach es X.env := by rfl) (hpl : (backTo pos (starEach es X.env)).any (·.1) = false := by rfl) :
    EvQ C X (.Call (.Name x p) (e :: es) [] pos) S Q := by
  obtain ⟨f, fd, F, hm, hk, hb⟩ := G
  have F' : FnOk X.prog X.w X.K X.mg X.base CX0 k f fd ps (spD C.K C.T m) := by
    rw [hK]
    exact F
  exact ev_call F' hr hm hk hb h hgt hg hdb he hpl
end

/-! ### the script, the stream -/
/-- list(script) with its two counters -/
def spStream (K : PySem.W.Frag) (T : List Addr) : Sp := fun vs H Q _ => ∃ (a : Addr) (ns : List Int), vs = [.ref a] ∧ SqL K H a (ns.map V.int) ∧
  ∀ (H' : Hp) (p q : Addr), Same H H' → H' p = some (.lst [.ref q, .int 0, .int 0]) → H' q = some (.lst (ns.map V.int)) → p ≠ q → Q (.ref p) H'
def spLaw (K : PySem.W.Frag) (T : List Addr) : Sp := fun vs H Q _ => ∃ (a : Addr) (ns : List Int), vs = [.ref a] ∧ SqL K H a (ns.map V.int) ∧ (∀ P ∈ T, TabG H P) ∧ ∀ H', Q (.bl true) H'
section
variable {P : Program} {w : World} {K : PySem.W.Frag} {mg : Str → Option Value} {base : Heap} {T : List Addr}
/-- the law: its first row makes the stream, the others are over data -/
theorem law_of {fL c : Addr} {fd : FuncData} {sL st1 : Stmt} {N : List Str} {k j : Nat} {rest : List Stmt} (F : FunC K "law" "law" sL c fL fd) (Sc : FnScope N ["script"] (defScope sL)) (hst : defBody sL = st1 :: rest) (hj : j < N.length) (hN : 0 < N.length)
    (hbody : ∀ (A : Around) (outer : List Env) (s : Shared) (H : Hp) (E : XK), Room k (A.deeper (envOfC "law" (defScope sL) s.heap.objs.size fL (.ref c))) →
      PS (BX P w K mg base N "law" (defScope sL) fL c A outer s H E) st1 (tAsg (tCall (spStream K T) [] E0 (tCons (tVar 0) tNil)) (gName j)) ∧ ∀ (sa : Addr) (H0 F0 : Hp),
      Exs ⟨K, T, sa, true, H0, F0⟩ (BX P w K mg base N "law" (defScope sL) fL c A outer s H E) rest ((List.replicate N.length Slot.none).set j (Slot.val .strm)) { nx := fun _ => False, rt := fun d => d = .bl true }) : FnOk P w K mg base CX0 (k + 1) fL fd ["script"] (spLaw K T) := by
  obtain ⟨oc, od, kV, doc, pm, an, ct, osl, rfl, lk, hcd⟩ := F.ex
  refine fn_of lk hcd Sc (fun vs H Q E h => ?_) fun A outer s H vs Q E hr h => ?_
  · obtain ⟨a, ns, rfl, _⟩ := h
    rfl
  · obtain ⟨a, ns, rfl, hS, hT, q⟩ := h
    obtain ⟨h1, h2⟩ := hbody A outer s H E hr
    rw [hst]
    refine ⟨_, (pss_cons h1 pss_can).nox, ?_⟩
    refine ⟨.ref a, rfl, a, ns, rfl, hS, fun H' p qq sm e1 e2 hpq => ?_⟩
    have hl : (L2.start N [V.ref a]).length = N.length := by
      unfold L2.start
      rw [List.length_append, List.length_map, List.length_replicate, List.length_singleton]
      omega
    have nT : ∀ b xs, H' b = some (HO.lst xs) → ∀ ps, H' b ≠ some (.tbl ps) := fun b xs e ps z => by rw [e] at z; cases z
    have b0 : Base K T p true H' (fun b => if b = qq then some (HO.lst (ns.map V.int)) else none) := by
      refine ⟨fun b o e => ?_, fun b o e => ?_, fun P hP => ?_, fun _ => ⟨if_neg hpq, qq, 0, 0, ns, e1, if_pos rfl, Int.le_refl _, Int.le_refl _⟩⟩
      · by_cases hb : b = qq
        · have z := (if_pos hb).symm.trans e
          cases z
          rw [hb]
          exact e2
        · have z := (if_neg hb).symm.trans e
          cases z
      · by_cases hb : b = qq
        · have z := (if_pos hb).symm.trans e
          cases z
          rfl
        · have z := (if_neg hb).symm.trans e
          cases z
      · obtain ⟨ps, g1, g2⟩ := hT P hP
        exact ⟨ps, sm _ _ g1, g2⟩
    have none_get : ∀ {i : Nat} {q : Slot}, ((List.replicate N.length Slot.none).set j (Slot.val .strm))[i]? = some q → q = Slot.none ∨ (q = Slot.val .strm ∧ i = j) := fun {i q} e => by
      rcases getset e with ⟨rfl, z⟩ | ⟨_, z⟩
      · exact .inr ⟨z, rfl⟩
      · rw [List.getElem?_replicate] at z
        split at z <;> cases z
        exact .inl rfl
    refine h2 p H' (fun b => if b = qq then some (HO.lst (ns.map V.int)) else none) _ H' _ ⟨b0, b0, Grow.refl, fun i d e => ?_, fun i xs e => ?_, fun i k' xs ys a e => ?_, fun a xs e => by simp at e, fun i ys a xs e => by simp at e, by simp⟩ _ ⟨fun _ _ _ _ _ _ z => z.elim, fun v H2 F2 d _ _ r z => ?_, fun _ _ _ _ _ _ z => z.elim, fun _ _ _ _ _ _ z => z.elim⟩
    · rcases none_get e with z | ⟨z, rfl⟩
      · cases z
      · cases z
        exact ⟨.ref p, List.getElem?_set_self (by rw [hl]; exact hj), .strm⟩
    · rcases none_get e with z | ⟨z, _⟩ <;> cases z
    · rcases none_get e with z | ⟨z, _⟩ <;> cases z
    · have z : d = .bl true := z
      subst z
      cases r
      exact q _
end

/-! ### what the head tells of a def's code object -/
def TabFact (K : PySem.W.Frag) (mg : Str → Option Value) (h : Heap) (x : Str) : Prop := ∀ (f c P : Addr) (oc : Value) (od : Option Addr) (fd : FuncData) (sl : Array (Option Value)) (e : Value) (dd : Option Addr) (vs : Array Value) (sl' : Array (Option Value)),
  mg x = some (.ref f) → K.lookup f = some ⟨oc, od, .func fd, sl⟩ → fd.code = .ref c → K.lookup c = some ⟨e, dd, .fields vs, sl'⟩ → vs[11]? = some (.ref P) → PySem.W.CodeHd h c P ∧ h.get? P = some { cls := .none, data := .fields #[] }
theorem walk_ofD {l : PySem.W.OpenLaw} {n k : Nat} {q : Program} {loose : List Str} {XP : (Str → Option Value) → Heap → Prop} {YP : World → Heap → Prop} {d : DefRec} {K : Params → PySem.W.Frag} {x : Str} (names : List Str)
    (hn : l.most = some n) (hn2 : n ≤ sizeLine) (hdf : d.params.defaults = []) (hr : Room k callerA) (hrec : (names.all fun x => (recsOf q).any fun e => e.name == x) = true) (hY : ∀ (w : World) (h : Heap), YP w h → (K w.params).In h)
    (F : ∀ (w : World) (mg : Str → Option Value) (fa : Addr) (h : Heap), (K w.params).In h → h.Ns mainGlobals mg → mg d.name = some (.ref fa) → (∀ x ∈ names, TabFact (K w.params) mg h x) → LamX.LawAtS l w (K w.params) CX0 k n x mg fa h) :
    PySem.W.WalkO q loose XP YP l.row.toRowW d [] (fun f vs => PySem.call f vs) := by
  refine Att.attach_callB hn hdf fun w s₀ s₁ mg mb fa o pm cd doc a vs ns G Y ho hd hcd hmg hobj hints hlen hbits hg => ?_
  have KX := hY w _ Y
  have own : ∀ x ∈ names, TabFact (K w.params) mg s₁.heap x := fun x hx f c P oc od fd sl e dd vs sl' hmx k1 k3 k4 k5 => by
    obtain ⟨dL, hm, hn1⟩ := List.any_eq_true.mp (List.all_eq_true.mp hrec x hx)
    have hn2 : dL.name = x := beq_iff_eq.mp hn1
    obtain ⟨a', o', fd', c', P', h1, h2, h3, h4, h5, h6⟩ := G.T.tab dL hm
    rw [hn2, hmx] at h1
    cases h1
    have g1 := KX _ _ k1
    rw [g1] at h2
    cases h2
    cases h3
    rw [k3] at h4
    cases h4
    have hd5 := PySem.W.CodeHd.of h5 h6
    obtain ⟨⟨oc, vc, e1, _, e3, e4⟩, hP⟩ := h6
    have g2 := KX _ _ k4
    rw [g2] at e1
    cases e1
    cases e3
    rw [k5] at e4
    cases e4
    exact ⟨hd5, hP⟩
  obtain ⟨fd, cs, sp, hT, nT, C, hb, hsp, hF⟩ := F w mg fa _ KX G.T.g hmg own
  exact LamX.law_callTs KX G.T.g G.T.b G.T.builtins G.T.nolimit hg hT nT C G.T.bmain hobj hints (Nat.le_trans hlen hn2) hr hF hb (fun H hH hS => hsp H a ns hlen hbits hH hS) fun H e s' z => z
end Dm

namespace Dm
open PySem PySem.Spec PyProof.Rows L2
open GxR (TabB TabG Tabbed)
section
variable {C : Cfg} {X : Cx} {S : SD} {e a b c : Expr} {es : List Expr} {Q : D → SD → Prop}
theorem ev_gI {x : Str} {i : Int} {pos : Pos} (h : ∃ t, X.mg x = some (.int i t)) (q : Q (.int i) S) (hg : Gl X x := by rfl) (hd : (x == ("__debug__" : Str)) = false := by decide) : EvQ C X (.Name x pos) S Q := by
  obtain ⟨t, h⟩ := h
  exact ev_globI h ⟨t, rfl⟩ q hg hd
theorem ev_gS {x : Str} {i : Str} {pos : Pos} (h : ∃ t, X.mg x = some (.str i t)) (q : Q (.str i) S) (hg : Gl X x := by rfl) (hd : (x == ("__debug__" : Str)) = false := by decide) : EvQ C X (.Name x pos) S Q := by
  obtain ⟨t, h⟩ := h
  exact ev_globS h ⟨t, rfl⟩ q hg hd
end
-- plain all through, of modest size
mutual
def good : D → Bool
  | .strm => false
  | .wt _ => false
  | .str z => decide (z.length ≤ 1000)
  | .tup xs => decide (xs.length ≤ 1000) && goods xs
  | .lst xs => decide (xs.length ≤ 1000) && goods xs
  | _ => true
def goods : List D → Bool
  | [] => true
  | x :: xs => good x && goods xs
end
theorem good_plain {d : D} (h : good d = true) : plain d = true := by
  cases d <;> first | rfl | (simp [good] at h)
theorem goods_iff {xs : List D} : goods xs = true ↔ ∀ x ∈ xs, good x = true := by
  induction xs with
  | nil => simp [goods]
  | cons x xs ih => simp [goods, ih]
theorem goods_get {xs : List D} {i : Nat} {x : D} (h : goods xs = true) (e : xs[i]? = some x) : good x = true := goods_iff.mp h x (List.mem_of_getElem? e)
theorem good_tup {xs : List D} : good (.tup xs) = true ↔ xs.length ≤ 1000 ∧ goods xs = true := by simp [good]
theorem good_lst {xs : List D} : good (.lst xs) = true ↔ xs.length ≤ 1000 ∧ goods xs = true := by simp [good]
theorem good_str {z : Str} : good (.str z) = true ↔ z.length ≤ 1000 := by simp [good]
/-! ### tests -/
def EvC (C : Cfg) (X : Cx) (e : Expr) (S : SD) (Q : Bool → SD → Prop) : Prop := ∀ (tmp : Tmp) (σ : L2.St) (H F : Hp), Stt C S tmp σ H F → ∀ R : Bool → Hp → Prop,
  (∀ k H' F' S', Stt C S' tmp σ H' F' → Same F F' → Q k S' → R k H') → CanT X e σ H R
structure CanW (X : Cx) (e : Expr) (σ : L2.St) (H : Hp) (R : Bool → Hp → Prop) : Prop where
  run : ∀ (wh : Sem Value) (pins : List (Addr × Obj)) (s : Shared), Inv X pins σ H s → wpAny (model X.prog X.w) X.A (isTrue e X.env wh) (TP X pins σ R) X.xe s
def EvW (C : Cfg) (X : Cx) (e : Expr) (S : SD) (Q : Bool → SD → Prop) : Prop := ∀ (tmp : Tmp) (σ : L2.St) (H F : Hp), Stt C S tmp σ H F → ∀ R : Bool → Hp → Prop,
  (∀ k H' F' S', Stt C S' tmp σ H' F' → Same F F' → Q k S' → R k H') → CanW X e σ H R
theorem pw_can {X : Cx} {e : Expr} : PW X e (CanW X e) := ⟨fun wh pins s _ _ _ I h => h.run wh pins s I⟩
theorem of_pw {X : Cx} {e : Expr} {t : TT} {σ : L2.St} {H : Hp} {R : Bool → Hp → Prop} (p : PW X e t) (q : t σ H R) : CanW X e σ H R := ⟨fun wh pins s I => p.run wh pins s σ H R I q⟩
section
variable {C : Cfg} {X : Cx} {S : SD} {e a b c : Expr} {es rest : List Expr} {Q : Bool → SD → Prop} {pos : Pos}
theorem ec_mono {Q' : Bool → SD → Prop} (h : EvC C X e S Q') (k : ∀ d S', Q' d S' → Q d S') : EvC C X e S Q := fun tmp σ H F s R r => h tmp σ H F s R fun v H' F' S' s' e q => r v H' F' S' s' e (k v S' q)
theorem ec_val (h : EvQ C X e S fun d S1 => ∃ k, d = .bl k ∧ Q k S1) (he : ∀ whole, isTrue e X.env whole = (do let v ← whole; standAt e.pos; holding [v] (truthy v)) := by intro _; rfl) : EvC C X e S Q := fun tmp σ H F s R r =>
  of_pt (pt_val pe_can he) (h tmp σ H F s _ fun v H1 F1 d S1 s1 e1 r1 ⟨k, hd, q⟩ => by
    subst hd; cases r1
    exact ⟨k, rfl, r k H1 F1 S1 s1 e1 q⟩)
theorem ec_tru (h : EvQ C X e S fun d S1 => ∃ k, truD d = some k ∧ Q k S1) (hK : C.K = X.K := by rfl) (he : ∀ whole, isTrue e X.env whole = (do let v ← whole; standAt e.pos; holding [v] (truthy v)) := by intro _; rfl) : EvC C X e S Q := fun tmp σ H F s R r =>
  of_pt (pt_truth pe_can he) (h tmp σ H F s _ fun v H1 F1 d S1 s1 e1 r1 ⟨k, hd, q⟩ => by
    exact ⟨k, by rw [← hK]; exact truD_ok s1 r1 hd, r k H1 F1 S1 s1 e1 q⟩)
theorem ec_not (h : EvC C X a S fun k S1 => Q (!k) S1) : EvC C X (.UnaryOp .Not a pos) S Q := fun tmp σ H F s R r =>
  of_pt (pt_not pt_can) (h tmp σ H F s _ fun k H1 F1 S1 s1 e1 q => r (!k) H1 F1 S1 s1 e1 q)
theorem ec_w (h : EvW C X e S Q) : EvC C X e S Q := fun tmp σ H F s R r => of_pt (PW.pt pw_can) (h tmp σ H F s R r)
theorem ew_and1 (h : EvC C X a S Q) : EvW C X (.BoolOp .And [a] pos) S Q := fun tmp σ H F s R r => of_pw (pw_and1 pt_can) (h tmp σ H F s R r)
theorem ew_or1 (h : EvC C X a S Q) : EvW C X (.BoolOp .Or [a] pos) S Q := fun tmp σ H F s R r => of_pw (pw_or1 pt_can) (h tmp σ H F s R r)
theorem ew_and (h : EvC C X a S fun k S1 => (k = true → EvW C X (.BoolOp .And (b :: rest) pos) S1 Q) ∧ (k = false → Q false S1)) : EvW C X (.BoolOp .And (a :: b :: rest) pos) S Q := fun tmp σ H F s R r =>
  of_pw (pw_and pt_can pw_can) (h tmp σ H F s _ fun k H1 F1 S1 s1 e1 ⟨q1, q2⟩ => by
    cases k with
    | true => rw [if_pos rfl]; exact q1 rfl tmp σ H1 F1 s1 R fun k H' F' S' s' e2 => r k H' F' S' s' (Same.trans e1 e2)
    | false => rw [if_neg Bool.false_ne_true]; exact r false H1 F1 S1 s1 e1 (q2 rfl))
theorem ew_or (h : EvC C X a S fun k S1 => (k = false → EvW C X (.BoolOp .Or (b :: rest) pos) S1 Q) ∧ (k = true → Q true S1)) : EvW C X (.BoolOp .Or (a :: b :: rest) pos) S Q := fun tmp σ H F s R r =>
  of_pw (pw_or pt_can pw_can) (h tmp σ H F s _ fun k H1 F1 S1 s1 e1 ⟨q1, q2⟩ => by
    cases k with
    | false => rw [if_neg Bool.false_ne_true]; exact q1 rfl tmp σ H1 F1 s1 R fun k H' F' S' s' e2 => r k H' F' S' s' (Same.trans e1 e2)
    | true => rw [if_pos rfl]; exact r true H1 F1 S1 s1 e1 (q2 rfl))
theorem ec_cmp {op : CmpOp} {r : R2} (ho : OpR X (compareOp op) r) (hm : behindInMarks op b = false) (h : EvQ C X a S fun x S1 => EvQ C X b S1 fun y S2 => OpS C r x y fun z => ∃ k, z = .bl k ∧ Q k S2) : EvC C X (.Compare a [op] [b] pos) S Q := fun tmp σ H F s R w =>
  of_pt (pt_cmpR ho pe_can pe_can hm) (h tmp σ H F s _ fun v H1 F1 d S1 s1 e1 r1 q1 => q1 tmp σ H1 F1 s1 _ fun u H2 F2 d2 S2 s2 e2 r2 q2 =>
    q2 S2 tmp σ H2 F2 v u s2 (r1.mono e2) r2 _ fun z H' F' zd s3 e3 r3 ⟨k, hz, q3⟩ => by
      subst hz; cases r3
      exact ⟨k, rfl, w k H' F' S2 s3 (Same.trans e1 (Same.trans e2 e3)) q3⟩)
theorem ec_lt (h : EvQ C X a S fun x S1 => EvQ C X b S1 fun y S2 => ∃ i j, x = .int i ∧ y = .int j ∧ Q (decide (i < j)) S2) : EvC C X (.Compare a [.Lt] [b] pos) S Q :=
  ec_cmp op_lt (nomark _) (ev_mono h fun x S1 h1 => ev_mono h1 fun y S2 ⟨i, j, e1, e2, q⟩ => by subst e1; subst e2; exact ops_I0 (f := fun i j => .bl (decide (i < j))) (fun _ => .bl _) ⟨_, rfl, q⟩)
theorem ec_gt (h : EvQ C X a S fun x S1 => EvQ C X b S1 fun y S2 => ∃ i j, x = .int i ∧ y = .int j ∧ Q (decide (j < i)) S2) : EvC C X (.Compare a [.Gt] [b] pos) S Q :=
  ec_cmp op_gt (nomark _) (ev_mono h fun x S1 h1 => ev_mono h1 fun y S2 ⟨i, j, e1, e2, q⟩ => by subst e1; subst e2; exact ops_I0 (f := fun i j => .bl (decide (j < i))) (fun _ => .bl _) ⟨_, rfl, q⟩)
theorem ec_ge (h : EvQ C X a S fun x S1 => EvQ C X b S1 fun y S2 => ∃ i j, x = .int i ∧ y = .int j ∧ Q (decide (j ≤ i)) S2) : EvC C X (.Compare a [.GtE] [b] pos) S Q :=
  ec_cmp op_ge (nomark _) (ev_mono h fun x S1 h1 => ev_mono h1 fun y S2 ⟨i, j, e1, e2, q⟩ => by subst e1; subst e2; exact ops_I0 (f := fun i j => .bl (decide (j ≤ i))) (fun _ => .bl _) ⟨_, rfl, q⟩)
theorem ec_le (h : EvQ C X a S fun x S1 => EvQ C X b S1 fun y S2 => ∃ i j, x = .int i ∧ y = .int j ∧ Q (decide (i ≤ j)) S2) : EvC C X (.Compare a [.LtE] [b] pos) S Q :=
  ec_cmp op_le (nomark _) (ev_mono h fun x S1 h1 => ev_mono h1 fun y S2 ⟨i, j, e1, e2, q⟩ => by subst e1; subst e2; exact ops_I0 (f := fun i j => .bl (decide (i ≤ j))) (fun _ => .bl _) ⟨_, rfl, q⟩)
theorem ec_eq (h : EvQ C X a S fun x S1 => EvQ C X b S1 fun y S2 => ∃ k, scalD x y = some k ∧ Q (k) S2) : EvC C X (.Compare a [.Eq] [b] pos) S Q :=
  ec_cmp op_eq (nomark _) (ev_mono h fun x S1 h1 => ev_mono h1 fun y S2 ⟨k, e1, q⟩ => fun S tmp σ H F v u s r1 r2 R w => by
    obtain ⟨q1, q2⟩ := scalD_ok r1 r2 e1
    refine ⟨q1, ?_⟩
    rw [q2]
    exact w _ H F _ s (Same.refl F) (.bl (k)) ⟨_, rfl, q⟩)
theorem ec_ne (h : EvQ C X a S fun x S1 => EvQ C X b S1 fun y S2 => ∃ k, scalD x y = some k ∧ Q (!k) S2) : EvC C X (.Compare a [.NotEq] [b] pos) S Q :=
  ec_cmp op_ne (nomark _) (ev_mono h fun x S1 h1 => ev_mono h1 fun y S2 ⟨k, e1, q⟩ => fun S tmp σ H F v u s r1 r2 R w => by
    obtain ⟨q1, q2⟩ := scalD_ok r1 r2 e1
    refine ⟨q1, ?_⟩
    rw [q2]
    exact w _ H F _ s (Same.refl F) (.bl (!k)) ⟨_, rfl, q⟩)
theorem ec_isB (h : EvQ C X a S fun x S1 => EvQ C X b S1 fun y S2 => ∃ i j, x = .bl i ∧ y = .bl j ∧ Q (decide (i = j)) S2) : EvC C X (.Compare a [.Is] [b] pos) S Q :=
  ec_cmp op_isBl (nomark _) (ev_mono h fun x S1 h1 => ev_mono h1 fun y S2 ⟨i, j, e1, e2, q⟩ => fun S tmp σ H F v u s r1 r2 R w => by
    subst e1; subst e2; cases r1; cases r2
    exact ⟨i, j, rfl, rfl, w _ H F _ s (Same.refl F) (.bl _) ⟨_, rfl, q⟩⟩)
theorem ec_nisB (h : EvQ C X a S fun x S1 => EvQ C X b S1 fun y S2 => ∃ i j, x = .bl i ∧ y = .bl j ∧ Q (!decide (i = j)) S2) : EvC C X (.Compare a [.IsNot] [b] pos) S Q :=
  ec_cmp op_notBl (nomark _) (ev_mono h fun x S1 h1 => ev_mono h1 fun y S2 ⟨i, j, e1, e2, q⟩ => fun S tmp σ H F v u s r1 r2 R w => by
    subst e1; subst e2; cases r1; cases r2
    exact ⟨i, j, rfl, rfl, w _ H F _ s (Same.refl F) (.bl _) ⟨_, rfl, q⟩⟩)
theorem ec_lele (h : EvQ C X a S fun x S1 => EvQ C X b S1 fun y S2 => ∃ i j, x = .int i ∧ y = .int j ∧ (i ≤ j → EvQ C X c S2 fun z S3 => ∃ l, z = .int l ∧ Q (decide (j ≤ l)) S3) ∧ (¬ i ≤ j → Q false S2))
    (hm : lastMarks [.LtE, .LtE] [b, c] = false := by with_unfolding_all rfl) : EvC C X (.Compare a [.LtE, .LtE] [b, c] pos) S Q := fun tmp σ H F s R k =>
  of_pt (pt_chain op_le op_le pe_can pe_can pe_can hm) (h tmp σ H F s _ fun v H1 F1 d S1 s1 e1 r1 q1 => q1 tmp σ H1 F1 s1 _ fun u H2 F2 d2 S2 s2 e2 r2 ⟨i, j, z1, z2, q2, q3⟩ => by
    subst z1; subst z2; cases r1; cases r2
    refine ⟨i, j, rfl, rfl, _, rfl, ?_⟩
    by_cases hij : i ≤ j
    · rw [decide_eq_true hij, if_pos rfl]
      exact q2 hij tmp σ H2 F2 s2 _ fun w H3 F3 d3 S3 s3 e3 r3 ⟨l, z3, q⟩ => by
        subst z3; cases r3
        exact ⟨j, l, rfl, rfl, _, rfl, k _ H3 F3 S3 s3 (Same.trans e1 (Same.trans e2 e3)) q⟩
    · rw [decide_eq_false hij, if_neg Bool.false_ne_true]
      exact ⟨_, rfl, k _ H2 F2 S2 s2 (Same.trans e1 e2) (q3 hij)⟩)
theorem ec_inSign (h : EvQ C X a S fun x S1 => EvQ C X b S1 fun y S2 => ∃ (n : Nat) (z : Str), x = .str ⟨#[n]⟩ ∧ y = .str z ∧ Q (decide (n ∈ z.cps.toList)) S2) (hm : behindInMarks .In b = false := by rfl) : EvC C X (.Compare a [.In] [b] pos) S Q :=
  ec_cmp op_in_sign hm (ev_mono h fun x S1 h1 => ev_mono h1 fun y S2 ⟨n, z, e1, e2, q⟩ => fun S tmp σ H F v u s r1 r2 R w => by
    subst e1; subst e2; cases r1; cases r2
    exact ⟨n, z, rfl, rfl, w _ H F _ s (Same.refl F) (.bl _) ⟨_, rfl, q⟩⟩)
theorem ec_inStrs {neg : Bool} {op : CmpOp} (ho : OpR X (compareOp op) (rIn X.K neg)) (hm : behindInMarks op b = false) (h : EvQ C X a S fun x S1 => EvP C X b S1 fun pd S2 => ∃ (z : Str) (zs : List Str), x = .str z ∧ pd.seq S2 = some (zs.map D.str) ∧ Q (if neg then !decide (z ∈ zs) else decide (z ∈ zs)) S2) (hK : C.K = X.K := by rfl) :
    EvC C X (.Compare a [op] [b] pos) S Q := fun tmp σ H F s R r =>
  of_pt (pt_cmpR ho pe_can pe_can hm) (h tmp σ H F s _ fun v H1 F1 x S1 s1 e1 r1 q1 => q1 tmp σ H1 F1 s1 _ fun u H2 F2 pd S2 s2 e2 r2 ⟨z, zs, hx, hy, q2⟩ => by
    subst hx
    cases r1
    obtain ⟨p, vs, rfl, hs, rr⟩ := rep_seq s2 r2 hy
    obtain rfl := reps_strs rr
    rw [← hK]
    refine ⟨p, _, rfl, hs, rfl, all_flat_strs zs, ?_⟩
    rw [inV_strs]
    exact ⟨_, rfl, r _ H2 F2 S2 s2 (Same.trans e1 e2) q2⟩)
theorem ec_in (h : EvQ C X a S fun x S1 => EvP C X b S1 fun pd S2 => ∃ (z : Str) (zs : List Str), x = .str z ∧ pd.seq S2 = some (zs.map D.str) ∧ Q (decide (z ∈ zs)) S2) (hm : behindInMarks .In b = false := by rfl) (hK : C.K = X.K := by rfl) : EvC C X (.Compare a [.In] [b] pos) S Q :=
  ec_inStrs (neg := false) op_in_seq hm h hK
theorem ec_notIn (h : EvQ C X a S fun x S1 => EvP C X b S1 fun pd S2 => ∃ (z : Str) (zs : List Str), x = .str z ∧ pd.seq S2 = some (zs.map D.str) ∧ Q (!decide (z ∈ zs)) S2) (hm : behindInMarks .NotIn b = false := by rfl) (hK : C.K = X.K := by rfl) : EvC C X (.Compare a [.NotIn] [b] pos) S Q :=
  ec_inStrs (neg := true) op_notIn_seq hm h hK
theorem ev_ifC {Q : D → SD → Prop} (h : EvC C X c S fun k S1 => (k = true → EvQ C X a S1 Q) ∧ (k = false → EvQ C X b S1 Q)) : EvQ C X (.IfExp c a b pos) S Q := fun tmp σ H F s R r =>
  of_pe (pe_ifExp pt_can pe_can pe_can) (h tmp σ H F s _ fun k H1 F1 S1 s1 e1 ⟨q1, q2⟩ => by
    cases k with
    | true => rw [if_pos rfl]; exact q1 rfl tmp σ H1 F1 s1 R fun v H' F' d S' s' e2 => r v H' F' d S' s' (Same.trans e1 e2)
    | false => rw [if_neg Bool.false_ne_true]; exact q2 rfl tmp σ H1 F1 s1 R fun v H' F' d S' s' e2 => r v H' F' d S' s' (Same.trans e1 e2))
theorem ex_ifC {sa sb : List Stmt} {E : DE} (h : EvC C X c S fun k S1 => (k = true → Exs C X sa S1 E) ∧ (k = false → Exs C X sb S1 E)) : Ex C X (.If c sa sb pos) S E := fun σ H F s D' w =>
  of_ps (ps_if pt_can pss_can pss_can) (h [] σ H F s _ fun k H1 F1 S1 s1 e1 ⟨q1, q2⟩ => by
    cases k with
    | true => rw [if_pos rfl]; exact q1 rfl σ H1 F1 s1 D' (w.mono e1)
    | false => rw [if_neg Bool.false_ne_true]; exact q2 rfl σ H1 F1 s1 D' (w.mono e1))
theorem ts_oneC (h : EvC C X c S Q) : TsQ C X [c] S Q := fun tmp σ H F s R r => ⟨fun pins s0 I => (pts_one pt_can).run pins s0 σ H R I (h tmp σ H F s R r)⟩
end

/-! ### scopes of comprehensions, checked -/
def blkB (N : List Str) (sc scope : Scope) (own : List (Str × Nat)) : Bool :=
  decide (scope.kind = .function) && scope.names.all (fun y => decide (scope.names.lookup y.1 = some y.2)) && own.all (fun p => decide (N[p.2]? = some p.1)) &&
  scope.names.all (fun y => decide (y.2 ≠ .free) || decide (sc.names.lookup y.1 = some .cell) || decide (sc.names.lookup y.1 = some .free)) &&
  scope.names.all (fun y => (decide (y.2 ≠ .local) && decide (y.2 ≠ .cell)) || decide (y.1 ∈ own.map (·.1)) || decide (y.1 ∉ N))
theorem blk {N : List Str} {sc scope : Scope} {own : List (Str × Nat)} (h : blkB N sc scope own = true) : BlkOk N sc scope own := by
  unfold blkB at h
  simp only [Bool.and_eq_true, decide_eq_true_eq, List.all_eq_true, Bool.or_eq_true] at h
  obtain ⟨⟨⟨⟨h1, h2⟩, h3⟩, h4⟩, h5⟩ := h
  exact ⟨h1, h2, h3, fun y hy e => by rcases h4 y hy with (z | z) | z; exact absurd e z; exact .inl z; exact .inr z, fun y hy e => by
    rcases h5 y hy with (z | z) | z
    · rcases e with e | e
      · exact absurd e z.1
      · exact absurd e z.2
    · exact .inl z
    · exact .inr z⟩
end Dm

namespace Dm
open PySem PySem.Spec PyProof.Rows L2
open GxR (TabB TabG Tabbed)
section
variable {C : Cfg} {X : Cx} {S : SD} {e a b c elt iter : Expr} {es : List Expr} {Q : D → SD → Prop}
theorem setset {S : SD} {j : Nat} {x y : Slot} : (S.set j x).set j y = S.set j y := List.set_set ..
theorem all_at {xs : List D} {f : D → Bool} {i : Nat} {x : D} (h : xs[i]? = some x) : (xs.take (i + 1)).all f = ((xs.take i).all f && f x) := by
  rw [List.take_add_one, h]
  simp
/-- all(test for x in iter): each test is worth f of the item, the state stands -/
theorem ev_allF (f : D → Bool) {x : Str} {tp : Pos} {scope : Scope} {gpos p pos : Pos} {j : Nat} {cc P : Addr} {k : Nat} (hr : Room (k + 4) X.A) (hm : X.mg "all" = none) (TB : TabB X.base X.mg cc P) (hP : P ∈ C.T) (hcode : X.env.code = .ref cc) (hN : X.N.Nodup)
    (ok : BlkOk X.N X.env.scope scope [(x, j)]) (hnc : ∀ y ∈ scope.names, y.2 ≠ .cell) (hdot : scope.names.lookup (".0" : Str) = some NameKind.local)
    (h : ItQ C X (.Name x tp) iter S fun xs S1 => (∀ (i : Nat) (y : D), xs[i]? = some y → ForQ X scope k fun X1 => EvQ C X1 elt (S1.set j (Slot.val y)) fun t S2 => S2.set j Slot.none = S1.set j Slot.none ∧ t = .bl (f y)) ∧ Q (.bl (xs.all f)) (S1.set j Slot.none))
    (hj : X.N[j]? = some x := by rfl) (hl : scope.names.lookup x = some .local := by decide +kernel)
    (hg : Gl X "all" := by rfl) (hco : scope.isCoroutine = false := by rfl) (hs : ∀ v, genFold iter X.env v = pure v := by intro _; rfl)
    (he : starEach [.GeneratorExp elt [⟨.Name x tp, iter, [], 0⟩] scope gpos] X.env = (false, eval (.GeneratorExp elt [⟨.Name x tp, iter, [], 0⟩] scope gpos) X.env) :: starEach [] X.env := by rfl) : EvQ C X (.Call (.Name "all" p) [.GeneratorExp elt [⟨.Name x tp, iter, [], 0⟩] scope gpos] [] pos) S Q := by
  refine ev_allG hr hm TB hP hcode hN ok hnc hdot (fun tmp σ H F s R r => h tmp σ H F s R fun J H' F' xs S1 s1 e1 sem ⟨h1, h2⟩ => r J H' F' xs S1 s1 e1 sem ⟨fun i S2 => S2 = S1.set j Slot.none ∧ (xs.take i).all f = true, ⟨rfl, by simp⟩, fun i y S' hy iv => ?_, fun S' iv => ?_⟩) hg hco hs he
  · obtain ⟨iv, hi⟩ := iv
    rw [iv]
    intro a1 a2 a3 a4 a5 a6 a7 a8
    refine asw_name hN ?_ (by simp) hj (.inl hl) (.inr hl)
    intro b1 b2 b3 b4 b5 b6 b7 b8
    refine ts_nil ⟨fun _ => ?_, fun h => by cases h⟩
    intro c1 c2 c3 c4 c5 c6 c7 c8
    rw [setset]
    refine ev_mono (h1 i y hy c1 c2 c3 c4 c5 c6 c7 c8) fun t S3 ⟨q1, q2⟩ => ⟨_, q2, ?_⟩
    have q1' : wipeS S3 (List.map (fun x => x.2) [(x, j)]) = S1.set j Slot.none := q1
    have ea : xs.all f = ((xs.take i).all f && ((xs.drop i).all f)) := by rw [← List.all_append, List.take_append_drop]
    cases ef : f y with
    | true =>
      rw [if_pos rfl]
      exact ⟨q1', by rw [all_at hy, hi, ef]; rfl⟩
    | false =>
      rw [if_neg Bool.false_ne_true, q1']
      have z : xs.all f = false := by
        rw [List.all_eq_false]
        exact ⟨y, List.mem_of_getElem? hy, by rw [ef]; exact Bool.false_ne_true⟩
      rw [z] at h2
      exact h2
  · obtain ⟨iv, hi⟩ := iv
    rw [iv]
    rw [List.take_length] at hi
    rw [hi] at h2
    exact h2
/-- [elt for x in iter]: each item of the new list is as P tells, the state stands -/
theorem lq_P (P : Nat → D → Prop) {QL : List D → SD → Prop} {x : Str} {tp : Pos} {scope : Scope} {j : Nat} (hN : X.N.Nodup)
    (h : ItQ C X (.Name x tp) iter S fun xs S1 => xs.length ≤ 100000 ∧ (∀ (i : Nat) (y : D), xs[i]? = some y → ForB X scope fun X1 => EvQ C X1 elt (S1.set j (Slot.val y)) fun t S2 => S2.set j Slot.none = S1.set j Slot.none ∧ P i t) ∧
      ∀ acc, acc.length = xs.length → (∀ (i : Nat) (t : D), acc[i]? = some t → P i t) → QL acc (S1.set j Slot.none))
    (hj : X.N[j]? = some x := by rfl) (hl : scope.names.lookup x = some .local := by decide +kernel) : LcQ C X elt (.Name x tp) iter [] scope [j] S QL := by
  refine lq_gen (own := [(x, j)]) (fun tmp σ H F s R r => h tmp σ H F s R fun J H' F' xs S1 s1 e1 sem ⟨h0, h1, h2⟩ => r J H' F' xs S1 s1 e1 sem ⟨fun i acc S2 => S2 = S1.set j Slot.none ∧ acc.length = i ∧ i ≤ xs.length ∧ ∀ i t, acc[i]? = some t → P i t, ⟨rfl, rfl, Nat.zero_le _, fun i t e => by simp at e⟩, fun i y acc S' hy iv => ?_, fun acc S' iv => ?_⟩)
  · obtain ⟨iv, hi, hi2, hP⟩ := iv
    rw [iv]
    intro a1 a2 a3 a4 a5
    have hl' : (X.blk a1 a2 scope (compEnvC scope a4 a3 X.env) a5).env.scope.names.lookup x = some NameKind.local := PySem.lookup_relabel_local hl
    refine asw_name hN ?_ (by simp) hj (.inl hl') (.inr hl')
    intro b1 b2 b3 b4 b5
    refine ts_nil ⟨fun _ => ?_, fun h => by cases h⟩
    intro c1 c2 c3 c4 c5
    rw [setset]
    refine ev_mono (h1 i y hy c1 c2 c3 c4 c5) fun t S3 ⟨q1, q2⟩ => ⟨by omega, q1, by simp [hi], (List.getElem?_eq_some_iff.mp hy).1, fun i' t' e => ?_⟩
    by_cases hlt : i' < acc.length
    · rw [List.getElem?_append_left hlt] at e
      exact hP i' t' e
    · rw [List.getElem?_append_right (by omega)] at e
      have hz : i' - acc.length = 0 := by
        have := (List.getElem?_eq_some_iff.mp e).1
        simp at this
        omega
      rw [hz] at e
      cases e
      have : i' = i := by omega
      rw [this]
      exact q2
  · obtain ⟨iv, hi, hi2, hP⟩ := iv
    rw [iv]
    exact h2 acc hi hP
/-- [elt for x in iter if test]: the items that f takes, each as g tells -/
theorem lq_If (f : D → Bool) (g : D → D) {QL : List D → SD → Prop} {x : Str} {tp : Pos} {test : Expr} {scope : Scope} {j : Nat} (hN : X.N.Nodup)
    (h : ItQ C X (.Name x tp) iter S fun xs S1 => xs.length ≤ 100000 ∧ (∀ (i : Nat) (y : D), xs[i]? = some y → ForB X scope (fun X1 => EvC C X1 test (S1.set j (Slot.val y)) fun k S2 => k = f y ∧ S2 = S1.set j (Slot.val y)) ∧
        (f y = true → ForB X scope fun X1 => EvQ C X1 elt (S1.set j (Slot.val y)) fun t S2 => S2.set j Slot.none = S1.set j Slot.none ∧ t = g y)) ∧ QL ((xs.filter f).map g) (S1.set j Slot.none))
    (hj : X.N[j]? = some x := by rfl) (hl : scope.names.lookup x = some .local := by decide +kernel) : LcQ C X elt (.Name x tp) iter [test] scope [j] S QL := by
  refine lq_gen (own := [(x, j)]) (fun tmp σ H F s R r => h tmp σ H F s R fun J H' F' xs S1 s1 e1 sem ⟨h0, h1, h2⟩ => r J H' F' xs S1 s1 e1 sem ⟨fun i acc S2 => S2 = S1.set j Slot.none ∧ acc = ((xs.take i).filter f).map g, ⟨rfl, by simp⟩, fun i y acc S' hy iv => ?_, fun acc S' iv => ?_⟩)
  · obtain ⟨iv, hi⟩ := iv
    rw [iv]
    have tk : xs.take (i + 1) = xs.take i ++ [y] := by rw [List.take_add_one, hy]; rfl
    obtain ⟨t1, t2⟩ := h1 i y hy
    intro a1 a2 a3 a4 a5
    have hl' : (X.blk a1 a2 scope (compEnvC scope a4 a3 X.env) a5).env.scope.names.lookup x = some NameKind.local := PySem.lookup_relabel_local hl
    refine asw_name hN ?_ (by simp) hj (.inl hl') (.inr hl')
    intro b1 b2 b3 b4 b5
    rw [setset]
    refine ts_oneC (ec_mono (t1 b1 b2 b3 b4 b5) fun k S2 ⟨q1, q2⟩ => ?_)
    subst q1
    rw [q2]
    refine ⟨fun hk => ?_, fun hk => ⟨setset, by rw [tk, List.filter_append, List.filter_cons_of_neg (by rw [hk]; exact Bool.false_ne_true), List.filter_nil, List.append_nil]; exact hi⟩⟩
    intro c1 c2 c3 c4 c5
    refine ev_mono (t2 hk c1 c2 c3 c4 c5) fun t S3 ⟨q1, q2⟩ => ⟨?_, q1, ?_⟩
    · have l1 : acc.length ≤ (xs.take i).length := by rw [hi, List.length_map]; exact List.length_filter_le ..
      have l2 : (xs.take i).length ≤ xs.length := by rw [List.length_take]; omega
      omega
    · rw [tk, List.filter_append, List.filter_cons_of_pos hk, List.filter_nil, List.map_append, ← hi, q2]
      rfl
  · obtain ⟨iv, hi⟩ := iv
    rw [iv, hi, List.take_length]
    exact h2
end
end Dm

namespace Dm
open PySem PySem.Spec PyProof.Rows L2
open GxR (TabB TabG Tabbed)
section
variable {C : Cfg} {X : Cx} {S : SD} {e a b c : Expr} {es : List Expr} {Q : D → SD → Prop} {tmp : Tmp} {σ : L2.St} {H F : Hp}
/-! ### the stream -/
theorem Stt.strm (s : Stt C S tmp σ H F) (hg : C.g = true) : F C.st = none ∧ ∃ (cs : Addr) (c k : Int) (ns : List Int), H C.st = some (.lst [.ref cs, .int c, .int k]) ∧ F cs = some (.lst (ns.map V.int)) ∧ 0 ≤ c ∧ 0 ≤ k := s.base.rng hg
theorem Stt.strmSet (s : Stt C S tmp σ H F) (hg : C.g = true) {cs : Addr} {c k : Int} {ns : List Int} {o : HO} (hH : H C.st = some (.lst [.ref cs, .int c, .int k])) (hF : F cs = some (.lst (ns.map V.int))) {c' k' : Int} (hc : 0 ≤ c') (hk : 0 ≤ k') (ho : o = .lst [.ref cs, .int c', .int k']) : Stt C S tmp σ (upd H C.st o) F := by
  subst ho
  have nF := (s.strm hg).1
  have nf : ∀ b u, F b = some u → b ≠ C.st := fun b u e z => by rw [z, nF] at e; cases e
  refine ⟨s.b0, ⟨fun b u e => ?_, s.base.kind, fun P hP => ?_, fun g => ⟨nF, cs, c', k', ns, upd_same, hF, hc, hk⟩⟩, ⟨s.grow.ff, fun b u e n1 n2 => ?_, s.grow.nn, fun b e => ?_, fun g q c k e => by
    obtain ⟨c1, k1, e1⟩ := s.grow.cs g q c k e
    rw [hH] at e1
    cases e1
    exact ⟨c', k', upd_same⟩⟩, s.val, fun i xs h => ?_, s.dis, fun p xs h => ?_, s.tdis, s.tnd⟩
  · rw [upd_ne (nf b u e)]
    exact s.base.sub b u e
  · obtain ⟨ps, h1, h2⟩ := s.base.tab P hP
    exact ⟨ps, by rw [upd_ne (ne_of h1 hH (fun z => by cases z))]; exact h1, h2⟩
  · rw [upd_ne (n2 hg)]
    exact s.grow.hh b u e n1 n2
  · by_cases z : b = C.st
    · rw [z, upd_same]
      exact fun z => by cases z
    · rw [upd_ne z]
      exact s.grow.al b e
  · obtain ⟨p, vs, h1, h2, h3, h4, h5⟩ := s.own i xs h
    exact ⟨p, vs, h1, h2, h3, by rw [upd_ne (s.nst h3 hg)]; exact h4, h5⟩
  · obtain ⟨vs, h2, h3, h4, h5⟩ := s.tm p xs h
    exact ⟨vs, h2, h3, by rw [upd_ne (s.nst h3 hg)]; exact h4, h5⟩
theorem reps_mk {K : PySem.W.Frag} {st : Addr} : ∀ ns : List Int, Reps K st F (ns.map V.int) (ns.map D.int)
  | [] => .nil
  | n :: ns => .cons (.int n) (reps_mk ns)
/-- stream[0], stream[1], stream[2] -/
theorem ev_strm0 {j pos pos'} (h : EvQ C X a S fun x S1 => x = .strm ∧ ∀ ns : List Int, Q (.lst (ns.map D.int)) S1) (hg : C.g = true := by rfl) (hK : C.K = X.K := by rfl) : EvQ C X (.Subscript a (.Constant (.int 0) j pos') pos) S Q := fun tmp σ H F s R r =>
  of_pe (pe_ix ix_list pe_can pe_int (fun _ _ => rfl)) (h tmp σ H F s _ fun v H1 F1 x S1 s1 e1 r1 ⟨z, q⟩ => by
    subst z
    cases r1
    obtain ⟨_, cs, c, k, ns, h1, h2, h3, h4⟩ := s1.strm hg
    exact ⟨_, _, _, _, rfl, rfl, .inl (.inl h1), rfl, r _ H1 F1 _ S1 s1 e1 (.lst h2 (reps_mk ns)) (q ns)⟩)
theorem ev_strm1 {j pos pos'} (h : EvQ C X a S fun x S1 => x = .strm ∧ ∀ c : Int, 0 ≤ c → Q (.int c) S1) (hg : C.g = true := by rfl) (hK : C.K = X.K := by rfl) : EvQ C X (.Subscript a (.Constant (.int 1) j pos') pos) S Q := fun tmp σ H F s R r =>
  of_pe (pe_ix ix_list pe_can pe_int (fun _ _ => rfl)) (h tmp σ H F s _ fun v H1 F1 x S1 s1 e1 r1 ⟨z, q⟩ => by
    subst z
    cases r1
    obtain ⟨_, cs, c, k, ns, h1, h2, h3, h4⟩ := s1.strm hg
    exact ⟨_, _, _, _, rfl, rfl, .inl (.inl h1), rfl, r _ H1 F1 _ S1 s1 e1 (.int c) (q c h3)⟩)
theorem ev_strm2 {j pos pos'} (h : EvQ C X a S fun x S1 => x = .strm ∧ ∀ c : Int, 0 ≤ c → Q (.int c) S1) (hg : C.g = true := by rfl) (hK : C.K = X.K := by rfl) : EvQ C X (.Subscript a (.Constant (.int 2) j pos') pos) S Q := fun tmp σ H F s R r =>
  of_pe (pe_ix ix_list pe_can pe_int (fun _ _ => rfl)) (h tmp σ H F s _ fun v H1 F1 x S1 s1 e1 r1 ⟨z, q⟩ => by
    subst z
    cases r1
    obtain ⟨_, cs, c, k, ns, h1, h2, h3, h4⟩ := s1.strm hg
    exact ⟨_, _, _, _, rfl, rfl, .inl (.inl h1), rfl, r _ H1 F1 _ S1 s1 e1 (.int k) (q k h4)⟩)
/-- stream[1] = .., stream[2] = .. -/
theorem as_strm1 {j pos pos'} {d : D} {Q : SD → Prop} (h : EvQ C X a S fun x S1 => x = .strm ∧ ∃ c : Int, d = .int c ∧ 0 ≤ c ∧ Q S1) (hg : C.g = true := by rfl)
    (ha : ∀ v, assign (.Subscript a (.Constant (.int 1) j pos') pos) X.env v = (do
      let ov ← holding [v] (eval a X.env)
      let iv ← holding [v, ov] (eval (.Constant (.int 1) j pos') X.env)
      standAt pos
      holding [v, ov, iv] (setItem ov iv v)
      release [v, ov, iv] []) := by intro _; rfl) : AsQ C X (.Subscript a (.Constant (.int 1) j pos') pos) d S Q := fun tmp σ H F v s r R k => ⟨fun pins s0 u I ru =>
  (of_pg (pg_sub pe_can pe_int set_list ha) (h tmp σ H F s _ fun v1 H1 F1 x S1 s1 e1 r1 ⟨z, c', hd, hc', q⟩ => by
    subst z; subst hd
    cases r1
    cases r
    obtain ⟨_, cs, c, k2, ns, h1, h2, h3, h4⟩ := s1.strm hg
    exact ⟨_, _, _, 1, rfl, rfl, h1, rfl, k σ _ F1 S1 (s1.strmSet hg h1 h2 hc' h4 rfl) e1 q⟩)).run pins s0 u I ru⟩
theorem as_strm2 {j pos pos'} {d : D} {Q : SD → Prop} (h : EvQ C X a S fun x S1 => x = .strm ∧ ∃ c : Int, d = .int c ∧ 0 ≤ c ∧ Q S1) (hg : C.g = true := by rfl)
    (ha : ∀ v, assign (.Subscript a (.Constant (.int 2) j pos') pos) X.env v = (do
      let ov ← holding [v] (eval a X.env)
      let iv ← holding [v, ov] (eval (.Constant (.int 2) j pos') X.env)
      standAt pos
      holding [v, ov, iv] (setItem ov iv v)
      release [v, ov, iv] []) := by intro _; rfl) : AsQ C X (.Subscript a (.Constant (.int 2) j pos') pos) d S Q := fun tmp σ H F v s r R k => ⟨fun pins s0 u I ru =>
  (of_pg (pg_sub pe_can pe_int set_list ha) (h tmp σ H F s _ fun v1 H1 F1 x S1 s1 e1 r1 ⟨z, c', hd, hc', q⟩ => by
    subst z; subst hd
    cases r1
    cases r
    obtain ⟨_, cs, c, k2, ns, h1, h2, h3, h4⟩ := s1.strm hg
    exact ⟨_, _, _, 2, rfl, rfl, h1, rfl, k σ _ F1 S1 (s1.strmSet hg h1 h2 h3 hc' rfl) e1 q⟩)).run pins s0 u I ru⟩
/-! ### more of whole numbers -/
theorem ops_I {C' : Int → Int → Prop} {g : Int → Int → V} {f : Int → Int → D} {i j : Int} {Q : D → Prop} (hc : C' i j) (hg : ∀ F, Rep C.K C.st F (g i j) (f i j)) (q : Q (f i j)) : OpS C (rI C' g) (.int i) (.int j) Q := fun S tmp σ H F v u s r1 r2 R k => by
  cases r1
  cases r2
  exact ⟨i, j, rfl, rfl, hc, k _ H F _ s (Same.refl F) (hg F) q⟩
theorem ev_mul {pos : Pos} (h : EvQ C X a S fun x S1 => EvQ C X b S1 fun y S2 => ∃ i j, x = .int i ∧ y = .int j ∧ CMul i j ∧ Q (.int (i * j)) S2) : EvQ C X (.BinOp a .Mult b pos) S Q :=
  ev_bin op_mul (ev_mono h fun x S1 h1 => ev_mono h1 fun y S2 ⟨i, j, e1, e2, hc, q⟩ => by subst e1; subst e2; exact ops_I (f := fun i j => .int (i * j)) hc (fun _ => .int _) q)
theorem ev_mod {pos : Pos} (h : EvQ C X a S fun x S1 => EvQ C X b S1 fun y S2 => ∃ i j, x = .int i ∧ y = .int j ∧ 0 < j ∧ Q (.int (i % j)) S2) : EvQ C X (.BinOp a .Mod b pos) S Q :=
  ev_bin op_mod (ev_mono h fun x S1 h1 => ev_mono h1 fun y S2 ⟨i, j, e1, e2, hc, q⟩ => by subst e1; subst e2; exact ops_I (f := fun i j => .int (i % j)) hc (fun _ => .int _) q)
theorem ev_fdiv {pos : Pos} (h : EvQ C X a S fun x S1 => EvQ C X b S1 fun y S2 => ∃ i j, x = .int i ∧ y = .int j ∧ (0 < j ∧ j < 1073741824) ∧ Q (.int (i / j)) S2) : EvQ C X (.BinOp a .FloorDiv b pos) S Q :=
  ev_bin op_fdiv (ev_mono h fun x S1 h1 => ev_mono h1 fun y S2 ⟨i, j, e1, e2, hc, q⟩ => by subst e1; subst e2; exact ops_I (f := fun i j => .int (i / j)) hc (fun _ => .int _) q)
theorem ev_pow {pos : Pos} (h : EvQ C X a S fun x S1 => EvQ C X b S1 fun y S2 => ∃ i j, x = .int i ∧ y = .int j ∧ CPow i j ∧ Q (.int (i ^ j.toNat)) S2) : EvQ C X (.BinOp a .Pow b pos) S Q :=
  ev_bin op_pow (ev_mono h fun x S1 h1 => ev_mono h1 fun y S2 ⟨i, j, e1, e2, hc, q⟩ => by subst e1; subst e2; exact ops_I (f := fun i j => .int (i ^ j.toNat)) hc (fun _ => .int _) q)
theorem ev_abs {p pos : Pos} (hm : X.mg "abs" = none) (h : EvQ C X a S fun d S1 => ∃ i : Int, d = .int i ∧ Q (.int (if i < 0 then -i else i)) S1) (hg : Gl X "abs" := by rfl)
    (he : starEach [a] X.env = (false, eval a X.env) :: starEach [] X.env := by rfl) : EvQ C X (.Call (.Name "abs" p) [a] [] pos) S Q := fun tmp σ H F s R r =>
  of_pe (pe_callB call_abs hg hm boot_abs (pa_cons pe_can pa_nil he) (he := he)) (h tmp σ H F s _ fun v H1 F1 d S1 s1 e1 r1 ⟨i, hd, q1⟩ => by
    subst hd
    cases r1
    exact ⟨i, rfl, r _ H1 F1 (.int _) S1 s1 e1 (.int _) q1⟩)
theorem ev_int1 {p pos : Pos} (hm : X.mg "int" = none) (h : EvQ C X a S fun d S1 => ∃ i : Int, d = .int i ∧ Q (.int i) S1) (hg : Gl X "int" := by rfl)
    (he : starEach [a] X.env = (false, eval a X.env) :: starEach [] X.env := by rfl) : EvQ C X (.Call (.Name "int" p) [a] [] pos) S Q := fun tmp σ H F s R r =>
  of_pe (pe_callTy call_int1 hg hm boot_int (pa_cons pe_can pa_nil he) (he := he)) (h tmp σ H F s _ fun v H1 F1 d S1 s1 e1 r1 ⟨i, hd, q1⟩ => by
    subst hd
    cases r1
    exact .inl ⟨i, rfl, r _ H1 F1 (.int _) S1 s1 e1 (.int _) q1⟩)
/-! ### where ways meet -/
theorem ex_join {st : Stmt} {E : DE} (J : SD → Prop) (h : Ex C X st S { E with nx := J }) (k : ∀ S, J S → E.nx S) : Ex C X st S E := fun σ H F s D' w =>
  h σ H F s D' ⟨fun S' σ' H' F' s' e q => w.nx S' σ' H' F' s' e (k S' q), w.rt, w.bk, w.ct⟩
/-- if k < len(stream[0]): cell = abs(stream[0][k]) -/
theorem ex_cell {E : DE} {kk : Int} {p1 p2 p3 p4 p5 p6 p7 p8 p9 p10 p11 p12 p13 p14 p15 p16 p17 : Pos} {j1 j2} (hN : X.N.Nodup) (h0 : X.N[0]? = some ("stream" : Str)) (h2 : X.N[2]? = some ("k" : Str)) (h3 : X.N[3]? = some ("cell" : Str)) (hml : X.mg "len" = none) (hma : X.mg "abs" = none)
    (hS0 : S[0]? = some (Slot.val .strm)) (hS2 : S[2]? = some (Slot.val (.int kk))) (hk : 0 ≤ kk) (q : ∀ cell : Int, 0 ≤ cell → E.nx (S.set 3 (Slot.val (.int cell)))) (q' : E.nx S)
    (v0 : Vis X.env.scope "stream" := by first | exact Or.inl rfl | exact Or.inr (Or.inl rfl) | exact Or.inr (Or.inr rfl)) (v2 : Vis X.env.scope "k" := by first | exact Or.inl rfl | exact Or.inr (Or.inl rfl) | exact Or.inr (Or.inr rfl)) (l3 : Loc X.env.scope "cell" := by first | exact Or.inl rfl | exact Or.inr rfl)
    (hf : X.fn "cell" = true ∨ X.env.scope.names.lookup ("cell" : Str) = some .local := by first | exact .inl rfl | exact .inr rfl) (gl : Gl X "len" := by rfl) (ga : Gl X "abs" := by rfl) (hg : C.g = true := by rfl)
    (he1 : starEach [.Subscript (.Name "stream" p3) (.Constant (.int 0) j1 p4) p5] X.env = (false, eval (.Subscript (.Name "stream" p3) (.Constant (.int 0) j1 p4) p5) X.env) :: starEach [] X.env := by rfl)
    (he2 : starEach [.Subscript (.Subscript (.Name "stream" p10) (.Constant (.int 0) j2 p11) p12) (.Name "k" p13) p14] X.env = (false, eval (.Subscript (.Subscript (.Name "stream" p10) (.Constant (.int 0) j2 p11) p12) (.Name "k" p13) p14) X.env) :: starEach [] X.env := by rfl)
    (hs : swapsWith (.Call (.Name "abs" p9) [.Subscript (.Subscript (.Name "stream" p10) (.Constant (.int 0) j2 p11) p12) (.Name "k" p13) p14] [] p15) (some (.Name "cell" p8)) p16.line X.env = pure false := by rfl) :
    Ex C X (.If (.Compare (.Name "k" p1) [.Lt] [.Call (.Name "len" p2) [.Subscript (.Name "stream" p3) (.Constant (.int 0) j1 p4) p5] [] p6] p7) [.Assign [.Name "cell" p8] (.Call (.Name "abs" p9) [.Subscript (.Subscript (.Name "stream" p10) (.Constant (.int 0) j2 p11) p12) (.Name "k" p13) p14] [] p15) p16] [] p17) S E := fun σ H F s D' k => ⟨fun pins s0 I => by
  have hl : 3 < σ.length := by rw [I.len]; exact (List.getElem?_eq_some_iff.mp h3).1
  have V0 := pe_var (X := X) (pos := p3) h0 v0 (by decide) (by decide)
  have V1 := pe_var (X := X) (pos := p10) h0 v0 (by decide) (by decide)
  have K1 := pe_var (X := X) (pos := p1) h2 v2 (by decide) (by decide)
  have K2 := pe_var (X := X) (pos := p13) h2 v2 (by decide) (by decide)
  refine (of_ps (ps_if (pt_cmpR op_lt K1 (pe_callB call_len_seq gl hml PySem.boot_len (pa_cons (pe_ix ix_list V0 pe_int (fun _ _ => rfl)) pa_nil he1) (he := he1)) (nomark _))
    (pss_cons (ps_set hN h3 l3 (pe_callB call_abs ga hma boot_abs (pa_cons (pe_ix ix_seq (pe_ix ix_list V1 pe_int (fun _ _ => rfl)) K2 (fun _ _ => rfl)) pa_nil he2) (he := he2)) hs hf) pss_nil) pss_nil) ?_).run pins s0 I
  obtain ⟨vs, e1, r1⟩ := s.val 0 _ hS0
  cases r1
  obtain ⟨vk, e2, r2⟩ := s.val 2 _ hS2
  cases r2
  obtain ⟨_, cs, c, k2, ns, g1, g2, g3, g4⟩ := s.strm hg
  have hH : H cs = some (HO.lst (ns.map V.int)) := s.base.sub _ _ g2
  refine ⟨_, e2, _, e1, _, _, _, _, rfl, rfl, .inl (.inl g1), rfl, cs, _, rfl, .inl (.inl (.inl hH)), _, _, rfl, rfl, _, rfl, ?_⟩
  by_cases hlt : kk < (ns.map V.int).length
  · rw [decide_eq_true hlt]
    dsimp only
    rw [if_pos rfl]
    rw [List.length_map] at hlt
    have hi : kk.toNat < ns.length := by omega
    refine ⟨_, e1, _, _, _, _, rfl, rfl, .inl (.inl g1), rfl, _, e2, .inl ⟨cs, _, kk, .int ns[kk.toNat], rfl, rfl, .inl (.inl hH), ?_, _, rfl, ?_⟩⟩
    · unfold L2.atI L2.ixN
      have : 0 ≤ kk ∧ kk < (ns.map V.int).length := ⟨hk, by rw [List.length_map]; exact hlt⟩
      simp [this, hk, hi, hlt]
    · refine k.nx _ _ H F (s.set hl (.int _)) (Same.refl F) (q _ ?_)
      split <;> omega
  · rw [decide_eq_false hlt]
    dsimp only
    rw [if_neg Bool.false_ne_true]
    exact k.nx S σ H F s (Same.refl F) q'⟩
/-! ### displays of constants -/
def constD : Const → Option D
  | .none => some .non
  | .bool b => some (.bl b)
  | .int i => some (.int i)
  | .str z => some (.str z)
  | _ => none
def constsD : List Expr → Option (List D)
  | [] => some []
  | .Constant k _ _ :: es => match constD k, constsD es with
    | some d, some ds => some (d :: ds)
    | _, _ => none
  | _ => none
theorem ev_const {k : Const} {j pos} {d : D} (h : constD k = some d) (q : Q d S) : EvQ C X (.Constant k j pos) S Q := by
  cases k <;> simp only [constD, Option.some.injEq, reduceCtorEq] at h <;> subst h
  · exact ev_non q
  · exact ev_bl q
  · exact ev_int q
  · exact ev_str q
theorem ea_consts : ∀ {es : List Expr} {ds : List D}, constsD es = some ds → ∀ {Q : List D → SD → Prop}, Q ds S → EvA C X es S Q
  | [], ds, h, Q, q => by cases h; exact ea_nil q
  | .Constant k j pos :: es, ds, h, Q, q => by
    simp only [constsD] at h
    split at h
    · rename_i d ds' h1 h2
      cases h
      exact ea_cons (ev_const h1 (ea_consts h2 q)) rfl
    · cases h
theorem ints_of {p : Int → Prop} : ∀ {acc : List D}, (∀ (i : Nat) (t : D), acc[i]? = some t → ∃ w, t = .int w ∧ p w) → ∃ ws : List Int, acc = ws.map D.int ∧ ∀ w ∈ ws, p w
  | [], _ => ⟨[], rfl, fun w h => by cases h⟩
  | a :: acc, h => by
    obtain ⟨w, hw, hp⟩ := h 0 a rfl
    obtain ⟨ws, e, hws⟩ := ints_of (acc := acc) fun i t e => h (i + 1) t (by simpa using e)
    exact ⟨w :: ws, by rw [hw, e]; rfl, fun v hv => by
      rcases List.mem_cons.mp hv with z | z
      · rw [z]; exact hp
      · exact hws v z⟩
theorem atI_ok {α : Type} {xs : List α} {d : Int} (h0 : 0 ≤ d) (h1 : d < xs.length) : ∃ x, L2.atI xs d = some x ∧ x ∈ xs := by
  have hd : d.toNat < xs.length := by omega
  refine ⟨xs[d.toNat], ?_, List.getElem_mem hd⟩
  unfold L2.atI L2.ixN
  simp [h0, h1, hd]
def strOf : D → Option Str
  | .str z => some z
  | _ => none
theorem strs_perm {zs : List Str} {ys : List D} (h : ys.Perm (zs.map D.str)) : ∃ zs' : List Str, zs'.Perm zs ∧ ys = zs'.map D.str := by
  refine ⟨ys.filterMap strOf, ?_, ?_⟩
  · have h1 := h.filterMap strOf
    rw [List.filterMap_map] at h1
    have h2 : List.filterMap (strOf ∘ D.str) zs = zs := by
      have : (strOf ∘ D.str) = some := rfl
      rw [this, List.filterMap_some]
    rw [h2] at h1
    exact h1
  · have h3 : ∀ y ∈ ys, ∃ z, y = .str z := fun y hy => by
      obtain ⟨z, _, e⟩ := List.mem_map.mp (h.mem_iff.mp hy)
      exact ⟨z, e.symm⟩
    clear h
    induction ys with
    | nil => rfl
    | cons y ys ih =>
      obtain ⟨z, rfl⟩ := h3 y List.mem_cons_self
      rw [List.filterMap_cons_some (f := strOf) (b := z) rfl, List.map_cons, ← ih fun x hx => h3 x (List.mem_cons_of_mem _ hx)]
theorem ev_neg {pos : Pos} (h : EvQ C X a S fun d S1 => ∃ i, d = .int i ∧ Q (.int (-i)) S1) : EvQ C X (.UnaryOp .USub a pos) S Q := fun tmp σ H F s R r =>
  of_pe (pe_un un_neg pe_can) (h tmp σ H F s _ fun v H1 F1 d S1 s1 e1 r1 ⟨i, hd, q⟩ => by
    subst hd
    cases r1
    exact ⟨i, rfl, r _ H1 F1 _ S1 s1 e1 (.int _) q⟩)
theorem lenOk {α : Type} {xs : List α} (h : xs.length.ble 100000 = true := by rfl) : xs.length ≤ 100000 := Nat.le_of_ble_eq_true h
theorem g_str {z : Str} (h : z.length ≤ 1000) : good (.str z) = true := good_str.mpr h
theorem g_cons {x : D} {xs : List D} (h1 : good x = true) (h2 : goods xs = true) : goods (x :: xs) = true := by simp [goods, h1, h2]
theorem g_tup {xs : List D} (h1 : xs.length.ble 1000 = true) (h2 : goods xs = true) : good (.tup xs) = true := good_tup.mpr ⟨Nat.le_of_ble_eq_true h1, h2⟩
theorem g_lst {xs : List D} (h1 : xs.length.ble 1000 = true) (h2 : goods xs = true) : good (.lst xs) = true := good_lst.mpr ⟨Nat.le_of_ble_eq_true h1, h2⟩
end
end Dm

namespace Sx
open PySem PySem.Spec PyProof.Rows SS
/-- the text at a place -/
def tx (xs : List Str) (i : Nat) : Str := xs.getD i Str.empty
/-- is it among the first i ones? -/
def among (xs : List Str) (i : Nat) (k : Str) : Bool := decide (k ∈ xs.take i)
/-- how many different ones among the first i -/
def kinds (xs : List Str) : Nat → Nat
  | 0 => 0
  | i + 1 => if among xs i (tx xs i) = true then kinds xs i else kinds xs i + 1
theorem kinds_le (xs : List Str) : ∀ i, kinds xs i ≤ i
  | 0 => Nat.le_refl _
  | i + 1 => by
    have := kinds_le xs i
    unfold kinds
    split <;> omega
theorem among_step {xs : List Str} {i : Nat} (hi : i < xs.length) (k : Str) : (among xs i k || decide (k = tx xs i)) = among xs (i + 1) k := by
  have e : xs.take (i + 1) = xs.take i ++ [tx xs i] := by
    rw [List.take_add_one, List.getElem?_eq_getElem hi]
    unfold tx
    rw [List.getD_eq_getElem?_getD, List.getElem?_eq_getElem hi]
    rfl
  unfold among
  rw [e]
  simp [List.mem_append]
section
variable {prog : Program} {w : World} {A : Around} {R : Result → Shared → Prop} {it : Addr} {fp wr : List Addr} {G : Array GenState → Array GenState → Prop} {n : Nat} {P : Nat → Value → Prop} {St : Nat → Shared → Prop}
/-- the texts walked, put into a set -/
theorem fill (W : WalksS prog w A.in1 it fp wr G n P St) {a : Addr} (away : a ∉ fp) {xs : List Str} (len : xs.length = n) (few : n < 4000) (val : ∀ i v, P i v → ∃ t, v = .str (tx xs i) t) (left : Nat) :
    ∀ (i : Nat) (s : Shared), n = i + left → St i s → s.heap.SetOf (PySem.strKind prog w) a (among xs i) (kinds xs i) →
      (∀ s', Moved (a :: wr) G s s' → s'.heap.SetOf (PySem.strKind prog w) a (among xs n) (kinds xs n) → R (.ok (.ret .none)) s') →
      codeAny (model prog w) A (.builtin "set.update.loop" ⟨[.ref a, .ref it], []⟩) R s := by
  have grow : ∀ b ∈ wr, b ∈ a :: wr := fun b h => List.mem_cons_of_mem _ h
  have off : a ∉ wr := fun h => away (W.sub _ h)
  have kept : ∀ {s s' : Shared} {S : Str → Bool} {m : Nat}, Moved wr G s s' → s.heap.SetOf (PySem.strKind prog w) a S m → s'.heap.SetOf (PySem.strKind prog w) a S m := fun mv ⟨o, es, ep, t, ho, z⟩ => ⟨o, es, ep, t, mv.heap a _ off ho, z⟩
  induction left with
  | zero =>
    intro i s e st has fin
    obtain rfl : n = i := e
    refine codeAny_builtin PyProof.Rows.F.entry_set_update_loop ?_
    rw [Around.under_plainId PyProof.Rows.F.plain_set_update_loop _]
    show wpAny _ A.in1 (pyNext (.ref it) >>= _) _ _ s
    exact wpAny_bind (W.done s _ _ st fun s' mv => by
      show wpAny _ A.in1 (ret Value.none) _ _ s'
      exact wpAny_pure (fin s' (mv.mono grow) (kept mv has)))
  | succ left more =>
    intro i s e st has fin
    have lt : i < n := by omega
    refine codeAny_builtin PyProof.Rows.F.entry_set_update_loop ?_
    rw [Around.under_plainId PyProof.Rows.F.plain_set_update_loop _]
    show wpAny _ A.in1 (pyNext (.ref it) >>= _) _ _ s
    refine wpAny_bind (W.item i s _ _ lt st fun v s' hv st' mv => ?_)
    obtain ⟨t, rfl⟩ := val i v hv
    show wpAny _ A.in1 (holding [Value.str (tx xs i) t] (setAdd a (.str (tx xs i) t)) >>= _) _ _ s'
    unfold setAdd
    refine wpAny_bind (wpAny_holding (wpAny_holding (wpAny_bind ((PySem.strKind prog w).pyHash (k := tx xs i) (strKind_is _ _ _ _) ?_))))
    have has' : s'.heap.SetOf (PySem.strKind prog w) a (among xs i) (kinds xs i) := kept mv has
    have room : kinds xs i + 1 < scanBound := by
      have := kinds_le xs i
      unfold scanBound
      omega
    refine wpAny_setAddHashed_of (knd := PySem.strKind prog w) (s := { s' with toks := s'.toks + 1 }) (strKind_is _ _ _ _) rfl has' room fun h' but now => ?_
    have now' : h'.SetOf (PySem.strKind prog w) a (among xs (i + 1)) (kinds xs (i + 1)) := SetOf_congr now (fun k => among_step (by omega) k) rfl
    have same : ∀ b o, b ≠ a → s'.heap.get? b = some o → h'.get? b = some o := fun b o nb z => by rw [but.2 b nb]; exact z
    refine wpAny_pure ⟨plainId_quiet PyProof.Rows.F.plain_set_update_loop _, more (i + 1) _ (by omega) (W.frame _ s' _ _ st' (Nat.le_succ _) fun b hb o z => same b o (fun q => away (by rw [← q]; exact hb)) z) now' fun s2 mv2 has2 => ?_⟩
    exact fin s2 (Moved.trans W.gtrans ((mv.mono grow).then_heap (Nat.le_succ _) fun b o hb z => same b o (fun q => hb (by rw [q]; exact List.mem_cons_self)) z) mv2) has2
end
theorem kinds_nodup {xs : List Str} : ∀ {i : Nat}, i ≤ xs.length → (kinds xs i = i ↔ (xs.take i).Nodup)
  | 0, _ => by simp [kinds]
  | i + 1, h => by
    have ih := kinds_nodup (xs := xs) (i := i) (by omega)
    have e : xs.take (i + 1) = xs.take i ++ [tx xs i] := by
      rw [List.take_add_one, List.getElem?_eq_getElem (by omega)]
      unfold tx
      rw [List.getD_eq_getElem?_getD, List.getElem?_eq_getElem (by omega)]
      rfl
    have l := kinds_le xs i
    rw [e, List.nodup_append]
    unfold kinds
    by_cases m : tx xs i ∈ xs.take i
    · have a1 : among xs i (tx xs i) = true := decide_eq_true m
      rw [if_pos a1]
      constructor
      · intro z; omega
      · intro z; exact absurd rfl (z.2.2 _ m _ (by simp))
    · have a1 : ¬ among xs i (tx xs i) = true := by unfold among; simpa using m
      rw [if_neg a1]
      constructor
      · intro z
        refine ⟨ih.mp (by omega), by simp, fun x hx y hy q => ?_⟩
        simp at hy
        rw [q, hy] at hx
        exact m hx
      · intro z
        have := ih.mpr z.1
        omega
end Sx

namespace Sx
open PySem PySem.Spec PyProof.Rows SS
section
variable {prog : Program} {w : World} {A : Around} {E : Value → Shared → Prop} {s : Shared}
/-- set(t), t a tuple of texts -/
theorem set_of_tuple {l : Addr} {items : Array Value} {xs : List Str} {Q : Value → Shared → Prop}
    (calm : A.handled = none) (tup : s.heap.IsTuple l items) (txt : StrsAre items.toList xs) (few : xs.length < 4000)
    (h : ∀ (h' : Heap) (tk : Nat), h'.SetOf (PySem.strKind prog w) s.heap.objs.size (among xs xs.length) (kinds xs xs.length) →
      (∀ b o, b < s.heap.objs.size → s.heap.get? b = some o → h'.get? b = some o) → Q (.ref s.heap.objs.size) { s with heap := h', toks := tk }) :
    wpAny (model prog w) A (call (.type "set") [.ref l]) Q E s := by
  have sz : xs.length = items.size := by rw [← StrsAre.len_eq txt, Array.length_toList]
  have val : ∀ (i : Nat) (v : Value), items[i]? = some v → ∃ t, v = .str (tx xs i) t := fun i v hv => strs_at txt i v (by rw [Array.getElem?_toList]; exact hv)
  obtain ⟨c, tl, hmro⟩ := PySem.F.called_set.mro
  have hmade := PySem.F.called_set.made
  have hsub := PySem.F.called_set.sub
  have h1 := PySem.F.called_set.notType
  have h2 := PySem.F.called_set.canCreate
  have hct := PySem.F.typeCall_set_1 (.ref l)
  have hli := PySem.F.called_set.init.lookup
  refine wpAny_call (codeAny_of_tree ?_)
  show wpAny _ _ (callAny (.type "set") _) _ _ _
  refine wpAny_pure ⟨Code.quiet_builtin _ (by decide +kernel), codeAny_builtin PySem.F.entry_type_call ?_⟩
  rw [Around.under_plain (weight_type_call_type "set" [.ref l] []) rfl]
  repeat (any_goals (first | assumption | wp_step))
  refine codeAny_mono (code_set_new_1 (.ref l) (E := E) (Q₁ := fun obj s₁ => ∃ led : Bool, obj = .ref s.heap.objs.size ∧ s₁ = { s with heap := s.heap.push { cls := .type "set", dict := none, data := .set #[] 0 (.fresh 0 0 led) } }) fun led => ⟨led, rfl, rfl⟩) fun r s₁ hr => ?_
  rcases r with e | fl
  · exact hr
  cases fl with
  | ret obj =>
    obtain ⟨led, rfl, rfl⟩ := hr
    generalize hnew : ({ cls := .type "set", dict := none, data := .set #[] 0 (.fresh 0 0 led) } : Obj) = new
    have hS : (s.heap.push new).get? s.heap.objs.size = some new := Heap.get?_push_size _ (by rw [← hnew]; rfl)
    have hT : Shared.TypeIs { s with heap := s.heap.push new } (.ref s.heap.objs.size) "set" := ⟨_, hS, by rw [← hnew]⟩
    have hbi := PySem.F.called_set.init.bind (.ref s.heap.objs.size)
    repeat (any_goals (first | assumption | wp_step))
    refine codeAny_mono (codeAny_call_builtin (R := wants (fun r s₂ => r = .none ∧ ∃ h' tk, s₂ = { s with heap := h', toks := tk } ∧
        h'.SetOf (PySem.strKind prog w) s.heap.objs.size (among xs xs.length) (kinds xs xs.length) ∧
        (∀ b o, b < s.heap.objs.size → s.heap.get? b = some o → h'.get? b = some o)) E) PySem.F.called_set.init.plain PySem.F.entry_set_init (check_set_init_1 hT ?_)) fun r₂ s₂ hr₂ => ?_
    · obtain ⟨⟨ocls, odict, odata, oslots⟩, hol, hcl, nl, hdl⟩ := tup
      simp only at hcl hdl
      subst hcl; subst hdl
      have below : l < s.heap.objs.size := Heap.lt_size hol
      have atl : (s.heap.push new).get? l = some { cls := .type "tuple", dict := odict, data := .seq items nl, slots := oslots } := Heap.get?_push_of_some _ hol
      have isT : (s.heap.push new).IsTuple l items := ⟨_, atl, rfl, nl, rfl⟩
      have k1 := PySem.F.sub_tuple_set
      have k2 := PySem.F.sub_tuple_frozenset
      have k3 : (Value.type "tuple" == Value.type "dict") = false := by decide
      have apart : l ≠ (s.heap.push new).objs.size := by
        rw [Heap.size_push]
        exact Nat.ne_of_lt (Nat.lt_succ_of_lt below)
      have away : s.heap.objs.size ∉ [(s.heap.push new).objs.size, l] := by
        rw [Heap.size_push]
        simp only [List.mem_cons, List.not_mem_nil, or_false, not_or]
        exact ⟨Nat.ne_of_lt (Nat.lt_succ_self _), Nat.ne_of_gt below⟩
      subst hnew
      unfold Builtin.«set.__init__» noKeywords Builtin.Frozenset.updateFrom
      generalize hPI : pyIter = PI
      wp_walk
      subst hPI
      refine wpAny_pyIter_tuple isT ?_
      refine wpAny_bind (wpAny_runValue ?_)
      refine fill ((Walks.tuple (by simp [calm]) _ l apart items).toS) away sz (by omega) val items.size 0 _ (by omega) ⟨⟨_, Heap.get?_push_size _ rfl, rfl, rfl⟩, isT.push _⟩ ?_ ?_
      · have there := Heap.get?_push_of_some { cls := .type "tuple_iterator", data := .fields #[.ref l, .int 0 0] } hS
        exact SetOf_congr ((setObjOf_fresh (knd := PySem.strKind prog w) led).setOf there (by unfold scanBound; omega)) (fun _ => by simp [among]) rfl
      · intro s' mv has
        obtain ⟨h', g', d', tk', os'⟩ := s'
        obtain rfl : g' = s.gens := mv.gens
        obtain rfl : d' = s.drawn := mv.drawn
        obtain rfl : os' = s.os := mv.os
        rw [← sz] at has
        show wpAny _ _ _ _ _ _
        refine wpAny_pure ?_
        show wpAny _ _ (ret Value.none) _ _ _
        refine wpAny_pure ⟨rfl, h', tk', rfl, has, fun b o lt z => mv.heap b o ?_ (Heap.get?_push_of_some _ (Heap.get?_push_of_some _ z))⟩
        rw [Heap.size_push]
        simp only [List.mem_cons, List.not_mem_nil, or_false, not_or]
        exact ⟨Nat.ne_of_lt lt, Nat.ne_of_lt (Nat.lt_succ_of_lt lt)⟩
    · rcases r₂ with e | fl₂
      · exact hr₂
      cases fl₂ with
      | ret r =>
        obtain ⟨rfl, h', tk, rfl, hS', hk'⟩ := hr₂
        repeat (any_goals (first | assumption | wp_step))
        exact h _ _ hS' hk'
      | _ => exact hr₂.elim
  | _ => exact hr.elim
end
end Sx
namespace L2
open PySem PySem.Spec PyProof.Rows
section
variable {X : Cx}
/-- len(set(t)), t a tuple of texts -/
def tKinds (K : PySem.W.Frag) (ta : TE) : TE := fun σ H Q => ta σ H fun x H1 => ∃ (l : Addr) (xs : List Str), x = .ref l ∧ SqT K H1 l (xs.map V.str) ∧ xs.length < 4000 ∧ Q (.int (Sx.kinds xs xs.length)) H1
theorem pe_kinds {a : Expr} {ta : TE} {p p2 q pos : Pos} (hg : Gl X "len") (hm : X.mg "len" = none) (hg2 : Gl X "set") (hm2 : X.mg "set" = none) (ha : PE X a ta) (hc : X.calm = true := by rfl)
    (na : starEach [a] X.env = (false, eval a X.env) :: starEach [] X.env := by rfl) : PE X (.Call (.Name "len" p) [.Call (.Name "set" p2) [a] [] q] [] pos) (tKinds X.K ta) := by
  refine ⟨fun pins s σ H Q I h => ?_⟩
  refine Call_ (ld_blt I hg hm PySem.boot_len (callWith_builtin1 (args_cons (Call_ (ld_blt I hg2 hm2 boot_set (callWith_type1 (args_cons (thn (ha.run pins s σ H _ I h) fun v s1 ⟨x, H1, I1, r1, q1⟩ => args_nil ?_) na) na rfl))) rfl) rfl rfl))
  obtain ⟨l, xs, rfl, hq, few, q1⟩ := q1
  cases r1
  obtain ⟨its, r, pl, hz⟩ := I1.tuple hq
  refine Sx.set_of_tuple (I1.ok.hd hc) pl (by simpa using strsAre_of r) few fun h' tk has keep => args_nil ?_
  obtain ⟨o, es, ep, t, ho, hex, hd, _, _, _, hf, hn⟩ := has
  have I2 : Inv X pins σ H1 { s1 with heap := h', toks := tk } := I1.kept fun b o e => keep b o (Heap.lt_size e) e
  have le := Sx.kinds_le xs xs.length
  exact call_len_set ho hex hd hf (by rw [hn]; omega) ⟨.int (Sx.kinds xs xs.length), H1, I2.tok _, ⟨_, by rw [hn]⟩, q1⟩
end
end L2

namespace Dm
open PySem PySem.Spec PyProof.Rows L2
open GxR (TabB TabG Tabbed)
section
variable {C : Cfg} {X : Cx} {S : SD} {e a b c : Expr} {es : List Expr} {Q : D → SD → Prop} {tmp : Tmp} {σ : L2.St} {H F : Hp}
/-- len(set(t)), t a tuple of texts -/
theorem ev_kinds {p p2 q pos : Pos} (hm : X.mg "len" = none) (hm2 : X.mg "set" = none) (h : EvQ C X a S fun d S1 => ∃ zs : List Str, d = .tup (zs.map D.str) ∧ zs.length ≤ 1000 ∧ Q (.int (Sx.kinds zs zs.length : Nat)) S1) (hg : Gl X "len" := by rfl) (hg2 : Gl X "set" := by rfl) (hK : C.K = X.K := by rfl) (hc : X.calm = true := by rfl)
    (na : starEach [a] X.env = (false, eval a X.env) :: starEach [] X.env := by rfl) : EvQ C X (.Call (.Name "len" p) [.Call (.Name "set" p2) [a] [] q] [] pos) S Q := fun tmp σ H F s R r =>
  of_pe (pe_kinds hg hm hg2 hm2 pe_can hc na) (h tmp σ H F s _ fun v H1 F1 d S1 s1 e1 r1 ⟨zs, hd, hl, q1⟩ => by
    subst hd
    obtain ⟨p, vs, rfl, hs, rr⟩ := rep_tup s1 r1
    obtain rfl := reps_strs rr
    rw [← hK]
    exact ⟨p, zs, rfl, hs, by omega, r _ H1 F1 (.int _) S1 s1 e1 (.int _) q1⟩)
theorem kinds_iff {zs : List Str} : Sx.kinds zs zs.length = zs.length ↔ zs.Nodup := by
  have := Sx.kinds_nodup (xs := zs) (i := zs.length) (Nat.le_refl _)
  rwa [List.take_length] at this
/-- max(i, j), min(i, j) -/
theorem ev_max2 {p pos : Pos} (hm : X.mg "max" = none) (h : EvQ C X a S fun d S1 => EvQ C X b S1 fun d2 S2 => ∃ i j : Int, d = .int i ∧ d2 = .int j ∧ Q (.int (max i j)) S2) (hg : Gl X "max" := by rfl) (hc : X.calm = true := by rfl)
    (he : starEach [a, b] X.env = (false, eval a X.env) :: starEach [b] X.env := by rfl) (he2 : starEach [b] X.env = (false, eval b X.env) :: starEach [] X.env := by rfl) (hpl : (backTo pos (starEach [b] X.env)).any (·.1) = false := by rfl) : EvQ C X (.Call (.Name "max" p) [a, b] [] pos) S Q := fun tmp σ H F s R r =>
  of_pe (pe_callB (call_max2 hc) hg hm boot_max (pa_cons pe_can (pa_cons pe_can pa_nil he2) he) (he := he) (hpl := hpl)) (h tmp σ H F s _ fun v H1 F1 d S1 s1 e1 r1 q1 => q1 tmp σ H1 F1 s1 _ fun u H2 F2 d2 S2 s2 e2 r2 ⟨i, j, hd, hd2, q⟩ => by
    subst hd; subst hd2; cases r1; cases r2
    have e : (if j > i then j else i) = max i j := by split <;> omega
    exact ⟨i, j, rfl, by rw [e]; exact r _ H2 F2 (.int _) S2 s2 (Same.trans e1 e2) (.int _) q⟩)
theorem ev_min2 {p pos : Pos} (hm : X.mg "min" = none) (h : EvQ C X a S fun d S1 => EvQ C X b S1 fun d2 S2 => ∃ i j : Int, d = .int i ∧ d2 = .int j ∧ Q (.int (min i j)) S2) (hg : Gl X "min" := by rfl) (hc : X.calm = true := by rfl)
    (he : starEach [a, b] X.env = (false, eval a X.env) :: starEach [b] X.env := by rfl) (he2 : starEach [b] X.env = (false, eval b X.env) :: starEach [] X.env := by rfl) (hpl : (backTo pos (starEach [b] X.env)).any (·.1) = false := by rfl) : EvQ C X (.Call (.Name "min" p) [a, b] [] pos) S Q := fun tmp σ H F s R r =>
  of_pe (pe_callB (call_min2 hc) hg hm boot_min (pa_cons pe_can (pa_cons pe_can pa_nil he2) he) (he := he) (hpl := hpl)) (h tmp σ H F s _ fun v H1 F1 d S1 s1 e1 r1 q1 => q1 tmp σ H1 F1 s1 _ fun u H2 F2 d2 S2 s2 e2 r2 ⟨i, j, hd, hd2, q⟩ => by
    subst hd; subst hd2; cases r1; cases r2
    have e : (if j < i then j else i) = min i j := by split <;> omega
    exact ⟨i, j, rfl, by rw [e]; exact r _ H2 F2 (.int _) S2 s2 (Same.trans e1 e2) (.int _) q⟩)
end
end Dm

namespace L2
open PySem PySem.Spec PyProof.Rows PySem.SeqAt
/-- the least, or d -/
def leastOr (d : Int) : List Int → Int
  | [] => d
  | y :: ys => ys.foldl min y
section
variable {X : Cx}
theorem alike_ints (ns : List Int) : PySem.W.AlikeAll (ns.map PyData.int) := by
  refine ⟨fun x hx y hy => ?_, fun x hx => ?_⟩
  · obtain ⟨i, _, rfl⟩ := List.mem_map.mp hx
    obtain ⟨j, _, rfl⟩ := List.mem_map.mp hy
    rfl
  · obtain ⟨i, _, rfl⟩ := List.mem_map.mp hx
    exact fun z => by cases z
/-- min(t, default=d), t a tuple of ints -/
theorem cr_minTD (hc : X.calm = true) (hu : X.A.units + 64 < cLine) : CallRK X (.builtin "min") [Str.ofString "default"] (fun vs zs H Q => ∃ (a : Addr) (ns : List Int) (d : Int), vs = [V.ref a] ∧ zs = [V.int d] ∧ SqT X.K H a (ns.map V.int) ∧ Q (.int (leastOr d ns)) H) := by
  intro pins s σ H xs zs us ws Q I r rz h
  obtain ⟨a, ns, d, rfl, rfl, hs, q⟩ := h
  obtain ⟨its, rv, pl, _⟩ := I.tuple hs
  rw [Vals.ref1 r]
  obtain ⟨u, rfl, t, rfl⟩ := vals1 rz
  have rd := PySem.W.readsAll_of_ints (h := s.heap) rv.ints
  have dp := PySem.W.depthAll_ints ns
  refine PySem.W.min_tuple_default (I.ok.hd hc) pl (xs := ns.map PyData.int) (by simpa using rd) (alike_ints ns) (by omega) (fun e h' tk keep => ?_) fun y ys i v h' tk bs e hv rr keep => ?_
  · have : ns = [] := List.map_eq_nil_iff.mp e
    subst this
    exact ⟨.int d, H, I.kept keep, ⟨t, rfl⟩, q⟩
  · cases ns with
    | nil => cases e
    | cons n ns =>
      rw [List.map_cons] at e
      injection e with e1 e2
      subst e1; subst e2
      rw [PySem.W.minD_ints] at rr
      cases rr with
      | int i t' => exact ⟨.int _, H, I.kept keep, ⟨t', rfl⟩, q⟩
end
end L2
namespace Dm
open PySem PySem.Spec PyProof.Rows L2
open GxR (TabB TabG Tabbed)
section
variable {C : Cfg} {X : Cx} {S : SD} {e a b c : Expr} {es : List Expr} {Q : D → SD → Prop} {tmp : Tmp} {σ : L2.St} {H F : Hp}
/-- min(t, default=d) -/
theorem ev_minD {k : Nat} {p pos kpos : Pos} (hr : Room k X.A) (hm : X.mg "min" = none) (h : EvQ C X a S fun d S1 => EvQ C X b S1 fun d2 S2 => ∃ (ns : List Int) (i : Int), d = .tup (ns.map D.int) ∧ d2 = .int i ∧ Q (.int (leastOr i ns)) S2) (hg : Gl X "min" := by rfl) (hK : C.K = X.K := by rfl) (hc : X.calm = true := by rfl)
    (he : backTo pos (starEach [a] X.env) = (false, eval a X.env) :: backTo pos (starEach [] X.env) := by rfl) (he' : starEach [a] X.env = (false, eval a X.env) :: starEach [] X.env := by rfl) (hpl : (backTo pos (starEach [a] X.env)).any (·.1) = false := by rfl)
    (hall : (backToKw pos (keywordEach [⟨some "default", b, kpos⟩] X.env)).all (·.1.isSome) = true := by rfl) (hnone : (backToKw pos (keywordEach [⟨some "default", b, kpos⟩] X.env)).any (·.1.isNone) = false := by rfl) (hks : (backToKw pos (keywordEach [⟨some "default", b, kpos⟩] X.env)).filterMap (·.1) = [Str.ofString "default"] := by rfl) :
    EvQ C X (.Call (.Name "min" p) [a] [⟨some "default", b, kpos⟩] pos) S Q := fun tmp σ H F s R r =>
  of_pe (pe_callBK (cr_minTD hc hr.units) hg hm boot_min (pa_cons pe_can pa_nil he') (pk_cons pe_can pk_nil) (he := he) (hpl := hpl) (hall := hall) (hnone := hnone) (hks := hks)) (h tmp σ H F s _ fun v H1 F1 d S1 s1 e1 r1 q1 => q1 tmp σ H1 F1 s1 _ fun u H2 F2 d2 S2 s2 e2 r2 ⟨ns, i, hd, hd2, q⟩ => by
    subst hd; subst hd2
    cases r2
    obtain ⟨p, vs, rfl, hs, rr⟩ := rep_tup s2 (r1.mono e2)
    obtain rfl := reps_ints rr
    rw [← hK]
    exact ⟨p, ns, i, rfl, rfl, hs, r _ H2 F2 (.int _) S2 s2 (Same.trans e1 e2) (.int _) q⟩)
/-- sorted(xs), xs a list of ints -/
theorem el_sortedI {p pos : Pos} {Q : List D → SD → Prop} (hm : X.mg "sorted" = none) (h : EvP C X a S fun pd S1 => ∃ ns : List Int, isTupP pd = false ∧ pd.seq S1 = some (ns.map D.int) ∧ ns.length < 64 ∧ ∀ ns' : List Int, ns'.Perm ns → ns'.Pairwise (· ≤ ·) → Q (ns'.map D.int) S1) (hg : Gl X "sorted" := by rfl) (hK : C.K = X.K := by rfl)
    (he : starEach [a] X.env = (false, eval a X.env) :: starEach [] X.env := by rfl) : EvL C X (.Call (.Name "sorted" p) [a] [] pos) S Q := fun tmp σ H F s R r =>
  of_pe (pe_callB cr_sorted hg hm boot_sorted (pa_cons pe_can pa_nil he) (he := he)) (h tmp σ H F s _ fun v H1 F1 pd S1 s1 e1 r1 ⟨ns, ht, hs, hl, q⟩ => by
    obtain ⟨p, vs, rfl, hq, rr⟩ := rep_lstP s1 r1 hs ht
    obtain rfl := reps_ints rr
    refine ⟨p, ns, rfl, .inl (.inl hq), hl, fun ns' l hp ho hl => ?_⟩
    have n := s1.noOwn hl
    exact r l _ _ F1 (ns'.map D.int) S1 (s1.grew fun b u z => by rw [upd_ne (ne_of_none z hl)]; exact z) e1 (s1.freshF hl) (s1.fresh0 hl) upd_same n.1 n.2 (reps_mk ns') (q ns' hp ho))
/-- a, b, .. = a list -/
theorem as_lst {es : List Expr} {n k : Nat} {pos : Pos} {xs : List D} {Q : SD → Prop} (h : AsQs C X es xs S Q) (hl : xs.length = n) (hK : C.K = X.K := by rfl) (hc : X.calm = true := by rfl) (hn : (assignEach es X.env).length = n := by rfl) (hst : (assignEach es X.env).findIdx? (·.1) = none := by rfl) : AsQ C X (.Tuple es k pos) (.lst xs) S Q := fun tmp σ H F v s r R w => by
  cases r with
  | lst hq rs =>
    rename_i a vs
    exact of_pg (pg_lst hc pgs_can hn hst) ⟨a, vs, rfl, .inl (.inl (s.base.sub _ _ hq)), by rw [rs.length]; exact hl, h tmp σ H F vs s rs R w⟩
end
end Dm

namespace Tx
open PySem PySem.Spec PyProof.Rows L2 Gx
/-- its object is known whole -/
def Whole (K : PySem.W.Frag) (x : V) (H : Hp) : Prop := ∃ a o, x = .ref a ∧ ((∃ u, H a = some (.frz o u)) ∨ K.lookup a = some o) ∧ FT o
section
variable {X : Cx} {o e : Expr} {es : List Expr} {to : TE} {t : TA} {name : Str} {apos cpos : Pos} {id : String} {r : V → List V → Hp → VK → Prop}
theorem whole_is {pins : List (Addr × Obj)} {σ : L2.St} {H : Hp} {s : Shared} {x : V} {v : Value} (I : Inv X pins σ H s) (r : RelV x v) (w : Whole X.K x H) : s.TypeIs v "tuple" ∧ ∀ a, v = .ref a → ∃ ob, s.heap.get? a = some ob ∧ ob.dict = none := by
  obtain ⟨a, ob, rfl, h, c, d⟩ := w
  cases r
  have g : s.heap.get? a = some ob := by
    rcases h with ⟨u, h⟩ | h
    · exact (I.hok a _ h).1
    · exact I.kIn a ob h
  exact ⟨⟨ob, g, c⟩, fun b e => by cases e; exact ⟨ob, g, d⟩⟩
def tMet (K : PySem.W.Frag) (r : V → List V → Hp → VK → Prop) (to : TE) (t : TA) : TE := fun σ H Q => to σ H fun x H1 => Whole K x H1 ∧ t σ H1 fun xs H2 => r x xs H2 Q
theorem pe_tm (slot : Slot "tuple" name id) (hty : typeOf (.builtin id) = pure (.type "method_descriptor")) (hm : MtR X id r) (ho : PE X o to) (ha : PA X (e :: es) t)
    (hbase : attributeBase o name X.env (eval o X.env) = eval o X.env := by rfl)
    (hfew : ((backTo cpos (starEach (e :: es) X.env)).all (fun x => !x.1) && (backToKw cpos (keywordEach [] X.env)).all (fun x => x.1.isSome)
      && decide ((e :: es).length + ([] : List Keyword).length + (if ([] : List Keyword).isEmpty then 0 else 1) < 30)) = true := by rfl)
    (hline : (apos.endLine == cpos.line) = true := by rfl) (hs : starEach (e :: es) X.env = (false, eval e X.env) :: starEach es X.env := by rfl) (hplain : (backTo cpos (starEach es X.env)).any (·.1) = false := by rfl) :
    PE X (.Call (.Attribute o name apos) (e :: es) [] cpos) (tMet X.K r to t) := by
  refine ⟨fun pins s σ H Q I h => wpAny_Call_method_late hbase hfew hline rfl (thn (ho.run pins s σ H _ I h) fun v s1 ⟨x, H1, I1, r1, ty, q1⟩ => ?_)⟩
  have k := whole_is I1 r1 ty
  refine ⟨"tuple", id, PySem.F.plainAttrs_tuple, slot, hty, k.1, k.2, ?_⟩
  have args := ha.run cpos pins s1 σ H1 _ I1 q1
  rw [hs] at args ⊢
  have none' : ((false, eval e X.env) :: starEach es X.env |> backTo cpos).any (·.1) = false := by
    show (false || (backTo cpos (starEach es X.env)).any (·.1)) = false
    rw [hplain]
    rfl
  exact Calls.callWith_builtin none' (Calls.evalArgs_plain (thn args fun us s2 ⟨vs, H2, I2, r2, q2⟩ => hm pins s2 σ H2 x vs v us Q I2 r1 r2 q2))
end
end Tx
namespace Dm
open PySem PySem.Spec PyProof.Rows L2
open GxR (TabB TabG Tabbed)
section
variable {C : Cfg} {X : Cx} {S : SD} {e a b c : Expr} {es : List Expr} {Q : D → SD → Prop} {tmp : Tmp} {σ : L2.St} {H F : Hp}
theorem rep_whole {v : V} {xs : List D} (s : Stt C S tmp σ H F) (r : Rep C.K C.st F v (.tup xs)) : Tx.Whole C.K v H := by
  cases r with
  | tup h r =>
    rcases h.2 with ⟨o, h1, h2⟩ | ⟨o, h1, h2⟩
    · exact ⟨_, o, rfl, .inl ⟨_, s.base.sub _ _ h1⟩, h2⟩
    · exact ⟨_, o, rfl, .inr h1, h2⟩
/-- where a text stands first -/
theorem first_at {z : Str} : ∀ {zs : List Str}, z ∈ zs → ∃ j : Nat, zs[j]? = some z ∧ ∀ m : Nat, m < j → zs[m]? ≠ some z
  | y :: ys, h => by
    by_cases e : y = z
    · exact ⟨0, by rw [e]; rfl, fun m hm => by omega⟩
    · obtain ⟨j, h1, h2⟩ := first_at (zs := ys) (by
        rcases List.mem_cons.mp h with q | q
        · exact absurd q.symm e
        · exact q)
      refine ⟨j + 1, by simpa using h1, fun m hm => ?_⟩
      cases m with
      | zero => simpa using e
      | succ m => simpa using h2 m (by omega)
/-- t.index(z), t a tuple of texts -/
theorem ev_tindex {p apos cpos : Pos} {x : Str} {i : Nat} {zs : List Str} (hS : S[i]? = some (Slot.val (.tup (zs.map D.str)))) (h : EvQ C X b S fun d2 S2 => ∃ (z : Str) (j : Nat), d2 = .str z ∧ zs[j]? = some z ∧ (∀ m : Nat, m < j → zs[m]? ≠ some z) ∧ Q (.int (j : Nat)) S2) (hN : X.N[i]? = some x := by rfl)
    (hv : Vis X.env.scope x := by first | exact Or.inl rfl | exact Or.inr (Or.inl rfl) | exact Or.inr (Or.inr rfl)) (hd : (x == ("__debug__" : Str)) = false := by decide) (hcd : (x == ("__classdict__" : Str)) = false := by decide)
    (hbase : attributeBase (.Name x p) "index" X.env (eval (.Name x p) X.env) = eval (.Name x p) X.env := by rfl)
    (hfew : ((backTo cpos (starEach [b] X.env)).all (fun x => !x.1) && (backToKw cpos (keywordEach [] X.env)).all (fun x => x.1.isSome)
      && decide (([b] : List Expr).length + ([] : List Keyword).length + (if ([] : List Keyword).isEmpty then 0 else 1) < 30)) = true := by rfl)
    (hline : (apos.endLine == cpos.line) = true := by rfl) (hs : starEach [b] X.env = (false, eval b X.env) :: starEach [] X.env := by rfl) (hplain : (backTo cpos (starEach [] X.env)).any (·.1) = false := by rfl) (hK : C.K = X.K := by rfl) :
    EvQ C X (.Call (.Attribute (.Name x p) "index" apos) [b] [] cpos) S Q := fun tmp σ H F s R r =>
  of_pe (Tx.pe_tm PySem.F.slot_tuple_index PySem.F.type_tuple_index mt_tup_index (pe_var hN hv hd hcd) (pa_cons pe_can pa_nil hs) hbase hfew hline hs hplain) (by
    obtain ⟨v, h1, h2⟩ := s.val i _ hS
    refine ⟨v, h1, by rw [← hK]; exact rep_whole s h2, h tmp σ H F s _ fun u H2 F2 d2 S2 s2 e2 r2 ⟨z, j, hd2, hz, hno, q⟩ => ?_⟩
    subst hd2
    cases r2
    obtain ⟨a, vs, rfl, hq, rr⟩ := rep_tup s2 (h2.mono e2)
    obtain rfl := reps_strs rr
    rw [← hK]
    exact ⟨a, zs, z, j, rfl, rfl, hq, hz, hno, r _ H2 F2 (.int _) S2 s2 e2 (.int _) q⟩)
end
end Dm

namespace Dm
open PySem PySem.Spec PyProof.Rows L2
open GxR (TabB TabG Tabbed)
section
variable {C : Cfg} {X : Cx} {S : SD} {e a b c : Expr} {es : List Expr} {Q : D → SD → Prop} {tmp : Tmp} {σ : L2.St} {H F : Hp}
def isNon : D → Bool
  | .non => true
  | _ => false
theorem non_iff {v : V} {d : D} (r : Rep C.K C.st F v d) : decide (v = .non) = isNon d := by
  cases r <;> simp [isNon]
theorem ec_isN {Q : Bool → SD → Prop} {j pos' pos} (h : EvQ C X a S fun d S1 => Q (isNon d) S1) : EvC C X (.Compare a [.Is] [.Constant .none j pos'] pos) S Q := fun tmp σ H F s R w =>
  of_pt (pt_cmp (pc_isN pe_can)) (h tmp σ H F s _ fun v H1 F1 d S1 s1 e1 r1 q => ⟨_, rfl, by rw [non_iff r1]; exact w _ H1 F1 S1 s1 e1 q⟩)
theorem ev_isN {j pos' pos} (h : EvQ C X a S fun d S1 => Q (.bl (isNon d)) S1) : EvQ C X (.Compare a [.Is] [.Constant .none j pos'] pos) S Q := fun tmp σ H F s R w =>
  of_pe (pe_cmp (pc_isN pe_can)) (h tmp σ H F s _ fun v H1 F1 d S1 s1 e1 r1 q => by rw [non_iff r1]; exact w _ H1 F1 _ S1 s1 e1 (.bl _) q)
theorem reps_bls {K : PySem.W.Frag} {st : Addr} {F : Hp} : ∀ {zs : List Bool} {vs : List V}, Reps K st F vs (zs.map D.bl) → vs = zs.map V.bl
  | [], _, .nil => rfl
  | z :: zs, _, .cons h t => by
    cases h
    rw [reps_bls t]
    rfl
/-- all(xs), xs a list of bools -/
theorem ev_allL {p pos : Pos} (hm : X.mg "all" = none) (h : EvP C X a S fun pd S1 => ∃ bs : List Bool, isTupP pd = false ∧ pd.seq S1 = some (bs.map D.bl) ∧ Q (.bl (bs.all id)) S1) (hg : Gl X "all" := by rfl) (hK : C.K = X.K := by rfl) (hc : X.calm = true := by rfl)
    (he : starEach [a] X.env = (false, eval a X.env) :: starEach [] X.env := by rfl) : EvQ C X (.Call (.Name "all" p) [a] [] pos) S Q := fun tmp σ H F s R r =>
  of_pe (pe_callB (cr_all hc) hg hm boot_all (pa_cons pe_can pa_nil he) (he := he)) (h tmp σ H F s _ fun v H1 F1 pd S1 s1 e1 r1 ⟨bs, ht, hs, q⟩ => by
    obtain ⟨p, vs, rfl, hq, rr⟩ := rep_lstP s1 r1 hs ht
    obtain rfl := reps_bls rr
    exact ⟨p, bs, rfl, .inl (.inl hq), r _ H1 F1 (.bl _) S1 s1 e1 (.bl _) q⟩)
theorem bls_of {p : Nat → Bool} : ∀ {acc : List D}, (∀ (i : Nat) (t : D), acc[i]? = some t → t = .bl (p i)) → acc = ((List.range acc.length).map p).map D.bl := by
  intro acc h
  apply List.ext_getElem?
  intro i
  by_cases hi : i < acc.length
  · rw [List.getElem?_eq_getElem hi, h i acc[i] (List.getElem?_eq_getElem hi), List.getElem?_map, List.getElem?_map, List.getElem?_range hi]
    rfl
  · rw [List.getElem?_eq_none (by omega), List.getElem?_eq_none (by simp; omega)]
end
end Dm

namespace Tx
open PySem PySem.Spec PyProof.Rows L2 Gx
section
variable {P : Program} {w : World} {A : Around} {E : Value → Shared → Prop} {s : Shared}
theorem places_back (n : Nat) : Builtin.Slice.slicePlaces ((n : Int) - 1) (-1) (-1) = n := by
  unfold Builtin.Slice.slicePlaces
  rw [if_neg (show ¬ (-1 : Int) > 0 by decide)]
  by_cases h : (n : Int) - 1 > -1
  · rw [if_pos h]
    have e : ((n : Int) - 1 - -1 - 1) / -(-1) + 1 = n := by rw [Int.neg_neg, Int.ediv_one]; omega
    rw [e]
    rfl
  · rw [if_neg h]
    have : n = 0 := by omega
    rw [this]
    rfl
theorem fm_same {α β : Type} {f g : α → Option β} : ∀ {l : List α}, (∀ k ∈ l, f k = g k) → l.filterMap f = l.filterMap g
  | [], _ => rfl
  | a :: l, h => by rw [List.filterMap_cons, List.filterMap_cons, h a List.mem_cons_self, fm_same fun k hk => h k (List.mem_cons_of_mem _ hk)]
theorem pick_back (xs : Array Value) : ((List.range xs.size).filterMap fun (k : Nat) => xs[((xs.size : Int) - 1 + (k : Int) * -1).toNat]?).toArray = xs.toList.reverse.toArray := by
  congr 1
  have e : ∀ k ∈ List.range xs.size, xs[((xs.size : Int) - 1 + (k : Int) * -1).toNat]? = xs.toList.reverse[k]? := fun k hk => by
    have hk := List.mem_range.mp hk
    have z : ((xs.size : Int) - 1 + (k : Int) * -1).toNat = xs.size - 1 - k := by omega
    rw [z, List.getElem?_reverse (by simpa using hk)]
    simp
  rw [fm_same e]
  have := PySem.W.krv_all xs.toList.reverse.toArray
  simpa using this
theorem get_back {t sl : Addr} {items : Array Value} {vl vu vs : Value} {Q : Value → Shared → Prop} (ht : IsTup s.heap t items) (hs : s.heap.IsSliceOf sl vl vu vs) (pl : IsPart vl none) (pu : IsPart vu none) (ps : IsPart vs (some (-1)))
    (hz : items.size ≤ sizeLine) (h : Q (.ref s.heap.objs.size) { s with heap := s.heap.push { cls := .type "tuple", data := .seq items.toList.reverse.toArray } }) : wpAny (model P w) A (getItem (.ref t) (.ref sl)) Q E s := by
  cases pl
  cases pu
  have fit : sizeOk (.seq items.toList.reverse.toArray) := by
    show items.toList.reverse.toArray.size ≤ sizeLine
    simpa using hz
  have kind : s.TypeIs (.ref sl) "slice" := by obtain ⟨o, h1, h2, _⟩ := id hs; exact ⟨o, h1, h2⟩
  have read : ∀ {A' : Around} {E' : _} {R : Int × Int × Nat → Shared → Prop}, R ((items.size : Int) - 1, -1, items.size) s → wpAny (model P w) A' (Builtin.Slice.sliceApplied (.ref sl) (pure (items.size : Int))) R E' s := fun {A' E' R} q => by
    obtain ⟨o, h1, h2, h3⟩ := id hs
    unfold Builtin.Slice.sliceApplied Builtin.Slice.sliceFields
    refine wpAny_bind (wpAny_bind (wpAny_field h1 h3 (x := .none) rfl (wpAny_bind (wpAny_field h1 h3 (x := .none) rfl (wpAny_bind (wpAny_field h1 h3 (x := vs) rfl (wpAny_pure ?_)))))))
    refine wpAny_bind (HT.slicePart_ ps ?_)
    show wpAny _ _ (if ((-1 : Int) == 0) = true then _ else _) _ _ s
    rw [if_neg (show ¬ ((-1 : Int) == 0) = true by decide)]
    refine wpAny_bind (HT.slicePart_ .none (wpAny_bind (HT.slicePart_ .none (wpAny_bind (wpAny_pure ?_)))))
    show wpAny _ _ (pure ((items.size : Int) - 1, (-1 : Int), Builtin.Slice.slicePlaces ((items.size : Int) - 1) (-1) (-1))) _ _ s
    rw [places_back]
    exact wpAny_pure q
  unfold getItem
  try with_reducible refine wpAny_holding ?_
  first | refine wpAny_bind (wpAny_pure ?_) | skip
  refine wpAny_bind (wpAny_sequenceKey ht.typeIs (by decide) (wpAny_bind (wpAny_callSpecial?_slot (name := Str.ofString "__getitem__") ht.typeIs PyProof.Rows.slot_tuple_getitem (wpAny_call_entry PyProof.Rows.slot_tuple_getitem ht.typeIs entry_tuple_getitem ?_ (args_tuple_getitem _ _)))))
  show wpAny _ _ (Builtin.Tuple.tupleItemsOf (.ref t) >>= _) _ _ s
  refine wpAny_bind (tupleItemsOf_ ht (wpAny_bind (wpAny_typeOf kind ?_)))
  rw [if_pos (show (Value.type "slice" == .type "slice") = true by decide)]
  refine wpAny_bind (read ?_)
  have part : ¬ ((((items.size : Int) - 1 == 0) && ((-1 : Int) == 1) && (items.size == items.size)) = true) := fun q => by
    rw [Bool.and_eq_true, Bool.and_eq_true] at q
    exact absurd q.1.2 (by decide)
  show wpAny _ _ (if (((items.size : Int) - 1 == 0) && ((-1 : Int) == 1) && (items.size == items.size)) = true then _ else _) _ _ s
  rw [if_neg part, pick_back]
  first
    | exact wpAny_bind (m := Builtin.Tuple.tupleExact _) (wpAny_newObj_type (wpAny_pure ⟨_, rfl, wpAny_pure h⟩) fit)
    | exact wpAny_bind (wpAny_bind (m := Builtin.Tuple.tupleExact _) (wpAny_newObj_type (wpAny_pure (wpAny_pure ⟨_, rfl, wpAny_pure h⟩)) fit))
    | exact wpAny_bind (wpAny_bind (m := Builtin.Tuple.tupleExact _) (wpAny_newObj_type (wpAny_pure ⟨_, rfl, wpAny_pure h⟩) fit))
end
section
variable {X : Cx} {e : Expr} {te : TE}
def tBack (K : PySem.W.Frag) (te : TE) : TE := fun σ H Q => te σ H fun x H1 => ∃ a xs, x = .ref a ∧ SqT K H1 a xs ∧ New H1 Q xs.reverse
theorem pe_back {k : Nat} {p1 p2 p3 pos : Pos} (he : PE X e te) : PE X (.Subscript e (.Slice none none (some (.UnaryOp .USub (.Constant (.int 1) k p1) p2)) p3) pos) (tBack X.K te) := by
  refine ⟨fun pins s σ H Q I h => Subscript_ (thn (he.run pins s σ H _ I h) fun v s1 ⟨x, H1, I1, r1, a, xs, ex, hx, q⟩ => ?_)⟩
  subst ex
  cases r1
  have third : PO X (some (.UnaryOp .USub (.Constant (.int 1) k p1) p2)) (tPart (tUn (rU fun i => .int (-i)) (tC (.int 1)))) := po_some (pe_un un_neg pe_int)
  refine wpAny_Slice (thn (po_none.run pins s1 σ H1 (fun o Z => o = none ∧ Z = H1) I1 ⟨rfl, rfl⟩) fun vl s2 ⟨l, H2, I2, pl, el, e2⟩ => ?_)
  obtain rfl := el
  obtain rfl := e2
  refine thn (po_none.run pins s2 σ H2 (fun o Z => o = none ∧ Z = H2) I2 ⟨rfl, rfl⟩) fun vu s3 ⟨u, H3, I3, pu, eu, e3⟩ => ?_
  obtain rfl := eu
  obtain rfl := e3
  refine thn (third.run pins s3 σ H3 (fun o Z => o = some (-1) ∧ Z = H3) I3 ⟨1, rfl, -1, rfl, rfl, rfl⟩) fun vs s4 ⟨o, H4, I4, ps, eo, e4⟩ => ?_
  obtain rfl := eo
  obtain rfl := e4
  have I5 : Inv X pins σ H4 { s4 with heap := s4.heap.push { cls := .type "slice", data := .fields #[vl, vu, vs] } } := I4.kept (t' := s4.toks) fun _ _ z => Heap.get?_push_of_some _ z
  obtain ⟨its, r, ht, hz⟩ := I5.tuple hx
  have hlen := r.length
  show wpAny (model X.prog X.w) X.A (subscriptTail e (.Slice none none (some (.UnaryOp .USub (.Constant (.int 1) k p1) p2)) p3) (.ref a) (.ref s4.heap.objs.size)) (EP X pins σ Q) X.xe { s4 with heap := s4.heap.push { cls := .type "slice", data := .fields #[vl, vu, vs] } }
  refine tail_any (ops := [.ref a, .ref s4.heap.objs.size]) ht.typeIs (PyProof.Rows.slot_tuple_getitem.lookup) (get_back ht (Heap.IsSliceOf.new _ vl vu vs) pl pu ps (by rw [List.size_toArray]; omega) ?_) (by with_unfolding_all rfl)
  exact put I5 r.reverse (by rw [List.length_reverse]; exact hz) q (t := s4.toks)
end
end Tx
namespace Dm
open PySem PySem.Spec PyProof.Rows L2
section
variable {C : Cfg} {X : Cx} {S : SD} {e a b c : Expr} {es : List Expr} {Q : D → SD → Prop} {tmp : Tmp} {σ : L2.St} {H F : Hp}
theorem Reps.reverse {K : PySem.W.Frag} {st : Addr} : ∀ {vs : List V} {xs : List D}, Reps K st F vs xs → Reps K st F vs.reverse xs.reverse
  | _, _, .nil => .nil
  | _, _, .cons h t => by
    rw [List.reverse_cons, List.reverse_cons]
    exact (Reps.reverse t).append (.cons h .nil)
/-- t[::-1] -/
theorem ev_back {k : Nat} {p1 p2 p3 pos : Pos} (h : EvQ C X a S fun x S1 => ∃ xs, x = .tup xs ∧ Q (.tup xs.reverse) S1) (hK : C.K = X.K := by rfl) : EvQ C X (.Subscript a (.Slice none none (some (.UnaryOp .USub (.Constant (.int 1) k p1) p2)) p3) pos) S Q := fun tmp σ H F s R r =>
  of_pe (Tx.pe_back pe_can) (h tmp σ H F s _ fun v H1 F1 x S1 s1 e1 r1 ⟨xs, ex, q⟩ => by
    subst ex
    cases r1 with
    | tup hq rr =>
      rename_i p vs
      refine ⟨p, vs, rfl, by rw [← hK]; exact Same.tup s1.base.sub hq.1, fun p' o hp ho => ?_⟩
      obtain ⟨s3, e3, r3⟩ := s1.newT hp ho rr.reverse
      exact r _ _ _ (.tup xs.reverse) S1 s3 (Same.trans e1 e3) r3 q)
end
end Dm

namespace Dm
open PySem PySem.Spec PyProof.Rows L2
open GxR (TabB TabG Tabbed)
section
variable {C : Cfg} {X : Cx} {S : SD} {e a b c elt iter tg : Expr} {es : List Expr} {Q : D → SD → Prop} {tmp : Tmp} {σ : L2.St} {H F : Hp} {QL : List D → SD → Prop}
/-! ### pairs that a walk hands out -/
theorem Stt.newW (s : Stt C S tmp σ H F) {p : Addr} {vs : List V} {xs : List D} (h : H p = none) (r : Reps C.K C.st F vs xs) :
    Stt C S tmp σ (upd H p (.tup vs)) (upd F p (.tup vs)) ∧ Same F (upd F p (.tup vs)) ∧ Rep C.K C.st (upd F p (.tup vs)) (.ref p) (.wt xs) :=
  ⟨s.newO h rfl, sameF (s.freshF h), .wt upd_same (r.mono (sameF (s.freshF h)))⟩
theorem as_wt {es : List Expr} {n k : Nat} {pos : Pos} {xs : List D} {Q : SD → Prop} (h : AsQs C X es xs S Q) (hl : xs.length = n) (hK : C.K = X.K := by rfl) (hc : X.calm = true := by rfl) (hn : (assignEach es X.env).length = n := by rfl) (hst : (assignEach es X.env).findIdx? (·.1) = none := by rfl) : AsQ C X (.Tuple es k pos) (.wt xs) S Q := fun tmp σ H F v s r R w => by
  cases r with
  | wt hq rs =>
    rename_i a vs
    exact of_pg (pg_tup hc pgs_can hn hst) ⟨a, vs, rfl, .inl (.inl (s.base.sub _ _ hq)), by rw [rs.length]; exact hl, h tmp σ H F vs s rs R w⟩
theorem asw_wt {vs : List Nat} {es : List Expr} {n k : Nat} {pos : Pos} {xs : List D} {Q : SD → Prop} (h : AsWs C X vs es xs S Q) (hl : xs.length = n) (hK : C.K = X.K := by rfl) (hc : X.calm = true := by rfl) (hn : (assignEach es X.env).length = n := by rfl) (hst : (assignEach es X.env).findIdx? (·.1) = none := by rfl) : AsW C X vs (.Tuple es k pos) (.wt xs) S Q := fun tmp σ H F v s r R w => by
  cases r with
  | wt hq rs =>
    rename_i a us
    exact of_pg (pg_tup hc pgs_can hn hst) ⟨a, us, rfl, .inl (.inl (s.base.sub _ _ hq)), by rw [rs.length]; exact hl, h tmp σ H F us s rs R w⟩
def zipD (xs ys : List D) : List D := List.zipWith (fun x y => D.wt [x, y]) xs ys
theorem zipD_get {xs ys : List D} {i : Nat} {z : D} (h : (zipD xs ys)[i]? = some z) : ∃ x y, xs[i]? = some x ∧ ys[i]? = some y ∧ z = .wt [x, y] := by
  unfold zipD at h
  rw [List.getElem?_zipWith] at h
  cases hx : xs[i]? with
  | none => rw [hx] at h; simp at h
  | some x =>
    cases hy : ys[i]? with
    | none => rw [hx, hy] at h; simp at h
    | some y => rw [hx, hy] at h; exact ⟨x, y, rfl, rfl, by simpa using h.symm⟩
theorem zipD_len (xs ys : List D) : (zipD xs ys).length = min xs.length ys.length := by unfold zipD; rw [List.length_zipWith]
theorem sem_zipT {p q : Addr} {vs us : List V} {xs ys : List D} (hp : SqT C.K F p vs) (hq : SqT C.K F q us) (rp : Reps C.K C.st F vs xs) (rq : Reps C.K C.st F us ys) : ItSem C (RZ.ItzT C.K p q) F (zipD xs ys) := fun i S tmp σ H F1 s e => by
  have h1 : SqT C.K H p vs := Same.tup (Same.trans e s.base.sub) hp
  have h2 : SqT C.K H q us := Same.tup (Same.trans e s.base.sub) hq
  refine ⟨fun x hx => ?_, fun hl => ⟨vs, us, h1, h2, ?_⟩⟩
  · obtain ⟨x1, x2, g1, g2, rfl⟩ := zipD_get hx
    obtain ⟨v1, g3, g4⟩ := rp.get g1
    obtain ⟨v2, g5, g6⟩ := rq.get g2
    refine ⟨⟨vs, us, v1, v2, h1, h2, g3, g5⟩, fun w H' ⟨T, w1, w2, z1, z2, z3, z4, z5⟩ => ?_⟩
    subst z1; subst z3
    have y1 := z4 vs h1
    rw [g3] at y1
    cases y1
    have y2 := z5 us h2
    rw [g5] at y2
    cases y2
    exact ⟨_, s.newW z2 (.cons (g4.mono e) (.cons (g6.mono e) .nil))⟩
  · rw [zipD_len] at hl
    rw [rp.length, rq.length]
    omega
theorem sem_zipL {p q : Addr} {vs us : List V} {xs ys : List D} (hp : F p = some (HO.lst vs)) (hq : F q = some (HO.lst us)) (rp : Reps C.K C.st F vs xs) (rq : Reps C.K C.st F us ys) : ItSem C (Itz C.K p q) F (zipD xs ys) := fun i S tmp σ H F1 s e => by
  have h1 : SqL C.K H p vs := .inl (.inl (s.base.sub _ _ (e _ _ hp)))
  have h2 : SqL C.K H q us := .inl (.inl (s.base.sub _ _ (e _ _ hq)))
  refine ⟨fun x hx => ?_, fun hl => ⟨vs, us, h1, h2, ?_⟩⟩
  · obtain ⟨x1, x2, g1, g2, rfl⟩ := zipD_get hx
    obtain ⟨v1, g3, g4⟩ := rp.get g1
    obtain ⟨v2, g5, g6⟩ := rq.get g2
    refine ⟨⟨vs, us, v1, v2, h1, h2, g3, g5⟩, fun w H' ⟨T, w1, w2, z1, z2, z3, z4, z5⟩ => ?_⟩
    subst z1; subst z3
    have y1 := z4 vs h1
    rw [g3] at y1
    cases y1
    have y2 := z5 us h2
    rw [g5] at y2
    cases y2
    exact ⟨_, s.newW z2 (.cons (g4.mono e) (.cons (g6.mono e) .nil))⟩
  · rw [zipD_len] at hl
    rw [rp.length, rq.length]
    omega
/-- zip of two tuples, of two lists -/
theorem it_zip {p pos tpos : Pos} {elts : List Expr} {kk : Nat} (hm : X.mg "zip" = none) (h : EvQ C X a S fun x S1 => EvQ C X b S1 fun y S2 => ∃ xs ys, ((x = .tup xs ∧ y = .tup ys) ∨ (x = .lst xs ∧ y = .lst ys)) ∧ QL (zipD xs ys) S2) (hg : Gl X "zip" := by rfl) (hK : C.K = X.K := by rfl)
    (hs : starEach [a, b] X.env = (false, eval a X.env) :: starEach [b] X.env := by rfl) (hs2 : starEach [b] X.env = (false, eval b X.env) :: starEach [] X.env := by rfl) (hpl : (backTo pos (starEach [b] X.env)).any (·.1) = false := by rfl) : ItQ C X (.Tuple elts kk tpos) (.Call (.Name "zip" p) [a, b] [] pos) S QL := fun tmp σ H F s R r =>
  of_pi (RZ.pi_zipA hg hm (pa_cons pe_can (pa_cons pe_can pa_nil hs2) hs) hs hpl) (h tmp σ H F s _ fun v H1 F1 d1 S1 s1 e1 r1 q1 => q1 tmp σ H1 F1 s1 _ fun u H2 F2 d2 S2 s2 e2 r2 ⟨xs, ys, hd, q⟩ => by
    have r1 := r1.mono e2
    rcases hd with ⟨rfl, rfl⟩ | ⟨rfl, rfl⟩
    · cases r1 with
      | tup hq1 rr1 =>
        cases r2 with
        | tup hq2 rr2 =>
          rename_i p1 vs p2 us
          rw [← hK]
          exact ⟨p1, p2, vs, us, rfl, .inr ⟨Same.tup s2.base.sub hq1.1, Same.tup s2.base.sub hq2.1, r _ H2 F2 _ S2 s2 (Same.trans e1 e2) (sem_zipT hq1.1 hq2.1 rr1 rr2) q⟩⟩
    · cases r1 with
      | lst hq1 rr1 =>
        cases r2 with
        | lst hq2 rr2 =>
          rename_i p1 vs p2 us
          rw [← hK]
          exact ⟨p1, p2, vs, us, rfl, .inl ⟨.inl (.inl (s2.base.sub _ _ hq1)), .inl (.inl (s2.base.sub _ _ hq2)), r _ H2 F2 _ S2 s2 (Same.trans e1 e2) (sem_zipL hq1 hq2 rr1 rr2) q⟩⟩)
/-! ### tuple(elt for tg in iter), tuple(elt for x in iter if test) -/
theorem ev_tupP (P : Nat → D → Prop) {scope : Scope} {gpos p pos : Pos} {own : List (Str × Nat)} {cc Pt : Addr} {k : Nat} (hr : Room (k + 4) X.A) (hm : X.mg "tuple" = none) (TB : TabB X.base X.mg cc Pt) (hP : Pt ∈ C.T) (hcode : X.env.code = .ref cc) (hN : X.N.Nodup)
    (ok : BlkOk X.N X.env.scope scope own) (hnc : ∀ y ∈ scope.names, y.2 ≠ .cell) (hdot : scope.names.lookup (".0" : Str) = some NameKind.local)
    (h : ItQ C X tg iter S fun xs S1 => xs.length ≤ 100000 ∧ (∀ (i : Nat) (y : D), xs[i]? = some y → ForQ X scope k fun X1 => AsW C X1 (own.map (·.2)) tg y (wipeS S1 (own.map (·.2))) fun S2 => ForQ X scope k fun X2 => EvQ C X2 elt S2 fun t S3 => wipeS S3 (own.map (·.2)) = wipeS S1 (own.map (·.2)) ∧ P i t) ∧
      ∀ acc : List D, acc.length = xs.length → (∀ (i : Nat) (t : D), acc[i]? = some t → P i t) → Q (.tup acc) (wipeS S1 (own.map (·.2))))
    (hg : Gl X "tuple" := by rfl) (hco : scope.isCoroutine = false := by rfl) (hs : ∀ v, genFold iter X.env v = pure v := by intro _; rfl)
    (he : starEach [.GeneratorExp elt [⟨tg, iter, [], 0⟩] scope gpos] X.env = (false, eval (.GeneratorExp elt [⟨tg, iter, [], 0⟩] scope gpos) X.env) :: starEach [] X.env := by rfl) : EvQ C X (.Call (.Name "tuple" p) [.GeneratorExp elt [⟨tg, iter, [], 0⟩] scope gpos] [] pos) S Q := by
  refine ev_tupG hr hm TB hP hcode hN ok hnc hdot (fun tmp σ H F s R r => h tmp σ H F s R fun J H' F' xs S1 s1 e1 sem ⟨h0, h1, h2⟩ => r J H' F' xs S1 s1 e1 sem ⟨fun i acc S2 => S2 = wipeS S1 (own.map (·.2)) ∧ acc.length = i ∧ i ≤ xs.length ∧ ∀ i t, acc[i]? = some t → P i t, ⟨rfl, rfl, Nat.zero_le _, fun i t e => by simp at e⟩, fun i y acc S' hy iv => ?_, fun acc S' iv => ?_⟩) hg hco hs he
  · obtain ⟨iv, hi, hi2, hPs⟩ := iv
    rw [iv]
    have hlt := (List.getElem?_eq_some_iff.mp hy).1
    intro a1 a2 a3 a4 a5 a6 a7 a8
    refine fun tmp σ H F v s r R w => h1 i y hy a1 a2 a3 a4 a5 a6 a7 a8 tmp σ H F v s r R fun σ3 H3 F3 S3 s3 e3 w3 q3 => w σ3 H3 F3 S3 s3 e3 w3 fun b1 b2 b3 b4 b5 b6 b7 b8 => ts_nil ⟨fun _ => ?_, fun h => by cases h⟩
    intro c1 c2 c3 c4 c5 c6 c7 c8
    refine ev_mono (q3 c1 c2 c3 c4 c5 c6 c7 c8) fun t S4 ⟨q1, q2⟩ => ⟨by omega, q1, by simp [hi], hlt, fun i' t' e => ?_⟩
    by_cases hl : i' < acc.length
    · rw [List.getElem?_append_left hl] at e
      exact hPs i' t' e
    · rw [List.getElem?_append_right (by omega)] at e
      have hz : i' - acc.length = 0 := by
        have := (List.getElem?_eq_some_iff.mp e).1
        simp at this
        omega
      rw [hz] at e
      cases e
      have : i' = i := by omega
      rw [this]
      exact q2
  · obtain ⟨iv, hi, hi2, hPs⟩ := iv
    rw [iv]
    exact ⟨by omega, h2 acc hi hPs⟩
theorem ev_tupF (f : D → Bool) (g : D → D) {x : Str} {tp : Pos} {test : Expr} {scope : Scope} {gpos p pos : Pos} {j : Nat} {cc Pt : Addr} {k : Nat} (hr : Room (k + 4) X.A) (hm : X.mg "tuple" = none) (TB : TabB X.base X.mg cc Pt) (hP : Pt ∈ C.T) (hcode : X.env.code = .ref cc) (hN : X.N.Nodup)
    (ok : BlkOk X.N X.env.scope scope [(x, j)]) (hnc : ∀ y ∈ scope.names, y.2 ≠ .cell) (hdot : scope.names.lookup (".0" : Str) = some NameKind.local)
    (h : ItQ C X (.Name x tp) iter S fun xs S1 => xs.length ≤ 100000 ∧ (∀ (i : Nat) (y : D), xs[i]? = some y → ForQ X scope k (fun X1 => EvC C X1 test (S1.set j (Slot.val y)) fun k S2 => k = f y ∧ S2 = S1.set j (Slot.val y)) ∧
        (f y = true → ForQ X scope k fun X1 => EvQ C X1 elt (S1.set j (Slot.val y)) fun t S2 => S2.set j Slot.none = S1.set j Slot.none ∧ t = g y)) ∧ Q (.tup ((xs.filter f).map g)) (S1.set j Slot.none))
    (hj : X.N[j]? = some x := by rfl) (hl : scope.names.lookup x = some .local := by decide +kernel)
    (hg : Gl X "tuple" := by rfl) (hco : scope.isCoroutine = false := by rfl) (hs : ∀ v, genFold iter X.env v = pure v := by intro _; rfl)
    (he : starEach [.GeneratorExp elt [⟨.Name x tp, iter, [test], 0⟩] scope gpos] X.env = (false, eval (.GeneratorExp elt [⟨.Name x tp, iter, [test], 0⟩] scope gpos) X.env) :: starEach [] X.env := by rfl) : EvQ C X (.Call (.Name "tuple" p) [.GeneratorExp elt [⟨.Name x tp, iter, [test], 0⟩] scope gpos] [] pos) S Q := by
  refine ev_tupG hr hm TB hP hcode hN ok hnc hdot (fun tmp σ H F s R r => h tmp σ H F s R fun J H' F' xs S1 s1 e1 sem ⟨h0, h1, h2⟩ => r J H' F' xs S1 s1 e1 sem ⟨fun i acc S2 => S2 = S1.set j Slot.none ∧ acc = ((xs.take i).filter f).map g, ⟨rfl, by simp⟩, fun i y acc S' hy iv => ?_, fun acc S' iv => ?_⟩) hg hco hs he
  · obtain ⟨iv, hi⟩ := iv
    rw [iv]
    have tk : xs.take (i + 1) = xs.take i ++ [y] := by rw [List.take_add_one, hy]; rfl
    obtain ⟨t1, t2⟩ := h1 i y hy
    have hlt := (List.getElem?_eq_some_iff.mp hy).1
    intro a1 a2 a3 a4 a5 a6 a7 a8
    refine asw_name hN ?_ (by simp) hj (.inl hl) (.inr hl)
    intro b1 b2 b3 b4 b5 b6 b7 b8
    rw [setset]
    refine ts_oneC (ec_mono (t1 b1 b2 b3 b4 b5 b6 b7 b8) fun kk S2 ⟨q1, q2⟩ => ?_)
    subst q1
    rw [q2]
    refine ⟨fun hk => ?_, fun hk => ⟨setset, by rw [tk, List.filter_append, List.filter_cons_of_neg (by rw [hk]; exact Bool.false_ne_true), List.filter_nil, List.append_nil]; exact hi⟩⟩
    intro c1 c2 c3 c4 c5 c6 c7 c8
    refine ev_mono (t2 hk c1 c2 c3 c4 c5 c6 c7 c8) fun t S3 ⟨q1, q2⟩ => ⟨?_, q1, ?_⟩
    · have l1 : acc.length ≤ (xs.take i).length := by rw [hi, List.length_map]; exact List.length_filter_le ..
      have l2 : (xs.take i).length ≤ i := by rw [List.length_take]; omega
      omega
    · rw [tk, List.filter_append, List.filter_cons_of_pos hk, List.filter_nil, List.map_append, ← hi, q2]
      rfl
  · obtain ⟨iv, hi⟩ := iv
    rw [iv, hi, List.take_length]
    have l1 : ((xs.filter f).map g).length ≤ xs.length := by rw [List.length_map]; exact List.length_filter_le ..
    exact ⟨by omega, h2⟩
/-! ### == of data -/
mutual
def pyD : D → PyData
  | .non => .none
  | .bl b => .bool b
  | .int i => .int i
  | .str z => .str z
  | .tup xs => .tuple (pyDs xs)
  | .lst xs => .list (pyDs xs)
  | .strm => .none
  | .wt xs => .tuple (pyDs xs)
def pyDs : List D → List PyData
  | [] => []
  | x :: xs => pyD x :: pyDs xs
end
/-- data of at most this depth, texts of proper signs -/
def okN : Nat → D → Bool
  | _, .non => true
  | _, .bl _ => true
  | _, .int _ => true
  | _, .str z => PyData.strOk z
  | n + 1, .tup xs => xs.all (okN n)
  | n + 1, .lst xs => xs.all (okN n)
  | _, _ => false
end
end Dm

namespace Dm
open PySem PySem.Spec PyProof.Rows L2
section
mutual
theorem okN_py : ∀ {d : D} {n : Nat}, okN n d = true → (pyD d).canLay0 = true ∧ (pyD d).depth ≤ n
  | .non, n, _ => ⟨by simp [pyD, PyData.canLay0], by simp [pyD, PyData.depth]⟩
  | .bl _, n, _ => ⟨by simp [pyD, PyData.canLay0], by simp [pyD, PyData.depth]⟩
  | .int _, n, _ => ⟨by simp [pyD, PyData.canLay0], by simp [pyD, PyData.depth]⟩
  | .str z, n, h => ⟨by simpa [pyD, PyData.canLay0, okN] using h, by simp [pyD, PyData.depth]⟩
  | .tup xs, 0, h => by simp [okN] at h
  | .tup xs, n + 1, h => by
    have h' : xs.all (okN n) = true := by simpa only [okN] using h
    obtain ⟨a, b⟩ := okN_pys h'
    exact ⟨by simpa [pyD, PyData.canLay0] using a, by simp only [pyD, PyData.depth]; omega⟩
  | .lst xs, 0, h => by simp [okN] at h
  | .lst xs, n + 1, h => by
    have h' : xs.all (okN n) = true := by simpa only [okN] using h
    obtain ⟨a, b⟩ := okN_pys h'
    exact ⟨by simpa [pyD, PyData.canLay0] using a, by simp only [pyD, PyData.depth]; omega⟩
  | .strm, n, h => by simp [okN] at h
  | .wt _, n, h => by simp [okN] at h
theorem okN_pys : ∀ {xs : List D} {n : Nat}, xs.all (okN n) = true → PyData.canLayAll0 (pyDs xs) = true ∧ PyData.depthAll (pyDs xs) ≤ n
  | [], n, _ => ⟨by simp [pyDs, PyData.canLayAll0], by simp [pyDs, PyData.depthAll]⟩
  | x :: xs, n, h => by
    rw [List.all_cons, Bool.and_eq_true] at h
    obtain ⟨a1, a2⟩ := okN_py h.1
    obtain ⟨b1, b2⟩ := okN_pys h.2
    exact ⟨by simp [pyDs, PyData.canLayAll0, a1, b1], by simp only [pyDs, PyData.depthAll]; omega⟩
end
theorem okN_shaped {d : D} {n : Nat} (h : okN n d = true) (hn : n ≤ 64) : SeqAt.shaped (pyD d) = true := by
  obtain ⟨a, b⟩ := okN_py h
  unfold SeqAt.shaped
  rw [a, decide_eq_true (Nat.le_trans b hn)]
  rfl
mutual
theorem eqv_self : ∀ {d : D}, PyData.eqv (pyD d) (pyD d) = true
  | .non => by simp [pyD, PyData.eqv]
  | .bl _ => by simp [pyD, PyData.eqv]
  | .int _ => by simp [pyD, PyData.eqv]
  | .str _ => by simp [pyD, PyData.eqv]
  | .tup xs => by simp only [pyD, PyData.eqv]; exact eqvs_self
  | .lst xs => by simp only [pyD, PyData.eqv]; exact eqvs_self
  | .strm => by simp [pyD, PyData.eqv]
  | .wt xs => by simp only [pyD, PyData.eqv]; exact eqvs_self
theorem eqvs_self : ∀ {xs : List D}, PyData.eqvAll (pyDs xs) (pyDs xs) = true
  | [] => by simp [pyDs, PyData.eqvAll]
  | x :: xs => by simp only [pyDs, PyData.eqvAll, eqv_self, eqvs_self, Bool.and_self]
end
/-- no bools -/
def okB : Nat → D → Bool
  | _, .non => true
  | _, .int _ => true
  | _, .str _ => true
  | n + 1, .tup xs => xs.all (okB n)
  | n + 1, .lst xs => xs.all (okB n)
  | _, _ => false
mutual
theorem eqv_iff : ∀ {d e : D} {n m : Nat}, okB n d = true → okB m e = true → PyData.eqv (pyD d) (pyD e) = true → d = e
  | .non, e, n, m, _, h, q => by cases e <;> first | rfl | (simp [okB] at h; done) | (simp [pyD, PyData.eqv] at q)
  | .int i, e, n, m, _, h, q => by
    cases e with
    | int j => simp [pyD, PyData.eqv] at q; rw [q]
    | strm => simp [okB] at h
    | bl b => simp [okB] at h
    | wt xs => simp [okB] at h
    | _ => simp [pyD, PyData.eqv] at q
  | .str i, e, n, m, _, h, q => by
    cases e with
    | str j => simp [pyD, PyData.eqv] at q; rw [q]
    | strm => simp [okB] at h
    | bl b => simp [okB] at h
    | wt xs => simp [okB] at h
    | _ => simp [pyD, PyData.eqv] at q
  | .tup xs, e, n, m, hd, h, q => by
    cases n with
    | zero => simp [okB] at hd
    | succ n =>
      cases e with
      | tup ys =>
        cases m with
        | zero => simp [okB] at h
        | succ m => exact congrArg D.tup (eqvs_iff (n := n) (m := m) (by simpa only [okB] using hd) (by simpa only [okB] using h) (by simpa only [pyD, PyData.eqv] using q))
      | strm => simp [okB] at h
      | bl b => simp [okB] at h
      | wt xs => simp [okB] at h
      | _ => simp [pyD, PyData.eqv] at q
  | .lst xs, e, n, m, hd, h, q => by
    cases n with
    | zero => simp [okB] at hd
    | succ n =>
      cases e with
      | lst ys =>
        cases m with
        | zero => simp [okB] at h
        | succ m => exact congrArg D.lst (eqvs_iff (n := n) (m := m) (by simpa only [okB] using hd) (by simpa only [okB] using h) (by simpa only [pyD, PyData.eqv] using q))
      | strm => simp [okB] at h
      | bl b => simp [okB] at h
      | wt xs => simp [okB] at h
      | _ => simp [pyD, PyData.eqv] at q
  | .bl _, _, n, _, h, _, _ => by simp [okB] at h
  | .strm, _, n, _, h, _, _ => by simp [okB] at h
  | .wt _, _, n, _, h, _, _ => by simp [okB] at h
theorem eqvs_iff : ∀ {xs ys : List D} {n m : Nat}, xs.all (okB n) = true → ys.all (okB m) = true → PyData.eqvAll (pyDs xs) (pyDs ys) = true → xs = ys
  | [], [], _, _, _, _, _ => rfl
  | [], _ :: _, _, _, _, _, q => by simp [pyDs, PyData.eqvAll] at q
  | _ :: _, [], _, _, _, _, q => by simp [pyDs, PyData.eqvAll] at q
  | x :: xs, y :: ys, n, m, h1, h2, q => by
    rw [List.all_cons, Bool.and_eq_true] at h1 h2
    simp only [pyDs, PyData.eqvAll, Bool.and_eq_true] at q
    rw [eqv_iff h1.1 h2.1 q.1, eqvs_iff h1.2 h2.2 q.2]
end
/-- == of data -/
def eqD (x y : D) : Bool := PyData.eqv (pyD x) (pyD y)
theorem eqD_self {x : D} : eqD x x = true := eqv_self
theorem eqD_iff {x y : D} {n m : Nat} (h1 : okB n x = true) (h2 : okB m y = true) : eqD x y = true ↔ x = y := ⟨eqv_iff h1 h2, fun e => by rw [e]; exact eqD_self⟩
theorem eqD_ne {x y : D} {n m : Nat} (h1 : okB n x = true) (h2 : okB m y = true) (h : x ≠ y) : eqD x y = false := by
  cases q : eqD x y with
  | false => rfl
  | true => exact absurd ((eqD_iff h1 h2).mp q) h
end
section
variable {C : Cfg} {X : Cx} {S : SD} {e a b c : Expr} {es : List Expr} {Q : D → SD → Prop} {tmp : Tmp} {σ : L2.St} {H F : Hp} {pos : Pos}
mutual
theorem dp_of (s : Same F H) : ∀ {d : D} {v : V} {n : Nat}, Rep C.K C.st F v d → okN n d = true → Dp C.K H v (pyD d)
  | _, _, _, .non, _ => by rw [pyD]; exact .non
  | _, _, _, .bl b, _ => by rw [pyD]; exact .bl b
  | _, _, _, .int i, _ => by rw [pyD]; exact .int i
  | _, _, _, .str z, _ => by rw [pyD]; exact .str z
  | _, _, 0, .tup h r, k => by simp [okN] at k
  | _, _, n + 1, .tup h r, k => by rw [pyD]; exact .tup (Same.tup s h.1) (dps_of s r (by simpa only [okN] using k))
  | _, _, 0, .lst h r, k => by simp [okN] at k
  | _, _, n + 1, .lst h r, k => by rw [pyD]; exact .lst (.inl (.inl (s _ _ h))) (dps_of s r (by simpa only [okN] using k))
  | _, _, n, .strm, k => by simp [okN] at k
  | _, _, n, .wt h r, k => by simp [okN] at k
theorem dps_of (s : Same F H) : ∀ {xs : List D} {vs : List V} {n : Nat}, Reps C.K C.st F vs xs → xs.all (okN n) = true → DpAll C.K H vs (pyDs xs)
  | _, _, _, .nil, _ => by rw [pyDs]; exact .nil
  | _, _, n, .cons h t, k => by
    rw [List.all_cons, Bool.and_eq_true] at k
    rw [pyDs]
    exact .cons (dp_of s h k.1) (dps_of s t k.2)
end
theorem ops_eqD {K : PySem.W.Frag} {x y : D} {n m : Nat} {Q : D → Prop} (hK : C.K = K) (h1 : okN n x = true) (h2 : okN m y = true) (hn : n ≤ 64) (hm : m ≤ 64) (q : Q (.bl (eqD x y))) : OpS C (rEqD K) x y Q := fun S tmp σ H F v u s r1 r2 R w => by
  rw [← hK]
  exact ⟨_, _, dp_of s.base.sub r1 h1, dp_of s.base.sub r2 h2, okN_shaped h1 hn, okN_shaped h2 hm, w _ H F _ s (Same.refl F) (.bl _) q⟩
theorem ops_neD {K : PySem.W.Frag} {x y : D} {n m : Nat} {Q : D → Prop} (hK : C.K = K) (h1 : okN n x = true) (h2 : okN m y = true) (hn : n ≤ 64) (hm : m ≤ 64) (q : Q (.bl (!eqD x y))) : OpS C (rNeD K) x y Q := fun S tmp σ H F v u s r1 r2 R w => by
  rw [← hK]
  exact ⟨_, _, dp_of s.base.sub r1 h1, dp_of s.base.sub r2 h2, okN_shaped h1 hn, okN_shaped h2 hm, w _ H F _ s (Same.refl F) (.bl _) q⟩
theorem ev_eqD {k : Nat} (hr : Room k X.A) (h : EvQ C X a S fun x S1 => EvQ C X b S1 fun y S2 => okN 8 x = true ∧ okN 8 y = true ∧ Q (.bl (eqD x y)) S2) (hK : C.K = X.K := by rfl) : EvQ C X (.Compare a [.Eq] [b] pos) S Q :=
  ev_cmp (op_eqD hr.units) (nomark _) (ev_mono h fun x S1 h1 => ev_mono h1 fun y S2 ⟨o1, o2, q⟩ => ops_eqD hK o1 o2 (by decide) (by decide) q)
theorem ev_neD {k : Nat} (hr : Room k X.A) (h : EvQ C X a S fun x S1 => EvQ C X b S1 fun y S2 => okN 8 x = true ∧ okN 8 y = true ∧ Q (.bl (!eqD x y)) S2) (hK : C.K = X.K := by rfl) : EvQ C X (.Compare a [.NotEq] [b] pos) S Q :=
  ev_cmp (op_neD hr.units) (nomark _) (ev_mono h fun x S1 h1 => ev_mono h1 fun y S2 ⟨o1, o2, q⟩ => ops_neD hK o1 o2 (by decide) (by decide) q)
theorem ec_eqD {k : Nat} {Q : Bool → SD → Prop} (hr : Room k X.A) (h : EvQ C X a S fun x S1 => EvQ C X b S1 fun y S2 => okN 8 x = true ∧ okN 8 y = true ∧ Q (eqD x y) S2) (hK : C.K = X.K := by rfl) : EvC C X (.Compare a [.Eq] [b] pos) S Q :=
  ec_cmp (op_eqD hr.units) (nomark _) (ev_mono h fun x S1 h1 => ev_mono h1 fun y S2 ⟨o1, o2, q⟩ => ops_eqD hK o1 o2 (by decide) (by decide) ⟨_, rfl, q⟩)
theorem ec_neD {k : Nat} {Q : Bool → SD → Prop} (hr : Room k X.A) (h : EvQ C X a S fun x S1 => EvQ C X b S1 fun y S2 => okN 8 x = true ∧ okN 8 y = true ∧ Q (!eqD x y) S2) (hK : C.K = X.K := by rfl) : EvC C X (.Compare a [.NotEq] [b] pos) S Q :=
  ec_cmp (op_neD hr.units) (nomark _) (ev_mono h fun x S1 h1 => ev_mono h1 fun y S2 ⟨o1, o2, q⟩ => ops_neD hK o1 o2 (by decide) (by decide) ⟨_, rfl, q⟩)
end
end Dm

namespace My
open PySem PySem.Spec PyProof.Rows L2 Dm
def topS (i : Nat) : Stmt := PySem.Challenge.pw_fewestrules_k09_forms_of_rules.main.body.getD i (.Pass ⟨0, 0, 0, 0⟩)
abbrev s_is_integer : Stmt := topS 4
abbrev n_is_integer : List Str := ["value"]
theorem sc_is_integer : FnScope n_is_integer ["value"] (defScope s_is_integer) := ⟨rfl, rfl, rfl, by decide +kernel, rfl, by decide +kernel, by decide +kernel⟩
abbrev s_is_integer_within : Stmt := topS 5
abbrev n_is_integer_within : List Str := ["value", "least", "most"]
theorem sc_is_integer_within : FnScope n_is_integer_within ["value", "least", "most"] (defScope s_is_integer_within) := ⟨rfl, rfl, rfl, by decide +kernel, rfl, by decide +kernel, by decide +kernel⟩
abbrev s_is_strength : Stmt := topS 6
abbrev n_is_strength : List Str := ["value"]
theorem sc_is_strength : FnScope n_is_strength ["value"] (defScope s_is_strength) := ⟨rfl, rfl, rfl, by decide +kernel, rfl, by decide +kernel, by decide +kernel⟩
abbrev s_is_letter : Stmt := topS 7
abbrev n_is_letter : List Str := ["value", "sign"]
theorem sc_is_letter : FnScope n_is_letter ["value"] (defScope s_is_letter) := ⟨rfl, rfl, rfl, by decide +kernel, rfl, by decide +kernel, by decide +kernel⟩
abbrev s_is_rule : Stmt := topS 12
abbrev n_is_rule : List Str := ["value", "side", "anchor", "strength", "letter"]
theorem sc_is_rule : FnScope n_is_rule ["value"] (defScope s_is_rule) := ⟨rfl, rfl, rfl, by decide +kernel, rfl, by decide +kernel, by decide +kernel⟩
abbrev s_is_rule_list : Stmt := topS 13
abbrev n_is_rule_list : List Str := ["value", "rule"]
theorem sc_is_rule_list : FnScope n_is_rule_list ["value"] (defScope s_is_rule_list) := ⟨rfl, rfl, rfl, by decide +kernel, rfl, by decide +kernel, by decide +kernel⟩
abbrev s__law_stream : Stmt := topS 15
abbrev n__law_stream : List Str := ["script"]
theorem sc__law_stream : FnScope n__law_stream ["script"] (defScope s__law_stream) := ⟨rfl, rfl, rfl, by decide +kernel, rfl, by decide +kernel, by decide +kernel⟩
abbrev s__law_next : Stmt := topS 16
abbrev n__law_next : List Str := ["stream", "many", "k", "cell", "digit"]
theorem sc__law_next : FnScope n__law_next ["stream", "many"] (defScope s__law_next) := ⟨rfl, rfl, rfl, by decide +kernel, rfl, by decide +kernel, by decide +kernel⟩
abbrev s__law_is_integer : Stmt := topS 17
abbrev n__law_is_integer : List Str := ["actual"]
theorem sc__law_is_integer : FnScope n__law_is_integer ["actual"] (defScope s__law_is_integer) := ⟨rfl, rfl, rfl, by decide +kernel, rfl, by decide +kernel, by decide +kernel⟩
abbrev s__law_equal : Stmt := topS 18
abbrev n__law_equal : List Str := ["actual", "due", "at"]
theorem sc__law_equal : FnScope n__law_equal ["actual", "due"] (defScope s__law_equal) := ⟨rfl, rfl, rfl, by decide +kernel, rfl, by decide +kernel, by decide +kernel⟩
abbrev s__law_names : Stmt := topS 19
abbrev n__law_names : List Str := ["stream", "pools"]
theorem sc__law_names : FnScope n__law_names ["stream"] (defScope s__law_names) := ⟨rfl, rfl, rfl, by decide +kernel, rfl, by decide +kernel, by decide +kernel⟩
abbrev s__law_shuffled : Stmt := topS 20
abbrev n__law_shuffled : List Str := ["stream", "names", "left", "found", "k"]
theorem sc__law_shuffled : FnScope n__law_shuffled ["stream", "names"] (defScope s__law_shuffled) := ⟨rfl, rfl, rfl, by decide +kernel, rfl, by decide +kernel, by decide +kernel⟩
abbrev s__law_order : Stmt := topS 21
abbrev n__law_order : List Str := ["stream", "names", "weak", "strengths", "k"]
theorem sc__law_order : FnScope n__law_order ["stream", "names"] (defScope s__law_order) := ⟨rfl, rfl, rfl, by decide +kernel, rfl, by decide +kernel, by decide +kernel⟩
abbrev s__law_difference : Stmt := topS 22
abbrev n__law_difference : List Str := ["order", "x", "y", "low", "high"]
theorem sc__law_difference : FnScope n__law_difference ["order", "x", "y"] (defScope s__law_difference) := ⟨rfl, rfl, rfl, by decide +kernel, rfl, by decide +kernel, by decide +kernel⟩
abbrev s__law_without : Stmt := topS 23
abbrev n__law_without : List Str := ["order", "letter", "letters", "one", "strengths", "k"]
theorem sc__law_without : FnScope n__law_without ["order", "letter"] (defScope s__law_without) := ⟨rfl, rfl, rfl, by decide +kernel, rfl, by decide +kernel, by decide +kernel⟩
abbrev s__law_put : Stmt := topS 24
abbrev n__law_put : List Str := ["order", "rule", "side", "anchor", "strength", "letter", "letters", "at", "place", "strengths"]
theorem sc__law_put : FnScope n__law_put ["order", "rule"] (defScope s__law_put) := ⟨rfl, rfl, rfl, by decide +kernel, rfl, by decide +kernel, by decide +kernel⟩
abbrev s__law_rule : Stmt := topS 25
abbrev n__law_rule : List Str := ["stream", "order", "more", "anchor", "others", "one", "letter"]
theorem sc__law_rule : FnScope n__law_rule ["stream", "order", "more"] (defScope s__law_rule) := ⟨rfl, rfl, rfl, by decide +kernel, rfl, by decide +kernel, by decide +kernel⟩
abbrev s_law : Stmt := topS 26
abbrev n_law : List Str := ["script", "stream", "names", "order", "rule", "side", "anchor", "strength", "letter", "wrong", "bad", "many", "rules", "k", "at", "no_list"]
theorem sc_law : FnScope n_law ["script"] (defScope s_law) := ⟨rfl, rfl, rfl, by decide +kernel, rfl, by decide +kernel, by decide +kernel⟩
structure Txt (K : PySem.W.Frag) (mg : Str → Option Value) (base : Heap) (Tb : List Addr) : Prop where
  z_abs : mg "abs" = none
  z_all : mg "all" = none
  z_bool : mg "bool" = none
  z_int : mg "int" = none
  z_isinstance : mg "isinstance" = none
  z_len : mg "len" = none
  z_list : mg "list" = none
  z_max : mg "max" = none
  z_min : mg "min" = none
  z_range : mg "range" = none
  z_str : mg "str" = none
  z_tuple : mg "tuple" = none
  g_MOST_CHARACTERS : ∃ t, mg "MOST_CHARACTERS" = some (.int 12 t)
  g_FIRST_CHARACTERS : ∃ t, mg "FIRST_CHARACTERS" = some (.str "abcdefghijklmnopqrstuvwxyz" t)
  g_CHARACTERS : ∃ t, mg "CHARACTERS" = some (.str "abcdefghijklmnopqrstuvwxyz0123456789" t)
  g_AFTER : ∃ t, mg "AFTER" = some (.str "after" t)
  g_BEFORE : ∃ t, mg "BEFORE" = some (.str "before" t)
  g_MOST_RULES : ∃ t, mg "MOST_RULES" = some (.int 20 t)
  d_is_integer : DefT K mg base Tb "is_integer" s_is_integer ["value"]
  d_is_integer_within : DefT K mg base Tb "is_integer_within" s_is_integer_within ["value", "least", "most"]
  d_is_strength : DefT K mg base Tb "is_strength" s_is_strength ["value"]
  d_is_letter : DefT K mg base Tb "is_letter" s_is_letter ["value"]
  d_is_rule : DefT K mg base Tb "is_rule" s_is_rule ["value"]
  d_is_rule_list : DefT K mg base Tb "is_rule_list" s_is_rule_list ["value"]
  d__law_stream : DefT K mg base Tb "_law_stream" s__law_stream ["script"]
  d__law_next : DefT K mg base Tb "_law_next" s__law_next ["stream", "many"]
  d__law_is_integer : DefT K mg base Tb "_law_is_integer" s__law_is_integer ["actual"]
  d__law_equal : DefT K mg base Tb "_law_equal" s__law_equal ["actual", "due"]
  d__law_names : DefT K mg base Tb "_law_names" s__law_names ["stream"]
  d__law_shuffled : DefT K mg base Tb "_law_shuffled" s__law_shuffled ["stream", "names"]
  d__law_order : DefT K mg base Tb "_law_order" s__law_order ["stream", "names"]
  d__law_difference : DefT K mg base Tb "_law_difference" s__law_difference ["order", "x", "y"]
  d__law_without : DefT K mg base Tb "_law_without" s__law_without ["order", "letter"]
  d__law_put : DefT K mg base Tb "_law_put" s__law_put ["order", "rule"]
  d__law_rule : DefT K mg base Tb "_law_rule" s__law_rule ["stream", "order", "more"]
section
variable {P : Program} {w : World} {K : PySem.W.Frag} {mg : Str → Option Value} {base : Heap} {Tb : List Addr}
def isIntD : D → Bool
  | .int _ => true
  | _ => false
def inR (a b : Int) : D → Bool
  | .int i => decide (a ≤ i) && decide (i ≤ b)
  | _ => false
def m_int : MD := fun ds R => ∃ d, ds = [d] ∧ plain d = true ∧ R (.bl (isIntD d))
theorem ok_is_integer (T : Txt K mg base Tb) : Def P w K mg base Tb 1 "is_integer" ["value"] m_int :=
  def_of T.d_is_integer sc_is_integer (fun ds R ⟨d, e, _⟩ => by rw [e]; rfl) fun c Pt f TB hP A outer s H E hr sa H0 F0 ds R ⟨d, e, hp, hR⟩ => by
    subst e
    refine exs_cons (ex_ret ?_)
    refine ev_and (ev_isi rfl T.z_int T.z_isinstance (ev_name (i := 0) rfl ⟨hp, _, kit_int d hp, _, rfl, fun h => ?_, fun h => ?_⟩))
    · refine ev_one (ev_not (ev_isi rfl T.z_bool T.z_isinstance (ev_name (i := 0) rfl ⟨hp, _, kit_bool d hp, _, rfl, ?_⟩)))
      cases d <;> first | exact hR | cases h
    · cases d <;> first | exact hR | cases h
def m_within : MD := fun ds R => ∃ d a b, ds = [d, .int a, .int b] ∧ plain d = true ∧ R (.bl (inR a b d))
theorem ok_is_integer_within (T : Txt K mg base Tb) : Def P w K mg base Tb 2 "is_integer_within" ["value", "least", "most"] m_within :=
  def_of T.d_is_integer_within sc_is_integer_within (fun ds R ⟨d, a, b, e, _⟩ => by rw [e]; rfl) fun c Pt f TB hP A outer s H E hr sa H0 F0 ds R ⟨d, a, b, e, hp, hR⟩ => by
    subst e
    refine exs_cons (ex_ret (ev_and (ev_callD (ok_is_integer T) hr (ea_cons (ev_name (i := 0) rfl (ea_nil ⟨d, rfl, hp, _, rfl, fun h => ?_, fun h => ?_⟩))))))
    · obtain ⟨v, rfl⟩ : ∃ v, d = .int v := by cases d <;> first | exact ⟨_, rfl⟩ | cases h
      refine ev_one (ev_lele (ev_name (i := 1) rfl (ev_name (i := 0) rfl ⟨a, v, rfl, rfl, fun hl => ev_name (i := 2) rfl ⟨b, rfl, ?_⟩, fun hl => ?_⟩)))
      · have e : inR a b (.int v) = decide (v ≤ b) := by simp [inR, hl]
        rw [e] at hR; exact hR
      · have e : inR a b (.int v) = false := by simp [inR, hl]
        rw [e] at hR; exact hR
    · cases d <;> first | exact hR | cases h
def m_strength : MD := fun ds R => ∃ d, ds = [d] ∧ plain d = true ∧ R (.bl (inR 1 3 d))
theorem ok_is_strength (T : Txt K mg base Tb) : Def P w K mg base Tb 3 "is_strength" ["value"] m_strength :=
  def_of T.d_is_strength sc_is_strength (fun ds R ⟨d, e, _⟩ => by rw [e]; rfl) fun c Pt f TB hP A outer s H E hr sa H0 F0 ds R ⟨d, e, hp, hR⟩ => by
    subst e
    exact exs_cons (ex_ret (ev_callD (ok_is_integer_within T) hr (ea_cons (ev_name (i := 0) rfl (ea_cons (ev_int (ea_cons (ev_int (ea_nil ⟨d, 1, 3, rfl, hp, hR⟩)))))))))
def FIRSTs : Str := "abcdefghijklmnopqrstuvwxyz"
def CHARs : Str := "abcdefghijklmnopqrstuvwxyz0123456789"
def letterZ (z : Str) : Bool := decide (1 ≤ z.length) && decide (z.length ≤ 12) && (match z.cps.toList with | n :: _ => decide (n ∈ FIRSTs.cps.toList) | [] => false) && z.cps.toList.all fun n => decide (n ∈ CHARs.cps.toList)
def signIn : D → Bool
  | .str ⟨#[n]⟩ => decide (n ∈ CHARs.cps.toList)
  | _ => false
theorem signsD_get {z : Str} {i : Nat} {y : D} (h : (signsD z)[i]? = some y) : ∃ n, y = .str ⟨#[n]⟩ := by
  unfold signsD at h
  rw [List.getElem?_map] at h
  cases e : z.cps.toList[i]? with
  | none => rw [e] at h; cases h
  | some n => rw [e] at h; cases h; exact ⟨n, rfl⟩
theorem signs_all {z : Str} : (signsD z).all signIn = z.cps.toList.all fun n => decide (n ∈ CHARs.cps.toList) := by
  unfold signsD
  rw [List.all_map]
  rfl
def isLetterD : D → Bool
  | .str z => letterZ z
  | _ => false
def m_letter : MD := fun ds R => ∃ d, ds = [d] ∧ good d = true ∧ R (.bl (isLetterD d))
theorem ok_is_letter (T : Txt K mg base Tb) : Def P w K mg base Tb 5 "is_letter" ["value"] m_letter :=
  def_of T.d_is_letter sc_is_letter (fun ds R ⟨d, e, _⟩ => by rw [e]; rfl) fun c Pt f TB hP A outer s H E hr sa H0 F0 ds R ⟨d, e, hg, hR⟩ => by
    subst e
    have hp := good_plain hg
    have yes : ∀ z, d = .str z → 1 ≤ z.length → z.length ≤ 12 → Exs ⟨K, Tb, sa, true, H0, F0⟩ (BX P w K mg base n_is_letter "is_letter" (defScope s_is_letter) f c A outer s H E) ((defBody s_is_letter).drop 1) [Slot.val d, Slot.none] { nx := fun _ => R .non, rt := R } := fun z hd h1 h2 => by
      subst hd
      have hz : z.length ≤ sizeLine := Nat.le_trans (good_str.mp hg) (by decide)
      have hc : ∃ n t, z.cps.toList = n :: t := by
        cases e : z.cps.toList with
        | nil =>
          have : z.length = 0 := by
            show z.cps.size = 0
            rw [← Array.length_toList, e]; rfl
          omega
        | cons n t => exact ⟨n, t, rfl⟩
      obtain ⟨n, t, hc⟩ := hc
      have eL : isLetterD (.str z) = (decide (n ∈ FIRSTs.cps.toList) && z.cps.toList.all fun n => decide (n ∈ CHARs.cps.toList)) := by simp [isLetterD, letterZ, hc, h1, h2]
      rw [eL] at hR
      refine exs_cons (ex_ret ?_)
      refine ev_and (ev_inSign (ev_ixS (ev_name (i := 0) rfl (ev_int ⟨z, 0, n, rfl, rfl, hz, ?_, ev_gS T.g_FIRST_CHARACTERS ⟨n, _, rfl, rfl, _, rfl, fun h => ?_, fun h => ?_⟩⟩))))
      · unfold L2.atI L2.ixN
        rw [hc]
        simp
      · have h : decide (n ∈ FIRSTs.cps.toList) = true := h
        rw [h, Bool.true_and] at hR
        refine ev_one (ev_allF (k := 0) (j := 1) signIn hr T.z_all TB hP rfl sc_is_letter.nd (by exact blk (N := n_is_letter) (sc := defScope s_is_letter) (by decide +kernel)) (by decide +kernel) rfl
          (it_str (ev_name (i := 0) rfl ⟨z, rfl, fun i y hy => ?_, ?_⟩)))
        · obtain ⟨n, rfl⟩ := signsD_get hy
          intro c1 c2 c3 c4 c5 c6 c7 c8
          exact ev_inSign (ev_name (i := 1) rfl (ev_gS T.g_CHARACTERS ⟨n, _, rfl, rfl, rfl, rfl⟩))
        · rw [signs_all]; exact hR
      · have h : decide (n ∈ FIRSTs.cps.toList) = false := h
        rw [h] at hR
        exact hR
    refine exs_cons (ex_ifC (ec_w (ew_or (ec_not (ec_val (ev_isi rfl T.z_str T.z_isinstance (ev_name (i := 0) rfl ⟨hp, _, kit_str d hp, _, rfl, fun h => ?_, fun h => ⟨fun _ => ?_, fun h => ?_⟩⟩)))))))
    · obtain ⟨z, rfl⟩ : ∃ z, d = .str z := by cases d <;> first | exact ⟨_, rfl⟩ | cases h
      have hz : z.length ≤ sizeLine := Nat.le_trans (good_str.mp hg) (by decide)
      refine ew_or1 (ec_not (ec_lele (ev_int (ev_lenS T.z_len (ev_name (i := 0) rfl ⟨z, rfl, hz, _, _, rfl, rfl, fun h1 => ev_gI T.g_MOST_CHARACTERS ⟨_, rfl, fun h => ?_, fun h => ?_⟩, fun h1 => ⟨fun _ => ?_, fun h => ?_⟩⟩)))))
      · refine exs_cons (ex_ret (ev_bl ?_))
        have h2 : ¬ z.length ≤ 12 := by simp at h; omega
        have e : isLetterD (.str z) = false := by simp [isLetterD, letterZ, h2]
        rw [e] at hR; exact hR
      · exact exs_nil (yes z rfl (by omega) (by simp at h; omega))
      · refine exs_cons (ex_ret (ev_bl ?_))
        have h2 : ¬ 1 ≤ z.length := by omega
        have e : isLetterD (.str z) = false := by simp [isLetterD, letterZ, h2]
        rw [e] at hR; exact hR
      · cases h
    · cases d <;> first | exact exs_cons (ex_ret (ev_bl hR)) | cases h
    · simp_all
def sideD : D → Bool
  | .str s => decide (s = "after") || decide (s = "before")
  | _ => false
def isRuleD : D → Bool
  | .tup [s, a, st, l] => sideD s && isLetterD a && isLetterD l && (match scalD a l with | some k => !k | none => false) && inR 1 3 st
  | _ => false
def m_rule : MD := fun ds R => ∃ d, ds = [d] ∧ good d = true ∧ R (.bl (isRuleD d))
theorem ok_is_rule (T : Txt K mg base Tb) : Def P w K mg base Tb 6 "is_rule" ["value"] m_rule :=
  def_of T.d_is_rule sc_is_rule (fun ds R ⟨d, e, _⟩ => by rw [e]; rfl) fun c Pt f TB hP A outer s H E hr sa H0 F0 ds R ⟨d, e, hg, hR⟩ => by
    subst e
    have hp := good_plain hg
    refine exs_cons (ex_ifC (ec_w (ew_or (ec_not (ec_val (ev_isi rfl T.z_tuple T.z_isinstance (ev_name (i := 0) rfl ⟨hp, _, kit_tuple d hp, _, rfl, fun h => ?_, fun h => ⟨fun _ => ?_, fun h => ?_⟩⟩)))))))
    · obtain ⟨xs, rfl⟩ : ∃ xs, d = .tup xs := by cases d <;> first | exact ⟨_, rfl⟩ | cases h
      obtain ⟨hl, hgs⟩ := good_tup.mp hg
      refine ew_or1 (ec_ne (ev_len T.z_len (ep_ev (ev_name (i := 0) rfl ⟨xs, rfl, ev_int ⟨_, rfl, fun h => ?_, fun h => exs_nil ?_⟩⟩))))
      · have h4 : xs.length ≠ 4 := by simp at h; omega
        have e : isRuleD (.tup xs) = false := by
          match xs, h4 with
          | [], _ => rfl
          | [_], _ => rfl
          | [_, _], _ => rfl
          | [_, _, _], _ => rfl
          | [_, _, _, _], h => exact absurd rfl h
          | _ :: _ :: _ :: _ :: _ :: _, _ => rfl
        rw [e] at hR
        exact exs_cons (ex_ret (ev_bl hR))
      · have h4 : xs.length = 4 := by simp at h; omega
        obtain ⟨d1, d2, d3, d4, rfl⟩ : ∃ d1 d2 d3 d4, xs = [d1, d2, d3, d4] := by
          match xs, h4 with
          | [d1, d2, d3, d4], _ => exact ⟨d1, d2, d3, d4, rfl⟩
        have g1 := goods_get (i := 0) hgs rfl
        have g2 := goods_get (i := 1) hgs rfl
        have g3 := goods_get (i := 2) hgs rfl
        have g4 := goods_get (i := 3) hgs rfl
        refine exs_cons (ex_asg (ev_name (i := 0) rfl (as_tup (n := 4) ?_ rfl)))
        refine ass_cons (as_name (i := 1) sc_is_rule.nd ?_)
        refine ass_cons (as_name (i := 2) sc_is_rule.nd ?_)
        refine ass_cons (as_name (i := 3) sc_is_rule.nd ?_)
        refine ass_cons (as_name (i := 4) sc_is_rule.nd ?_)
        refine ass_nil ?_
        refine exs_cons (ex_ifC (ec_w (ew_or (ec_not (ec_val (ev_isi rfl T.z_str T.z_isinstance (ev_name (i := 1) rfl ⟨good_plain g1, _, kit_str d1 (good_plain g1), _, rfl, fun h => ?_, fun h => ⟨fun _ => ?_, fun h => ?_⟩⟩)))))))
        · obtain ⟨z, rfl⟩ : ∃ z, d1 = .str z := by cases d1 <;> first | exact ⟨_, rfl⟩ | cases h
          refine ew_or1 (ec_notIn (ev_name (i := 1) rfl (ep_ev (ev_tup (ea_cons (ev_gS T.g_AFTER (ea_cons (ev_gS T.g_BEFORE (ea_nil ⟨by decide, z, ["after", "before"], rfl, rfl, fun h => ?_, fun h => exs_nil ?_⟩)))))))))
          · have e : isRuleD (.tup [.str z, d2, d3, d4]) = false := by
              have h1 : ¬ (z = "after" ∨ z = "before") := by simpa using h
              simp only [not_or] at h1
              simp [isRuleD, sideD, h1]
            rw [e] at hR
            exact exs_cons (ex_ret (ev_bl hR))
          · have hz : (decide (z = "after") || decide (z = "before")) = true := by
              by_cases h1 : z = "after"
              · simp [h1]
              · have h2 : z = "before" := by
                  simp at h
                  exact h h1
                simp [h2]
            have e : isRuleD (.tup [.str z, d2, d3, d4]) = (isLetterD d2 && isLetterD d4 && (match scalD d2 d4 with | some k => !k | none => false) && inR 1 3 d3) := by
              simp only [isRuleD, sideD, hz, Bool.true_and]
            rw [e] at hR
            refine exs_cons (ex_ifC (ec_w (ew_or (ec_not (ec_val (ev_callD (ok_is_letter T) hr (ea_cons (ev_name (i := 2) rfl (ea_nil ⟨d2, rfl, g2, _, rfl, fun h => ?_, fun h => ⟨fun _ => ?_, fun h => ?_⟩⟩)))))))))
            · have h2 : isLetterD d2 = true := by simpa using h
              refine ew_or (ec_not (ec_val (ev_callD (ok_is_letter T) hr (ea_cons (ev_name (i := 4) rfl (ea_nil ⟨d4, rfl, g4, _, rfl, fun h => ?_, fun h => ⟨fun _ => ?_, fun h => ?_⟩⟩))))))
              · have h4' : isLetterD d4 = true := by simpa using h
                obtain ⟨z2, rfl⟩ : ∃ z, d2 = .str z := by cases d2 <;> first | exact ⟨_, rfl⟩ | cases h2
                obtain ⟨z4, rfl⟩ : ∃ z, d4 = .str z := by cases d4 <;> first | exact ⟨_, rfl⟩ | cases h4'
                rw [h2, h4'] at hR
                refine ew_or1 (ec_eq (ev_name (i := 2) rfl (ev_name (i := 4) rfl ⟨_, rfl, fun h => exs_cons (ex_ret (ev_bl ?_)), fun h => exs_nil ?_⟩)))
                · have e : (match scalD (.str z2) (.str z4) with | some k => !k | none => false) = false := by simp [scalD, h]
                  rw [e] at hR
                  exact hR
                · have e : (match scalD (.str z2) (.str z4) with | some k => !k | none => false) = true := by simp [scalD, h]
                  rw [e] at hR
                  exact exs_cons (ex_ret (ev_callD (ok_is_strength T) (hr.mono (by decide)) (ea_cons (ev_name (i := 3) rfl (ea_nil ⟨d3, rfl, good_plain g3, hR⟩)))))
              · have h4' : isLetterD d4 = false := by simpa using h
                rw [h4', Bool.and_false] at hR
                exact exs_cons (ex_ret (ev_bl hR))
              · cases h
            · have h2 : isLetterD d2 = false := by simpa using h
              rw [h2] at hR
              exact exs_cons (ex_ret (ev_bl hR))
            · cases h
        · have e : isRuleD (.tup [d1, d2, d3, d4]) = false := by cases d1 <;> first | rfl | cases h
          rw [e] at hR
          exact exs_cons (ex_ret (ev_bl hR))
        · cases h
    · cases d <;> first | exact exs_cons (ex_ret (ev_bl hR)) | cases h
    · cases h
def isRulesD : D → Bool
  | .tup xs => decide (xs.length ≤ 20) && xs.all isRuleD
  | _ => false
def m_rules : MD := fun ds R => ∃ d, ds = [d] ∧ good d = true ∧ R (.bl (isRulesD d))
theorem ok_is_rule_list (T : Txt K mg base Tb) : Def P w K mg base Tb 11 "is_rule_list" ["value"] m_rules :=
  def_of T.d_is_rule_list sc_is_rule_list (fun ds R ⟨d, e, _⟩ => by rw [e]; rfl) fun c Pt f TB hP A outer s H E hr sa H0 F0 ds R ⟨d, e, hg, hR⟩ => by
    subst e
    have hp := good_plain hg
    refine exs_cons (ex_ifC (ec_w (ew_or (ec_not (ec_val (ev_isi rfl T.z_tuple T.z_isinstance (ev_name (i := 0) rfl ⟨hp, _, kit_tuple d hp, _, rfl, fun h => ?_, fun h => ⟨fun _ => ?_, fun h => ?_⟩⟩)))))))
    · obtain ⟨xs, rfl⟩ : ∃ xs, d = .tup xs := by cases d <;> first | exact ⟨_, rfl⟩ | cases h
      obtain ⟨hl, hgs⟩ := good_tup.mp hg
      refine ew_or1 (ec_gt (ev_len T.z_len (ep_ev (ev_name (i := 0) rfl ⟨xs, rfl, ev_gI T.g_MOST_RULES ⟨_, _, rfl, rfl, fun h => ?_, fun h => exs_nil ?_⟩⟩))))
      · have h1 : ¬ xs.length ≤ 20 := by simp at h; omega
        have e : isRulesD (.tup xs) = false := by simp [isRulesD, h1]
        rw [e] at hR
        exact exs_cons (ex_ret (ev_bl hR))
      · have h1 : xs.length ≤ 20 := by simp at h; omega
        have e : isRulesD (.tup xs) = xs.all isRuleD := by simp [isRulesD, h1]
        rw [e] at hR
        refine exs_cons (ex_ret (ev_allF (k := 6) (j := 1) isRuleD hr T.z_all TB hP rfl sc_is_rule_list.nd (by exact blk (N := n_is_rule_list) (sc := defScope s_is_rule_list) (by decide +kernel)) (by decide +kernel) rfl
          (it_tup (ev_name (i := 0) rfl ⟨xs, rfl, fun i y hy => ?_, hR⟩))))
        intro c1 c2 c3 c4 c5 c6 c7 c8
        exact ev_callD (ok_is_rule T) c8 (ea_cons (ev_name (i := 1) rfl (ea_nil ⟨y, rfl, goods_get hgs hy, rfl, rfl⟩)))
    · cases d <;> first | exact exs_cons (ex_ret (ev_bl hR)) | cases h
    · cases h
end

section
variable {P : Program} {w : World} {K : PySem.W.Frag} {mg : Str → Option Value} {base : Heap} {Tb : List Addr}
def m_next : MD := fun ds R => ∃ many : Int, ds = [.strm, .int many] ∧ 1 ≤ many ∧ many ≤ 1000000 ∧ ∀ d : Int, 0 ≤ d → d < many → R (.int d)
theorem ok_next (T : Txt K mg base Tb) : Def P w K mg base Tb 1 "_law_next" ["stream", "many"] m_next :=
  def_of T.d__law_next sc__law_next (fun ds R ⟨d, e, _⟩ => by rw [e]; rfl) fun c Pt f TB hP A outer s H E hr sa H0 F0 ds R ⟨many, e, h1, h2, hR⟩ => by
    subst e
    have sl : ∀ x y : Slot, ∃ z, z = [Slot.val .strm, Slot.val (.int many), x, y, Slot.none] := fun x y => ⟨_, rfl⟩
    refine exs_cons (ex_join (fun S => ∃ x y, S = [Slot.val .strm, Slot.val (.int many), x, y, Slot.none]) (ex_ifC (ec_eq (ev_strm1 (ev_name (i := 0) rfl ⟨rfl, fun c0 hc0 => ev_int ⟨_, rfl, fun _ => ?_, fun _ => exs_nil ⟨_, _, rfl⟩⟩⟩)))) fun S ⟨x, y, hS⟩ => ?_)
    · refine exs_cons (ex_set (i := 2) sc__law_next.nd (ev_strm2 (ev_name (i := 0) rfl ⟨rfl, fun kk hkk => ?_⟩)))
      refine exs_cons (ex_set (i := 3) sc__law_next.nd (ev_add (ev_int (ev_name (i := 2) rfl ⟨_, _, rfl, rfl, ?_⟩))))
      refine exs_cons (ex_join (fun S => ∃ cell : Int, 0 ≤ cell ∧ S = [Slot.val .strm, Slot.val (.int many), Slot.val (.int kk), Slot.val (.int cell), Slot.none]) (ex_cell sc__law_next.nd rfl rfl rfl T.z_len T.z_abs rfl rfl hkk (fun cell hc => ⟨cell, hc, rfl⟩) ⟨7 + kk, by omega, rfl⟩) fun S ⟨cell, hc, hS⟩ => ?_)
      subst hS
      refine exs_cons (ex_join (fun S => ∃ cell : Int, 0 ≤ cell ∧ S = [Slot.val .strm, Slot.val (.int many), Slot.val (.int kk), Slot.val (.int cell), Slot.none]) (ex_ifC (ec_lt (ev_name (i := 3) rfl (ev_pow (ev_int (ev_int ⟨_, _, rfl, rfl, ⟨by decide, by decide, by decide⟩, _, _, rfl, rfl, fun hlt => ?_, fun _ => exs_nil ⟨cell, hc, rfl⟩⟩)))))) fun S ⟨cell, hc, hS⟩ => ?_)
      · skip
        refine exs_cons (ex_set (i := 3) sc__law_next.nd ?_)
        refine ev_mod ?_
        refine ev_int1 T.z_int ?_
        refine ev_add ?_
        refine ev_add ?_
        refine ev_mul ?_
        refine ev_name (i := 3) rfl ?_
        refine ev_int ⟨_, _, rfl, rfl, .inr (by decide), ?_⟩
        refine ev_mul ?_
        refine ev_name (i := 2) rfl ?_
        refine ev_int ⟨_, _, rfl, rfl, .inr (by decide), _, _, rfl, rfl, ?_⟩
        refine ev_int ⟨_, _, rfl, rfl, _, rfl, ?_⟩
        refine ev_int ⟨_, _, rfl, rfl, by decide, ?_⟩
        refine exs_cons (ex_set (i := 3) sc__law_next.nd ?_)
        refine ev_add ?_
        refine ev_mul ?_
        refine ev_mod ?_
        refine ev_int1 T.z_int ?_
        refine ev_add ?_
        refine ev_mul ?_
        refine ev_name (i := 3) rfl ?_
        refine ev_int ⟨_, _, rfl, rfl, .inr (by decide), ?_⟩
        refine ev_int ⟨_, _, rfl, rfl, _, rfl, ?_⟩
        refine ev_int ⟨_, _, rfl, rfl, by decide, ?_⟩
        refine ev_int ⟨_, _, rfl, rfl, .inr (by decide), ?_⟩
        refine ev_name (i := 3) rfl ⟨_, _, rfl, rfl, ?_⟩
        refine exs_nil ⟨_, ?_, rfl⟩
        have g1 : ∀ a : Int, 0 ≤ a % 2147483647 := fun a => Int.emod_nonneg a (by decide)
        have g2 := g1 (cell * 48271 + kk * 69621 + 11)
        have g3 := g1 ((cell * 48271 + kk * 69621 + 11) % 2147483647 * 16807 + 13)
        omega
      subst hS
      refine exs_cons (ex_asg (ev_name (i := 3) rfl (as_strm1 (ev_name (i := 0) rfl ⟨rfl, _, rfl, hc, ?_⟩))))
      refine exs_cons (ex_asg (ev_add (ev_name (i := 2) rfl (ev_int ⟨_, _, rfl, rfl, as_strm2 (ev_name (i := 0) rfl ⟨rfl, _, rfl, by omega, ?_⟩)⟩))))
      exact exs_nil ⟨_, _, rfl⟩
    · subst hS
      refine exs_cons (ex_set (i := 4) sc__law_next.nd (ev_mod (ev_int1 T.z_int (ev_strm1 (ev_name (i := 0) rfl ⟨rfl, fun c0 hc0 => ⟨_, rfl, ev_name (i := 1) rfl ⟨_, _, rfl, rfl, by omega, ?_⟩⟩⟩)))))
      refine exs_cons (ex_asg (ev_fdiv (ev_strm1 (ev_name (i := 0) rfl ⟨rfl, fun c1 hc1 => ev_name (i := 1) rfl ⟨_, _, rfl, rfl, ⟨by omega, by omega⟩, as_strm1 (ev_name (i := 0) rfl ⟨rfl, _, rfl, Int.ediv_nonneg hc1 (by omega), ?_⟩)⟩⟩))))
      exact exs_cons (ex_ret (ev_name (i := 4) rfl (hR _ (Int.emod_nonneg _ (by omega)) (Int.emod_lt_of_pos _ (by omega)))))
end

section
variable {P : Program} {w : World} {K : PySem.W.Frag} {mg : Str → Option Value} {base : Heap} {Tb : List Addr}
/-! the stream is made -/
theorem ok_stream (T : Txt K mg base Tb) : ∃ f fd, FnOk P w K mg base CX0 1 f fd ["script"] (spStream K Tb) ∧ mg "_law_stream" = some (.ref f) ∧ PySem.W.keepIn K (.ref f) = true ∧ Binds K fd ["script"] [] := by
  obtain ⟨c, Pt, f, fd, F, hm, hb, TB, hP⟩ := T.d__law_stream
  refine ⟨f, fd, ?_, hm, F.kp, hb⟩
  obtain ⟨oc, od, kV, doc, pm, an, ct, osl, rfl, lk, hcd⟩ := F.ex
  refine fn_of lk hcd sc__law_stream (fun vs H Q E h => ?_) fun A outer s H vs Q E hr h => ?_
  · obtain ⟨a, ns, rfl, _⟩ := h
    rfl
  · obtain ⟨a, ns, rfl, hS, q⟩ := h
    refine ⟨_, (pss_cons (ps_ret (pe_lst (pa_cons (pe_callTy call_list_of (by rfl) T.z_list boot_list (pa_cons (pe_var (i := 0) (by rfl) (Or.inl (by rfl)) (by decide) (by decide)) pa_nil (by rfl))) (pa_cons pe_int (pa_cons pe_int pa_nil (by rfl)) (by rfl)) (by rfl)))) pss_nil).nox, ?_⟩
    refine ⟨.ref a, rfl, a, _, rfl, .inl hS, fun l hl => ⟨(show 3 ≤ sizeLine by decide), fun p hp => ?_⟩⟩
    have hlp : l ≠ p := fun e => by rw [← e, upd_same] at hp; cases hp
    have hp' : H p = none := by rw [upd_ne (Ne.symm hlp)] at hp; exact hp
    refine q _ p l (fun b o e => ?_) upd_same (by rw [upd_ne hlp, upd_same]) (Ne.symm hlp)
    rw [upd_ne (ne_of_none e hp'), upd_ne (ne_of_none e hl)]
    exact e
/-! shuffled -/
def m_shuffled : MD := fun ds R => ∃ xs, ds = [.strm, .lst xs] ∧ xs.length ≤ 1000 ∧ ∀ ys, ys.Perm xs → R (.lst ys)
theorem ok_shuffled (T : Txt K mg base Tb) : Def P w K mg base Tb 2 "_law_shuffled" ["stream", "names"] m_shuffled :=
  def_of T.d__law_shuffled sc__law_shuffled (fun ds R ⟨xs, e, _⟩ => by rw [e]; rfl) fun c Pt f TB hP A outer s H E hr sa H0 F0 ds R ⟨xs, e, hl, hR⟩ => by
    subst e
    refine exs_cons (ex_setL (i := 2) sc__law_shuffled.nd (el_listOf T.z_list (ep_ev (ev_name (i := 1) rfl ⟨xs, rfl, ?_⟩))))
    refine exs_cons (ex_setL (i := 3) sc__law_shuffled.nd (el_lst (ea_nil ⟨by decide, ?_⟩)))
    refine exs_cons (ex_for (it_rng T.z_range (ev_len T.z_len (ep_ev (ev_name (i := 1) rfl ⟨xs, rfl, _, rfl, by omega, by omega, ?_⟩)))))
    have hn : ((xs.length : Int)).toNat = xs.length := by omega
    rw [hn]
    refine ⟨fun i S => ∃ l f z, S = [Slot.val .strm, Slot.val (.lst xs), Slot.own l, Slot.own f, z] ∧ l.length + i = xs.length ∧ (f ++ l).Perm xs, ⟨xs, [], _, rfl, by omega, List.Perm.refl _⟩, fun i x S hx ⟨l, f, z, hS, hlen, hp⟩ => ?_, fun S ⟨l, f, z, hS, hlen, hp⟩ => ?_⟩
    · subst hS
      obtain ⟨hi, rfl⟩ := rngD_get hx
      refine as_name (i := 4) sc__law_shuffled.nd ?_
      refine exs_cons (ex_expr (ev_append (i := 3) (hS := rfl) (ev_pop (i := 2) (hS := rfl) ?_)))
      refine ev_callD (ok_next T) hr (ea_cons (ev_name (i := 0) rfl (ea_cons (ev_len T.z_len (ep_own (i := 2) rfl ⟨_, rfl, ea_nil ⟨_, rfl, by omega, by omega, fun d h0 h2 => ?_⟩⟩)))))
      have hd : d.toNat < l.length := by omega
      refine ⟨l, d.toNat, l[d.toNat], rfl, by rw [show ((d.toNat : Nat) : Int) = d by omega], List.getElem?_eq_getElem hd, by omega, f, rfl, by have := hp.length_eq; rw [List.length_append] at this; omega, ?_⟩
      refine exs_nil ⟨_, _, _, rfl, by rw [List.length_eraseIdx_of_lt hd]; omega, ?_⟩
      refine List.Perm.trans ?_ hp
      rw [List.append_assoc]
      refine List.Perm.append_left f ?_
      rw [List.eraseIdx_eq_take_drop_succ]
      have e : l = l.take d.toNat ++ l[d.toNat] :: l.drop (d.toNat + 1) := by simp
      conv => rhs; rw [e]
      rw [List.singleton_append]
      exact List.perm_middle.symm
    · subst hS
      rw [rngD_len] at hlen
      have : l = [] := List.eq_nil_of_length_eq_zero (by omega)
      subst this
      rw [List.append_nil] at hp
      exact exs_cons (ex_ret (ev_own (i := 3) rfl (hR _ hp)))
end

section
variable {P : Program} {w : World} {K : PySem.W.Frag} {mg : Str → Option Value} {base : Heap} {Tb : List Addr}
/-! names -/
def pool0 : List Str := ["a", "b", "c", "d", "e", "f", "g", "h", "k", "m", "p", "z"]
def pool1 : List Str := ["ae", "a1", "cat", "d2", "ee", "f", "gull", "h9", "oe", "abcdefghijkl", "q", "z"]
def m_names : MD := fun ds R => ds = [.strm] ∧ R (.lst (pool0.map D.str)) ∧ R (.lst (pool1.map D.str))
theorem ok_names (T : Txt K mg base Tb) : Def P w K mg base Tb 2 "_law_names" ["stream"] m_names :=
  def_of T.d__law_names sc__law_names (fun ds R ⟨e, _⟩ => by rw [e]; rfl) fun c Pt f TB hP A outer s H E hr sa H0 F0 ds R ⟨e, hR0, hR1⟩ => by
    subst e
    have nd : n__law_names.Nodup := sc__law_names.nd
    refine exs_cons ?_
    refine ex_setL (i := 1) ?_ ?_ ?_ ?_ ?_ ?_
    · exact nd
    · with_reducible refine el_lst ?_
      with_reducible refine ea_cons (ev_el ?_) ?_
      · with_reducible refine el_lst ?_
        refine ea_consts (ds := pool0.map D.str) ?_ ?_
        · rfl
        refine ⟨?_, ?_⟩
        · decide
        refine ea_nil ⟨?_, ?_⟩
        · decide
        refine exs_cons ?_
        refine ex_expr ?_ ?_
        · refine ev_append (i := 1) (ys0 := [D.lst (pool0.map D.str)]) ?_ ?_
          · with_reducible refine ev_el ?_
            with_reducible refine el_lst ?_
            refine ea_consts (ds := pool1.map D.str) ?_ ?_
            · rfl
            refine ⟨?_, [D.lst (pool0.map D.str)], rfl, ?_, ?_⟩
            · decide
            · exact (show 1 ≤ 100000 by decide)
            refine exs_cons (ex_ret ?_)
            refine ev_ix (ep_own (i := 1) rfl ?_)
            refine ev_callD (ok_next T) hr (ea_cons (ev_name (i := 0) rfl (ea_cons (ev_int (ea_nil ⟨2, rfl, by decide, by decide, fun d h0 h2 => ?_⟩)))))
            have hd : d = 0 ∨ d = 1 := by omega
            rcases hd with rfl | rfl
            · exact ⟨_, _, _, rfl, rfl, rfl, hR0⟩
            · exact ⟨_, _, _, rfl, rfl, rfl, hR1⟩
          · rfl
        · rfl
      · rfl
    · rfl
    · exact Or.inl rfl
    · rfl
    · exact .inr rfl
end

section
variable {P : Program} {w : World} {K : PySem.W.Frag} {mg : Str → Option Value} {base : Heap} {Tb : List Addr}
def m_order : MD := fun ds R => ∃ xs, ds = [.strm, .lst xs] ∧ 1 ≤ xs.length ∧ xs.length ≤ 1000 ∧ ∀ ys (ws : List Int), ys.Perm xs → ws.length + 1 = xs.length → (∀ w ∈ ws, 1 ≤ w ∧ w ≤ 3) → R (.tup [.tup ys, .tup (ws.map D.int)])
theorem ok_order (T : Txt K mg base Tb) : Def P w K mg base Tb 3 "_law_order" ["stream", "names"] m_order :=
  def_of T.d__law_order sc__law_order (fun ds R ⟨xs, e, _⟩ => by rw [e]; rfl) fun c Pt f TB hP A outer s H E hr sa H0 F0 ds R ⟨xs, e, h1, hl, hR⟩ => by
    subst e
    refine exs_cons (ex_join (fun S => ∃ ws : List Int, (1 ≤ ws.length ∧ ws.length ≤ 10) ∧ (∀ w ∈ ws, 1 ≤ w ∧ w ≤ 3) ∧ S = [Slot.val .strm, Slot.val (.lst xs), Slot.val (.lst (ws.map D.int)), Slot.none, Slot.none]) ?_ fun S ⟨ws, hw1, hw2, hS⟩ => ?_)
    · refine ex_set (i := 2) sc__law_order.nd (ev_ix (ep_ev (ev_el (el_lst ?_))))
      refine ea_cons (ev_el (el_lst ?_))
      refine ea_consts (ds := [1, 2, 3].map D.int) (by rfl) ⟨by decide, ?_⟩
      refine ea_cons (ev_el (el_lst ?_))
      refine ea_consts (ds := [1, 1, 1, 2, 3].map D.int) (by rfl) ⟨by decide, ?_⟩
      refine ea_cons (ev_el (el_lst ?_))
      refine ea_consts (ds := [2, 3, 3, 1].map D.int) (by rfl) ⟨by decide, ?_⟩
      refine ea_cons (ev_el (el_lst ?_))
      refine ea_consts (ds := [1].map D.int) (by rfl) ⟨by decide, ?_⟩
      refine ea_nil ⟨by decide, ?_⟩
      refine ev_callD (ok_next T) (hr.mono (by decide)) (ea_cons (ev_name (i := 0) rfl (ea_cons (ev_int (ea_nil ⟨4, rfl, by decide, by decide, fun d h0 h2 => ?_⟩)))))
      have hd : d = 0 ∨ d = 1 ∨ d = 2 ∨ d = 3 := by omega
      rcases hd with rfl | rfl | rfl | rfl
      · exact ⟨_, _, _, rfl, rfl, rfl, [1, 2, 3], by decide, by decide, rfl⟩
      · exact ⟨_, _, _, rfl, rfl, rfl, [1, 1, 1, 2, 3], by decide, by decide, rfl⟩
      · exact ⟨_, _, _, rfl, rfl, rfl, [2, 3, 3, 1], by decide, by decide, rfl⟩
      · exact ⟨_, _, _, rfl, rfl, rfl, [1], by decide, by decide, rfl⟩
    · subst hS
      refine exs_cons (ex_setLc (i := 3) (own := [("k", 4)]) sc__law_order.nd (by exact blk (N := n__law_order) (sc := defScope s__law_order) (by decide +kernel)) (lq_P (fun _ t => ∃ w, t = .int w ∧ (1 ≤ w ∧ w ≤ 3)) sc__law_order.nd ?_))
      refine it_rng T.z_range (ev_sub ?_)
      refine ev_len T.z_len (ep_ev (ev_name (i := 1) rfl ⟨xs, rfl, ev_int ⟨_, _, rfl, rfl, _, rfl, by omega, by omega, by rw [rngD_len]; omega, fun i y hy a1 a2 a3 a4 a5 => ?_, fun acc hacc hP2 => ?_⟩⟩))
      · refine ev_ix (ep_ev (ev_name (i := 2) rfl ?_))
        refine ev_callD (ok_next T) (hr.mono (by decide)) (ea_cons (ev_name (i := 0) rfl (ea_cons (ev_len T.z_len (ep_ev (ev_name (i := 2) rfl ⟨_, rfl, ea_nil ⟨_, rfl, ?_, ?_, fun d h0 h2 => ?_⟩⟩))))))
        · rw [List.length_map]; omega
        · rw [List.length_map]; omega
        · rw [List.length_map] at h2
          have hd : d.toNat < ws.length := by omega
          refine ⟨_, _, .int ws[d.toNat], rfl, rfl, ?_, rfl, _, rfl, hw2 _ (List.getElem_mem hd)⟩
          unfold L2.atI L2.ixN
          simp [h0, h2, hd]
      · obtain ⟨vs, rfl, hvs⟩ := ints_of hP2
        rw [rngD_len, List.length_map] at hacc
        refine exs_cons (ex_ret ?_)
        refine ev_tup ?_
        refine ea_cons (ev_tupleOf T.z_tuple (ep_ev (ev_callD (ok_shuffled T) (hr.mono (by decide)) (ea_cons (ev_name (i := 0) rfl (ea_cons (ev_name (i := 1) rfl (ea_nil ⟨xs, rfl, hl, fun ys hys => ⟨ys, rfl, ?_⟩⟩))))))))
        refine ea_cons (ev_tupleOf T.z_tuple (ep_own (i := 3) rfl ⟨_, rfl, ea_nil ⟨(show 2 ≤ 100000 by decide), hR ys vs hys (by omega) hvs⟩⟩))
end

section
variable {P : Program} {w : World} {K : PySem.W.Frag} {mg : Str → Option Value} {base : Heap} {Tb : List Addr}
def neD (a : Str) : D → Bool
  | .str z => !decide (z = a)
  | _ => true
theorem filter_strs (a : Str) (zs : List Str) : ((zs.map D.str).filter (neD a)).map id = (zs.filter fun z => !decide (z = a)).map D.str := by
  rw [List.map_id, List.filter_map]
  rfl
def m_lrule : MD := fun ds R => ∃ (zs : List Str) (o2 : D), ds = [.strm, .tup [.tup (zs.map D.str), o2], .lst []] ∧ 2 ≤ zs.length ∧ zs.length ≤ 1000 ∧ zs.Nodup ∧
  ∀ (s a : Str) (w : Int) (l : Str), (s = "after" ∨ s = "before") → a ∈ zs → l ∈ zs → l ≠ a → 1 ≤ w → w ≤ 3 → R (.tup [.str s, .str a, .int w, .str l])
theorem ok_lrule (T : Txt K mg base Tb) : Def P w K mg base Tb 2 "_law_rule" ["stream", "order", "more"] m_lrule :=
  def_of T.d__law_rule sc__law_rule (fun ds R ⟨zs, o2, e, _⟩ => by rw [e]; rfl) fun c Pt f TB hP A outer s H E hr sa H0 F0 ds R ⟨zs, o2, e, h2, hl, hnd, hR⟩ => by
    subst e
    have o0 : ∀ {Q : D → SD → Prop} {S : SD} {j pos pos' p} {X : Cx} (hN : X.N[1]? = some ("order" : Str)) (hv : Vis X.env.scope "order") (hK : K = X.K) (hS : S[1]? = some (Slot.val (.tup [.tup (zs.map D.str), o2]))), Q (.tup (zs.map D.str)) S → EvQ ⟨K, Tb, sa, true, H0, F0⟩ X (.Subscript (.Name "order" p) (.Constant (.int 0) j pos') pos) S Q := fun hN hv hK hS q =>
      ev_ix (ep_ev (ev_name (i := 1) hS (ev_int ⟨_, _, _, rfl, rfl, rfl, q⟩) hN hv)) (hK := hK)
    refine exs_cons (ex_set (i := 3) sc__law_rule.nd ?_)
    refine ev_ix (ep_ev (o0 rfl (by first | exact Or.inl rfl | exact Or.inr (Or.inl rfl) | exact Or.inr (Or.inr rfl)) rfl rfl ?_))
    refine ev_callD (ok_next T) hr (ea_cons (ev_name (i := 0) rfl (ea_cons (ev_len T.z_len (ep_ev (o0 rfl (by first | exact Or.inl rfl | exact Or.inr (Or.inl rfl) | exact Or.inr (Or.inr rfl)) rfl rfl ⟨_, rfl, ea_nil ⟨_, rfl, by rw [List.length_map]; omega, by rw [List.length_map]; omega, fun d h0 hd => ?_⟩⟩))))))
    obtain ⟨x, hx, hm⟩ := atI_ok (xs := zs.map D.str) h0 hd
    obtain ⟨a, ha, rfl⟩ := List.mem_map.mp hm
    refine ⟨_, _, .str a, rfl, rfl, hx, ?_⟩
    refine exs_cons (ex_setLc (i := 4) (own := [("one", 5)]) sc__law_rule.nd (by exact blk (N := n__law_rule) (sc := defScope s__law_rule) (by decide +kernel)) (lq_If (neD a) id sc__law_rule.nd ?_))
    refine it_lst (ev_el (el_addL (ev_el (el_listOf T.z_list (ep_ev (o0 rfl (by first | exact Or.inl rfl | exact Or.inr (Or.inl rfl) | exact Or.inr (Or.inr rfl)) rfl rfl ⟨_, rfl, ?_⟩))))))
    refine ev_name (i := 2) rfl ⟨_, _, rfl, rfl, by rw [List.length_map]; simp; omega, _, rfl, by simp; omega, fun i y hy => ?_, ?_⟩
    · rw [List.append_nil] at hy
      obtain ⟨z, hz, rfl⟩ := List.mem_map.mp (List.mem_of_getElem? hy)
      refine ⟨fun b1 b2 b3 b4 b5 => ?_, fun hk b1 b2 b3 b4 b5 => ?_⟩
      · exact ec_ne (ev_name (i := 5) rfl (ev_name (i := 3) rfl ⟨_, rfl, rfl, rfl⟩))
      · exact ev_name (i := 5) rfl ⟨rfl, rfl⟩
    rw [List.append_nil, filter_strs]
    have hf : 1 ≤ (zs.filter fun z => !decide (z = a)).length := by
      match zs, h2, hnd with
      | x :: y :: t, _, hnd =>
        have hxy : x ≠ y := by
          intro e
          rw [e] at hnd
          simp at hnd
        apply List.length_pos_of_mem (a := if x = a then y else x)
        rw [List.mem_filter]
        by_cases hx : x = a
        · rw [if_pos hx]
          exact ⟨by simp, by simp; intro e; exact hxy (hx.trans e.symm)⟩
        · rw [if_neg hx]
          exact ⟨by simp, by simp [hx]⟩
    have hf2 : (zs.filter fun z => !decide (z = a)).length ≤ zs.length := List.length_filter_le ..
    refine exs_cons (ex_set (i := 6) sc__law_rule.nd (ev_ix (ep_own (i := 4) rfl ?_)))
    refine ev_callD (ok_next T) hr (ea_cons (ev_name (i := 0) rfl (ea_cons (ev_len T.z_len (ep_own (i := 4) rfl ⟨_, rfl, ea_nil ⟨_, rfl, by rw [List.length_map]; omega, by rw [List.length_map]; omega, fun d h0 hd => ?_⟩⟩)))))
    obtain ⟨x, hx2, hm2⟩ := atI_ok h0 hd
    obtain ⟨l, hl2, rfl⟩ := List.mem_map.mp hm2
    obtain ⟨hl3, hl4⟩ := List.mem_filter.mp hl2
    refine ⟨_, _, .str l, rfl, rfl, hx2, ?_⟩
    refine exs_cons (ex_ret (ev_tup (ea_cons (ev_ix (ep_ev (ev_el (el_lst (ea_consts (ds := [.str "after", .str "before"]) rfl ⟨by decide, ?_⟩)))))))) 
    refine ev_callD (ok_next T) hr (ea_cons (ev_name (i := 0) rfl (ea_cons (ev_int (ea_nil ⟨2, rfl, by decide, by decide, fun d2 h0 hd => ?_⟩)))))
    obtain ⟨x, hx3, hm3⟩ := atI_ok (xs := [D.str "after", D.str "before"]) h0 hd
    obtain ⟨sd, hsd, rfl⟩ : ∃ sd : Str, (sd = "after" ∨ sd = "before") ∧ x = .str sd := by
      simp at hm3
      rcases hm3 with z | z
      · exact ⟨_, .inl rfl, z⟩
      · exact ⟨_, .inr rfl, z⟩
    refine ⟨_, _, .str sd, rfl, rfl, hx3, ?_⟩
    refine ea_cons (ev_name (i := 3) rfl (ea_cons (ev_add (ev_int ?_))))
    refine ev_callD (ok_next T) hr (ea_cons (ev_name (i := 0) rfl (ea_cons (ev_int (ea_nil ⟨3, rfl, by decide, by decide, fun d3 h0 hd => ⟨_, _, rfl, rfl, ?_⟩⟩)))))
    refine ea_cons (ev_name (i := 6) rfl (ea_nil ⟨(show 4 ≤ 100000 by decide), hR sd a _ l hsd ha hl3 (by simpa using hl4) (by omega) (by omega)⟩))
end

section
variable {P : Program} {w : World} {K : PySem.W.Frag} {mg : Str → Option Value} {base : Heap} {Tb : List Addr}
theorem b1 {s a st l : D} (h : sideD s = false) : isRuleD (.tup [s, a, st, l]) = false := by simp [isRuleD, h]
theorem b2 {s a st l : D} (h : isLetterD a = false) : isRuleD (.tup [s, a, st, l]) = false := by simp [isRuleD, h]
theorem b3 {s a st l : D} (h : isLetterD l = false) : isRuleD (.tup [s, a, st, l]) = false := by simp [isRuleD, h]
theorem b4 {s st : D} {a : Str} : isRuleD (.tup [s, .str a, st, .str a]) = false := by simp [isRuleD, scalD]
theorem b5 {s a st l : D} (h : inR 1 3 st = false) : isRuleD (.tup [s, a, st, l]) = false := by simp [isRuleD, h]
theorem letter_len {z : Str} (h : letterZ z = true) : 1 ≤ z.length ∧ z.length ≤ 12 := by
  simp only [letterZ, Bool.and_eq_true, decide_eq_true_eq] at h
  exact ⟨h.1.1.1, h.1.1.2⟩
theorem app_len (z u : Str) : (z ++ u).length = z.length + u.length := by
  show (z.cps ++ u.cps).size = z.cps.size + u.cps.size
  rw [Array.size_append]
theorem not_letter_ {z : Str} : isLetterD (.str (z ++ "_")) = false := by
  have h : (z ++ ("_" : Str)).cps.toList.all (fun n => decide (n ∈ CHARs.cps.toList)) = false := by
    show (z.cps ++ ("_" : Str).cps).toList.all _ = false
    rw [Array.toList_append, List.all_append]
    have : (("_" : Str).cps.toList.all fun n => decide (n ∈ CHARs.cps.toList)) = false := by decide +kernel
    rw [this, Bool.and_false]
  show letterZ (z ++ "_") = false
  unfold letterZ
  rw [h, Bool.and_false]
abbrev ruleT (sd a : Str) (wt : Int) (l : Str) : D := .tup [.str sd, .str a, .int wt, .str l]
abbrev SW (zs : List Str) (od : D) (sd a l : Str) (wt : Int) (x9 x10 x11 x12 : Slot) : SD :=
  [Slot.none, Slot.val .strm, Slot.val (.lst (zs.map D.str)), Slot.val od, Slot.val (ruleT sd a wt l), Slot.val (.str sd), Slot.val (.str a), Slot.val (.int wt), Slot.val (.str l), x9, x10, x11, x12, Slot.none, Slot.none, Slot.none]
def JW (zs : List Str) (od : D) (sd a l : Str) (wt : Int) (n : Nat) (S : SD) : Prop := ∃ W : List D, 1 ≤ W.length ∧ W.length ≤ n ∧ (∀ x ∈ W, good x = true ∧ isRuleD x = false) ∧ S = SW zs od sd a l wt (Slot.own W) Slot.none Slot.none Slot.none
theorem goods_cut {xs : List D} (h : goods xs = true) (i j : Option Int) : goods (Dm.cutD xs i j) = true := by
  rw [goods_iff] at h ⊢
  intro x hx
  exact h x (List.mem_of_mem_drop (List.mem_of_mem_take hx))
theorem cut_len (xs : List D) (i j : Option Int) : (Dm.cutD xs i j).length ≤ xs.length := by
  unfold Dm.cutD
  rw [List.length_take, List.length_drop]
  omega
theorem goods_app {xs ys : List D} (h1 : goods xs = true) (h2 : goods ys = true) : goods (xs ++ ys) = true := by
  rw [goods_iff] at h1 h2 ⊢
  intro x hx
  rcases List.mem_append.mp hx with z | z
  · exact h1 x z
  · exact h2 x z
theorem app_all {α : Type} {p : α → Prop} {xs ys : List α} (h1 : ∀ x ∈ xs, p x) (h2 : ∀ x ∈ ys, p x) : ∀ x ∈ xs ++ ys, p x := fun x hx => by
  rcases List.mem_append.mp hx with z | z
  · exact h1 x z
  · exact h2 x z
theorem rule_ok {sd a l : Str} {wt : Int} (hsd : sd = "after" ∨ sd = "before") (lza : letterZ a = true) (lzl : letterZ l = true) (hla : l ≠ a) (hw1 : 1 ≤ wt) (hw2 : wt ≤ 3) : good (ruleT sd a wt l) = true ∧ isRuleD (ruleT sd a wt l) = true := by
  have lla := letter_len lza
  have lll := letter_len lzl
  have hga : good (.str a) = true := g_str (by omega)
  have hgl : good (.str l) = true := g_str (by omega)
  have hgs : good (.str sd) = true := by rcases hsd with z | z <;> rw [z] <;> decide +kernel
  have hsok : sideD (.str sd) = true := by rcases hsd with z | z <;> rw [z] <;> decide +kernel
  refine ⟨g_tup rfl (g_cons hgs (g_cons hga (g_cons rfl (g_cons hgl rfl)))), ?_⟩
  have e1 : isLetterD (.str a) = true := lza
  have e2 : isLetterD (.str l) = true := lzl
  have e3 : ¬ a = l := fun e => hla e.symm
  have e4 : inR 1 3 (.int wt) = true := by simp [inR, hw1, hw2]
  simp [isRuleD, hsok, e1, e2, scalD, e3, e4]
theorem ok_law (T : Txt K mg base Tb) {c fL : Addr} {fd : FuncData} (F : FunC K "law" "law" s_law c fL fd) : FnOk P w K mg base CX0 12 fL fd ["script"] (spLaw K Tb) := by
  obtain ⟨fs, fds, Gs, hms, hks, hbs⟩ := ok_stream (P := P) (w := w) T
  have nd : n_law.Nodup := sc_law.nd
  refine law_of (j := 1) F sc_law rfl (by decide) (by decide) fun A outer s0 H E hr => ⟨?_, fun sa H0 F0 => ?_⟩
  · exact ps_set (x := "stream") nd (by rfl) (.inr (by rfl)) (pe_call Gs (hr.mono (by decide)) (by rfl) hms hks hbs .nil pass0 (pa_cons (pe_var (i := 0) (by rfl) (Or.inl (by rfl)) (by decide) (by decide)) pa_nil (by rfl)))
  have hf0 : ∀ zs : List Str, zs.all letterZ = true → zs.Nodup → zs.length = 12 → Exs ⟨K, Tb, sa, true, H0, F0⟩ (BX P w K mg base n_law "law" (defScope s_law) fL c A outer s0 H E) ((defBody s_law).drop 2) (((List.replicate n_law.length Slot.none).set 1 (Slot.val .strm)).set 2 (Slot.val (.lst (zs.map D.str)))) { nx := fun _ => False, rt := fun d => d = .bl true } := fun zs hz hzn hzl => by
    refine exs_cons (ex_set (i := 3) nd ?_)
    refine ev_callD (ok_order T) (hr.mono (by decide)) (ea_cons (ev_name (i := 1) rfl (ea_cons (ev_name (i := 2) rfl (ea_nil ⟨_, rfl, by rw [List.length_map]; omega, by rw [List.length_map]; omega, fun ys ws hys hwl hws => ?_⟩)))))
    obtain ⟨zs', hp, rfl⟩ := strs_perm hys
    have hz' : ∀ z ∈ zs', letterZ z = true := fun z hm => List.all_eq_true.mp hz z (hp.mem_iff.mp hm)
    refine exs_cons (ex_set (i := 4) nd ?_)
    refine ev_callD (ok_lrule T) (hr.mono (by decide)) (ea_cons (ev_name (i := 1) rfl (ea_cons (ev_name (i := 3) rfl (ea_cons (ev_el (el_lst (ea_nil ⟨lenOk, ea_nil ⟨zs', _, rfl, by rw [hp.length_eq]; omega, by rw [hp.length_eq]; omega, hp.nodup_iff.mpr hzn, fun sd a wt l hsd ha hl hla hw1 hw2 => ?_⟩⟩))))))))
    refine exs_cons (ex_asg (ev_name (i := 4) rfl (as_tup (n := 4) ?_ rfl)))
    refine ass_cons (as_name (i := 5) nd ?_)
    refine ass_cons (as_name (i := 6) nd ?_)
    refine ass_cons (as_name (i := 7) nd ?_)
    refine ass_cons (as_name (i := 8) nd ?_)
    refine ass_nil ?_
    generalize hod : D.tup [.tup (zs'.map D.str), .tup (ws.map D.int)] = od
    have lza := hz' a ha
    have lzl := hz' l hl
    have lla := letter_len lza
    have lll := letter_len lzl
    have hga : good (.str a) = true := g_str (by omega)
    have hgl : good (.str l) = true := g_str (by omega)
    have hgs : good (.str sd) = true := by rcases hsd with z | z <;> rw [z] <;> decide +kernel
    have hgs3 : good (.str (cutS sd none (some 3))) = true := by rcases hsd with z | z <;> rw [z] <;> decide +kernel
    have hbs3 : sideD (.str (cutS sd none (some 3))) = false := by rcases hsd with z | z <;> rw [z] <;> decide +kernel
    have hss : sd.length ≤ sizeLine := by rcases hsd with z | z <;> rw [z] <;> decide +kernel
    have hsok : sideD (.str sd) = true := by rcases hsd with z | z <;> rw [z] <;> decide +kernel
    have h_ : ("_" : Str).length = 1 := by decide +kernel
    have hls : l.length + ("_" : Str).length ≤ sizeLine := by rw [h_]; exact Nat.le_trans (show l.length + 1 ≤ 1000 by omega) (by decide)
    have hgl_ : good (.str (l ++ "_")) = true := g_str (by rw [app_len, h_]; omega)
    have hbl_ : isLetterD (.str (l ++ "_")) = false := not_letter_
    have hgr : good (ruleT sd a wt l) = true := g_tup rfl (g_cons hgs (g_cons hga (g_cons rfl (g_cons hgl rfl))))
    have hrok : isRuleD (ruleT sd a wt l) = true := by
      have e1 : isLetterD (.str a) = true := lza
      have e2 : isLetterD (.str l) = true := lzl
      have e3 : ¬ a = l := fun e => hla e.symm
      have e4 : inR 1 3 (.int wt) = true := by simp [inR, hw1, hw2]
      simp [isRuleD, hsok, e1, e2, scalD, e3, e4]
    refine exs_cons (ex_join (JW zs od sd a l wt 10) ?_ fun S ⟨W, hW1, hW2, hW3, hS⟩ => ?_)
    · refine ex_setL (i := 9) nd (el_lst ?_)
      refine ea_cons (ev_tup ?_)
      refine ea_cons (ev_str ?_)
      refine ea_cons (ev_name (i := 6) rfl ?_)
      refine ea_cons (ev_name (i := 7) rfl ?_)
      refine ea_cons (ev_name (i := 8) rfl ?_)
      refine ea_nil ⟨lenOk, ?_⟩
      refine ea_cons (ev_tup ?_)
      refine ea_cons (ev_non ?_)
      refine ea_cons (ev_name (i := 6) rfl ?_)
      refine ea_cons (ev_name (i := 7) rfl ?_)
      refine ea_cons (ev_name (i := 8) rfl ?_)
      refine ea_nil ⟨lenOk, ?_⟩
      refine ea_cons (ev_tup ?_)
      refine ea_cons (ev_name (i := 5) rfl ?_)
      refine ea_cons (ev_str ?_)
      refine ea_cons (ev_name (i := 7) rfl ?_)
      refine ea_cons (ev_name (i := 8) rfl ?_)
      refine ea_nil ⟨lenOk, ?_⟩
      refine ea_cons (ev_tup ?_)
      refine ea_cons (ev_name (i := 5) rfl ?_)
      refine ea_cons (ev_str ?_)
      refine ea_cons (ev_name (i := 7) rfl ?_)
      refine ea_cons (ev_name (i := 8) rfl ?_)
      refine ea_nil ⟨lenOk, ?_⟩
      refine ea_nil ⟨lenOk, _, ?_, ?_, ?_, rfl⟩
      · exact (by decide : 1 ≤ 4)
      · exact (by decide : 4 ≤ 10)
      · simp only [List.forall_mem_cons, List.not_mem_nil, false_imp_iff, implies_true, and_true]
        exact ⟨⟨g_tup rfl (g_cons (by decide +kernel) (g_cons hga (g_cons rfl (g_cons hgl rfl)))), b1 (by decide +kernel)⟩, ⟨g_tup rfl (g_cons rfl (g_cons hga (g_cons rfl (g_cons hgl rfl)))), b1 rfl⟩, ⟨g_tup rfl (g_cons hgs (g_cons (by decide +kernel) (g_cons rfl (g_cons hgl rfl)))), b2 (by decide +kernel)⟩, ⟨g_tup rfl (g_cons hgs (g_cons (by decide +kernel) (g_cons rfl (g_cons hgl rfl)))), b2 (by decide +kernel)⟩⟩
    refine exs_cons (ex_join (JW zs od sd a l wt 20) ?_ fun S ⟨W, hW1, hW2, hW3, hS⟩ => ?_)
    · subst hS
      refine ex_setL (i := 9) nd (el_addL (ev_own (i := 9) rfl (ev_el (el_lst ?_))))
      refine ea_cons (ev_tup ?_)
      refine ea_cons (ev_name (i := 5) rfl ?_)
      refine ea_cons (ev_name (i := 6) rfl ?_)
      refine ea_cons (ev_int ?_)
      refine ea_cons (ev_name (i := 8) rfl ?_)
      refine ea_nil ⟨lenOk, ?_⟩
      refine ea_cons (ev_tup ?_)
      refine ea_cons (ev_name (i := 5) rfl ?_)
      refine ea_cons (ev_name (i := 6) rfl ?_)
      refine ea_cons (ev_int ?_)
      refine ea_cons (ev_name (i := 8) rfl ?_)
      refine ea_nil ⟨lenOk, ?_⟩
      refine ea_cons (ev_tup ?_)
      refine ea_cons (ev_name (i := 5) rfl ?_)
      refine ea_cons (ev_name (i := 6) rfl ?_)
      refine ea_cons (ev_bl ?_)
      refine ea_cons (ev_name (i := 8) rfl ?_)
      refine ea_nil ⟨lenOk, ?_⟩
      refine ea_cons (ev_tup ?_)
      refine ea_cons (ev_name (i := 5) rfl ?_)
      refine ea_cons (ev_name (i := 6) rfl ?_)
      refine ea_cons (ev_str ?_)
      refine ea_cons (ev_name (i := 8) rfl ?_)
      refine ea_nil ⟨lenOk, ?_⟩
      refine ea_nil ⟨lenOk, _, _, rfl, rfl, ?_, _, ?_, ?_, ?_, rfl⟩
      · exact (show W.length + 4 ≤ 100000 by omega)
      · rw [List.length_append]; omega
      · rw [List.length_append]; exact (show W.length + 4 ≤ 20 by omega)
      · refine app_all hW3 ?_
        simp only [List.forall_mem_cons, List.not_mem_nil, false_imp_iff, implies_true, and_true]
        exact ⟨⟨g_tup rfl (g_cons hgs (g_cons hga (g_cons rfl (g_cons hgl rfl)))), b5 (by decide)⟩, ⟨g_tup rfl (g_cons hgs (g_cons hga (g_cons rfl (g_cons hgl rfl)))), b5 (by decide)⟩, ⟨g_tup rfl (g_cons hgs (g_cons hga (g_cons rfl (g_cons hgl rfl)))), b5 rfl⟩, ⟨g_tup rfl (g_cons hgs (g_cons hga (g_cons (by decide +kernel) (g_cons hgl rfl)))), b5 rfl⟩⟩
    refine exs_cons (ex_join (JW zs od sd a l wt 30) ?_ fun S ⟨W, hW1, hW2, hW3, hS⟩ => ?_)
    · subst hS
      refine ex_setL (i := 9) nd (el_addL (ev_own (i := 9) rfl (ev_el (el_lst ?_))))
      refine ea_cons (ev_tup ?_)
      refine ea_cons (ev_name (i := 5) rfl ?_)
      refine ea_cons (ev_name (i := 6) rfl ?_)
      refine ea_cons (ev_name (i := 7) rfl ?_)
      refine ea_cons (ev_name (i := 6) rfl ?_)
      refine ea_nil ⟨lenOk, ?_⟩
      refine ea_cons (ev_tup ?_)
      refine ea_cons (ev_name (i := 5) rfl ?_)
      refine ea_cons (ev_name (i := 6) rfl ?_)
      refine ea_cons (ev_name (i := 7) rfl ?_)
      refine ea_cons (ev_str ?_)
      refine ea_nil ⟨lenOk, ?_⟩
      refine ea_cons (ev_tup ?_)
      refine ea_cons (ev_name (i := 5) rfl ?_)
      refine ea_cons (ev_name (i := 6) rfl ?_)
      refine ea_cons (ev_name (i := 7) rfl ?_)
      refine ea_cons (ev_addS (ev_name (i := 8) rfl (ev_str ⟨_, _, rfl, rfl, hls, ?_⟩)))
      refine ea_nil ⟨lenOk, ?_⟩
      refine ea_nil ⟨lenOk, _, _, rfl, rfl, ?_, _, ?_, ?_, ?_, rfl⟩
      · exact (show W.length + 3 ≤ 100000 by omega)
      · rw [List.length_append]; omega
      · rw [List.length_append]; exact (show W.length + 3 ≤ 30 by omega)
      · refine app_all hW3 ?_
        simp only [List.forall_mem_cons, List.not_mem_nil, false_imp_iff, implies_true, and_true]
        exact ⟨⟨g_tup rfl (g_cons hgs (g_cons hga (g_cons rfl (g_cons hga rfl)))), b4⟩, ⟨g_tup rfl (g_cons hgs (g_cons hga (g_cons rfl (g_cons (by decide +kernel) rfl)))), b3 (by decide +kernel)⟩, ⟨g_tup rfl (g_cons hgs (g_cons hga (g_cons rfl (g_cons hgl_ rfl)))), b3 hbl_⟩⟩
    refine exs_cons (ex_join (JW zs od sd a l wt 40) ?_ fun S ⟨W, hW1, hW2, hW3, hS⟩ => ?_)
    · subst hS
      refine ex_setL (i := 9) nd (el_addL (ev_own (i := 9) rfl (ev_el (el_lst ?_))))
      refine ea_cons (ev_el (el_listOf T.z_list (ep_ev (ev_name (i := 4) rfl ⟨_, rfl, ?_⟩))))
      refine ea_cons (ev_slT (ev_name (i := 4) rfl (eo_none (eo_some (ev_int ⟨3, rfl, _, rfl, ?_⟩)))))
      refine ea_cons (ev_addT (ev_name (i := 4) rfl (ev_tup (ea_cons (ev_int (ea_nil ⟨lenOk, _, _, rfl, rfl, (show 4 + 1 ≤ 100000 by decide), ?_⟩))))))
      refine ea_cons (ev_non ?_)
      refine ea_cons (ev_str ?_)
      refine ea_cons (ev_tup ?_)
      refine ea_cons (ev_name (i := 5) rfl ?_)
      refine ea_cons (ev_name (i := 6) rfl ?_)
      refine ea_cons (ev_name (i := 7) rfl ?_)
      refine ea_cons (ev_non ?_)
      refine ea_nil ⟨lenOk, ?_⟩
      refine ea_cons (ev_tup ?_)
      refine ea_cons (ev_name (i := 5) rfl ?_)
      refine ea_cons (ev_int ?_)
      refine ea_cons (ev_name (i := 7) rfl ?_)
      refine ea_cons (ev_name (i := 8) rfl ?_)
      refine ea_nil ⟨lenOk, ?_⟩
      refine ea_cons (ev_tup ?_)
      refine ea_nil ⟨lenOk, ?_⟩
      refine ea_nil ⟨lenOk, _, _, rfl, rfl, ?_, _, ?_, ?_, ?_, rfl⟩
      · exact (show W.length + 8 ≤ 100000 by omega)
      · rw [List.length_append]; omega
      · rw [List.length_append]; exact (show W.length + 8 ≤ 40 by omega)
      · refine app_all hW3 ?_
        simp only [List.forall_mem_cons, List.not_mem_nil, false_imp_iff, implies_true, and_true]
        exact ⟨⟨g_lst rfl (g_cons hgs (g_cons hga (g_cons rfl (g_cons hgl rfl)))), rfl⟩, ⟨g_tup (xs := [.str sd, .str a, .int wt]) rfl (g_cons hgs (g_cons hga (g_cons rfl rfl))), rfl⟩, ⟨g_tup (xs := [.str sd, .str a, .int wt, .str l, .int 1]) rfl (g_cons hgs (g_cons hga (g_cons rfl (g_cons hgl (g_cons rfl rfl))))), rfl⟩, ⟨rfl, rfl⟩, ⟨(by decide +kernel), rfl⟩, ⟨g_tup rfl (g_cons hgs (g_cons hga (g_cons rfl (g_cons rfl rfl)))), b3 rfl⟩, ⟨g_tup rfl (g_cons hgs (g_cons rfl (g_cons rfl (g_cons hgl rfl)))), b2 rfl⟩, ⟨g_tup rfl rfl, rfl⟩⟩
    refine exs_cons (ex_join (JW zs od sd a l wt 50) ?_ fun S ⟨W, hW1, hW2, hW3, hS⟩ => ?_)
    · subst hS
      refine ex_setL (i := 9) nd (el_addL (ev_own (i := 9) rfl (ev_el (el_lst ?_))))
      refine ea_cons (ev_tup ?_)
      refine ea_cons (ev_name (i := 5) rfl ?_)
      refine ea_cons (ev_name (i := 6) rfl ?_)
      refine ea_cons (ev_name (i := 7) rfl ?_)
      refine ea_cons (ev_str ?_)
      refine ea_nil ⟨lenOk, ?_⟩
      refine ea_cons (ev_tup ?_)
      refine ea_cons (ev_name (i := 5) rfl ?_)
      refine ea_cons (ev_str ?_)
      refine ea_cons (ev_name (i := 7) rfl ?_)
      refine ea_cons (ev_name (i := 8) rfl ?_)
      refine ea_nil ⟨lenOk, ?_⟩
      refine ea_cons (ev_tup ?_)
      refine ea_cons (ev_name (i := 5) rfl ?_)
      refine ea_cons (ev_str ?_)
      refine ea_cons (ev_name (i := 7) rfl ?_)
      refine ea_cons (ev_name (i := 8) rfl ?_)
      refine ea_nil ⟨lenOk, ?_⟩
      refine ea_nil ⟨lenOk, _, _, rfl, rfl, ?_, _, ?_, ?_, ?_, rfl⟩
      · exact (show W.length + 3 ≤ 100000 by omega)
      · rw [List.length_append]; omega
      · rw [List.length_append]; exact (show W.length + 3 ≤ 50 by omega)
      · refine app_all hW3 ?_
        simp only [List.forall_mem_cons, List.not_mem_nil, false_imp_iff, implies_true, and_true]
        exact ⟨⟨g_tup rfl (g_cons hgs (g_cons hga (g_cons rfl (g_cons (by decide +kernel) rfl)))), b3 (by decide +kernel)⟩, ⟨g_tup rfl (g_cons hgs (g_cons (by decide +kernel) (g_cons rfl (g_cons hgl rfl)))), b2 (by decide +kernel)⟩, ⟨g_tup rfl (g_cons hgs (g_cons (by decide +kernel) (g_cons rfl (g_cons hgl rfl)))), b2 (by decide +kernel)⟩⟩
    refine exs_cons (ex_join (JW zs od sd a l wt 60) ?_ fun S ⟨W, hW1, hW2, hW3, hS⟩ => ?_)
    · subst hS
      refine ex_setL (i := 9) nd (el_addL (ev_own (i := 9) rfl (ev_el (el_lst ?_))))
      refine ea_cons (ev_tup ?_)
      refine ea_cons (ev_name (i := 5) rfl ?_)
      refine ea_cons (ev_str ?_)
      refine ea_cons (ev_name (i := 7) rfl ?_)
      refine ea_cons (ev_name (i := 8) rfl ?_)
      refine ea_nil ⟨lenOk, ?_⟩
      refine ea_cons (ev_tup ?_)
      refine ea_cons (ev_slS (ev_name (i := 5) rfl (eo_none (eo_some (ev_int ⟨3, rfl, sd, rfl, hss, ?_⟩)))))
      refine ea_cons (ev_name (i := 6) rfl ?_)
      refine ea_cons (ev_name (i := 7) rfl ?_)
      refine ea_cons (ev_name (i := 8) rfl ?_)
      refine ea_nil ⟨lenOk, ?_⟩
      refine ea_cons (ev_tup ?_)
      refine ea_cons (ev_name (i := 5) rfl ?_)
      refine ea_cons (ev_name (i := 6) rfl ?_)
      refine ea_cons (ev_neg (ev_int ⟨1, rfl, ?_⟩))
      refine ea_cons (ev_name (i := 8) rfl ?_)
      refine ea_nil ⟨lenOk, ?_⟩
      refine ea_nil ⟨lenOk, _, _, rfl, rfl, ?_, _, ?_, ?_, ?_, rfl⟩
      · exact (show W.length + 3 ≤ 100000 by omega)
      · rw [List.length_append]; omega
      · rw [List.length_append]; exact (show W.length + 3 ≤ 60 by omega)
      · refine app_all hW3 ?_
        simp only [List.forall_mem_cons, List.not_mem_nil, false_imp_iff, implies_true, and_true]
        exact ⟨⟨g_tup rfl (g_cons hgs (g_cons (by decide +kernel) (g_cons rfl (g_cons hgl rfl)))), b2 (by decide +kernel)⟩, ⟨g_tup rfl (g_cons hgs3 (g_cons hga (g_cons rfl (g_cons hgl rfl)))), b1 hbs3⟩, ⟨g_tup rfl (g_cons hgs (g_cons hga (g_cons rfl (g_cons hgl rfl)))), b5 (by decide)⟩⟩
    subst hS
    have hrA : ∀ k : Nat, k ≤ 11 → Room k (A.deeper (envOfC "law" (defScope s_law) s0.heap.objs.size fL (.ref c))) := fun k hk => hr.mono hk
    refine exs_cons (ex_set (i := 10) nd (ev_ix (ep_own (i := 9) rfl ?_)))
    refine ev_callD (ok_next T) (hrA 1 (by decide)) (ea_cons (ev_name (i := 1) rfl (ea_cons (ev_len T.z_len (ep_own (i := 9) rfl ⟨_, rfl, ea_nil ⟨_, rfl, by omega, by omega, fun d h0 hd => ?_⟩⟩)))))
    obtain ⟨bad, hb1, hbm⟩ := atI_ok h0 hd
    obtain ⟨hbg, hbr⟩ := hW3 bad hbm
    refine ⟨_, _, bad, rfl, rfl, hb1, ?_⟩
    refine exs_cons (ex_ifC (ec_w (ew_or (ec_nisB (ev_callD (ok_is_rule T) (hrA 6 (by decide)) (ea_cons (ev_name (i := 4) rfl (ea_nil ⟨_, rfl, hgr, ev_bl ⟨_, _, rfl, rfl, fun _ => ?_, fun h => by rw [hrok] at h; cases h⟩⟩))))))))
    refine ew_or1 (ec_nisB (ev_callD (ok_is_rule T) (hrA 6 (by decide)) (ea_cons (ev_name (i := 10) rfl (ea_nil ⟨_, rfl, hbg, ev_bl ⟨_, _, rfl, rfl, fun h => (by rw [hbr] at h; cases h), fun _ => exs_nil ?_⟩⟩)))))
    refine exs_cons (ex_set (i := 11) nd (ev_ix (ep_ev (ev_el (el_lst ?_)))))
    refine ea_cons (ev_callD (ok_next T) (hrA 1 (by decide)) (ea_cons (ev_name (i := 1) rfl (ea_cons (ev_int (ea_nil ⟨8, rfl, by decide, by decide, fun d8 h80 h88 => ?_⟩))))))
    refine ea_cons (ev_int (ea_nil ⟨lenOk, ?_⟩))
    refine ev_callD (ok_next T) (hrA 1 (by decide)) (ea_cons (ev_name (i := 1) rfl (ea_cons (ev_int (ea_nil ⟨2, rfl, by decide, by decide, fun d2 h0 hd => ?_⟩)))))
    obtain ⟨x, hx, hm⟩ := atI_ok (xs := [D.int d8, D.int 20]) h0 hd
    obtain ⟨many, hmany, rfl⟩ : ∃ m : Int, (0 ≤ m ∧ m ≤ 20) ∧ x = .int m := by
      simp only [List.mem_cons, List.not_mem_nil, or_false] at hm
      rcases hm with z | z
      · exact ⟨d8, by omega, z⟩
      · exact ⟨20, by omega, z⟩
    refine ⟨_, _, .int many, rfl, rfl, hx, ?_⟩
    refine exs_cons (ex_set (i := 12) nd (ev_tupleOf T.z_tuple (ep_ev (ev_el (el_of (own := [("k", 13)]) nd (by exact blk (N := n_law) (sc := defScope s_law) (by decide +kernel)) (lq_P (fun _ t => good t = true ∧ isRuleD t = true) nd ?_))))))
    refine it_rng T.z_range (ev_name (i := 11) rfl ⟨many, rfl, by omega, by omega, by rw [rngD_len]; omega, fun i y hy a1 a2 a3 a4 a5 => ?_, fun acc hacc hP => ?_⟩)
    · refine ev_callD (ok_lrule T) (hrA 2 (by decide)) (ea_cons (ev_name (i := 1) rfl (ea_cons (ev_name (i := 3) rfl (ea_cons (ev_el (el_lst (ea_nil ⟨lenOk, ea_nil ⟨zs', .tup (ws.map D.int), by rw [← hod], by rw [hp.length_eq]; omega, by rw [hp.length_eq]; omega, hp.nodup_iff.mpr hzn, fun sd2 a2 w2 l2 hsd2 ha2 hl2 hla2 hw3 hw4 => ?_⟩⟩))))))))
      exact ⟨rfl, rule_ok hsd2 (hz' a2 ha2) (hz' l2 hl2) hla2 hw3 hw4⟩
    rw [rngD_len] at hacc
    have hal : acc.length ≤ 20 := by omega
    have haP : ∀ t ∈ acc, good t = true ∧ isRuleD t = true := fun t ht => by
      obtain ⟨i, hi, e⟩ := List.getElem_of_mem ht
      exact hP i t (by rw [← e]; exact List.getElem?_eq_getElem hi)
    have hag : goods acc = true := goods_iff.mpr fun t ht => (haP t ht).1
    have haall : acc.all isRuleD = true := List.all_eq_true.mpr fun t ht => (haP t ht).2
    refine ⟨acc, rfl, ?_⟩
    refine exs_cons (ex_set (i := 14) nd ?_)
    refine ev_callD (ok_next T) (hrA 1 (by decide)) (ea_cons (ev_name (i := 1) rfl (ea_cons (ev_add (ev_name (i := 11) rfl (ev_int ⟨_, _, rfl, rfl, ea_nil ⟨_, rfl, by omega, by omega, fun pl h0 hd => ?_⟩⟩))))))
    refine exs_cons (ex_set (i := 15) nd (ev_ix (ep_ev (ev_el (el_lst ?_)))))
    have c1 := cut_len acc none (some pl)
    have c2 := cut_len acc (some pl) none
    refine ea_cons (ev_addT (ev_addT (ev_slT (ev_name (i := 12) rfl (eo_none (eo_some (ev_name (i := 14) rfl ⟨pl, rfl, acc, rfl, ?_⟩)))))))
    refine ev_tup (ea_cons (ev_name (i := 10) rfl (ea_nil ⟨lenOk, _, _, rfl, rfl, ?_, ?_⟩)))
    · exact (show (Dm.cutD acc none (some pl)).length + 1 ≤ 100000 by omega)
    refine ev_slT (ev_name (i := 12) rfl (eo_some (ev_name (i := 14) rfl ⟨pl, rfl, eo_none ⟨acc, rfl, _, _, rfl, rfl, ?_, ?_⟩⟩)))
    · rw [List.length_append]
      exact (show (Dm.cutD acc none (some pl)).length + 1 + (Dm.cutD acc (some pl) none).length ≤ 100000 by omega)
    refine ea_cons (ev_el (el_listOf T.z_list (ep_ev (ev_name (i := 12) rfl ⟨acc, rfl, ?_⟩))))
    refine ea_cons (ev_mulT (ev_tup (ea_cons (ev_name (i := 4) rfl (ea_nil ⟨lenOk, ev_int ⟨_, 21, rfl, rfl, by simp, by decide, by decide, (show 1 ≤ 1000 by decide), ?_⟩⟩)))))
    refine ea_cons (ev_non ?_)
    refine ea_cons (ev_name (i := 4) rfl (ea_nil ⟨lenOk, ?_⟩))
    refine ev_callD (ok_next T) (hrA 1 (by decide)) (ea_cons (ev_name (i := 1) rfl (ea_cons (ev_int (ea_nil ⟨5, rfl, by decide, by decide, fun d5 h50 h55 => ?_⟩)))))
    obtain ⟨nl, hn1, hnm⟩ := atI_ok (xs := [D.tup (Dm.cutD acc none (some pl) ++ [bad] ++ Dm.cutD acc (some pl) none), D.lst acc, D.tup (List.replicate (21 : Int).toNat [ruleT sd a wt l]).flatten, D.non, ruleT sd a wt l]) h50 h55
    have hnl : good nl = true ∧ isRulesD nl = false := by
      simp only [List.mem_cons, List.not_mem_nil, or_false] at hnm
      rcases hnm with rfl | rfl | rfl | rfl | rfl
      · refine ⟨good_tup.mpr ⟨by rw [List.length_append, List.length_append]; exact (show (Dm.cutD acc none (some pl)).length + 1 + (Dm.cutD acc (some pl) none).length ≤ 1000 by omega), goods_app (goods_app (goods_cut hag _ _) (g_cons hbg rfl)) (goods_cut hag _ _)⟩, ?_⟩
        have : (Dm.cutD acc none (some pl) ++ [bad] ++ Dm.cutD acc (some pl) none).all isRuleD = false := by
          rw [List.all_append, List.all_append]
          simp [hbr]
        simp only [isRulesD, this, Bool.and_false]
      · exact ⟨good_lst.mpr ⟨by omega, hag⟩, rfl⟩
      · refine ⟨good_tup.mpr ⟨Nat.le_of_ble_eq_true rfl, ?_⟩, ?_⟩
        · exact goods_iff.mpr fun x hx => by
            have : x = ruleT sd a wt l := by
              obtain ⟨y, hy, hx⟩ := List.mem_flatten.mp hx
              rw [List.eq_of_mem_replicate hy] at hx
              simpa using hx
            rw [this]; exact hgr
        · rfl
      · exact ⟨rfl, rfl⟩
      · exact ⟨hgr, by simp [isRulesD, isRuleD]⟩
    refine ⟨_, _, nl, rfl, rfl, hn1, ?_⟩
    have hro : isRulesD (.tup acc) = true := by simp only [isRulesD, haall, Bool.and_true, decide_eq_true_eq]; exact hal
    refine exs_cons (ex_ret (ev_and (ev_isB (ev_callD (ok_is_rule_list T) (hrA 11 (by decide)) (ea_cons (ev_name (i := 12) rfl (ea_nil ⟨.tup acc, rfl, good_tup.mpr ⟨by omega, hag⟩, ev_bl ⟨_, _, rfl, rfl, _, rfl, fun _ => ?_, fun h => by rw [hro] at h; cases h⟩⟩)))))))
    refine ev_one (ev_isB (ev_callD (ok_is_rule_list T) (hrA 11 (by decide)) (ea_cons (ev_name (i := 15) rfl (ea_nil ⟨nl, rfl, hnl.1, ev_bl ⟨_, _, rfl, rfl, ?_⟩⟩)))))
    rw [hnl.2]
    rfl
  refine exs_cons (ex_set (i := 2) nd ?_)
  refine ev_callD (ok_names T) (hr.mono (by decide)) (ea_cons (ev_name (i := 1) rfl (ea_nil ⟨rfl, hf0 pool0 (by decide +kernel) (by decide +kernel) rfl, hf0 pool1 (by decide +kernel) (by decide +kernel) rfl⟩)))
end

theorem all_mk {l : PySem.W.OpenLaw} {w : World} {K : PySem.W.Frag} {h : Heap} {mg : Str → Option Value} {fa : Addr} (X : K.In h) (G : h.Ns mainGlobals mg) (hfa : mg "law" = some (.ref fa)) (TF : ∀ x ∈ (["is_integer", "is_integer_within", "is_strength", "is_letter", "is_rule", "is_rule_list", "_law_stream", "_law_next", "_law_is_integer", "_law_equal", "_law_names", "_law_shuffled", "_law_order", "_law_difference", "_law_without", "_law_put", "_law_rule", "law"] : List Str), TabFact K mg h x)
    {f0 f1 f2 f3 f4 f5 f6 f7 f8 f9 f10 f11 f12 f13 f14 f15 f16 f17 cd0 cd1 cd2 cd3 cd4 cd5 cd6 cd7 cd8 cd9 cd10 cd11 cd12 cd13 cd14 cd15 cd16 cd17 P0 P1 P2 P3 P4 P5 P6 P7 P8 P9 P10 P11 P12 P13 P14 P15 P16 P17 : Addr} {od0 od1 od2 od3 od4 od5 od6 od7 od8 od9 od10 od11 od12 od13 od14 od15 od16 od17 an0 an1 an2 an3 an4 an5 an6 an7 an8 an9 an10 an11 an12 an13 an14 an15 an16 an17 ed0 ed1 ed2 ed3 ed4 ed5 ed6 ed7 ed8 ed9 ed10 ed11 ed12 ed13 ed14 ed15 ed16 ed17 : Option Addr} {sl0 sl1 sl2 sl3 sl4 sl5 sl6 sl7 sl8 sl9 sl10 sl11 sl12 sl13 sl14 sl15 sl16 sl17 es0 es1 es2 es3 es4 es5 es6 es7 es8 es9 es10 es11 es12 es13 es14 es15 es16 es17 : Array (Option Value)} {vs0 vs1 vs2 vs3 vs4 vs5 vs6 vs7 vs8 vs9 vs10 vs11 vs12 vs13 vs14 vs15 vs16 vs17 : Array Value} {oc0 oc1 oc2 oc3 oc4 oc5 oc6 oc7 oc8 oc9 oc10 oc11 oc12 oc13 oc14 oc15 oc16 oc17 kV0 kV1 kV2 kV3 kV4 kV5 kV6 kV7 kV8 kV9 kV10 kV11 kV12 kV13 kV14 kV15 kV16 kV17 dc0 dc1 dc2 dc3 dc4 dc5 dc6 dc7 dc8 dc9 dc10 dc11 dc12 dc13 dc14 dc15 dc16 dc17 pm0 pm1 pm2 pm3 pm4 pm5 pm6 pm7 pm8 pm9 pm10 pm11 pm12 pm13 pm14 pm15 pm16 pm17 ct0 ct1 ct2 ct3 ct4 ct5 ct6 ct7 ct8 ct9 ct10 ct11 ct12 ct13 ct14 ct15 ct16 ct17 ec0 ec1 ec2 ec3 ec4 ec5 ec6 ec7 ec8 ec9 ec10 ec11 ec12 ec13 ec14 ec15 ec16 ec17 : Value}
    (a0 : PySem.W.nsIn K mainGlobals "is_integer" = some (some (.ref f0))) (l0 : K.lookup f0 = some ⟨oc0, od0, .func (PySem.W.fnOf "is_integer" "is_integer" (defArgs s_is_integer) (defBody s_is_integer) (defScope s_is_integer) .none kV0 dc0 pm0 an0 (.ref cd0) ct0), sl0⟩) (k0 : PySem.W.codeIn K (.ref cd0) "is_integer" = true) (p0 : PySem.W.keepIn K (.ref f0) = true) (t0 : K.lookup cd0 = some ⟨ec0, ed0, .fields vs0, es0⟩) (v0 : vs0[11]? = some (.ref P0)) (n0 : K.lookup P0 = none)
    (a1 : PySem.W.nsIn K mainGlobals "is_integer_within" = some (some (.ref f1))) (l1 : K.lookup f1 = some ⟨oc1, od1, .func (PySem.W.fnOf "is_integer_within" "is_integer_within" (defArgs s_is_integer_within) (defBody s_is_integer_within) (defScope s_is_integer_within) .none kV1 dc1 pm1 an1 (.ref cd1) ct1), sl1⟩) (k1 : PySem.W.codeIn K (.ref cd1) "is_integer_within" = true) (p1 : PySem.W.keepIn K (.ref f1) = true) (t1 : K.lookup cd1 = some ⟨ec1, ed1, .fields vs1, es1⟩) (v1 : vs1[11]? = some (.ref P1)) (n1 : K.lookup P1 = none)
    (a2 : PySem.W.nsIn K mainGlobals "is_strength" = some (some (.ref f2))) (l2 : K.lookup f2 = some ⟨oc2, od2, .func (PySem.W.fnOf "is_strength" "is_strength" (defArgs s_is_strength) (defBody s_is_strength) (defScope s_is_strength) .none kV2 dc2 pm2 an2 (.ref cd2) ct2), sl2⟩) (k2 : PySem.W.codeIn K (.ref cd2) "is_strength" = true) (p2 : PySem.W.keepIn K (.ref f2) = true) (t2 : K.lookup cd2 = some ⟨ec2, ed2, .fields vs2, es2⟩) (v2 : vs2[11]? = some (.ref P2)) (n2 : K.lookup P2 = none)
    (a3 : PySem.W.nsIn K mainGlobals "is_letter" = some (some (.ref f3))) (l3 : K.lookup f3 = some ⟨oc3, od3, .func (PySem.W.fnOf "is_letter" "is_letter" (defArgs s_is_letter) (defBody s_is_letter) (defScope s_is_letter) .none kV3 dc3 pm3 an3 (.ref cd3) ct3), sl3⟩) (k3 : PySem.W.codeIn K (.ref cd3) "is_letter" = true) (p3 : PySem.W.keepIn K (.ref f3) = true) (t3 : K.lookup cd3 = some ⟨ec3, ed3, .fields vs3, es3⟩) (v3 : vs3[11]? = some (.ref P3)) (n3 : K.lookup P3 = none)
    (a4 : PySem.W.nsIn K mainGlobals "is_rule" = some (some (.ref f4))) (l4 : K.lookup f4 = some ⟨oc4, od4, .func (PySem.W.fnOf "is_rule" "is_rule" (defArgs s_is_rule) (defBody s_is_rule) (defScope s_is_rule) .none kV4 dc4 pm4 an4 (.ref cd4) ct4), sl4⟩) (k4 : PySem.W.codeIn K (.ref cd4) "is_rule" = true) (p4 : PySem.W.keepIn K (.ref f4) = true) (t4 : K.lookup cd4 = some ⟨ec4, ed4, .fields vs4, es4⟩) (v4 : vs4[11]? = some (.ref P4)) (n4 : K.lookup P4 = none)
    (a5 : PySem.W.nsIn K mainGlobals "is_rule_list" = some (some (.ref f5))) (l5 : K.lookup f5 = some ⟨oc5, od5, .func (PySem.W.fnOf "is_rule_list" "is_rule_list" (defArgs s_is_rule_list) (defBody s_is_rule_list) (defScope s_is_rule_list) .none kV5 dc5 pm5 an5 (.ref cd5) ct5), sl5⟩) (k5 : PySem.W.codeIn K (.ref cd5) "is_rule_list" = true) (p5 : PySem.W.keepIn K (.ref f5) = true) (t5 : K.lookup cd5 = some ⟨ec5, ed5, .fields vs5, es5⟩) (v5 : vs5[11]? = some (.ref P5)) (n5 : K.lookup P5 = none)
    (a6 : PySem.W.nsIn K mainGlobals "_law_stream" = some (some (.ref f6))) (l6 : K.lookup f6 = some ⟨oc6, od6, .func (PySem.W.fnOf "_law_stream" "_law_stream" (defArgs s__law_stream) (defBody s__law_stream) (defScope s__law_stream) .none kV6 dc6 pm6 an6 (.ref cd6) ct6), sl6⟩) (k6 : PySem.W.codeIn K (.ref cd6) "_law_stream" = true) (p6 : PySem.W.keepIn K (.ref f6) = true) (t6 : K.lookup cd6 = some ⟨ec6, ed6, .fields vs6, es6⟩) (v6 : vs6[11]? = some (.ref P6)) (n6 : K.lookup P6 = none)
    (a7 : PySem.W.nsIn K mainGlobals "_law_next" = some (some (.ref f7))) (l7 : K.lookup f7 = some ⟨oc7, od7, .func (PySem.W.fnOf "_law_next" "_law_next" (defArgs s__law_next) (defBody s__law_next) (defScope s__law_next) .none kV7 dc7 pm7 an7 (.ref cd7) ct7), sl7⟩) (k7 : PySem.W.codeIn K (.ref cd7) "_law_next" = true) (p7 : PySem.W.keepIn K (.ref f7) = true) (t7 : K.lookup cd7 = some ⟨ec7, ed7, .fields vs7, es7⟩) (v7 : vs7[11]? = some (.ref P7)) (n7 : K.lookup P7 = none)
    (a8 : PySem.W.nsIn K mainGlobals "_law_is_integer" = some (some (.ref f8))) (l8 : K.lookup f8 = some ⟨oc8, od8, .func (PySem.W.fnOf "_law_is_integer" "_law_is_integer" (defArgs s__law_is_integer) (defBody s__law_is_integer) (defScope s__law_is_integer) .none kV8 dc8 pm8 an8 (.ref cd8) ct8), sl8⟩) (k8 : PySem.W.codeIn K (.ref cd8) "_law_is_integer" = true) (p8 : PySem.W.keepIn K (.ref f8) = true) (t8 : K.lookup cd8 = some ⟨ec8, ed8, .fields vs8, es8⟩) (v8 : vs8[11]? = some (.ref P8)) (n8 : K.lookup P8 = none)
    (a9 : PySem.W.nsIn K mainGlobals "_law_equal" = some (some (.ref f9))) (l9 : K.lookup f9 = some ⟨oc9, od9, .func (PySem.W.fnOf "_law_equal" "_law_equal" (defArgs s__law_equal) (defBody s__law_equal) (defScope s__law_equal) .none kV9 dc9 pm9 an9 (.ref cd9) ct9), sl9⟩) (k9 : PySem.W.codeIn K (.ref cd9) "_law_equal" = true) (p9 : PySem.W.keepIn K (.ref f9) = true) (t9 : K.lookup cd9 = some ⟨ec9, ed9, .fields vs9, es9⟩) (v9 : vs9[11]? = some (.ref P9)) (n9 : K.lookup P9 = none)
    (a10 : PySem.W.nsIn K mainGlobals "_law_names" = some (some (.ref f10))) (l10 : K.lookup f10 = some ⟨oc10, od10, .func (PySem.W.fnOf "_law_names" "_law_names" (defArgs s__law_names) (defBody s__law_names) (defScope s__law_names) .none kV10 dc10 pm10 an10 (.ref cd10) ct10), sl10⟩) (k10 : PySem.W.codeIn K (.ref cd10) "_law_names" = true) (p10 : PySem.W.keepIn K (.ref f10) = true) (t10 : K.lookup cd10 = some ⟨ec10, ed10, .fields vs10, es10⟩) (v10 : vs10[11]? = some (.ref P10)) (n10 : K.lookup P10 = none)
    (a11 : PySem.W.nsIn K mainGlobals "_law_shuffled" = some (some (.ref f11))) (l11 : K.lookup f11 = some ⟨oc11, od11, .func (PySem.W.fnOf "_law_shuffled" "_law_shuffled" (defArgs s__law_shuffled) (defBody s__law_shuffled) (defScope s__law_shuffled) .none kV11 dc11 pm11 an11 (.ref cd11) ct11), sl11⟩) (k11 : PySem.W.codeIn K (.ref cd11) "_law_shuffled" = true) (p11 : PySem.W.keepIn K (.ref f11) = true) (t11 : K.lookup cd11 = some ⟨ec11, ed11, .fields vs11, es11⟩) (v11 : vs11[11]? = some (.ref P11)) (n11 : K.lookup P11 = none)
    (a12 : PySem.W.nsIn K mainGlobals "_law_order" = some (some (.ref f12))) (l12 : K.lookup f12 = some ⟨oc12, od12, .func (PySem.W.fnOf "_law_order" "_law_order" (defArgs s__law_order) (defBody s__law_order) (defScope s__law_order) .none kV12 dc12 pm12 an12 (.ref cd12) ct12), sl12⟩) (k12 : PySem.W.codeIn K (.ref cd12) "_law_order" = true) (p12 : PySem.W.keepIn K (.ref f12) = true) (t12 : K.lookup cd12 = some ⟨ec12, ed12, .fields vs12, es12⟩) (v12 : vs12[11]? = some (.ref P12)) (n12 : K.lookup P12 = none)
    (a13 : PySem.W.nsIn K mainGlobals "_law_difference" = some (some (.ref f13))) (l13 : K.lookup f13 = some ⟨oc13, od13, .func (PySem.W.fnOf "_law_difference" "_law_difference" (defArgs s__law_difference) (defBody s__law_difference) (defScope s__law_difference) .none kV13 dc13 pm13 an13 (.ref cd13) ct13), sl13⟩) (k13 : PySem.W.codeIn K (.ref cd13) "_law_difference" = true) (p13 : PySem.W.keepIn K (.ref f13) = true) (t13 : K.lookup cd13 = some ⟨ec13, ed13, .fields vs13, es13⟩) (v13 : vs13[11]? = some (.ref P13)) (n13 : K.lookup P13 = none)
    (a14 : PySem.W.nsIn K mainGlobals "_law_without" = some (some (.ref f14))) (l14 : K.lookup f14 = some ⟨oc14, od14, .func (PySem.W.fnOf "_law_without" "_law_without" (defArgs s__law_without) (defBody s__law_without) (defScope s__law_without) .none kV14 dc14 pm14 an14 (.ref cd14) ct14), sl14⟩) (k14 : PySem.W.codeIn K (.ref cd14) "_law_without" = true) (p14 : PySem.W.keepIn K (.ref f14) = true) (t14 : K.lookup cd14 = some ⟨ec14, ed14, .fields vs14, es14⟩) (v14 : vs14[11]? = some (.ref P14)) (n14 : K.lookup P14 = none)
    (a15 : PySem.W.nsIn K mainGlobals "_law_put" = some (some (.ref f15))) (l15 : K.lookup f15 = some ⟨oc15, od15, .func (PySem.W.fnOf "_law_put" "_law_put" (defArgs s__law_put) (defBody s__law_put) (defScope s__law_put) .none kV15 dc15 pm15 an15 (.ref cd15) ct15), sl15⟩) (k15 : PySem.W.codeIn K (.ref cd15) "_law_put" = true) (p15 : PySem.W.keepIn K (.ref f15) = true) (t15 : K.lookup cd15 = some ⟨ec15, ed15, .fields vs15, es15⟩) (v15 : vs15[11]? = some (.ref P15)) (n15 : K.lookup P15 = none)
    (a16 : PySem.W.nsIn K mainGlobals "_law_rule" = some (some (.ref f16))) (l16 : K.lookup f16 = some ⟨oc16, od16, .func (PySem.W.fnOf "_law_rule" "_law_rule" (defArgs s__law_rule) (defBody s__law_rule) (defScope s__law_rule) .none kV16 dc16 pm16 an16 (.ref cd16) ct16), sl16⟩) (k16 : PySem.W.codeIn K (.ref cd16) "_law_rule" = true) (p16 : PySem.W.keepIn K (.ref f16) = true) (t16 : K.lookup cd16 = some ⟨ec16, ed16, .fields vs16, es16⟩) (v16 : vs16[11]? = some (.ref P16)) (n16 : K.lookup P16 = none)
    (a17 : PySem.W.nsIn K mainGlobals "law" = some (some (.ref f17))) (l17 : K.lookup f17 = some ⟨oc17, od17, .func (PySem.W.fnOf "law" "law" (defArgs s_law) (defBody s_law) (defScope s_law) .none kV17 dc17 pm17 an17 (.ref cd17) ct17), sl17⟩) (k17 : PySem.W.codeIn K (.ref cd17) "law" = true) (p17 : PySem.W.keepIn K (.ref f17) = true) (t17 : K.lookup cd17 = some ⟨ec17, ed17, .fields vs17, es17⟩) (v17 : vs17[11]? = some (.ref P17)) (n17 : K.lookup P17 = none)
    (z_abs : PySem.W.nsIn K mainGlobals "abs" = some none)
    (z_all : PySem.W.nsIn K mainGlobals "all" = some none)
    (z_bool : PySem.W.nsIn K mainGlobals "bool" = some none)
    (z_int : PySem.W.nsIn K mainGlobals "int" = some none)
    (z_isinstance : PySem.W.nsIn K mainGlobals "isinstance" = some none)
    (z_len : PySem.W.nsIn K mainGlobals "len" = some none)
    (z_list : PySem.W.nsIn K mainGlobals "list" = some none)
    (z_max : PySem.W.nsIn K mainGlobals "max" = some none)
    (z_min : PySem.W.nsIn K mainGlobals "min" = some none)
    (z_range : PySem.W.nsIn K mainGlobals "range" = some none)
    (z_str : PySem.W.nsIn K mainGlobals "str" = some none)
    (z_tuple : PySem.W.nsIn K mainGlobals "tuple" = some none)
    {tk_MOST_CHARACTERS : Tok} (g_MOST_CHARACTERS : PySem.W.nsIn K mainGlobals "MOST_CHARACTERS" = some (some (.int 12 tk_MOST_CHARACTERS)))
    {tk_FIRST_CHARACTERS : Tok} (g_FIRST_CHARACTERS : PySem.W.nsIn K mainGlobals "FIRST_CHARACTERS" = some (some (.str "abcdefghijklmnopqrstuvwxyz" tk_FIRST_CHARACTERS)))
    {tk_CHARACTERS : Tok} (g_CHARACTERS : PySem.W.nsIn K mainGlobals "CHARACTERS" = some (some (.str "abcdefghijklmnopqrstuvwxyz0123456789" tk_CHARACTERS)))
    {tk_AFTER : Tok} (g_AFTER : PySem.W.nsIn K mainGlobals "AFTER" = some (some (.str "after" tk_AFTER)))
    {tk_BEFORE : Tok} (g_BEFORE : PySem.W.nsIn K mainGlobals "BEFORE" = some (some (.str "before" tk_BEFORE)))
    {tk_MOST_RULES : Tok} (g_MOST_RULES : PySem.W.nsIn K mainGlobals "MOST_RULES" = some (some (.int 20 tk_MOST_RULES)))
    : LamX.LawAtS l w K CX0 12 63 "script" mg fa h := by
  have e := hfa.symm.trans (PySem.W.mg_of X G a17)
  cases e
  have F0 : FunC K "is_integer" "is_integer" s_is_integer cd0 _ _ := ⟨⟨_, _, _, _, _, _, _, _, rfl, l0, k0⟩, p0⟩
  have W0 := TF "is_integer" (by decide +kernel) _ _ _ _ _ _ _ _ _ _ _ (PySem.W.mg_of X G a0) l0 rfl t0 v0
  have F1 : FunC K "is_integer_within" "is_integer_within" s_is_integer_within cd1 _ _ := ⟨⟨_, _, _, _, _, _, _, _, rfl, l1, k1⟩, p1⟩
  have W1 := TF "is_integer_within" (by decide +kernel) _ _ _ _ _ _ _ _ _ _ _ (PySem.W.mg_of X G a1) l1 rfl t1 v1
  have F2 : FunC K "is_strength" "is_strength" s_is_strength cd2 _ _ := ⟨⟨_, _, _, _, _, _, _, _, rfl, l2, k2⟩, p2⟩
  have W2 := TF "is_strength" (by decide +kernel) _ _ _ _ _ _ _ _ _ _ _ (PySem.W.mg_of X G a2) l2 rfl t2 v2
  have F3 : FunC K "is_letter" "is_letter" s_is_letter cd3 _ _ := ⟨⟨_, _, _, _, _, _, _, _, rfl, l3, k3⟩, p3⟩
  have W3 := TF "is_letter" (by decide +kernel) _ _ _ _ _ _ _ _ _ _ _ (PySem.W.mg_of X G a3) l3 rfl t3 v3
  have F4 : FunC K "is_rule" "is_rule" s_is_rule cd4 _ _ := ⟨⟨_, _, _, _, _, _, _, _, rfl, l4, k4⟩, p4⟩
  have W4 := TF "is_rule" (by decide +kernel) _ _ _ _ _ _ _ _ _ _ _ (PySem.W.mg_of X G a4) l4 rfl t4 v4
  have F5 : FunC K "is_rule_list" "is_rule_list" s_is_rule_list cd5 _ _ := ⟨⟨_, _, _, _, _, _, _, _, rfl, l5, k5⟩, p5⟩
  have W5 := TF "is_rule_list" (by decide +kernel) _ _ _ _ _ _ _ _ _ _ _ (PySem.W.mg_of X G a5) l5 rfl t5 v5
  have F6 : FunC K "_law_stream" "_law_stream" s__law_stream cd6 _ _ := ⟨⟨_, _, _, _, _, _, _, _, rfl, l6, k6⟩, p6⟩
  have W6 := TF "_law_stream" (by decide +kernel) _ _ _ _ _ _ _ _ _ _ _ (PySem.W.mg_of X G a6) l6 rfl t6 v6
  have F7 : FunC K "_law_next" "_law_next" s__law_next cd7 _ _ := ⟨⟨_, _, _, _, _, _, _, _, rfl, l7, k7⟩, p7⟩
  have W7 := TF "_law_next" (by decide +kernel) _ _ _ _ _ _ _ _ _ _ _ (PySem.W.mg_of X G a7) l7 rfl t7 v7
  have F8 : FunC K "_law_is_integer" "_law_is_integer" s__law_is_integer cd8 _ _ := ⟨⟨_, _, _, _, _, _, _, _, rfl, l8, k8⟩, p8⟩
  have W8 := TF "_law_is_integer" (by decide +kernel) _ _ _ _ _ _ _ _ _ _ _ (PySem.W.mg_of X G a8) l8 rfl t8 v8
  have F9 : FunC K "_law_equal" "_law_equal" s__law_equal cd9 _ _ := ⟨⟨_, _, _, _, _, _, _, _, rfl, l9, k9⟩, p9⟩
  have W9 := TF "_law_equal" (by decide +kernel) _ _ _ _ _ _ _ _ _ _ _ (PySem.W.mg_of X G a9) l9 rfl t9 v9
  have F10 : FunC K "_law_names" "_law_names" s__law_names cd10 _ _ := ⟨⟨_, _, _, _, _, _, _, _, rfl, l10, k10⟩, p10⟩
  have W10 := TF "_law_names" (by decide +kernel) _ _ _ _ _ _ _ _ _ _ _ (PySem.W.mg_of X G a10) l10 rfl t10 v10
  have F11 : FunC K "_law_shuffled" "_law_shuffled" s__law_shuffled cd11 _ _ := ⟨⟨_, _, _, _, _, _, _, _, rfl, l11, k11⟩, p11⟩
  have W11 := TF "_law_shuffled" (by decide +kernel) _ _ _ _ _ _ _ _ _ _ _ (PySem.W.mg_of X G a11) l11 rfl t11 v11
  have F12 : FunC K "_law_order" "_law_order" s__law_order cd12 _ _ := ⟨⟨_, _, _, _, _, _, _, _, rfl, l12, k12⟩, p12⟩
  have W12 := TF "_law_order" (by decide +kernel) _ _ _ _ _ _ _ _ _ _ _ (PySem.W.mg_of X G a12) l12 rfl t12 v12
  have F13 : FunC K "_law_difference" "_law_difference" s__law_difference cd13 _ _ := ⟨⟨_, _, _, _, _, _, _, _, rfl, l13, k13⟩, p13⟩
  have W13 := TF "_law_difference" (by decide +kernel) _ _ _ _ _ _ _ _ _ _ _ (PySem.W.mg_of X G a13) l13 rfl t13 v13
  have F14 : FunC K "_law_without" "_law_without" s__law_without cd14 _ _ := ⟨⟨_, _, _, _, _, _, _, _, rfl, l14, k14⟩, p14⟩
  have W14 := TF "_law_without" (by decide +kernel) _ _ _ _ _ _ _ _ _ _ _ (PySem.W.mg_of X G a14) l14 rfl t14 v14
  have F15 : FunC K "_law_put" "_law_put" s__law_put cd15 _ _ := ⟨⟨_, _, _, _, _, _, _, _, rfl, l15, k15⟩, p15⟩
  have W15 := TF "_law_put" (by decide +kernel) _ _ _ _ _ _ _ _ _ _ _ (PySem.W.mg_of X G a15) l15 rfl t15 v15
  have F16 : FunC K "_law_rule" "_law_rule" s__law_rule cd16 _ _ := ⟨⟨_, _, _, _, _, _, _, _, rfl, l16, k16⟩, p16⟩
  have W16 := TF "_law_rule" (by decide +kernel) _ _ _ _ _ _ _ _ _ _ _ (PySem.W.mg_of X G a16) l16 rfl t16 v16
  have F17 : FunC K "law" "law" s_law cd17 _ _ := ⟨⟨_, _, _, _, _, _, _, _, rfl, l17, k17⟩, p17⟩
  have W17 := TF "law" (by decide +kernel) _ _ _ _ _ _ _ _ _ _ _ (PySem.W.mg_of X G a17) l17 rfl t17 v17
  refine ⟨PySem.W.fnOf "law" "law" (defArgs s_law) (defBody s_law) (defScope s_law) .none kV17 dc17 pm17 an17 (.ref cd17) ct17, [(cd0, P0), (cd1, P1), (cd2, P2), (cd3, P3), (cd4, P4), (cd5, P5), (cd6, P6), (cd7, P7), (cd8, P8), (cd9, P9), (cd10, P10), (cd11, P11), (cd12, P12), (cd13, P13), (cd14, P14), (cd15, P15), (cd16, P16), (cd17, P17)], spLaw K [P0, P1, P2, P3, P4, P5, P6, P7, P8, P9, P10, P11, P12, P13, P14, P15, P16, P17], ?_, ?_, ?_, fun s v => .of_eq rfl, ?_, ?_⟩
  · simp only [List.forall_mem_cons, List.not_mem_nil, false_imp_iff, implies_true, and_true]
    exact ⟨W0.2, W1.2, W2.2, W3.2, W4.2, W5.2, W6.2, W7.2, W8.2, W9.2, W10.2, W11.2, W12.2, W13.2, W14.2, W15.2, W16.2, W17.2⟩
  · simp only [List.forall_mem_cons, List.not_mem_nil, false_imp_iff, implies_true, and_true]
    exact ⟨n0, n1, n2, n3, n4, n5, n6, n7, n8, n9, n10, n11, n12, n13, n14, n15, n16, n17⟩
  · simp only [List.forall_mem_cons, List.not_mem_nil, false_imp_iff, implies_true, and_true]
    exact ⟨W0.1, W1.1, W2.1, W3.1, W4.1, W5.1, W6.1, W7.1, W8.1, W9.1, W10.1, W11.1, W12.1, W13.1, W14.1, W15.1, W16.1, W17.1⟩
  · intro H a ns hl hbits hT hS
    refine ⟨a, ns, rfl, hS, fun P hP => ?_, fun _ => rfl⟩
    have hP : P ∈ ([(cd0, P0), (cd1, P1), (cd2, P2), (cd3, P3), (cd4, P4), (cd5, P5), (cd6, P6), (cd7, P7), (cd8, P8), (cd9, P9), (cd10, P10), (cd11, P11), (cd12, P12), (cd13, P13), (cd14, P14), (cd15, P15), (cd16, P16), (cd17, P17)] : List (Addr × Addr)).map (·.2) := hP
    obtain ⟨p, hp, e⟩ := List.mem_map.mp hP
    exact ⟨#[], by rw [← e]; exact hT p hp, True.intro⟩
  · intro base KB GB hTB
    have tb : ∀ p ∈ ([(cd0, P0), (cd1, P1), (cd2, P2), (cd3, P3), (cd4, P4), (cd5, P5), (cd6, P6), (cd7, P7), (cd8, P8), (cd9, P9), (cd10, P10), (cd11, P11), (cd12, P12), (cd13, P13), (cd14, P14), (cd15, P15), (cd16, P16), (cd17, P17)] : List (Addr × Addr)), GxR.TabB base mg p.1 p.2 := fun p hp => by
      obtain ⟨q1, q2, q3⟩ := hTB p hp
      exact ⟨q1, q2, q3⟩
    simp only [List.forall_mem_cons, List.not_mem_nil, false_imp_iff, implies_true, and_true] at tb
    obtain ⟨b0, b1, b2, b3, b4, b5, b6, b7, b8, b9, b10, b11, b12, b13, b14, b15, b16, b17⟩ := tb
    have TT : Txt K mg base [P0, P1, P2, P3, P4, P5, P6, P7, P8, P9, P10, P11, P12, P13, P14, P15, P16, P17] := ⟨PySem.W.mg_none_of X G z_abs,
      PySem.W.mg_none_of X G z_all,
      PySem.W.mg_none_of X G z_bool,
      PySem.W.mg_none_of X G z_int,
      PySem.W.mg_none_of X G z_isinstance,
      PySem.W.mg_none_of X G z_len,
      PySem.W.mg_none_of X G z_list,
      PySem.W.mg_none_of X G z_max,
      PySem.W.mg_none_of X G z_min,
      PySem.W.mg_none_of X G z_range,
      PySem.W.mg_none_of X G z_str,
      PySem.W.mg_none_of X G z_tuple,
      ⟨_, PySem.W.mg_of X G g_MOST_CHARACTERS⟩,
      ⟨_, PySem.W.mg_of X G g_FIRST_CHARACTERS⟩,
      ⟨_, PySem.W.mg_of X G g_CHARACTERS⟩,
      ⟨_, PySem.W.mg_of X G g_AFTER⟩,
      ⟨_, PySem.W.mg_of X G g_BEFORE⟩,
      ⟨_, PySem.W.mg_of X G g_MOST_RULES⟩,
      ⟨cd0, P0, _, _, F0, PySem.W.mg_of X G a0, F0.to.binds (ps := ["value"]) (fun _ _ _ _ _ _ us hl => match us, hl with | [_], _ => rfl), b0, by simp⟩,
      ⟨cd1, P1, _, _, F1, PySem.W.mg_of X G a1, F1.to.binds (ps := ["value", "least", "most"]) (fun _ _ _ _ _ _ us hl => match us, hl with | [_, _, _], _ => rfl), b1, by simp⟩,
      ⟨cd2, P2, _, _, F2, PySem.W.mg_of X G a2, F2.to.binds (ps := ["value"]) (fun _ _ _ _ _ _ us hl => match us, hl with | [_], _ => rfl), b2, by simp⟩,
      ⟨cd3, P3, _, _, F3, PySem.W.mg_of X G a3, F3.to.binds (ps := ["value"]) (fun _ _ _ _ _ _ us hl => match us, hl with | [_], _ => rfl), b3, by simp⟩,
      ⟨cd4, P4, _, _, F4, PySem.W.mg_of X G a4, F4.to.binds (ps := ["value"]) (fun _ _ _ _ _ _ us hl => match us, hl with | [_], _ => rfl), b4, by simp⟩,
      ⟨cd5, P5, _, _, F5, PySem.W.mg_of X G a5, F5.to.binds (ps := ["value"]) (fun _ _ _ _ _ _ us hl => match us, hl with | [_], _ => rfl), b5, by simp⟩,
      ⟨cd6, P6, _, _, F6, PySem.W.mg_of X G a6, F6.to.binds (ps := ["script"]) (fun _ _ _ _ _ _ us hl => match us, hl with | [_], _ => rfl), b6, by simp⟩,
      ⟨cd7, P7, _, _, F7, PySem.W.mg_of X G a7, F7.to.binds (ps := ["stream", "many"]) (fun _ _ _ _ _ _ us hl => match us, hl with | [_, _], _ => rfl), b7, by simp⟩,
      ⟨cd8, P8, _, _, F8, PySem.W.mg_of X G a8, F8.to.binds (ps := ["actual"]) (fun _ _ _ _ _ _ us hl => match us, hl with | [_], _ => rfl), b8, by simp⟩,
      ⟨cd9, P9, _, _, F9, PySem.W.mg_of X G a9, F9.to.binds (ps := ["actual", "due"]) (fun _ _ _ _ _ _ us hl => match us, hl with | [_, _], _ => rfl), b9, by simp⟩,
      ⟨cd10, P10, _, _, F10, PySem.W.mg_of X G a10, F10.to.binds (ps := ["stream"]) (fun _ _ _ _ _ _ us hl => match us, hl with | [_], _ => rfl), b10, by simp⟩,
      ⟨cd11, P11, _, _, F11, PySem.W.mg_of X G a11, F11.to.binds (ps := ["stream", "names"]) (fun _ _ _ _ _ _ us hl => match us, hl with | [_, _], _ => rfl), b11, by simp⟩,
      ⟨cd12, P12, _, _, F12, PySem.W.mg_of X G a12, F12.to.binds (ps := ["stream", "names"]) (fun _ _ _ _ _ _ us hl => match us, hl with | [_, _], _ => rfl), b12, by simp⟩,
      ⟨cd13, P13, _, _, F13, PySem.W.mg_of X G a13, F13.to.binds (ps := ["order", "x", "y"]) (fun _ _ _ _ _ _ us hl => match us, hl with | [_, _, _], _ => rfl), b13, by simp⟩,
      ⟨cd14, P14, _, _, F14, PySem.W.mg_of X G a14, F14.to.binds (ps := ["order", "letter"]) (fun _ _ _ _ _ _ us hl => match us, hl with | [_, _], _ => rfl), b14, by simp⟩,
      ⟨cd15, P15, _, _, F15, PySem.W.mg_of X G a15, F15.to.binds (ps := ["order", "rule"]) (fun _ _ _ _ _ _ us hl => match us, hl with | [_, _], _ => rfl), b15, by simp⟩,
      ⟨cd16, P16, _, _, F16, PySem.W.mg_of X G a16, F16.to.binds (ps := ["stream", "order", "more"]) (fun _ _ _ _ _ _ us hl => match us, hl with | [_, _, _], _ => rfl), b16, by simp⟩⟩
    exact ok_law TT F17
end My
open PySem PySem.W PyProof.Rows in
set_option maxRecDepth 100000 in
set_option maxHeartbeats 0 in
theorem PySem.Challenge.cw_fewestrules_k09_forms_of_rules_holds : PySem.Challenge.rw_fewestrules_k09_forms_of_rules.Holds := by
  w_on; o_law; k_head; (case hw => w_witness2)
  k_fill
  refine Dm.walk_ofD (l := PySem.Challenge.rw_fewestrules_k09_forms_of_rules) (n := 63) (k := 12) (x := "script") ["is_integer", "is_integer_within", "is_strength", "is_letter", "is_rule", "is_rule_list", "_law_stream", "_law_next", "_law_is_integer", "_law_equal", "_law_names", "_law_shuffled", "_law_order", "_law_difference", "_law_without", "_law_put", "_law_rule", "law"] rfl (by decide) rfl ⟨rfl, by decide, by decide⟩ (by decide +kernel) (fun w h Y => PySem.W.kIn_of Y) ?F
  case F =>
    intro w mg fa h KX G hmg TF
    refine' My.all_mk KX G hmg TF ?a0 ?l0 ?k0 ?p0 ?t0 ?v0 ?n0 ?a1 ?l1 ?k1 ?p1 ?t1 ?v1 ?n1 ?a2 ?l2 ?k2 ?p2 ?t2 ?v2 ?n2 ?a3 ?l3 ?k3 ?p3 ?t3 ?v3 ?n3 ?a4 ?l4 ?k4 ?p4 ?t4 ?v4 ?n4 ?a5 ?l5 ?k5 ?p5 ?t5 ?v5 ?n5 ?a6 ?l6 ?k6 ?p6 ?t6 ?v6 ?n6 ?a7 ?l7 ?k7 ?p7 ?t7 ?v7 ?n7 ?a8 ?l8 ?k8 ?p8 ?t8 ?v8 ?n8 ?a9 ?l9 ?k9 ?p9 ?t9 ?v9 ?n9 ?a10 ?l10 ?k10 ?p10 ?t10 ?v10 ?n10 ?a11 ?l11 ?k11 ?p11 ?t11 ?v11 ?n11 ?a12 ?l12 ?k12 ?p12 ?t12 ?v12 ?n12 ?a13 ?l13 ?k13 ?p13 ?t13 ?v13 ?n13 ?a14 ?l14 ?k14 ?p14 ?t14 ?v14 ?n14 ?a15 ?l15 ?k15 ?p15 ?t15 ?v15 ?n15 ?a16 ?l16 ?k16 ?p16 ?t16 ?v16 ?n16 ?a17 ?l17 ?k17 ?p17 ?t17 ?v17 ?n17 ?z_abs ?z_all ?z_bool ?z_int ?z_isinstance ?z_len ?z_list ?z_max ?z_min ?z_range ?z_str ?z_tuple ?g_MOST_CHARACTERS ?g_FIRST_CHARACTERS ?g_CHARACTERS ?g_AFTER ?g_BEFORE ?g_MOST_RULES
    (case a0 => k_is)
    (case l0 => k_is)
    (case k0 => k_is)
    (case p0 => k_is)
    (case t0 => k_is)
    (case v0 => rfl)
    (case n0 => rfl)
    (case a1 => k_is)
    (case l1 => k_is)
    (case k1 => k_is)
    (case p1 => k_is)
    (case t1 => k_is)
    (case v1 => rfl)
    (case n1 => rfl)
    (case a2 => k_is)
    (case l2 => k_is)
    (case k2 => k_is)
    (case p2 => k_is)
    (case t2 => k_is)
    (case v2 => rfl)
    (case n2 => rfl)
    (case a3 => k_is)
    (case l3 => k_is)
    (case k3 => k_is)
    (case p3 => k_is)
    (case t3 => k_is)
    (case v3 => rfl)
    (case n3 => rfl)
    (case a4 => k_is)
    (case l4 => k_is)
    (case k4 => k_is)
    (case p4 => k_is)
    (case t4 => k_is)
    (case v4 => rfl)
    (case n4 => rfl)
    (case a5 => k_is)
    (case l5 => k_is)
    (case k5 => k_is)
    (case p5 => k_is)
    (case t5 => k_is)
    (case v5 => rfl)
    (case n5 => rfl)
    (case a6 => k_is)
    (case l6 => k_is)
    (case k6 => k_is)
    (case p6 => k_is)
    (case t6 => k_is)
    (case v6 => rfl)
    (case n6 => rfl)
    (case a7 => k_is)
    (case l7 => k_is)
    (case k7 => k_is)
    (case p7 => k_is)
    (case t7 => k_is)
    (case v7 => rfl)
    (case n7 => rfl)
    (case a8 => k_is)
    (case l8 => k_is)
    (case k8 => k_is)
    (case p8 => k_is)
    (case t8 => k_is)
    (case v8 => rfl)
    (case n8 => rfl)
    (case a9 => k_is)
    (case l9 => k_is)
    (case k9 => k_is)
    (case p9 => k_is)
    (case t9 => k_is)
    (case v9 => rfl)
    (case n9 => rfl)
    (case a10 => k_is)
    (case l10 => k_is)
    (case k10 => k_is)
    (case p10 => k_is)
    (case t10 => k_is)
    (case v10 => rfl)
    (case n10 => rfl)
    (case a11 => k_is)
    (case l11 => k_is)
    (case k11 => k_is)
    (case p11 => k_is)
    (case t11 => k_is)
    (case v11 => rfl)
    (case n11 => rfl)
    (case a12 => k_is)
    (case l12 => k_is)
    (case k12 => k_is)
    (case p12 => k_is)
    (case t12 => k_is)
    (case v12 => rfl)
    (case n12 => rfl)
    (case a13 => k_is)
    (case l13 => k_is)
    (case k13 => k_is)
    (case p13 => k_is)
    (case t13 => k_is)
    (case v13 => rfl)
    (case n13 => rfl)
    (case a14 => k_is)
    (case l14 => k_is)
    (case k14 => k_is)
    (case p14 => k_is)
    (case t14 => k_is)
    (case v14 => rfl)
    (case n14 => rfl)
    (case a15 => k_is)
    (case l15 => k_is)
    (case k15 => k_is)
    (case p15 => k_is)
    (case t15 => k_is)
    (case v15 => rfl)
    (case n15 => rfl)
    (case a16 => k_is)
    (case l16 => k_is)
    (case k16 => k_is)
    (case p16 => k_is)
    (case t16 => k_is)
    (case v16 => rfl)
    (case n16 => rfl)
    (case a17 => k_is)
    (case l17 => k_is)
    (case k17 => k_is)
    (case p17 => k_is)
    (case t17 => k_is)
    (case v17 => rfl)
    (case n17 => rfl)
    (case z_abs => k_is)
    (case z_all => k_is)
    (case z_bool => k_is)
    (case z_int => k_is)
    (case z_isinstance => k_is)
    (case z_len => k_is)
    (case z_list => k_is)
    (case z_max => k_is)
    (case z_min => k_is)
    (case z_range => k_is)
    (case z_str => k_is)
    (case z_tuple => k_is)
    (case g_MOST_CHARACTERS => k_is)
    (case g_FIRST_CHARACTERS => k_is)
    (case g_CHARACTERS => k_is)
    (case g_AFTER => k_is)
    (case g_BEFORE => k_is)
    (case g_MOST_RULES => k_is)
