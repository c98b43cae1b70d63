import PyProof.Rows.All
import HandS.RepeatKit
import PyProof.TupleOfSeq
import PyProof.MakeMany
import PyProof.CodeObj
import PyProof.ListRange
import Wide.All
import OpenK.AllK
import Wide.FinOn
import HandS.ForMost
import HandS.AnyAll
import HandS.GenList
import HandS.EndTab
import PyProof.TupleOfGen
import HandS.TupAny
import HandS.TupMul
import HandS.Evl
import HandS.IsInst
import HandS.Style
import HandS.Zip
import HandS.Codes
import HandS.Deep
import HandS.More
import HandS.Wide
import HandS.Lambda
import HandS.EndOwn
import HandS.Strs
import KE.DataMinMax
import OpenK.KEqL
import HandS.SortKw
import HandS.TryOnly
import KE.KRevSl
import HandS.Dict
import HandS.Iter
import HandS.Zip0
import PyProof.Draws
import KE.GoesMore
import HandS.Rev
import HandS.RevRange
import PyProof.Rows.SortStr
import HandS.Nested
import HandS.ExcInit
import HandS.ExcSuper
import HandS.ExcField
import HandS.ExcIs
import HandS.TryMany
import HandS.ClsMeth
import HandS.FStr
import KE.KExcSuper
import HandS.SetFor
import PyProof.EqAt
import HandS.SortRule
import HandS.Conv
import KE.DataMinKey
import HandS.Flow
import KE.SortData
import KE.KDictZip
import HandS.DictComp
import KE.SortKeyHeap
import PyProof.SeqIndex
import PyProof.CollectIter
import PyProof.ReprRoads
import KE.KMathGC
import PySem.Challenge.RW_fewestrules_k74_marks_and_interleavings
set_option Elab.async false
set_option linter.all false
set_option maxRecDepth 100000
set_option maxHeartbeats 3200000
namespace CpCb
open PySem PySem.Spec
open Sem (wp)

end CpCb

namespace CpCb
open PySem PySem.Spec
open Sem (wp)
section
variable {prog : Program} {w : World} {A : Around} {E : Value → Shared → Prop} {s : Shared}
end
abbrev numsV (nums : List Nat) : List Value := nums.map fun k : Nat => Value.int (k : Int) 0
abbrev cbObj (pl : Addr) (st : Int) (last : Value) (nums : List Nat) : Obj := { cls := .type "itertools.combinations", dict := none, data := .fields (([.ref pl, .int st 0, last] ++ numsV nums).toArray), slots := #[] }
end CpCb

namespace CpCb
open PySem PySem.Spec
open Sem (wp)
def myNext (n : Nat) (indices : List Nat) : Option (List Nat) :=
  let r := indices.length
  match (List.range r).reverse.find? fun i => indices.getD i 0 != i + n - r with
  | none => none
  | some i => some (indices.take i ++ (List.range (r - i)).map (indices.getD i 0 + 1 + ·))
def cb2 (n : Nat) : List (List Nat) := (List.range n).flatMap fun i => (List.range (n - (i + 1))).map fun d => [i, i + 1 + d]
def cb3 (n : Nat) : List (List Nat) := (List.range n).flatMap fun i => (List.range (n - (i + 1))).flatMap fun d => (List.range (n - (i + 1 + d + 1))).map fun e => [i, i + 1 + d, i + 1 + d + 1 + e]
structure CbOk (r n : Nat) (L : List (List Nat)) : Prop where
  nil : r > n ↔ L = []
  head : L ≠ [] → L[0]? = some (List.range r)
  next : ∀ i, i < L.length → myNext n (L.getD i []) = L[i + 1]?
  len : ∀ i, i < L.length → (L.getD i []).length = r ∧ ∀ k ∈ L.getD i [], k < n
def okB (r n : Nat) (L : List (List Nat)) : Bool := (decide (r > n) == L.isEmpty) && ((L.isEmpty || L[0]? == some (List.range r)) && (List.range L.length).all fun i => (myNext n (L.getD i []) == L[i + 1]?) && ((L.getD i []).length == r && (L.getD i []).all fun k => decide (k < n)))
section
variable {prog : Program} {w : World} {A : Around} {E : Value → Shared → Prop} {s : Shared}
variable {M : Model}
structure Out (h h' : Heap) (it pl : Addr) (st : Int) (nums : List Nat) (vals : List Value) : Prop where
  it' : h'.get? it = some (cbObj pl st (.ref h.objs.size) nums)
  new : h'.get? h.objs.size = some { cls := .type "tuple", data := .seq vals.toArray }
  old : ∀ b o, b ≠ it → h.get? b = some o → h'.get? b = some o
end
end CpCb

namespace CpPm
open PySem PySem.Spec
open Sem (wp)

end CpPm

namespace CpPm
open PySem PySem.Spec
open Sem (wp)
abbrev numsV (nums : List Nat) : List Value := nums.map fun k : Nat => Value.int (k : Int) 0
abbrev pmObj (pl : Addr) (st : Int) (n : Nat) (last : Value) (nums : List Nat) : Obj := { cls := .type "itertools.permutations", dict := none, data := .fields (([.ref pl, .int st 0, .int (n : Int) 0, last] ++ numsV nums).toArray), slots := #[] }
def pm0 (n : Nat) : List Nat := List.range n ++ (List.range n).map fun i => n - i
end CpPm

namespace CpPm
open PySem PySem.Spec
open Sem (wp)
section
variable {prog : Program} {w : World} {A : Around} {E : Value → Shared → Prop} {s : Shared}
variable {M : Model}
structure Out (h h' : Heap) (it pl : Addr) (st : Int) (n : Nat) (nums : List Nat) (vals : List Value) : Prop where
  it' : h'.get? it = some (pmObj pl st n (.ref h.objs.size) nums)
  new : h'.get? h.objs.size = some { cls := .type "tuple", data := .seq vals.toArray }
  old : ∀ b o, b ≠ it → h.get? b = some o → h'.get? b = some o
end
end CpPm

namespace CpPm
open PySem PySem.Spec
open Sem (wp)
def ix3 : Nat → List Nat
  | 0 => [0, 1, 2]
  | 1 => [0, 2, 1]
  | 2 => [1, 0, 2]
  | 3 => [1, 2, 0]
  | 4 => [2, 0, 1]
  | 5 => [2, 1, 0]
  | _ => []
def cy3 : Nat → List Nat
  | 0 => [3, 2, 1]
  | 1 => [3, 1, 1]
  | 2 => [2, 2, 1]
  | 3 => [2, 1, 1]
  | 4 => [1, 2, 1]
  | 5 => [1, 1, 1]
  | _ => []
def ix4 : Nat → List Nat
  | 0 => [0, 1, 2, 3]
  | 1 => [0, 1, 3, 2]
  | 2 => [0, 2, 1, 3]
  | 3 => [0, 2, 3, 1]
  | 4 => [0, 3, 1, 2]
  | 5 => [0, 3, 2, 1]
  | 6 => [1, 0, 2, 3]
  | 7 => [1, 0, 3, 2]
  | 8 => [1, 2, 0, 3]
  | 9 => [1, 2, 3, 0]
  | 10 => [1, 3, 0, 2]
  | 11 => [1, 3, 2, 0]
  | 12 => [2, 0, 1, 3]
  | 13 => [2, 0, 3, 1]
  | 14 => [2, 1, 0, 3]
  | 15 => [2, 1, 3, 0]
  | 16 => [2, 3, 0, 1]
  | 17 => [2, 3, 1, 0]
  | 18 => [3, 0, 1, 2]
  | 19 => [3, 0, 2, 1]
  | 20 => [3, 1, 0, 2]
  | 21 => [3, 1, 2, 0]
  | 22 => [3, 2, 0, 1]
  | 23 => [3, 2, 1, 0]
  | _ => []
def cy4 : Nat → List Nat
  | 0 => [4, 3, 2, 1]
  | 1 => [4, 3, 1, 1]
  | 2 => [4, 2, 2, 1]
  | 3 => [4, 2, 1, 1]
  | 4 => [4, 1, 2, 1]
  | 5 => [4, 1, 1, 1]
  | 6 => [3, 3, 2, 1]
  | 7 => [3, 3, 1, 1]
  | 8 => [3, 2, 2, 1]
  | 9 => [3, 2, 1, 1]
  | 10 => [3, 1, 2, 1]
  | 11 => [3, 1, 1, 1]
  | 12 => [2, 3, 2, 1]
  | 13 => [2, 3, 1, 1]
  | 14 => [2, 2, 2, 1]
  | 15 => [2, 2, 1, 1]
  | 16 => [2, 1, 2, 1]
  | 17 => [2, 1, 1, 1]
  | 18 => [1, 3, 2, 1]
  | 19 => [1, 3, 1, 1]
  | 20 => [1, 2, 2, 1]
  | 21 => [1, 2, 1, 1]
  | 22 => [1, 1, 2, 1]
  | 23 => [1, 1, 1, 1]
  | _ => []
section
variable {prog : Program} {w : World} {A : Around} {E : Value → Shared → Prop} {s : Shared}
end
end CpPm

namespace CpPm
open PySem PySem.Spec
open Sem (wp)
section
variable {prog : Program} {w : World} {A : Around} {E : Value → Shared → Prop} {s : Shared}
end
end CpPm

namespace Gx
open PySem PySem.Spec PyProof.Rows L2 GenW
open GxR (TabB TabG Tabbed)

abbrev gcx (X : Cx) (s : Shared) (H : Hp) (cenv : Env) (A : Around) (fp : List Addr) (pn : List (Addr × Obj)) : Cx :=
  { X with A := A.deeper cenv, s_0 := s, H_0 := H, env := cenv, outer := X.stack, stack := cenv :: X.stack, ex := fp, fn := fun _ => false, calm := true, pn := pn, xe := fun _ _ => False }
abbrev genv (X : Cx) (scope : Scope) (C : Addr) (code : Value) : Env := genEnv scope (cloFrom X.env.cells scope.names []) C code builtinsNs X.env

section
variable {X : Cx} {pins : List (Addr × Obj)} {σ : L2.St} {H : Hp} {s : Shared}
theorem gx_start {scope : Scope} {own : List (Str × Nat)} {fp : List Addr} {A : Around} {code : Value} {a : Addr} {go : Obj} {s5 : Shared} {m0 : Str → Option Value} (I : Inv X pins σ H s) (ok : BlkOk X.N X.env.scope scope own) (hnc : ∀ y ∈ scope.names, y.2 ≠ .cell) (hN : X.N.Nodup)
    (hfp : ∀ b ∈ fp, FpOk X pins H b ∧ b < s.heap.objs.size) (hA : A.handled = none) (hfr : A.frames = some X.stack) (hos : s5.os = s.os) (hba : AllBare s5.gens) (hk : ∀ b o, s.heap.get? b = some o → s5.heap.get? b = some o) (hns : s5.heap.Ns s.heap.objs.size m0)
    (ha : s5.heap.get? a = some go) (haC : s.heap.objs.size < a) (hgo : ∀ v, go.data ≠ .cell v) :
    Inv (gcx X s H (genv X scope s.heap.objs.size code) A fp [(a, go)]) [] (wipe σ (own.map (·.2))) H s5 := by
  have hfree : ∀ y ∈ scope.names, y.2 = .free → ∃ c, X.env.cells.lookup y.1 = some c := fun y hy e => by
    rcases ok.free y hy e with k | k
    · exact I.ok.has _ (.inl k)
    · exact I.ok.has _ (.inr k)
  have cm : ∀ {y c}, (y, c) ∈ cloFrom X.env.cells scope.names [] → X.env.cells.lookup y = some c ∧ c < s.heap.objs.size := fun {y c} hm => by
    rcases cloFrom_mem hm with hm | ⟨h1, rfl⟩
    · cases hm
    · obtain ⟨c, hc⟩ := hfree _ h1 rfl
      rw [hc]
      obtain ⟨w, z⟩ := I.cell _ _ hc
      exact ⟨rfl, z.lt⟩
  have mem : ∀ {y c}, (genv X scope s.heap.objs.size code).cells.lookup y = some c → X.env.cells.lookup y = some c ∧ c < s.heap.objs.size := fun {y c} e => cm (PySem.mem_of_lookup e)
  have look : ∀ {y}, scope.names.lookup y = some .free → ∃ c, (genv X scope s.heap.objs.size code).cells.lookup y = some c ∧ X.env.cells.lookup y = some c := fun {y} hl => by
    have hy : (y, NameKind.free) ∈ scope.names := PySem.mem_of_lookup hl
    obtain ⟨c', e'⟩ := mem_lookup (cloFrom_has (cells := X.env.cells) (acc := []) hy)
    exact ⟨c', e', (cm (PySem.mem_of_lookup e')).1⟩
  have okB : (gcx X s H (genv X scope s.heap.objs.size code) A fp [(a, go)]).Ok := by
    refine ⟨I.ok.mod, ok.kind, I.ok.glob, rfl, Nat.le_refl _, fun y z c e1 e2 => I.ok.inj y z c (mem e1).1 (mem e2).1, fun y hy => ?_, fun y c z e => ?_, fun _ => hA, Around.frames_deeper hfr, .inr ⟨rfl, rfl⟩,
      fun b hb => ⟨Nat.ne_of_lt (hfp b hb).2, fun y c e z => (hfp b hb).1.2.2.2.2.1 y c (mem e).1 z⟩, I.bs, Nat.le_trans I.ok.bsz I.sz, fun b o e hb => ?_, fun b hb z => ?_, I.stack, I.stkFree⟩
    · have hy : scope.names.lookup y = some .cell ∨ scope.names.lookup y = some .free := hy
      rcases hy with hy | hy
      · exact absurd rfl (hnc _ (PySem.mem_of_lookup hy))
      · obtain ⟨c, h1, _⟩ := look hy
        exact ⟨c, h1⟩
    · have z : false = true := z
      cases z
    · rcases (hfp b hb).1.2.2.2.1 with z | z
      · exact I.ok.noex b o e z
      · exact absurd (Nat.lt_of_lt_of_le (Heap.lt_size e) (Nat.le_trans I.ok.bsz z)) (Nat.lt_irrefl _)
    · rcases List.mem_cons.mp (I.stkSub b z) with z | z
      · exact (hfp b hb).1.2.1 z
      · exact (hfp b hb).1.2.2.1 z
  refine ⟨okB, hos, hba, Un.kept hk, ⟨m0, hns, fun i y av e1 e2 e3 => ?_⟩, fun y c e => ?_, I.hok.fresh (Nat.le_refl _), fun y c e => I.freeC y c (mem e).1, fun p hp => ?_, I.hok.kept hk, by rw [wipe_length]; exact I.len⟩
  · obtain ⟨e2, hne⟩ := wipe_some e2
    have hfr : scope.names.lookup y = some .free := by
      have no : ∀ k, scope.names.lookup y = some k → ¬ (k = .local ∨ k = .cell) := fun k hk hh => by
        rcases ok.own _ (PySem.mem_of_lookup hk) hh with e' | e'
        · obtain ⟨p, hp, hpy⟩ := List.mem_map.mp e'
          have e3 := ok.ix p hp
          have hpy : p.1 = y := hpy
          rw [hpy] at e3
          exact hne (List.mem_map.mpr ⟨p, hp, nodup_ix hN e3 e1⟩)
        · exact e' (List.mem_of_getElem? e1)
      have e3 : Vis scope y := e3
      rcases e3 with e3 | e3 | e3
      · exact absurd (.inl rfl) (no _ e3)
      · exact absurd (.inr rfl) (no _ e3)
      · exact e3
    obtain ⟨m, hn, hl⟩ := I.loc
    have hvis : Vis X.env.scope y := (ok.free _ (PySem.mem_of_lookup hfr) rfl).elim (fun k => .inr (.inl k)) (fun k => .inr (.inr k))
    obtain ⟨w, r, q⟩ := hl i y av e1 e2 hvis
    refine ⟨w, r, .inr ⟨.inr hfr, ?_⟩⟩
    obtain ⟨c, h1, h2⟩ := look hfr
    rcases q with ⟨k, _⟩ | ⟨_, c', e', z⟩
    · have k : X.env.scope.names.lookup y = some .local := k
      rcases ok.free _ (PySem.mem_of_lookup hfr) rfl with k' | k' <;> rw [show X.env.scope.names.lookup y = _ from k'] at k <;> cases k
    · rw [h2] at e'; cases e'
      exact ⟨c, h1, z.keeps hk⟩
  · obtain ⟨h1, _⟩ := mem e
    obtain ⟨w, z⟩ := I.cell y c h1
    exact ⟨w, z.keeps hk⟩
  · have hp : p ∈ [(a, go)] ++ [] := hp
    rw [List.append_nil] at hp
    rw [List.mem_singleton.mp hp]
    refine ⟨ha, I.hok.fresh (Nat.le_of_lt haC), Nat.ne_of_gt haC, fun z => ?_, hgo⟩
    have h1 := I.stkSub a z
    rcases List.mem_cons.mp h1 with e | e
    · have h2 := I.lt
      rw [← e] at h2
      exact Nat.lt_irrefl _ (Nat.lt_trans h2 haC)
    · exact I.nofs (Nat.le_of_lt haC) e

structure Wake (pl pl' : List (Addr × Obj)) (s s' : Shared) : Prop where
  os : s'.os = s.os
  bare : AllBare s'.gens
  keep : ∀ b o, b ∉ pl.map (·.1) → s.heap.get? b = some o → s'.heap.get? b = some o
  same : pl'.map (·.1) = pl.map (·.1)
  pin : ∀ p ∈ pl', s'.heap.get? p.1 = some p.2 ∧ ∀ v, p.2.data ≠ .cell v
theorem Inv.wake {pl pl' : List (Addr × Obj)} {s' : Shared} (I : Inv X pl σ H s) (hpl : ∀ b ∈ pl.map (·.1), X.s_0.heap.objs.size ≤ b ∧ b ≠ X.env.locals ∧ (∀ x c, X.env.cells.lookup x = some c → c ≠ b) ∧ ∀ p ∈ X.pn, p.1 ≠ b) (z : Wake pl pl' s s') : Inv X pl' σ H s' := by
  have I0 : Inv X [] σ H s := I.pins_of fun p hp => by simp at hp
  have hz : ∀ b ∈ pl.map (·.1), H b = none ∧ b ∉ X.fs := fun b hb => by
    obtain ⟨p, hp, e⟩ := List.mem_map.mp hb
    obtain ⟨_, h2, _, h4, _⟩ := I.pin p (List.mem_append_right _ hp)
    rw [← e]
    exact ⟨h2, h4⟩
  have nt : ∀ b u, H b = some u → b ∉ pl.map (·.1) := fun b u q hb => by
    rw [(hz b hb).1] at q
    cases q
  obtain ⟨z1, z2, z3, z4, z5⟩ := z
  obtain ⟨hh, g, d, t, o⟩ := s'
  have ho : o = s.os := z1
  subst ho
  have thr : ∀ b ∈ pl.map (·.1), ∃ ob, hh.get? b = some ob := fun b hb => by
    rw [← z4] at hb
    obtain ⟨p, hp, e⟩ := List.mem_map.mp hb
    rw [← e]
    exact ⟨_, (z5 p hp).1⟩
  have J : Inv X [] σ H { s with heap := hh, gens := g, drawn := d, toks := t } := by
    refine I0.step (g' := g) (t' := t) (d' := d) (ch := pl.map (·.1)) (fun b hb => ?_)
      (fun b ob _ _ hc q _ => z3 b ob hc q) (fun b ob _ _ hc q _ => ⟨ob.slots, z3 b ob hc q⟩) (fun _ _ _ _ n => n) (fun b ob hc q => ⟨ob, z3 b ob hc q⟩)
      (fun _ _ q => q) (fun _ _ _ q => q) (fun b ps q => ⟨#[], by rw [q]; simp⟩) (fun m hm => ?_) (fun b u q => ?_) z2
    · obtain ⟨q1, q2, q3, q4⟩ := hpl b hb
      refine ⟨.inr q1, q2, q3, fun p hp => ?_⟩
      rw [List.append_nil] at hp
      exact q4 p hp
    · obtain ⟨ob, es, ep, ho, r⟩ := hm
      exact ⟨ob, es, ep, z3 _ ob (fun q => (hpl _ q).2.1 rfl) ho, r⟩
    · refine (I0.hok b u q).stay (fun c v hc y => z3 c v ?_ y) (fun _ y => y) fun _ _ y => y
      rcases hc with y | y
      · rw [y]; exact nt b u q
      · exact nt c _ y
  refine J.pins_of fun p hp => ?_
  have hb : p.1 ∈ pl.map (·.1) := by
    rw [← z4]
    exact List.mem_map.mpr ⟨p, hp, rfl⟩
  exact ⟨(z5 p hp).1, (hz p.1 hb).1, (hpl p.1 hb).2.1, (hz p.1 hb).2, (z5 p hp).2⟩
end
end Gx

namespace Gx
open PySem PySem.Spec PyProof.Rows L2 GenW
open GxR (TabB TabG Tabbed)

abbrev Cons := List V → List (Addr × Obj) → Prop
def Step (J : It) (g : TG) (tt : TT) (te : TE) (vs : List Nat) (σ0 : L2.St) (W : Nat → Nat → List V → Hp → Prop) (Fin : List V → Hp → Prop) (Yd : List V → V → Hp → Prop → Prop) : Prop :=
  ∀ i m ys H, W i m ys H → (J.stop i H ∧ Fin ys H) ∨ (J.go i H ∧ ∃ Nx : List V → Hp → Prop, (∀ ys' H', Nx ys' H' → ∃ m', m' < m ∧ W (i + 1) m' ys' H') ∧ ∀ x H', J.yld i H x H' → g x σ0 H' fun σ2 H2 => wipe σ2 vs = σ0 ∧ tt σ2 H2 fun b H3 =>
    if b = true then te σ2 H3 fun y H4 => Yd ys y H4 (Nx (ys ++ [y]) H4) else Nx ys H3)
def GEndR (X' : Cx) (Cs : Cons) (Fin : List V → Hp → Prop) : GenEnd := fun _ _ r s1 => r = .ok .next ∧ ∃ ys H' σ' pl, Cs ys pl ∧ Inv X' pl σ' H' s1 ∧ Fin ys H'
def GItem (X' : Cx) (Cs : Cons) (Yd : List V → V → Hp → Prop → Prop) : Protocol := fun _ _ v s1 kap =>
  ∃ ys y H σ' pl N, Cs ys pl ∧ RelV y v ∧ Inv X' pl σ' H s1 ∧ Yd ys y H N ∧ (N → ∀ s' pl', Cs (ys ++ [y]) pl' → Wake pl pl' s1 s' → kap (.send .none) s')

section
variable {X : Cx} {s4 : Shared} {H4 : Hp} {cenv : Env} {A : Around} {fp : List Addr} {a : Addr} {go : Obj} {it : Addr} {J : It} {tn : Nat → Heap → Prop} {elt tg iter : Expr} {ifs : List Expr} {scope : Scope} {pos : Pos} {g : TG} {tt : TT} {te : TE}
  {vs : List Nat} {σ : L2.St} {W : Nat → Nat → List V → Hp → Prop} {Fin : List V → Hp → Prop} {Yd : List V → V → Hp → Prop → Prop} {Cs : Cons} {lim : Nat}
theorem over_gx {c : Code} (hc : c = .compLoop (.GeneratorExp elt [⟨tg, iter, ifs, 0⟩] scope pos) 0 (.ref it) .none cenv ∨ c = .compStart (.GeneratorExp elt [⟨tg, iter, ifs, 0⟩] scope pos) 0 (.ref it) .none cenv) : A.over c [] = A.deeper cenv := by
  rcases hc with rfl | rfl
  all_goals
    first
      | rfl
      | (obtain ⟨hd, d, fr, gs, u⟩ := A; simp [Around.over, Around.deeper, marksOver, frameCount, unitsOf, envsOf, guardsOf, pushEnvs, pushGuards, Code.envs, Code.env?, Code.isFrame, Code.guards, Code.isGuard, Code.weight, Code.frames, Code.isCreation, Code.isCaller, Code.cUnits])

theorem gx_loop (T : Turn X.prog X.w X.K tg J fp it tn) (pg : PG (gcx X s4 H4 cenv A fp [(a, go)]) tg g) (pt : PTs (gcx X s4 H4 cenv A fp [(a, go)]) ifs tt) (pe : PE (gcx X s4 H4 cenv A fp [(a, go)]) elt te) (hA : A.handled = none)
    (hlim : s4.heap.objs.size ≤ lim) (hal : a < lim) (hC : cenv.locals < lim) (hcl : ∀ x c, cenv.cells.lookup x = some c → c < lim) (hfpl : ∀ b ∈ fp, b < lim) (hfpa : a ∉ fp) (hco : cenv.scope.isCoroutine = false) (hCs : ∀ ys pl, Cs ys pl → ∀ b ∈ pl.map (·.1), lim ≤ b)
    (step : Step J g tt te vs (wipe σ vs) W Fin Yd) :
    ∀ (m n i : Nat) (ys : List V) (s₀ s : Shared) (H : Hp) (pl : List (Addr × Obj)), m < n → W i m ys H → Cs ys pl → Inv (gcx X s4 H4 cenv A fp [(a, go)]) pl (wipe σ vs) H s → tn i s.heap → (∀ b ∈ fp, H b = none) →
      Seg (model X.prog X.w) A (GEndR (gcx X s4 H4 cenv A fp [(a, go)]) Cs Fin) (GItem (gcx X s4 H4 cenv A fp [(a, go)]) Cs Yd) n s₀
        (.compLoop (.GeneratorExp elt [⟨tg, iter, ifs, 0⟩] scope pos) 0 (.ref it) .none cenv)
        ((model X.prog X.w).den (.compLoop (.GeneratorExp elt [⟨tg, iter, ifs, 0⟩] scope pos) 0 (.ref it) .none cenv)) [] s := by
  have hover : A.over (.compLoop (.GeneratorExp elt [⟨tg, iter, ifs, 0⟩] scope pos) 0 (.ref it) .none cenv) [] = A.deeper cenv := over_gx (.inl rfl)
  have plk : ∀ {ys pl}, Cs ys pl → ∀ b ∈ pl.map (·.1), s4.heap.objs.size ≤ b ∧ b ≠ cenv.locals ∧ (∀ x c, cenv.cells.lookup x = some c → c ≠ b) ∧ ∀ p ∈ [(a, go)], p.1 ≠ b := fun {ys pl} hc b hb => by
    have h1 : lim ≤ b := hCs ys pl hc b hb
    refine ⟨Nat.le_trans hlim h1, Nat.ne_of_gt (Nat.lt_of_lt_of_le hC h1), fun x c e => Nat.ne_of_lt (Nat.lt_of_lt_of_le (hcl x c e) h1), fun p hp => ?_⟩
    rw [List.mem_singleton.mp hp]
    exact Nat.ne_of_lt (Nat.lt_of_lt_of_le hal h1)
  have stat : ∀ {ys pl σ' H' s'}, Cs ys pl → Inv (gcx X s4 H4 cenv A fp [(a, go)]) pl σ' H' s' → (∀ b ∈ fp, H' b = none) → ∀ b ∈ fp, FpOk (gcx X s4 H4 cenv A fp [(a, go)]) pl H' b := fun {ys pl σ' H' s'} hc I hn b hb => by
    refine ⟨hn b hb, (I.ok.exf b hb).1, I.ok.exfs b hb, .inl hb, fun x c e => (I.ok.exf b hb).2 x c e, fun p hp => ?_⟩
    rcases List.mem_append.mp hp with hp | hp
    · have hp : p ∈ [(a, go)] := hp
      rw [List.mem_singleton.mp hp]
      exact fun z => hfpa (by rw [show a = b from z]; exact hb)
    · have h1 := hCs ys pl hc p.1 (List.mem_map.mpr ⟨p, hp, rfl⟩)
      exact Nat.ne_of_gt (Nat.lt_of_lt_of_le (hfpl b hb) h1)
  intro m
  induction m using Nat.strongRecOn with
  | ind m ih =>
    intro n i ys s₀ s H pl hmn w hc I st hnf
    show Seg _ A _ _ _ s₀ _ ((compTurn (.GeneratorExp elt [⟨tg, iter, ifs, 0⟩] scope pos) 0 (.ref it) .none cenv).onRaise (leaving cenv)) [] s
    rw [compTurn_gen, Sem.onRaise_eq_wrap]
    refine seg_bind_wrap (wpAny_standAt ?_)
    rcases step i m ys H w with ⟨stop, fin⟩ | ⟨go', Nx, hNx, turn⟩
    · refine seg_bind_wrap ?_
      rw [hover]
      refine wpAny_mono (T.done (gcx X s4 H4 cenv A fp [(a, go)]) rfl rfl rfl rfl i pl s _ H (fun _ _ => False) I (stat hc I hnf) st stop) (fun r s6 ⟨hr, I6⟩ => ?_) fun _ _ z => z.elim
      subst hr
      exact seg_end (.ok .next) ⟨rfl, ys, H, _, pl, hc, I6, fin⟩
    · refine seg_bind_wrap ?_
      rw [hover]
      refine wpAny_mono (T.item (gcx X s4 H4 cenv A fp [(a, go)]) rfl rfl rfl rfl i pl s _ H (fun _ _ => False) I (stat hc I hnf) st go') (fun r s6 ⟨u, hr, h6⟩ => ?_) fun _ _ z => z.elim
      subst hr
      refine seg_bind_wrap ?_
      rw [hover]
      refine wpAny_mono h6 (fun _ s7 ⟨x, H7, I7, r7, y7, st7, n7⟩ => ?_) fun _ _ z => z.elim
      have I7' := I7.pinned (stat hc I7 n7) (T.obj _ _ st7)
      refine seg_bind_wrap ?_
      rw [hover]
      refine wpAny_mono (pg.run _ s7 _ H7 x u _ I7' r7 (turn x H7 y7)) (fun _ s8 ⟨σ8, H8, I8, hw8, q8⟩ => ?_) fun _ _ (z : False) => z.elim
      refine seg_bind_wrap ?_
      rw [hover]
      refine wpAny_mono (pt.run _ s8 σ8 H8 _ I8 q8) (fun b s9 ⟨H9, I9, q9⟩ => ?_) fun _ _ (z : False) => z.elim
      have pin' : ∀ {s' : Shared} {H' : Hp} {σ' : L2.St}, Inv (gcx X s4 H4 cenv A fp [(a, go)]) (pl ++ pinsAt fp s7.heap) σ' H' s' → ∀ b ∈ fp, ∀ o, s7.heap.get? b = some o → s'.heap.get? b = some o ∧ H' b = none := fun {s' H' σ'} I' b hb o e =>
        let z := I'.pin (b, o) (List.mem_append_right _ (List.mem_append_right _ (mem_pinsAt hb e)))
        ⟨z.1, z.2.1⟩
      have nfp' : ∀ {s' : Shared} {H' : Hp} {σ' : L2.St}, Inv (gcx X s4 H4 cenv A fp [(a, go)]) (pl ++ pinsAt fp s7.heap) σ' H' s' → ∀ b ∈ fp, H' b = none := fun {s' H' σ'} I' b hb => by
        obtain ⟨o, e, _⟩ := T.obj _ _ st7 b hb
        exact (pin' I' b hb o e).2
      have hl : (wipe σ vs).length = σ8.length := by rw [← hw8, wipe_length]
      have weak : ∀ {s' : Shared} {H' : Hp} {pl' : List (Addr × Obj)}, Inv (gcx X s4 H4 cenv A fp [(a, go)]) pl' σ8 H' s' → Inv (gcx X s4 H4 cenv A fp [(a, go)]) pl' (wipe σ vs) H' s' := fun {s' H' pl'} I' => I'.weak hl fun j v e => by
        rw [← hw8] at e
        exact (wipe_some e).1
      cases b with
      | false =>
        simp only [Bool.false_eq_true, if_false] at q9 ⊢
        obtain ⟨m', hm, w'⟩ := hNx ys H9 q9
        exact seg_again rfl (ih m' hm n (i + 1) ys s₀ s9 H9 pl (by omega) w' hc (weak I9.unpinned) (T.keep _ _ _ st7 fun b hb o e => (pin' I9 b hb o e).1) (nfp' I9))
      | true =>
        simp only [if_true] at q9 ⊢
        obtain ⟨n, rfl⟩ : ∃ n', n = n' + 1 := ⟨n - 1, by omega⟩
        have hy : ∀ v, yieldOut cenv v = yieldValue v := fun v => by simp only [yieldOut, hco, Bool.false_eq_true, if_false]
        simp only [hy]
        rw [Sem.bind_eq_wrap', Sem.bind_eq_wrap', Sem.wrap_wrap, Sem.wrap_wrap]
        refine seg_wrap ?_
        rw [hover]
        refine wpAny_mono (pe.run _ s9 σ8 H9 _ I9 q9) (fun z s10 ⟨yv, H10, I10, r10, q10⟩ => ?_) fun _ _ (z : False) => z.elim
        refine seg_at (seg_yield rfl rfl rfl ?_)
        refine ⟨ys, yv, H10, σ8, pl, _, hc, r10, I10.unpinned, q10, fun nx s'' pl' hc' hwk => ?_⟩
        obtain ⟨m', hm, w'⟩ := hNx (ys ++ [yv]) H10 nx
        have I11 := Inv.wake I10.unpinned (plk hc) hwk
        refine seg_again rfl (ih m' hm n (i + 1) (ys ++ [yv]) s'' s'' H10 pl' (by omega) w' hc' (weak I11) (T.keep _ _ _ st7 fun b hb o e => hwk.keep b o (fun z => ?_) (pin' I10 b hb o e).1) (nfp' I10))
        exact absurd (Nat.lt_of_lt_of_le (hfpl b hb) (hCs ys pl hc b z)) (Nat.lt_irrefl _)

theorem gx_startSeg (T : Turn X.prog X.w X.K tg J fp it tn) (pg : PG (gcx X s4 H4 cenv A fp [(a, go)]) tg g) (pt : PTs (gcx X s4 H4 cenv A fp [(a, go)]) ifs tt) (pe : PE (gcx X s4 H4 cenv A fp [(a, go)]) elt te) (hA : A.handled = none)
    (hlim : s4.heap.objs.size ≤ lim) (hal : a < lim) (hC : cenv.locals < lim) (hcl : ∀ x c, cenv.cells.lookup x = some c → c < lim) (hfpl : ∀ b ∈ fp, b < lim) (hfpa : a ∉ fp) (hco : cenv.scope.isCoroutine = false) (hCs : ∀ ys pl, Cs ys pl → ∀ b ∈ pl.map (·.1), lim ≤ b)
    (step : Step J g tt te vs (wipe σ vs) W Fin Yd) {m n : Nat} {s₀ s : Shared} {H : Hp} {pl : List (Addr × Obj)} (hmn : m < n) (w : W 0 m [] H) (hc : Cs [] pl) (I : Inv (gcx X s4 H4 cenv A fp [(a, go)]) pl (wipe σ vs) H s) (st : tn 0 s.heap) (hnf : ∀ b ∈ fp, H b = none) :
      Seg (model X.prog X.w) A (GEndR (gcx X s4 H4 cenv A fp [(a, go)]) Cs Fin) (GItem (gcx X s4 H4 cenv A fp [(a, go)]) Cs Yd) n s₀
        (.compStart (.GeneratorExp elt [⟨tg, iter, ifs, 0⟩] scope pos) 0 (.ref it) .none cenv)
        ((model X.prog X.w).den (.compStart (.GeneratorExp elt [⟨tg, iter, ifs, 0⟩] scope pos) 0 (.ref it) .none cenv)) [] s := by
  have loop := gx_loop (iter := iter) (scope := scope) (pos := pos) T pg pt pe hA hlim hal hC hcl hfpl hfpa hco hCs step m n 0 [] s₀ s H pl hmn w hc I st hnf
  show Seg _ A _ _ _ s₀ _ ((compStart (.GeneratorExp elt [⟨tg, iter, ifs, 0⟩] scope pos) 0 (.ref it) .none cenv).onRaise (leaving cenv)) [] s
  unfold compStart
  rw [Sem.onRaise_eq_wrap]
  show Seg _ A _ _ _ s₀ _ ((ask >>= _).wrap _ _ _ _) [] s
  refine seg_bind_wrap (wpAny_askSetting ?_)
  split
  · exact seg_again rfl loop
  · first
      | exact seg_bind_wrap (wpAny_rule (seg_bind_wrap (wpAny_standAt (seg_bind_wrap (T.self _ 0 s _ _ st (seg_again rfl loop))))))
      | (refine seg_bind_wrap (wpAny_rule ?_); show Seg _ A _ _ _ s₀ _ ((standAt iter.pos >>= _).wrap _ _ _ _) [] s; exact seg_bind_wrap (wpAny_standAt (seg_bind_wrap (T.self _ 0 s _ _ st (seg_again rfl loop)))))
end
end Gx

namespace Gx
open PySem PySem.Spec PyProof.Rows L2 GenW
open GxR (TabB TabG Tabbed)

section
variable {X : Cx} {pins : List (Addr × Obj)} {σ : L2.St} {H : Hp} {s : Shared}
theorem gx_back {s4 s1 s' : Shared} {H4 H' : Hp} {cenv : Env} {A : Around} {fp : List Addr} {pn pl : List (Addr × Obj)} {σ' : L2.St} (I4 : Inv X pins σ H4 s4) (hfp : ∀ b ∈ fp, FpOk X pins H4 b) (I' : Inv (gcx X s4 H4 cenv A fp pn) pl σ' H' s1) (hos : s'.os = s1.os) (hb : AllBare s'.gens)
    (hk : ∀ b o, s1.heap.get? b = some o → s'.heap.get? b = some o) : Inv X pins σ H' s' := by
  have u : Un (frs X.stack) fp H4 H' s4.heap s1.heap := I'.base
  refine I4.call' (ch := fp) (hos.trans I'.os) (u.trans (Un.kept hk)) (I'.hok.kept hk) hb fun b hb => ?_
  obtain ⟨_, h1, h2, h3, h4, h5⟩ := hfp b hb
  exact ⟨h3, h1, h4, h5⟩

theorem gx_make {elt tg iter : Expr} {ifs : List Expr} {scope : Scope} {gpos : Pos} {own : List (Str × Nat)} {c P : Addr} {wi : TI} {Q : Value → Shared → Prop} {R : It → Hp → Prop} (hh : X.A.handled = none) (hroom : X.A.depth < recursionLimit) (TB : TabB X.base X.mg c P) (hcode : X.env.code = .ref c)
    (ok : BlkOk X.N X.env.scope scope own) (hnc : ∀ y ∈ scope.names, y.2 ≠ .cell) (hdot : scope.names.lookup (".0" : Str) = some NameKind.local) (hco : scope.isCoroutine = false) (hi : PI X tg iter wi) (hs : ∀ v, genFold iter X.env v = pure v) (I : Inv X pins σ H s)
    (h : wi σ H fun J H1 => TabG H1 P ∧ R J H1)
    (hQ : ∀ (J : It) (H1 H2 : Hp) (s4 s5 : Shared) (it : Addr) (fp : List Addr) (tn : Nat → Heap → Prop) (code : Value) (a : Addr) (go : Obj) (g : Nat), R J H1 → Tabbed P H1 H2 → Inv X pins σ H2 s4 → Turn X.prog X.w X.K tg J fp it tn → tn 0 s5.heap → (∀ b ∈ fp, FpOk X pins H2 b ∧ b < s4.heap.objs.size) →
      s5.os = s4.os → AllBare s5.gens → (∀ b o, s4.heap.get? b = some o → s5.heap.get? b = some o) → s5.heap.Ns s4.heap.objs.size (fun y => if y = ".0" then some (.ref it) else none) → s5.heap.get? a = some go → s4.heap.objs.size < a → a < s5.heap.objs.size → (∀ v, go.data ≠ .cell v) →
      (∀ h' : Heap, h'.get? a = some go → h'.IsGen a g) → s5.gens[g]? = some (.fresh (.compStart (.GeneratorExp elt [⟨tg, iter, ifs, 0⟩] scope gpos) 0 (.ref it) .none (genv X scope s4.heap.objs.size code))) → s5.heap.NoLimit → Q (.ref a) s5) :
    wpAny (model X.prog X.w) X.A (eval (.GeneratorExp elt [⟨tg, iter, ifs, 0⟩] scope gpos) X.env) Q X.xe s := by
  have hfree : ∀ y ∈ scope.names, y.2 = .free → ∃ c, X.env.cells.lookup y.1 = some c := fun y hy e => by
    rcases ok.free y hy e with k | k
    · exact I.ok.has _ (.inl k)
    · exact I.ok.has _ (.inr k)
  refine wpAny_GeneratorExp_make hco (closure_ok hfree) hnc hdot ok.kind hroom ?_ hs
  refine thn (hi.run pins s σ H _ I h) fun xv s1 h1 => thn h1 fun itv s2 h2 => ?_
  obtain ⟨it, fp, tn, J, H1, rfl, I2, T, st2, f2, ⟨ps, hP, ht⟩, r2⟩ := h2
  refine ⟨I2.nolimit, ?_⟩
  have hPs : s2.heap.get? P = some { cls := .none, data := .fields ps } := I2.hok P _ hP
  have cd : PySem.W.CodeHd s2.heap c P := TB.code.keeps I2.bk
  have cont : ∀ (code : Value) (h3 : Heap) (tk : Nat) (more : Array Value), Heap.ExtBut P s2.heap h3 → h3.get? P = some { cls := .none, data := .fields (ps ++ more) } → TriplesOk (ps ++ more).toList →
      wpAny (model X.prog X.w) X.A (builtinsFor X.env.globals X.env.builtins) (fun bi s₄ =>
        ∀ h', h'.Ns s₄.heap.objs.size (fun y => if y = ".0" then some (Value.ref it) else none) → Heap.SameBut s₄.heap.objs.size (s₄.heap.push { cls := .type "frame", data := .dict #[] }) h' →
          Q (.ref h'.objs.size) { s₄ with
            gens := s₄.gens.push (.fresh (.compStart (.GeneratorExp elt [⟨tg, iter, ifs, 0⟩] scope gpos) 0 (.ref it) .none (genEnv scope (cloFrom X.env.cells scope.names []) s₄.heap.objs.size code bi X.env))),
            toks := s₄.toks + 1 + 1 + 1,
            heap := h'.push { cls := .type "generator", data := .fields #[.int s₄.gens.size 0, .str "<genexpr>" (s₄.toks + 1), .str (X.env.qual ++ "<genexpr>") (s₄.toks + 1 + 1)] } }) X.xe { s2 with heap := h3, toks := tk } := by
    intro code h3 tk more hx hP3 ht3
    obtain ⟨bm, ob, e1, e2, e3, e4, e5, e6, e7, e8⟩ := TB.bm
    have keep3 : ∀ b u, b ≠ P → s2.heap.get? b = some u → h3.get? b = some u := fun b u hb e => hx b u hb e
    refine wpAny_builtinsFor (m := X.mg) (by rw [I2.ok.glob]; exact (I2.mod.glob.keeps I2.bk).extBut hx TB.gP) e1 e2 (keep3 _ _ e4 (I2.bk _ _ e5)) e6 e7 e8 ?_
    intro h' hn' hs'
    have hsz : h'.objs.size = h3.objs.size + 1 := by
      have := hs'.1
      rw [Heap.size_push] at this
      exact this
    have I3 : Inv X pins σ (upd H1 P (.tbl (ps ++ more))) { s2 with heap := h3, toks := tk } :=
      GxR.inv_tab (more := more) (h' := h3) (g' := s2.gens) (d' := s2.drawn) (t' := tk) I2 hP keep3 hP3 I2.bare
    have keep' : ∀ b o, h3.get? b = some o → h'.get? b = some o := fun b o e => hs'.extBut b o (Nat.ne_of_lt (Heap.lt_size e)) (Heap.get?_push_of_some _ e)
    generalize hgo : ({ cls := .type "generator", data := .fields #[.int s2.gens.size 0, .str "<genexpr>" (tk + 1), .str (X.env.qual ++ "<genexpr>") (tk + 1 + 1)] } : Obj) = go
    have keep5 : ∀ b o, h3.get? b = some o → (h'.push go).get? b = some o := fun b o e => Heap.get?_push_of_some _ (keep' b o e)
    have hlt : ∀ b ∈ fp, b < h3.objs.size := fun b hb => by
      obtain ⟨o, e, _⟩ := T.obj _ _ st2 b hb
      refine Heap.lt_size (keep3 b o (fun z => ?_) e)
      have := (f2 b hb).1
      rw [z, hP] at this
      cases this
    have fne : ∀ b ∈ fp, b ≠ P := fun b hb z => by
      have := (f2 b hb).1
      rw [z, hP] at this
      cases this
    refine hQ J H1 (upd H1 P (.tbl (ps ++ more))) { s2 with heap := h3, toks := tk } _ it fp tn code h'.objs.size go s2.gens.size r2 ⟨⟨ps ++ more, upd_same, ht3⟩, fun b hb => upd_ne hb⟩ I3 T
      (T.keep _ _ _ st2 fun b hb o e => keep5 b o (keep3 b o (fne b hb) e)) (fun b hb => ⟨⟨by rw [upd_ne (fne b hb)]; exact (f2 b hb).1, (f2 b hb).2⟩, hlt b hb⟩) rfl (AllBare.push I2.bare rfl) keep5 ?_ ?_ ?_ ?_ ?_ ?_ ?_ ?_
    · exact hn'.keeps fun b o e => Heap.get?_push_of_some _ e
    · rw [← hgo]
      exact Heap.get?_push_size _ rfl
    · show h3.objs.size < h'.objs.size
      omega
    · show _ < (h'.push _).objs.size
      rw [Heap.size_push]
      exact Nat.lt_succ_self _
    · rw [← hgo]
      intro v z
      cases z
    · intro hh e
      rw [← hgo] at e
      exact ⟨_, _, _, e, rfl, rfl, rfl⟩
    · exact Array.getElem?_push_size ..
    · exact I3.nolimit.keeps keep5
  cases hf : codeAmong gpos ps.toList with
  | none =>
    refine wpAny_genexprCodeX hcode (cd.code hPs ht) (cd.tab hPs) hf fun c' h' tk hx hge hlt hco' _ htab' _ => ?_
    obtain ⟨o1, vs, f1, tf, fl, tg', inF, tx, tt, op, _, _, _, _, _, _, _, _, _, htr, _⟩ := hco'
    exact cont _ h' tk _ hx htab'.2 htr
  | some cv =>
    refine wpAny_genexprCode_hit hcode (cd.code hPs ht) hf ?_
    have := cont cv s2.heap s2.toks #[] (Heap.ExtBut.refl _ _) (by simpa using hPs) (by simpa using ht)
    exact this

end
end Gx

namespace Gx
open PySem PySem.Spec PyProof.Rows L2 GenW
open GxR (TabB TabG Tabbed)

theorem boot_allG : bootBuiltins "all" = some (.builtin "all") := by decide +kernel
def Cs0 : Cons := fun _ pl => pl = []
def YdAll (Stop : Hp → Prop) : List V → V → Hp → Prop → Prop := fun _ y H N => ∃ k, y = .bl k ∧ if k = true then N else Stop H
section
variable {X : Cx} {pins : List (Addr × Obj)} {σ : L2.St} {H : Hp} {s : Shared}
variable {s4 : Shared} {H4 : Hp} {cenv : Env} {A : Around} {fp : List Addr} {a : Addr} {go : Obj} {g : Nat} {R' : Result → Shared → Prop} {Fin : List V → Hp → Prop} {Stop : Hp → Prop}
theorem wake0 {s1 : Shared} {x y : GenState} (hb : AllBare s1.gens) (hx : x.bare = true) (hy : y.bare = true) : Wake [] [] s1 ((s1.setGen g x).setGen g y) :=
  ⟨rfl, allBare_setGen (s := s1.setGen g x) (allBare_setGen hb hx) hy, fun _ _ _ e => e, rfl, fun p hp => by simp at hp⟩
theorem all_drain (hh : A.handled = none) (hd : A.depth < recursionLimit) (hgo : ∀ h : Heap, h.get? a = some go → h.IsGen a g)
    (hT : ∀ ys s1 H' σ', Inv (gcx X s4 H4 cenv A.in1.in1 fp [(a, go)]) [] σ' H' s1 → Fin ys H' → ∀ s', s'.os = s1.os → AllBare s'.gens → (∀ b o, s1.heap.get? b = some o → s'.heap.get? b = some o) → R' (.ok (.ret (.bool true))) s')
    (hF : ∀ s1 H' σ', Inv (gcx X s4 H4 cenv A.in1.in1 fp [(a, go)]) [] σ' H' s1 → Stop H' → ∀ s', s'.os = s1.os → AllBare s'.gens → (∀ b o, s1.heap.get? b = some o → s'.heap.get? b = some o) → R' (.ok (.ret (.bool false))) s') :
    ∀ (n : Nat) (s : Shared), s.heap.IsGen a g → s.heap.NoLimit → (∃ gs, s.gens[g]? = some gs ∧ gs.Goes (model X.prog X.w) A.in1.in1 (GEndR (gcx X s4 H4 cenv A.in1.in1 fp [(a, go)]) Cs0 Fin) (GItem (gcx X s4 H4 cenv A.in1.in1 fp [(a, go)]) Cs0 (YdAll Stop)) n (.send .none) (s.setGen g .running)) →
      codeAny (model X.prog X.w) A (.builtin "all.loop" ⟨[.ref a], []⟩) R' s := by
  intro n
  induction n with
  | zero =>
    intro s hg hl ⟨gs, hgs, hgo'⟩
    refine codeAny_builtin F.entry_all_loop ?_
    rw [Around.under_plainId F.plain_all_loop _]
    show wpAny _ A.in1 (pyNext (.ref a) >>= _) _ _ s
    refine wpAny_bind (wpAny_pyNext_genexpQ (A := A.in1) (P := fun _ _ s1 => ∃ ys H' σ' pl, Cs0 ys pl ∧ Inv (gcx X s4 H4 cenv A.in1.in1 fp [(a, go)]) pl σ' H' s1 ∧ Fin ys H') hh hl hd hg hgs hgo' (fun v s₁ gs' hbare hv => ?_) fun s₁ hp h' hk => ?_)
    · obtain ⟨ys, y, H', σ', pl, N, hc, rv, I', ⟨k, rfl, q⟩, kap⟩ := hv
      have hc : pl = [] := hc
      subst hc
      obtain rfl : v = Value.bool k := rv
      refine wpAny_bind (wpAny_holding (wpAny_truthy_bool ?_))
      refine wpAny_bind (wpAny_letGo ?_)
      cases k with
      | true =>
        rw [if_pos rfl] at q
        exact False.elim (kap q _ [] rfl (wake0 (g := g) (x := gs') (y := .running) I'.bare hbare rfl))
      | false =>
        rw [if_neg Bool.false_ne_true] at q
        simp only [Bool.false_eq_true, if_false]
        exact wpAny_bind (wpAny_rule (wpAny_pure (hF s₁ H' σ' I' q _ rfl (allBare_setGen I'.bare hbare) fun _ _ e => e)))
    · obtain ⟨ys, H', σ', pl, hc, I', f⟩ := hp
      have hc : pl = [] := hc
      subst hc
      exact wpAny_bind (wpAny_rule (wpAny_pure (hT ys s₁ H' σ' I' f _ rfl (allBare_setGen I'.bare rfl) hk)))
  | succ n ih =>
    intro s hg hl ⟨gs, hgs, hgo'⟩
    have hgl : g < s.gens.size := (Array.getElem?_eq_some_iff.mp hgs).1
    refine codeAny_builtin F.entry_all_loop ?_
    rw [Around.under_plainId F.plain_all_loop _]
    show wpAny _ A.in1 (pyNext (.ref a) >>= _) _ _ s
    refine wpAny_bind (wpAny_gsz (n := g + 1) hgl (wpAny_pyNext_genexpQ (A := A.in1) (P := fun _ _ s1 => ∃ ys H' σ' pl, Cs0 ys pl ∧ Inv (gcx X s4 H4 cenv A.in1.in1 fp [(a, go)]) pl σ' H' s1 ∧ Fin ys H') hh hl hd hg hgs hgo' (fun v s₁ gs' hbare hv => ?_) fun s₁ hp h' hk => ?_))
    · intro hsz
      obtain ⟨ys, y, H', σ', pl, N, hc, rv, I', ⟨k, rfl, q⟩, kap⟩ := hv
      have hc : pl = [] := hc
      subst hc
      obtain rfl : v = Value.bool k := rv
      refine wpAny_bind (wpAny_holding (wpAny_truthy_bool ?_))
      refine wpAny_bind (wpAny_letGo ?_)
      cases k with
      | true =>
        rw [if_pos rfl] at q
        simp only [if_true]
        have hsz1 : g < s₁.gens.size := by
          have q : (s₁.setGen g gs').gens.size = s₁.gens.size := setGen_size _ _ _
          have hsz' : g + 1 ≤ (s₁.setGen g gs').gens.size := hsz
          omega
        refine wpAny_pure ⟨plainId_quiet F.plain_all_loop _, ih (s₁.setGen g gs') (hgo _ (I'.pin (a, go) (List.mem_append_left _ (List.mem_singleton.mpr rfl))).1) I'.nolimit ⟨gs', setGen_at hsz1, ?_⟩⟩
        exact kap q _ [] rfl (wake0 (g := g) (x := gs') (y := .running) I'.bare hbare rfl)
      | false =>
        rw [if_neg Bool.false_ne_true] at q
        simp only [Bool.false_eq_true, if_false]
        exact wpAny_bind (wpAny_rule (wpAny_pure (hF s₁ H' σ' I' q _ rfl (allBare_setGen I'.bare hbare) fun _ _ e => e)))
    · intro hsz
      obtain ⟨ys, H', σ', pl, hc, I', f⟩ := hp
      have hc : pl = [] := hc
      subst hc
      exact wpAny_bind (wpAny_rule (wpAny_pure (hT ys s₁ H' σ' I' f _ rfl (allBare_setGen I'.bare rfl) hk)))

def tAllG (P : Addr) (wi : TI) (g : TG) (tt : TT) (te : TE) (vs : List Nat) : TE := fun σ H Q => wi σ H fun J H1 => TabG H1 P ∧ ∀ H2, Tabbed P H1 H2 → ∃ W : Nat → Nat → Hp → Prop, (∃ m, W 0 m H2) ∧ ∀ i m H, W i m H →
  (J.stop i H ∧ Q (.bl true) H) ∨ (J.go i H ∧ ∃ Nx : Hp → Prop, (∀ H', Nx H' → ∃ m', m' < m ∧ W (i + 1) m' H') ∧ ∀ x H', J.yld i H x H' → g x (wipe σ vs) H' fun σ2 H2 => wipe σ2 vs = wipe σ vs ∧ tt σ2 H2 fun b H3 =>
    if b = true then te σ2 H3 fun y H4 => ∃ k, y = .bl k ∧ if k = true then Nx H4 else Q (.bl false) H4 else Nx H3)
theorem lookup_lt {c : Addr} {y : Str} {scope : Scope} {own : List (Str × Nat)} (I : Inv X pins σ H s) (ok : BlkOk X.N X.env.scope scope own) (e : (cloFrom X.env.cells scope.names []).lookup y = some c) : c < s.heap.objs.size := by
  rcases cloFrom_mem (PySem.mem_of_lookup e) with hm | ⟨h1, rfl⟩
  · cases hm
  · obtain ⟨c, hc⟩ : ∃ c, X.env.cells.lookup y = some c := by
      rcases ok.free _ h1 rfl with k | k
      · exact I.ok.has _ (.inl k)
      · exact I.ok.has _ (.inr k)
    rw [hc]
    obtain ⟨w, z⟩ := I.cell _ _ hc
    exact z.lt

abbrev ForG (X : Cx) (scope : Scope) (k : Nat) (D : Cx → Prop) : Prop := ∀ (s : Shared) (H : Hp) (C : Addr) (code : Value) (A : Around) (fp : List Addr) (pn : List (Addr × Obj)), Room k (A.deeper (genv X scope C code)) → D (gcx X s H (genv X scope C code) A fp pn)

theorem pe_allG {elt tg iter : Expr} {ifs : List Expr} {scope : Scope} {gpos p pos : Pos} {own : List (Str × Nat)} {c P : Addr} {wi : TI} {g : TG} {tt : TT} {te : TE} {k : Nat}
    (hr : Room (k + 4) X.A) (hg : Gl X "all") (hm : X.mg "all" = none) (TB : TabB X.base X.mg c P) (hcode : X.env.code = .ref c) (hN : X.N.Nodup) (hi : PI X tg iter wi)
    (ok : BlkOk X.N X.env.scope scope own) (hnc : ∀ y ∈ scope.names, y.2 ≠ .cell) (hdot : scope.names.lookup (".0" : Str) = some NameKind.local) (hco : scope.isCoroutine = false)
    (pg : ForG X scope k fun X' => PG X' tg g) (pt : ForG X scope k fun X' => PTs X' ifs tt) (pe : ForG X scope k fun X' => PE X' elt te)
    (hs : ∀ v, genFold iter X.env v = pure v := by intro _; rfl)
    (he : starEach [.GeneratorExp elt [⟨tg, iter, ifs, 0⟩] scope gpos] X.env = (false, eval (.GeneratorExp elt [⟨tg, iter, ifs, 0⟩] scope gpos) X.env) :: starEach [] X.env := by rfl) :
    PE X (.Call (.Name "all" p) [.GeneratorExp elt [⟨tg, iter, ifs, 0⟩] scope gpos] [] pos) (tAllG P wi g tt te (own.map (·.2))) := by
  refine ⟨fun pins s σ H Q I h => ?_⟩
  refine wpAny_Call_Name_kw (ld_blt I hg hm boot_allG ?_)
  refine PyProof.Rows.callWith_builtin1 ?_ he (by rfl)
  rw [he]
  show wpAny _ _ (spliced ((false, eval (.GeneratorExp elt [⟨tg, iter, ifs, 0⟩] scope gpos) X.env) :: backTo pos (starEach [] X.env))) _ _ s
  refine Calls.spliced_cons (gx_make hr.hd (by have := hr.dp; omega) TB hcode ok hnc hdot hco hi hs I h fun J H1 H2 s4 s5 it fp tn code a go gn r hT I4 T st5 hfp hos hba hk hns ha haC hal hgo hgen hgs hlim => ?_)
  refine Calls.spliced_nil ?_
  refine call_function_tree F.kind_all F.plain_all F.entry_all (F.args_all1 _) ?_
  unfold Builtin.«all»
  refine wpAny_bind (m := oneArg "all" _) (wpAny_pure ?_)
  refine wpAny_bind (wpAny_pyIter_gen (hgen _ ha) ?_)
  refine wpAny_pure ⟨plainId_quiet F.plain_all_loop _, ?_⟩
  obtain ⟨W, ⟨m, w⟩, turn⟩ := r H2 hT
  have hA : X.A.in1.in1.handled = none := hr.hd
  have hfr : X.A.in1.in1.frames = some X.stack := I4.ok.frames
  have hroom : Room k (X.A.in1.in1.deeper (genv X scope s4.heap.objs.size code)) := by
    refine ⟨hr.hd, ?_, ?_⟩
    · have := hr.dp
      show X.A.depth + 1 + 3 * k + 5 < _
      omega
    · have := hr.un
      show X.A.units + 1 + 1 + 3 + 16 * k + 200 < _
      omega
  have I5 := gx_start (code := code) I4 ok hnc hN hfp hA hfr hos hba hk hns ha haC hgo
  refine all_drain (X := X) (s4 := s4) (H4 := H2) (cenv := genv X scope s4.heap.objs.size code) (fp := fp) (go := go) (g := gn) (Fin := fun _ H' => Q (.bl true) H') (Stop := fun H' => Q (.bl false) H') hr.hd (by have := hr.dp; omega) hgen
    (fun ys s1 H' σ' I' q s' e1 e2 e3 => ?_) (fun s1 H' σ' I' q s' e1 e2 e3 => ?_) (m + 1) s5 (hgen _ ha) hlim ⟨_, hgs, rfl, ?_⟩
  · exact ⟨.bl true, H', gx_back I4 (fun b hb => (hfp b hb).1) I' e1 e2 e3, rfl, q⟩
  · exact ⟨.bl false, H', gx_back I4 (fun b hb => (hfp b hb).1) I' e1 e2 e3, rfl, q⟩
  · have hfl : ∀ b ∈ fp, b < s5.heap.objs.size := fun b hb => by
      obtain ⟨o, e, _⟩ := T.obj _ _ st5 b hb
      exact Heap.lt_size e
    have h45 : s4.heap.objs.size ≤ s5.heap.objs.size := Nat.le_of_lt (Nat.lt_trans haC hal)
    have I5' : Inv (gcx X s4 H2 (genv X scope s4.heap.objs.size code) X.A.in1.in1 fp [(a, go)]) [] (wipe σ (own.map (·.2))) H2 (s5.setGen gn .running) := by
      refine I5.call' (ch := []) rfl (Un.kept fun _ _ e => e) (I5.hok.kept fun _ _ e => e) (allBare_setGen hba rfl) fun b hb => ?_
      simp at hb
    refine gx_startSeg (X := X) (s4 := s4) (H4 := H2) (cenv := genv X scope s4.heap.objs.size code) (a := a) (go := go) (lim := s5.heap.objs.size) (W := fun i m _ H => W i m H) (tt := tt) (te := te) (g := g) T (pg s4 H2 _ code _ fp _ hroom) (pt s4 H2 _ code _ fp _ hroom) (pe s4 H2 _ code _ fp _ hroom) hA h45 hal
      (Nat.lt_trans haC hal) (fun y c e => Nat.lt_of_lt_of_le (lookup_lt I4 ok e) h45) hfl (fun hz => absurd (Nat.lt_trans haC (hfp a hz).2) (Nat.lt_irrefl _)) hco (fun ys pl hc b hb => ?_) (fun i m ys H w => ?_) (Nat.lt_succ_self m) w rfl I5' st5 (fun b hb => (hfp b hb).1.1)
    · have hc : pl = [] := hc
      subst hc
      simp at hb
    · rcases turn i m H w with ⟨h1, h2⟩ | ⟨h1, Nx, h2, h3⟩
      · exact .inl ⟨h1, h2⟩
      · refine .inr ⟨h1, fun _ => Nx, fun _ => h2, fun x H' y => ?_⟩
        exact h3 x H' y

end
end Gx

namespace Gx
open PySem PySem.Spec PyProof.Rows L2 GenW
open GxR (TabB TabG Tabbed)

section
variable {X : Cx} {pins : List (Addr × Obj)} {σ : L2.St} {H : Hp} {s : Shared}
variable {s4 : Shared} {H4 : Hp} {cenv : Env} {A : Around} {fp : List Addr} {a : Addr} {go : Obj} {g : Nat} {R' : Result → Shared → Prop} {Fin : List V → Hp → Prop}
end
end Gx

namespace Gx
open PySem PySem.Spec PyProof.Rows L2 GenW
open GxR (TabB TabG Tabbed)
section
variable {X : Cx} {pins : List (Addr × Obj)} {σ : L2.St} {H : Hp} {s : Shared}
def FT (o : Obj) : Prop := o.cls = .type "tuple" ∧ o.dict = none
end
end Gx

namespace Tx
open PySem PySem.Spec PyProof.Rows L2 Gx
def New (H : Hp) (Q : VK) (xs : List V) : Prop := ∀ (p : Addr) (o : Obj), H p = none → FT o → Q (.ref p) (upd H p (.frz o (.tup xs)))
section
variable {X : Cx} {pins : List (Addr × Obj)} {σ : L2.St} {H : Hp} {s : Shared} {Q : VK}
theorem put {xs : List V} {its : List Value} (I : Inv X pins σ H s) (r : Vals xs its) (z : xs.length ≤ sizeLine) (q : New H Q xs) {t : Nat} : EP X pins σ Q (.ref s.heap.objs.size) { s with heap := s.heap.push { cls := .type "tuple", data := .seq its.toArray }, toks := t } :=
  ⟨.ref s.heap.objs.size, _, I.laid (t' := t) (o := .frz { cls := .type "tuple", data := .seq its.toArray } (.tup xs)) (fun b u e => Heap.get?_push_of_some _ e) (Nat.le_refl _) ⟨Heap.get?_push_size _ rfl, z, its, r, IsTup.new _ _⟩, rfl, q _ _ (I.hok.fresh (Nat.le_refl _)) ⟨rfl, rfl⟩⟩
end
section
variable {X : Cx} {es : List Expr} {pos : Pos} {t : TA}
def tNew (t : TA) : TE := fun σ H Q => t σ H fun xs H1 => xs.length ≤ sizeLine ∧ New H1 Q xs
theorem pe_new {n : Nat} (h : PA X es t) : PE X (.Tuple es n pos) (tNew t) :=
  ⟨fun pins s σ H Q I hq => wpAny_Tuple_spliced (thn (h.run pos pins s σ H _ I hq) fun us s1 ⟨xs, H1, I1, r, z, q⟩ => ⟨by rw [← r.length]; exact z, put I1 r z q (t := s1.toks)⟩)⟩
theorem call_new : CallR X (.type "tuple") (fun xs H Q => ∃ p ys, xs = [.ref p] ∧ ((SqL X.K H p ys ∧ New H Q ys) ∨ (SqT X.K H p ys ∧ Q (.ref p) H))) := by
  intro pins s σ H xs us Q I r h
  obtain ⟨p, ys, rfl, h⟩ := h
  obtain ⟨u, rfl, rx⟩ := vals1 r
  cases rx
  rcases h with ⟨hq, q⟩ | ⟨hq, q⟩
  · obtain ⟨its, r', pl, hz⟩ := I.list hq
    refine call_tuple_list pl.isList (fun h' kp => ?_) (by rw [List.size_toArray, ← r'.length]; exact hz)
    exact put (I.kept (t' := s.toks) kp) r' hz q (t := s.toks)
  · obtain ⟨its, r', pl, hz⟩ := I.tuple hq
    exact call_tuple_same pl ⟨.ref p, H, I, rfl, q⟩
def rCat (K : PySem.W.Frag) : R2 := fun x y H Q => ∃ a b xs ys, x = .ref a ∧ y = .ref b ∧ SqT K H a xs ∧ SqT K H b ys ∧ xs.length + ys.length ≤ sizeLine ∧ (xs = [] → Q (.ref b) H) ∧ (ys = [] → Q (.ref a) H) ∧ New H Q (xs ++ ys)
theorem op_new : OpR X (binaryOp .Add) (rCat X.K) := by
  intro pins s σ H x y v u Q I rx ry h
  obtain ⟨a, b, xs, ys, rfl, rfl, ha, hb, hz, q0, q1, q2⟩ := h
  by_cases hx : xs = []
  · exact op_catA pins s σ H _ _ v u Q I rx ry ⟨a, b, xs, ys, rfl, rfl, ha, hb, hz, q0, fun z => absurd hx z, fun z => absurd hx z⟩
  cases rx
  cases ry
  obtain ⟨its, r1, p1, _⟩ := I.tuple ha
  obtain ⟨its2, r2, p2, _⟩ := I.tuple hb
  refine HT.cat_tup p1 p2 (fun z => hx (r1.nil_iff.mp z)) (fun z => ⟨.ref a, H, I, rfl, q1 (r2.nil_iff.mp z)⟩) (fun z => ?_) (by rw [← r1.length, ← r2.length]; exact hz)
  exact put I (r1.append r2) (by rw [List.length_append]; exact hz) q2 (t := s.toks)
def rCut (K : PySem.W.Frag) : V → Option Int → Option Int → Hp → VK → Prop := fun x lo hi H Q => ∃ a xs, x = .ref a ∧ SqT K H a xs ∧
  (HT.sIx xs.length 0 lo = 0 ∧ HT.sIx xs.length xs.length hi = xs.length → Q (.ref a) H) ∧ New H Q (cutV xs lo hi)
theorem sl_new : SlR X (rCut X.K) := by
  intro pins s σ H x v vl vu lo hi sl Q I rx hs pl pu h
  obtain ⟨a, xs, rfl, hx, q1, q2⟩ := h
  by_cases hw : HT.sIx xs.length 0 lo = 0 ∧ HT.sIx xs.length xs.length hi = xs.length
  · exact sl_tupA pins s σ H _ v vl vu lo hi sl Q I rx hs pl pu ⟨a, xs, rfl, hx, q1, fun z => absurd hw z⟩
  cases rx
  obtain ⟨its, r, ht, hz⟩ := I.tuple hx
  have hlen : its.toArray.size = xs.length := by rw [List.size_toArray]; exact r.length.symm
  refine ⟨"tuple", _, PyProof.Rows.slot_tuple_getitem.lookup, ht.typeIs, ?_⟩
  refine HT.getItem_tuple_cut ht hs pl pu (by rw [hlen]; exact hw) ?_ (by rw [hlen]; exact hz)
  rw [hlen]
  exact put I ((r.drop (HT.sIx xs.length 0 lo)).take (HT.sIx xs.length xs.length hi - HT.sIx xs.length 0 lo)) (Nat.le_trans (cutV_length xs lo hi) hz) q2 (t := s.toks)
end
end Tx

namespace Dm
open PySem PySem.Spec PyProof.Rows L2
open GxR (TabB TabG Tabbed)

inductive D where
  | non | bl (b : Bool) | int (i : Int) | str (z : Str) | tup (xs : List D) | lst (xs : List D) | strm | wt (xs : List D) | dct (ks : List L2.Key) (xs : List D)

def TX (K : PySem.W.Frag) (F : Hp) (a : Addr) (vs : List V) : Prop := SqT K F a vs ∧ ((∃ o, F a = some (HO.frz o (HO.tup vs)) ∧ Gx.FT o) ∨ ∃ o, K.lookup a = some o ∧ Gx.FT o)
mutual
inductive Rep (K : PySem.W.Frag) (st : Addr) (F : Hp) : V → D → Prop
  | non : Rep K st F .non .non
  | bl (b : Bool) : Rep K st F (.bl b) (.bl b)
  | int (i : Int) : Rep K st F (.int i) (.int i)
  | str (z : Str) : Rep K st F (.str z) (.str z)
  | tup {a : Addr} {vs : List V} {xs : List D} (h : TX K F a vs) (r : Reps K st F vs xs) : Rep K st F (.ref a) (.tup xs)
  | lst {a : Addr} {vs : List V} {xs : List D} (h : F a = some (HO.lst vs)) (r : Reps K st F vs xs) : Rep K st F (.ref a) (.lst xs)
  | strm : Rep K st F (.ref st) .strm
  | wt {a : Addr} {vs : List V} {xs : List D} (h : F a = some (HO.tup vs)) (r : Reps K st F vs xs) : Rep K st F (.ref a) (.wt xs)
  | dct {a : Addr} {o : Obj} {kvs : List (Key × V)} {ks : List L2.Key} {xs : List D} (h : F a = some (HO.frz o (HO.dK kvs))) (hk : kvs.map (·.1) = ks) (r : Reps K st F (kvs.map (·.2)) xs) : Rep K st F (.ref a) (.dct ks xs)
inductive Reps (K : PySem.W.Frag) (st : Addr) (F : Hp) : List V → List D → Prop
  | nil : Reps K st F [] []
  | cons {v : V} {vs : List V} {x : D} {xs : List D} (h : Rep K st F v x) (t : Reps K st F vs xs) : Reps K st F (v :: vs) (x :: xs)
end
theorem Same.tx {K : PySem.W.Frag} {H H' : Hp} {a : Addr} {xs : List V} (e : Same H H') (h : TX K H a xs) : TX K H' a xs := ⟨Evl.ex_t e h.1, by
  rcases h.2 with ⟨o, h1, h2⟩ | z
  · exact .inl ⟨o, e _ _ h1, h2⟩
  · exact .inr z⟩
theorem Same.tup {K : PySem.W.Frag} {H H' : Hp} {a : Addr} {xs : List V} (e : Same H H') (h : SqT K H a xs) : SqT K H' a xs := Evl.ex_t e h
section
variable {K : PySem.W.Frag} {st : Addr} {F F' : Hp}
mutual
theorem Rep.mono (e : Same F F') : ∀ {v : V} {d : D}, Rep K st F v d → Rep K st F' v d
  | _, _, .non => .non
  | _, _, .bl b => .bl b
  | _, _, .int i => .int i
  | _, _, .str z => .str z
  | _, _, .tup h r => .tup (Same.tx e h) (Reps.mono e r)
  | _, _, .lst h r => .lst (e _ _ h) (Reps.mono e r)
  | _, _, .strm => .strm
  | _, _, .wt h r => .wt (e _ _ h) (Reps.mono e r)
  | _, _, .dct h hk r => .dct (e _ _ h) hk (Reps.mono e r)
theorem Reps.mono (e : Same F F') : ∀ {vs : List V} {xs : List D}, Reps K st F vs xs → Reps K st F' vs xs
  | _, _, .nil => .nil
  | _, _, .cons h t => .cons (Rep.mono e h) (Reps.mono e t)
end
theorem Reps.length : ∀ {vs : List V} {xs : List D}, Reps K st F vs xs → vs.length = xs.length
  | _, _, .nil => rfl
  | _, _, .cons _ t => by rw [List.length_cons, List.length_cons, Reps.length t]
theorem Reps.get : ∀ {vs : List V} {xs : List D} {i : Nat} {x : D}, Reps K st F vs xs → xs[i]? = some x → ∃ v, vs[i]? = some v ∧ Rep K st F v x
  | _, _, _, _, .nil, e => by simp at e
  | _, _, 0, _, .cons h _, e => by simp at e; subst e; exact ⟨_, rfl, h⟩
  | _, _, i + 1, x, .cons _ t, e => by
    obtain ⟨v, h1, h2⟩ := Reps.get (i := i) (x := x) t (by simpa using e)
    exact ⟨v, by simpa using h1, h2⟩
theorem Reps.append : ∀ {vs us : List V} {xs ys : List D}, Reps K st F vs xs → Reps K st F us ys → Reps K st F (vs ++ us) (xs ++ ys)
  | _, _, _, _, .nil, s => s
  | _, _, _, _, .cons h t, s => .cons h (Reps.append t s)
theorem Reps.take : ∀ {vs : List V} {xs : List D} (n : Nat), Reps K st F vs xs → Reps K st F (vs.take n) (xs.take n)
  | _, _, 0, _ => .nil
  | _, _, _ + 1, .nil => .nil
  | _, _, n + 1, .cons h t => .cons h (Reps.take n t)
theorem Reps.drop : ∀ {vs : List V} {xs : List D} (n : Nat), Reps K st F vs xs → Reps K st F (vs.drop n) (xs.drop n)
  | _, _, 0, r => r
  | _, _, _ + 1, .nil => .nil
  | _, _, n + 1, .cons _ t => Reps.drop n t
theorem Reps.snoc {vs : List V} {xs : List D} {v : V} {x : D} (r : Reps K st F vs xs) (h : Rep K st F v x) : Reps K st F (vs ++ [v]) (xs ++ [x]) := r.append (.cons h .nil)
end

def fzn : HO → Bool
  | .lst _ => true
  | .tup _ => true
  | .frz _ _ => true
  | _ => false
def RngOk (K : PySem.W.Frag) (st : Addr) (H F : Hp) : Prop :=
  F st = none ∧ ∃ (cs : Addr) (c k : Int) (ns : List Int), H st = some (.lst [.ref cs, .int c, .int k]) ∧ F cs = some (.lst (ns.map V.int)) ∧ 0 ≤ c ∧ 0 ≤ k
structure Tbs where
  g : List Addr
  l : List (Addr × Str)
  dis : ∀ P q, P ∈ g → (P, q) ∈ l → False
  inj : ∀ P q q', (P, q) ∈ l → (P, q') ∈ l → q = q'
instance : Membership Addr Tbs := ⟨fun T P => P ∈ T.g⟩
theorem tabS_keep {H H' : Hp} {P : Addr} {q : Str} (t : LamX.TabS H P q) (k : ∀ b o, H b = some o → ((∃ ps, o = .tbl ps) ∨ o = LamX.CodeO b q) → H' b = some o) : LamX.TabS H' P q := by
  obtain ⟨ps, h1, h2, h3⟩ := t
  refine ⟨ps, k _ _ h1 (.inl ⟨_, rfl⟩), h2, fun pos cv hc => ?_⟩
  obtain ⟨c, e1, e2⟩ := h3 pos cv hc
  exact ⟨c, e1, k _ _ e2 (.inr rfl)⟩
theorem lamNe {H : Hp} {b a : Addr} {o : HO} {q : Str} (e : H b = some o) (h : (∃ ps, o = .tbl ps) ∨ o = LamX.CodeO b q) {u : HO} (ha : H a = some u) (h1 : ∀ ps, u ≠ .tbl ps) (h2 : ∀ φ, u ≠ .ext φ) : b ≠ a := fun z => by
  rw [z, ha] at e
  cases e
  rcases h with ⟨ps, h⟩ | h
  · exact h1 ps h
  · exact h2 _ h
structure Base (K : PySem.W.Frag) (T : Tbs) (st : Addr) (g : Bool) (H F : Hp) : Prop where
  sub : ∀ b o, F b = some o → H b = some o
  kind : ∀ b o, F b = some o → fzn o = true
  tab : ∀ P ∈ T, TabG H P
  lam : ∀ p ∈ T.l, LamX.TabS H p.1 p.2
  rng : g = true → RngOk K st H F
structure Grow (st : Addr) (g : Bool) (H F H' F' : Hp) : Prop where
  ff : Same F F'
  hh : ∀ b o, H b = some o → (∀ ps, o ≠ .tbl ps) → (g = true → b ≠ st) → H' b = some o
  nn : ∀ b, F b = none → H b ≠ none → F' b = none
  al : ∀ b, H b ≠ none → H' b ≠ none
  cs : g = true → ∀ (q : Addr) (c k : Int), H st = some (.lst [.ref q, .int c, .int k]) → ∃ c' k' : Int, H' st = some (.lst [.ref q, .int c', .int k'])
theorem Grow.refl {st : Addr} {g : Bool} {H F : Hp} : Grow st g H F H F := ⟨fun _ _ e => e, fun _ _ e _ _ => e, fun _ e _ => e, fun _ e => e, fun _ _ c k e => ⟨c, k, e⟩⟩
theorem Grow.trans {st : Addr} {g : Bool} {H F H1 F1 H2 F2 : Hp} (a : Grow st g H F H1 F1) (b : Grow st g H1 F1 H2 F2) : Grow st g H F H2 F2 :=
  ⟨fun x o e => b.ff x o (a.ff x o e), fun x o e h1 h2 => b.hh x o (a.hh x o e h1 h2) h1 h2, fun x e h => b.nn x (a.nn x e h) (a.al x h), fun x e => b.al x (a.al x e), fun g q c k e => by
    obtain ⟨c1, k1, e1⟩ := a.cs g q c k e
    exact b.cs g q c1 k1 e1⟩

structure Cfg where
  K : PySem.W.Frag
  T : Tbs
  st : Addr
  g : Bool
  H0 : Hp
  F0 : Hp
inductive Slot where
  | none | val (d : D) | own (xs : List D) | dct (ks : List L2.Key) (xs : List D)
abbrev SD := List Slot
abbrev Tmp := List (Addr × List D)
structure DcOk (C : Cfg) (S : SD) (σ : L2.St) (H F : Hp) : Prop where
  at' : ∀ (i : Nat) (ks : List L2.Key) (xs : List D), S[i]? = some (Slot.dct ks xs) → ∃ (a : Addr) (kvs : List (Key × V)), σ[i]? = some (some (V.ref a)) ∧ F a = none ∧ C.H0 a = none ∧ H a = some (HO.dK kvs) ∧ kvs.map (·.1) = ks ∧ Reps C.K C.st F (kvs.map (·.2)) xs
  dis : ∀ (i j : Nat) (ks ls : List L2.Key) (xs ys : List D) (a : Addr), S[i]? = some (Slot.dct ks xs) → S[j]? = some (Slot.dct ls ys) → σ[i]? = some (some (V.ref a)) → σ[j]? = some (some (V.ref a)) → i = j
theorem DcOk.no {C : Cfg} {S : SD} {σ : L2.St} {H F : Hp} (h : ∀ (i : Nat) (ks : List L2.Key) (xs : List D), S[i]? ≠ some (Slot.dct ks xs)) : DcOk C S σ H F := ⟨fun i ks xs e => absurd e (h i ks xs), fun i j ks ls xs ys a e _ _ _ => absurd e (h i ks xs)⟩
theorem DcOk.mono {C : Cfg} {S : SD} {σ : L2.St} {H F H' F' : Hp} (d : DcOk C S σ H F) (hH : ∀ b kvs, H b = some (HO.dK kvs) → C.H0 b = none → F b = none → H' b = some (HO.dK kvs) ∧ F' b = none) (e : Same F F') : DcOk C S σ H' F' := ⟨fun i ks xs h => by
  obtain ⟨a, kvs, h1, h2, h3, h4, h5, h6⟩ := d.at' i ks xs h
  obtain ⟨q1, q2⟩ := hH a kvs h4 h3 h2
  exact ⟨a, kvs, h1, q2, h3, q1, h5, h6.mono e⟩, d.dis⟩
theorem DcOk.slots {C : Cfg} {S S' : SD} {σ σ' : L2.St} {H F : Hp} (d : DcOk C S σ H F) (h : ∀ (i : Nat) (ks : List L2.Key) (xs : List D), S'[i]? = some (Slot.dct ks xs) → S[i]? = some (Slot.dct ks xs) ∧ σ'[i]? = σ[i]?) : DcOk C S' σ' H F := ⟨fun i ks xs q => by
  obtain ⟨q1, q2⟩ := h i ks xs q
  obtain ⟨a, kvs, h1, h2, h3, h4, h5, h6⟩ := d.at' i ks xs q1
  exact ⟨a, kvs, by rw [q2]; exact h1, h2, h3, h4, h5, h6⟩, fun i j ks ls xs ys a q1 q2 q3 q4 => by
  obtain ⟨p1, p2⟩ := h i ks xs q1
  obtain ⟨p3, p4⟩ := h j ls ys q2
  exact d.dis i j ks ls xs ys a p1 p3 (by rw [← p2]; exact q3) (by rw [← p4]; exact q4)⟩
structure Stt (C : Cfg) (S : SD) (tmp : Tmp) (σ : L2.St) (H F : Hp) : Prop where
  b0 : Base C.K C.T C.st C.g C.H0 C.F0
  base : Base C.K C.T C.st C.g H F
  grow : Grow C.st C.g C.H0 C.F0 H F
  val : ∀ (i : Nat) (d : D), S[i]? = some (Slot.val d) → ∃ v : V, σ[i]? = some (some v) ∧ Rep C.K C.st F v d
  own : ∀ (i : Nat) (xs : List D), S[i]? = some (Slot.own xs) → ∃ (a : Addr) (vs : List V), σ[i]? = some (some (V.ref a)) ∧ F a = none ∧ C.H0 a = none ∧ H a = some (HO.lst vs) ∧ Reps C.K C.st F vs xs
  dis : ∀ (i j : Nat) (xs ys : List D) (a : Addr), S[i]? = some (Slot.own xs) → S[j]? = some (Slot.own ys) → σ[i]? = some (some (V.ref a)) → σ[j]? = some (some (V.ref a)) → i = j
  tm : ∀ (a : Addr) (xs : List D), (a, xs) ∈ tmp → ∃ vs : List V, F a = none ∧ C.H0 a = none ∧ H a = some (HO.lst vs) ∧ Reps C.K C.st F vs xs
  tdis : ∀ (i : Nat) (ys : List D) (a : Addr) (xs : List D), (a, xs) ∈ tmp → S[i]? = some (Slot.own ys) → σ[i]? ≠ some (some (V.ref a))
  tnd : (tmp.map (·.1)).Nodup
  dc : DcOk C S σ H F

section
variable {C : Cfg} {S : SD} {tmp : Tmp} {σ : L2.St} {H F : Hp}
theorem Stt.nst (s : Stt C S tmp σ H F) {a : Addr} (h : C.H0 a = none) (g : C.g = true) : a ≠ C.st := fun e => by
  obtain ⟨_, cs, c, k, ns, h1, _⟩ := s.b0.rng g
  rw [e, h1] at h
  cases h
theorem Stt.fresh0 (s : Stt C S tmp σ H F) {p : Addr} (h : H p = none) : C.H0 p = none := by
  cases q : C.H0 p with
  | none => rfl
  | some o => exact absurd h (s.grow.al p (by rw [q]; exact fun z => by cases z))
theorem Stt.freshF (s : Stt C S tmp σ H F) {p : Addr} (h : H p = none) : F p = none := by
  cases q : F p with
  | none => rfl
  | some o =>
    rw [s.base.sub p o q] at h
    cases h
theorem Base.grow {K : PySem.W.Frag} {T : Tbs} {st : Addr} {g : Bool} {H F H' : Hp} (b : Base K T st g H F) (hh : ∀ b o, H b = some o → H' b = some o) : Base K T st g H' F where
  sub := fun x o e => hh x o (b.sub x o e)
  kind := b.kind
  tab := fun P hP => by
    obtain ⟨ps, h1, h2⟩ := b.tab P hP
    exact ⟨ps, hh _ _ h1, h2⟩
  lam := fun p hp => (b.lam p hp).ext hh
  rng := fun h => by
    obtain ⟨h1, cs, c, k, ns, h2, h3⟩ := b.rng h
    exact ⟨h1, cs, c, k, ns, hh _ _ h2, h3⟩
theorem Base.growF {K : PySem.W.Frag} {T : Tbs} {st : Addr} {g : Bool} {H F : Hp} {p : Addr} {o : HO} (b : Base K T st g H F) (hp : H p = some o) (hf : fzn o = true) (hn : F p = none) (hst : g = true → p ≠ st) : Base K T st g H (upd F p o) where
  sub := fun x u e => by
    by_cases hx : x = p
    · subst hx
      rw [upd_same] at e
      cases e
      exact hp
    · rw [upd_ne hx] at e
      exact b.sub x u e
  kind := fun x u e => by
    by_cases hx : x = p
    · subst hx
      rw [upd_same] at e
      cases e
      exact hf
    · rw [upd_ne hx] at e
      exact b.kind x u e
  tab := b.tab
  lam := b.lam
  rng := fun h => by
    obtain ⟨h1, cs, c, k, ns, h2, h3, h4⟩ := b.rng h
    have sF : Same F (upd F p o) := fun x u e => by
      rw [upd_ne (ne_of_none e hn)]
      exact e
    exact ⟨by rw [upd_ne (Ne.symm (hst h))]; exact h1, cs, c, k, ns, h2, sF _ _ h3, h4⟩
theorem sameF {F : Hp} {p : Addr} {o : HO} (hn : F p = none) : Same F (upd F p o) := fun x u e => by
  rw [upd_ne (ne_of_none e hn)]
  exact e
theorem Stt.grew (s : Stt C S tmp σ H F) {H' : Hp} (hh : ∀ b o, H b = some o → H' b = some o) : Stt C S tmp σ H' F where
  b0 := s.b0
  base := s.base.grow hh
  grow := ⟨s.grow.ff, fun b o e h1 h2 => hh b o (s.grow.hh b o e h1 h2), s.grow.nn, fun b e => by
    cases q : H b with
    | none => exact absurd q (s.grow.al b e)
    | some o =>
      rw [hh b o q]
      exact (fun z => by cases z), fun g q c k e => by
    obtain ⟨c1, k1, e1⟩ := s.grow.cs g q c k e
    exact ⟨c1, k1, hh _ _ e1⟩⟩
  val := s.val
  own := fun i xs h => by
    obtain ⟨a, vs, h1, h2, h3, h4, h5⟩ := s.own i xs h
    exact ⟨a, vs, h1, h2, h3, hh _ _ h4, h5⟩
  dis := s.dis
  tm := fun a xs h => by
    obtain ⟨vs, h2, h3, h4, h5⟩ := s.tm a xs h
    exact ⟨vs, h2, h3, hh _ _ h4, h5⟩
  tdis := s.tdis
  tnd := s.tnd
  dc := s.dc.mono (fun b kvs e _ h => ⟨hh _ _ e, h⟩) (Same.refl _)
theorem Stt.still (s : Stt C S tmp σ H F) {p : Addr} {o : HO} (hp : H p = some o) (hf : fzn o = true) (hn : F p = none) (h0 : C.H0 p = none) (no : ∀ (i : Nat) (xs : List D), S[i]? = some (Slot.own xs) → σ[i]? ≠ some (some (V.ref p))) (nt : p ∉ tmp.map (·.1)) : Stt C S tmp σ H (upd F p o) where
  b0 := s.b0
  base := s.base.growF hp hf hn (s.nst h0)
  grow := ⟨fun x u e => sameF hn x u (s.grow.ff x u e), s.grow.hh, fun b e h => by
    rw [upd_ne (fun z => h (by rw [z]; exact h0))]
    exact s.grow.nn b e h, s.grow.al, s.grow.cs⟩
  val := fun i d h => by
    obtain ⟨v, h1, h2⟩ := s.val i d h
    exact ⟨v, h1, h2.mono (sameF hn)⟩
  own := fun i xs h => by
    obtain ⟨a, vs, h1, h2, h3, h4, h5⟩ := s.own i xs h
    refine ⟨a, vs, h1, ?_, h3, h4, h5.mono (sameF hn)⟩
    rw [upd_ne (fun z => no i xs h (by rw [← z]; exact h1))]
    exact h2
  dis := s.dis
  tm := fun a xs h => by
    obtain ⟨vs, h2, h3, h4, h5⟩ := s.tm a xs h
    refine ⟨vs, ?_, h3, h4, h5.mono (sameF hn)⟩
    rw [upd_ne (fun z => nt (by rw [← z]; exact List.mem_map.mpr ⟨_, h, rfl⟩))]
    exact h2
  tdis := s.tdis
  tnd := s.tnd
  dc := s.dc.mono (fun b kvs e _ h => ⟨e, by rw [upd_ne (fun z => by rw [z, hp] at e; cases e; cases hf)]; exact h⟩) (sameF hn)
theorem Stt.noOwn (s : Stt C S tmp σ H F) {p : Addr} (h : H p = none) : (∀ (i : Nat) (xs : List D), S[i]? = some (Slot.own xs) → σ[i]? ≠ some (some (V.ref p))) ∧ p ∉ tmp.map (·.1) := by
  refine ⟨fun i xs e z => ?_, fun z => ?_⟩
  · obtain ⟨a, vs, h1, h2, h3, h4, h5⟩ := s.own i xs e
    rw [z] at h1
    cases h1
    rw [h] at h4
    cases h4
  · obtain ⟨q, hq, e⟩ := List.mem_map.mp z
    obtain ⟨vs, h2, h3, h4, h5⟩ := s.tm q.1 q.2 hq
    rw [e, h] at h4
    cases h4
theorem Stt.newO (s : Stt C S tmp σ H F) {p : Addr} {o : HO} (h : H p = none) (hf : fzn o = true) : Stt C S tmp σ (upd H p o) (upd F p o) :=
  (s.grew (H' := upd H p o) fun b u e => by rw [upd_ne (ne_of_none e h)]; exact e).still upd_same hf (s.freshF h) (s.fresh0 h) (s.noOwn h).1 (s.noOwn h).2
theorem Stt.newT (s : Stt C S tmp σ H F) {p : Addr} {o : Obj} {vs : List V} {xs : List D} (h : H p = none) (ho : Gx.FT o) (r : Reps C.K C.st F vs xs) :
    Stt C S tmp σ (upd H p (.frz o (.tup vs))) (upd F p (.frz o (.tup vs))) ∧ Same F (upd F p (.frz o (.tup vs))) ∧ Rep C.K C.st (upd F p (.frz o (.tup vs))) (.ref p) (.tup xs) :=
  ⟨s.newO h rfl, sameF (s.freshF h), .tup ⟨.inl (.inr ⟨o, upd_same⟩), .inl ⟨o, upd_same, ho⟩⟩ (r.mono (sameF (s.freshF h)))⟩
theorem Stt.called (s : Stt C S tmp σ H F) {H' F' : Hp} (b : Base C.K C.T C.st C.g H' F') (g : Grow C.st C.g H F H' F') : Stt C S tmp σ H' F' where
  b0 := s.b0
  base := b
  grow := s.grow.trans g
  val := fun i d h => by
    obtain ⟨v, h1, h2⟩ := s.val i d h
    exact ⟨v, h1, h2.mono g.ff⟩
  own := fun i xs h => by
    obtain ⟨a, vs, h1, h2, h3, h4, h5⟩ := s.own i xs h
    exact ⟨a, vs, h1, g.nn a h2 (by rw [h4]; exact fun z => by cases z), h3, g.hh a _ h4 (fun ps z => by cases z) (s.nst h3), h5.mono g.ff⟩
  dis := s.dis
  tm := fun a xs h => by
    obtain ⟨vs, h2, h3, h4, h5⟩ := s.tm a xs h
    exact ⟨vs, g.nn a h2 (by rw [h4]; exact fun z => by cases z), h3, g.hh a _ h4 (fun ps z => by cases z) (s.nst h3), h5.mono g.ff⟩
  tdis := s.tdis
  tnd := s.tnd
  dc := s.dc.mono (fun a kvs h4 h3 h2 => ⟨g.hh a _ h4 (fun ps z => by cases z) (s.nst h3), g.nn a h2 (by rw [h4]; exact fun z => by cases z)⟩) g.ff
theorem getset {α : Type} {l : List α} {i j : Nat} {x y : α} (h : (l.set i x)[j]? = some y) : (i = j ∧ y = x) ∨ (i ≠ j ∧ l[j]? = some y) := by
  by_cases e : i = j
  · subst e
    by_cases hi : i < l.length
    · rw [List.getElem?_set_self hi] at h
      exact .inl ⟨rfl, (Option.some.inj h).symm⟩
    · rw [List.getElem?_eq_none (by simpa using hi)] at h
      cases h
  · rw [List.getElem?_set_ne e] at h
    exact .inr ⟨e, h⟩
theorem Stt.set (s : Stt C S tmp σ H F) {i : Nat} {v : V} {d : D} (hi : i < σ.length) (r : Rep C.K C.st F v d) : Stt C (S.set i (Slot.val d)) tmp (σ.set i (some v)) H F where
  b0 := s.b0
  base := s.base
  grow := s.grow
  val := fun j e h => by
    rcases getset h with ⟨rfl, q⟩ | ⟨n, q⟩
    · cases q
      exact ⟨v, List.getElem?_set_self hi, r⟩
    · rw [List.getElem?_set_ne n]
      exact s.val j e q
  own := fun j xs h => by
    rcases getset h with ⟨rfl, q⟩ | ⟨n, q⟩
    · cases q
    · rw [List.getElem?_set_ne n]
      exact s.own j xs q
  dis := fun j k xs ys a h1 h2 h3 h4 => by
    rcases getset h1 with ⟨rfl, q⟩ | ⟨n, q⟩
    · cases q
    rcases getset h2 with ⟨rfl, q2⟩ | ⟨n2, q2⟩
    · cases q2
    rw [List.getElem?_set_ne n] at h3
    rw [List.getElem?_set_ne n2] at h4
    exact s.dis j k xs ys a q q2 h3 h4
  tm := s.tm
  tdis := fun j ys a xs h h1 => by
    rcases getset h1 with ⟨rfl, q⟩ | ⟨n, q⟩
    · cases q
    · rw [List.getElem?_set_ne n]
      exact s.tdis j ys a xs h q
  tnd := s.tnd
  dc := s.dc.slots fun j ks xs h => by
    rcases getset h with ⟨rfl, q⟩ | ⟨n, q⟩
    · cases q
    · exact ⟨q, List.getElem?_set_ne n⟩
theorem Stt.setOwn (s : Stt C S tmp σ H F) {i : Nat} {p : Addr} {vs : List V} {xs : List D} (hi : i < σ.length) (hF : F p = none) (h0 : C.H0 p = none) (hp : H p = some (HO.lst vs)) (r : Reps C.K C.st F vs xs)
    (no : ∀ (j : Nat) (xs : List D), j ≠ i → S[j]? = some (Slot.own xs) → σ[j]? ≠ some (some (V.ref p))) (nt : p ∉ tmp.map (·.1)) : Stt C (S.set i (Slot.own xs)) tmp (σ.set i (some (V.ref p))) H F where
  b0 := s.b0
  base := s.base
  grow := s.grow
  val := fun j e h => by
    rcases getset h with ⟨rfl, q⟩ | ⟨n, q⟩
    · cases q
    · rw [List.getElem?_set_ne n]
      exact s.val j e q
  own := fun j ys h => by
    rcases getset h with ⟨rfl, q⟩ | ⟨n, q⟩
    · cases q
      exact ⟨p, vs, List.getElem?_set_self hi, hF, h0, hp, r⟩
    · rw [List.getElem?_set_ne n]
      exact s.own j ys q
  dis := fun j k xs ys a h1 h2 h3 h4 => by
    rcases getset h1 with ⟨rfl, q⟩ | ⟨n, q⟩ <;> rcases getset h2 with ⟨rfl, q2⟩ | ⟨n2, q2⟩
    · rfl
    · rw [List.getElem?_set_self hi] at h3
      rw [List.getElem?_set_ne n2] at h4
      cases h3
      exact absurd h4 (no k ys (Ne.symm n2) q2)
    · rw [List.getElem?_set_self hi] at h4
      rw [List.getElem?_set_ne n] at h3
      cases h4
      exact absurd h3 (no j xs (Ne.symm n) q)
    · rw [List.getElem?_set_ne n] at h3
      rw [List.getElem?_set_ne n2] at h4
      exact s.dis j k xs ys a q q2 h3 h4
  tm := s.tm
  tdis := fun j ys a xs h h1 z => by
    rcases getset h1 with ⟨rfl, q⟩ | ⟨n, q⟩
    · rw [List.getElem?_set_self hi] at z
      cases z
      exact nt (List.mem_map.mpr ⟨_, h, rfl⟩)
    · rw [List.getElem?_set_ne n] at z
      exact s.tdis j ys a xs h q z
  tnd := s.tnd
  dc := s.dc.slots fun j ks xs h => by
    rcases getset h with ⟨rfl, q⟩ | ⟨n, q⟩
    · cases q
    · exact ⟨q, List.getElem?_set_ne n⟩
theorem Stt.write (s : Stt C S tmp σ H F) {i : Nat} {a : Addr} {xs ys : List D} {us : List V} (hS : S[i]? = some (Slot.own xs)) (hσ : σ[i]? = some (some (V.ref a))) (r : Reps C.K C.st F us ys) : Stt C (S.set i (Slot.own ys)) tmp σ (upd H a (.lst us)) F := by
  obtain ⟨a', vs, h1, h2, h3, h4, h5⟩ := s.own i xs hS
  rw [hσ] at h1
  cases h1
  have iS : i < S.length := (List.getElem?_eq_some_iff.mp hS).1
  have nF : ∀ b o, F b = some o → b ≠ a := fun b o e z => by rw [z, h2] at e; cases e
  have other : ∀ (j : Nat) (zs : List D), j ≠ i → S[j]? = some (Slot.own zs) → σ[j]? ≠ some (some (V.ref a)) := fun j zs hj h z => hj (s.dis j i zs xs a h hS z hσ)
  refine ⟨s.b0, ⟨fun b o e => ?_, s.base.kind, fun P hP => ?_, fun p hp => tabS_keep (s.base.lam p hp) fun b o e h => by rw [upd_ne (lamNe e h h4 (fun _ z => by cases z) (fun _ z => by cases z))]; exact e, fun g => ?_⟩, ⟨s.grow.ff, fun b o e n1 n2 => ?_, s.grow.nn, fun b e => ?_, fun g q c k e => by
    obtain ⟨c1, k1, e1⟩ := s.grow.cs g q c k e
    exact ⟨c1, k1, by rw [upd_ne (Ne.symm (s.nst h3 g))]; exact e1⟩⟩, fun j e h => ?_, fun j zs h => ?_, fun j k zs ws b q1 q2 q3 q4 => ?_, fun b zs h => ?_, fun j zs b ws h h' => ?_, s.tnd, (s.dc.mono (H' := upd H a (.lst us)) (fun b kvs e _ h => ⟨by rw [upd_ne (ne_of e h4 (fun z => by cases z))]; exact e, h⟩) (Same.refl _)).slots fun j ks zs h => ?_⟩
  · rw [upd_ne (nF b o e)]
    exact s.base.sub b o e
  · obtain ⟨ps, q1, q2⟩ := s.base.tab P hP
    exact ⟨ps, by rw [upd_ne (ne_of q1 h4 (fun z => by cases z))]; exact q1, q2⟩
  · obtain ⟨q1, cs, c, k, ns, q2, q3⟩ := s.base.rng g
    exact ⟨q1, cs, c, k, ns, by rw [upd_ne (Ne.symm (s.nst h3 g))]; exact q2, q3⟩
  · rw [upd_ne (fun z => by rw [z, h3] at e; cases e)]
    exact s.grow.hh b o e n1 n2
  · by_cases z : b = a
    · rw [z, upd_same]
      exact fun z => by cases z
    · rw [upd_ne z]
      exact s.grow.al b e
  · rcases getset h with ⟨rfl, q⟩ | ⟨n, q⟩
    · cases q
    · exact s.val j e q
  · rcases getset h with ⟨rfl, q⟩ | ⟨n, q⟩
    · cases q
      exact ⟨a, us, hσ, h2, h3, upd_same, r⟩
    · obtain ⟨b, ws, g1, g2, g3, g4, g5⟩ := s.own j zs q
      refine ⟨b, ws, g1, g2, g3, ?_, g5⟩
      rw [upd_ne (fun z => other j zs (Ne.symm n) q (by rw [← z]; exact g1))]
      exact g4
  · have p1 : ∃ zs', S[j]? = some (Slot.own zs') := by
      rcases getset q1 with ⟨rfl, q⟩ | ⟨n, q⟩
      · exact ⟨_, hS⟩
      · exact ⟨_, q⟩
    have p2 : ∃ zs', S[k]? = some (Slot.own zs') := by
      rcases getset q2 with ⟨rfl, q⟩ | ⟨n, q⟩
      · exact ⟨_, hS⟩
      · exact ⟨_, q⟩
    obtain ⟨z1, p1⟩ := p1
    obtain ⟨z2, p2⟩ := p2
    exact s.dis j k z1 z2 b p1 p2 q3 q4
  · obtain ⟨ws, g2, g3, g4, g5⟩ := s.tm b zs h
    refine ⟨ws, g2, g3, ?_, g5⟩
    rw [upd_ne (fun z => s.tdis i xs b zs h hS (by rw [z]; exact hσ))]
    exact g4
  · rcases getset h' with ⟨rfl, q⟩ | ⟨n, q⟩
    · exact s.tdis i xs b ws h hS
    · exact s.tdis j zs b ws h q
  · rcases getset h with ⟨rfl, q⟩ | ⟨n, q⟩
    · cases q
    · exact ⟨q, rfl⟩
theorem Stt.freeze (s : Stt C S tmp σ H F) {i : Nat} {xs : List D} (hS : S[i]? = some (Slot.own xs)) : ∃ a F', σ[i]? = some (some (V.ref a)) ∧ Stt C (S.set i (Slot.val (.lst xs))) tmp σ H F' ∧ Same F F' ∧ Rep C.K C.st F' (.ref a) (.lst xs) := by
  obtain ⟨a, vs, h1, h2, h3, h4, h5⟩ := s.own i xs hS
  have iσ : i < σ.length := (List.getElem?_eq_some_iff.mp h1).1
  have other : ∀ (j : Nat) (zs : List D), j ≠ i → S[j]? = some (Slot.own zs) → σ[j]? ≠ some (some (V.ref a)) := fun j zs hj h z => hj (s.dis j i zs xs a h hS z h1)
  -- forget the slot first
  have s1 : Stt C (S.set i Slot.none) tmp σ H F := by
    refine ⟨s.b0, s.base, s.grow, fun j e h => ?_, fun j zs h => ?_, fun j k zs ws b q1 q2 q3 q4 => ?_, s.tm, fun j zs b ws h h' => ?_, s.tnd, s.dc.slots fun j ks zs h => by
      rcases getset h with ⟨rfl, q⟩ | ⟨n, q⟩
      · cases q
      · exact ⟨q, rfl⟩⟩
    · rcases getset h with ⟨rfl, q⟩ | ⟨n, q⟩
      · cases q
      · exact s.val j e q
    · rcases getset h with ⟨rfl, q⟩ | ⟨n, q⟩
      · cases q
      · exact s.own j zs q
    · rcases getset q1 with ⟨rfl, q⟩ | ⟨n, q⟩
      · cases q
      rcases getset q2 with ⟨rfl, p2⟩ | ⟨n2, p2⟩
      · cases p2
      exact s.dis j k zs ws b q p2 q3 q4
    · rcases getset h' with ⟨rfl, q⟩ | ⟨n, q⟩
      · cases q
      · exact s.tdis j zs b ws h q
  have s2 := s1.still h4 rfl h2 h3 (fun j zs h => by
    rcases getset h with ⟨rfl, q⟩ | ⟨n, q⟩
    · cases q
    · exact other j zs (Ne.symm n) q) (fun z => by
      obtain ⟨q, hq, e⟩ := List.mem_map.mp z
      exact s.tdis i xs q.1 q.2 hq hS (by rw [e]; exact h1))
  have r : Rep C.K C.st (upd F a (.lst vs)) (.ref a) (.lst xs) := .lst upd_same (h5.mono (sameF h2))
  have s3 := s2.set (i := i) iσ r
  refine ⟨a, _, h1, ?_, sameF h2, r⟩
  rw [List.set_set] at s3
  have e : σ.set i (some (V.ref a)) = σ := by
    apply List.ext_getElem?
    intro j
    by_cases hj : i = j
    · subst hj
      rw [List.getElem?_set_self iσ, h1]
    · rw [List.getElem?_set_ne hj]
  rw [e] at s3
  exact s3
end
end Dm

namespace Dm
open PySem PySem.Spec PyProof.Rows L2
open GxR (TabB TabG Tabbed)

structure CanE (X : Cx) (e : Expr) (σ : L2.St) (H : Hp) (R : VK) : Prop where
  run : ∀ (pins : List (Addr × Obj)) (s : Shared), Inv X pins σ H s → wpAny (model X.prog X.w) X.A (eval e X.env) (EP X pins σ R) X.xe s
structure CanT (X : Cx) (e : Expr) (σ : L2.St) (H : Hp) (R : Bool → Hp → Prop) : Prop where
  run : ∀ (pins : List (Addr × Obj)) (s : Shared), Inv X pins σ H s → wpAny (model X.prog X.w) X.A (isTrue e X.env (eval e X.env)) (TP X pins σ R) X.xe s
structure CanA (X : Cx) (es : List Expr) (σ : L2.St) (H : Hp) (R : List V → Hp → Prop) : Prop where
  run : ∀ (pos : Pos) (pins : List (Addr × Obj)) (s : Shared), Inv X pins σ H s → wpAny (model X.prog X.w) X.A (spliced (backTo pos (starEach es X.env))) (AP X pins σ R) X.xe s
structure CanS (X : Cx) (st : Stmt) (D : Ends) (σ : L2.St) (H : Hp) : Prop where
  run : ∀ (pins : List (Addr × Obj)) (s : Shared), Inv X pins σ H s → wpAny (model X.prog X.w) X.A (exec st X.env) (SP X pins D) X.xe s
structure CanSs (X : Cx) (st : List Stmt) (D : Ends) (σ : L2.St) (H : Hp) : Prop where
  run : ∀ (pins : List (Addr × Obj)) (s : Shared), Inv X pins σ H s → wpAny (model X.prog X.w) X.A (execs st X.env) (SP X pins D) X.xe s
section
variable {X : Cx} {e : Expr} {es : List Expr} {st : Stmt} {sts : List Stmt}
theorem pe_can : PE X e (CanE X e) := ⟨fun pins s _ _ _ I h => h.run pins s I⟩
theorem pt_can : PT X e (CanT X e) := ⟨fun pins s _ _ _ I h => h.run pins s I⟩
theorem pa_can : PA X es (CanA X es) := ⟨fun pos pins s _ _ _ I h => h.run pos pins s I⟩
theorem ps_can : PS X st (CanS X st) := ⟨fun pins s _ _ _ I h => h.run pins s I⟩
theorem pss_can : PSs X sts (CanSs X sts) := ⟨fun pins s _ _ _ I h => h.run pins s I⟩
theorem of_pe {t : TE} {σ : L2.St} {H : Hp} {R : VK} (p : PE X e t) (q : t σ H R) : CanE X e σ H R := ⟨fun pins s I => p.run pins s σ H R I q⟩
theorem of_pt {t : TT} {σ : L2.St} {H : Hp} {R : Bool → Hp → Prop} (p : PT X e t) (q : t σ H R) : CanT X e σ H R := ⟨fun pins s I => p.run pins s σ H R I q⟩
theorem of_pa {t : TA} {σ : L2.St} {H : Hp} {R : List V → Hp → Prop} (p : PA X es t) (q : t σ H R) : CanA X es σ H R := ⟨fun pos pins s I => p.run pos pins s σ H R I q⟩
theorem of_ps {t : TS} {D : Ends} {σ : L2.St} {H : Hp} (p : PS X st t) (q : t D σ H) : CanS X st D σ H := ⟨fun pins s I => p.run pins s σ H D I q⟩
theorem of_pss {t : TS} {D : Ends} {σ : L2.St} {H : Hp} (p : PSs X sts t) (q : t D σ H) : CanSs X sts D σ H := ⟨fun pins s I => p.run pins s σ H D I q⟩
end

def EvQ (C : Cfg) (X : Cx) (e : Expr) (S : SD) (Q : D → SD → Prop) : Prop := ∀ (tmp : Tmp) (σ : L2.St) (H F : Hp), Stt C S tmp σ H F → ∀ R : VK,
  (∀ v H' F' d S', Stt C S' tmp σ H' F' → Same F F' → Rep C.K C.st F' v d → Q d S' → R v H') → CanE X e σ H R
def EvL (C : Cfg) (X : Cx) (e : Expr) (S : SD) (Q : List D → SD → Prop) : Prop := ∀ (tmp : Tmp) (σ : L2.St) (H F : Hp), Stt C S tmp σ H F → ∀ R : VK,
  (∀ p vs H' F' xs S', Stt C S' tmp σ H' F' → Same F F' → F' p = none → C.H0 p = none → H' p = some (HO.lst vs) → (∀ (i : Nat) (ys : List D), S'[i]? = some (Slot.own ys) → σ[i]? ≠ some (some (V.ref p))) → p ∉ tmp.map (·.1) → Reps C.K C.st F' vs xs → Q xs S' → R (.ref p) H') → CanE X e σ H R
def EvA (C : Cfg) (X : Cx) (es : List Expr) (S : SD) (Q : List D → SD → Prop) : Prop := ∀ (tmp : Tmp) (σ : L2.St) (H F : Hp), Stt C S tmp σ H F → ∀ R : List V → Hp → Prop,
  (∀ vs H' F' ds S', Stt C S' tmp σ H' F' → Same F F' → Reps C.K C.st F' vs ds → Q ds S' → R vs H') → CanA X es σ H R
inductive PD where
  | d (x : D) | own (i : Nat)
def PD.seq (S : SD) : PD → Option (List D)
  | .d (.tup xs) => some xs
  | .d (.lst xs) => some xs
  | .own i => match S[i]? with
    | some (Slot.own xs) => some xs
    | _ => none
  | _ => none
def RepP (C : Cfg) (S : SD) (σ : L2.St) (F : Hp) (v : V) : PD → Prop
  | .d x => Rep C.K C.st F v x
  | .own i => σ[i]? = some (some v) ∧ ∃ xs, S[i]? = some (Slot.own xs)
def EvP (C : Cfg) (X : Cx) (e : Expr) (S : SD) (Q : PD → SD → Prop) : Prop := ∀ (tmp : Tmp) (σ : L2.St) (H F : Hp), Stt C S tmp σ H F → ∀ R : VK,
  (∀ v H' F' d S', Stt C S' tmp σ H' F' → Same F F' → RepP C S' σ F' v d → Q d S' → R v H') → CanE X e σ H R
section
variable {C : Cfg} {X : Cx} {S : SD} {e a b c : Expr} {es : List Expr} {Q : D → SD → Prop}
theorem ev_mono {Q' : D → SD → Prop} (h : EvQ C X e S Q') (k : ∀ d S', Q' d S' → Q d S') : EvQ C X e S Q := fun tmp σ H F s R r => h tmp σ H F s R fun v H' F' d S' s' e r' q => r v H' F' d S' s' e r' (k d S' q)
theorem ep_ev {Q : PD → SD → Prop} (h : EvQ C X e S fun d S' => Q (.d d) S') : EvP C X e S Q := fun tmp σ H F s R r => h tmp σ H F s R fun v H' F' d S' s' e r' q => r v H' F' (.d d) S' s' e r' q
theorem ev_el (h : EvL C X e S fun xs S' => Q (.lst xs) S') : EvQ C X e S Q := fun tmp σ H F s R r => h tmp σ H F s R fun p vs H' F' xs S' s' e h1 h2 h3 h4 h5 h6 q =>
  r _ H' (upd F' p (HO.lst vs)) (.lst xs) S' (s'.still h3 rfl h1 h2 h4 h5) (fun b o z => sameF h1 b o (e b o z)) (.lst upd_same (h6.mono (sameF h1))) q

theorem ev_name {i : Nat} {x : Str} {pos : Pos} {d : D} (hS : S[i]? = some (Slot.val d)) (q : Q d S) (hN : X.N[i]? = some x := by rfl)
    (hv : Vis X.env.scope x := by first | exact Or.inl rfl | exact Or.inr (Or.inl rfl) | exact Or.inr (Or.inr rfl)) (hd : (x == ("__debug__" : Str)) = false := by decide) (hcd : (x == ("__classdict__" : Str)) = false := by decide) : EvQ C X (.Name x pos) S Q :=
  fun tmp σ H F s R r => by
    obtain ⟨v, h1, h2⟩ := s.val i d hS
    exact of_pe (pe_var hN hv hd hcd) ⟨v, h1, r v H F d S s (Same.refl F) h2 q⟩
theorem ep_own {i : Nat} {x : Str} {pos : Pos} {xs : List D} {Q : PD → SD → Prop} (hS : S[i]? = some (Slot.own xs)) (q : Q (.own i) S) (hN : X.N[i]? = some x := by rfl)
    (hv : Vis X.env.scope x := by first | exact Or.inl rfl | exact Or.inr (Or.inl rfl) | exact Or.inr (Or.inr rfl)) (hd : (x == ("__debug__" : Str)) = false := by decide) (hcd : (x == ("__classdict__" : Str)) = false := by decide) : EvP C X (.Name x pos) S Q :=
  fun tmp σ H F s R r => by
    obtain ⟨a, vs, h1, h2, h3, h4, h5⟩ := s.own i xs hS
    exact of_pe (pe_var hN hv hd hcd) ⟨_, h1, r _ H F (.own i) S s (Same.refl F) ⟨h1, xs, hS⟩ q⟩
theorem ev_own {i : Nat} {x : Str} {pos : Pos} {xs : List D} (hS : S[i]? = some (Slot.own xs)) (q : Q (.lst xs) (S.set i (Slot.val (.lst xs)))) (hN : X.N[i]? = some x := by rfl)
    (hv : Vis X.env.scope x := by first | exact Or.inl rfl | exact Or.inr (Or.inl rfl) | exact Or.inr (Or.inr rfl)) (hd : (x == ("__debug__" : Str)) = false := by decide) (hcd : (x == ("__classdict__" : Str)) = false := by decide) : EvQ C X (.Name x pos) S Q :=
  fun tmp σ H F s R r => by
    obtain ⟨a, F', h1, h2, h3, h4⟩ := s.freeze hS
    exact of_pe (pe_var hN hv hd hcd) ⟨_, h1, r _ H F' _ _ h2 h3 h4 q⟩
theorem ev_tc {t : TE} {v : V} {d : D} (p : PE X e (tC v)) (hr : ∀ F, Rep C.K C.st F v d) (q : Q d S) : EvQ C X e S Q := fun tmp σ H F s R r => of_pe p (r v H F d S s (Same.refl F) (hr F) q)
theorem ev_int {i : Int} {j pos} (q : Q (.int i) S) : EvQ C X (.Constant (.int i) j pos) S Q := ev_tc (t := tC .non) pe_int (fun _ => .int i) q
theorem ev_bl {i : Bool} {j pos} (q : Q (.bl i) S) : EvQ C X (.Constant (.bool i) j pos) S Q := ev_tc (t := tC .non) pe_bl (fun _ => .bl i) q
theorem ev_non {j pos} (q : Q .non S) : EvQ C X (.Constant .none j pos) S Q := ev_tc (t := tC .non) pe_non (fun _ => .non) q
theorem ev_str {i : Str} {j pos} (q : Q (.str i) S) : EvQ C X (.Constant (.str i) j pos) S Q := ev_tc (t := tC .non) pe_str (fun _ => .str i) q
theorem ev_globI {x : Str} {i : Int} {u : Value} {pos : Pos} (hm : X.mg x = some u) (r : RelV (.int i) u) (q : Q (.int i) S) (hg : Gl X x := by rfl) (hd : (x == ("__debug__" : Str)) = false := by decide) : EvQ C X (.Name x pos) S Q := ev_tc (t := tC .non) (pe_glob hg hm r hd) (fun _ => .int i) q
theorem ev_globS {x : Str} {i : Str} {u : Value} {pos : Pos} (hm : X.mg x = some u) (r : RelV (.str i) u) (q : Q (.str i) S) (hg : Gl X x := by rfl) (hd : (x == ("__debug__" : Str)) = false := by decide) : EvQ C X (.Name x pos) S Q := ev_tc (t := tC .non) (pe_glob hg hm r hd) (fun _ => .str i) q

theorem ea_nil {Q : List D → SD → Prop} (q : Q [] S) : EvA C X [] S Q := fun tmp σ H F s R r => of_pa pa_nil (r [] H F [] S s (Same.refl F) .nil q)
theorem ea_cons {Q : List D → SD → Prop} (h : EvQ C X e S fun d S1 => EvA C X es S1 fun ds S2 => Q (d :: ds) S2) (hs : starEach (e :: es) X.env = (false, eval e X.env) :: starEach es X.env := by rfl) : EvA C X (e :: es) S Q := fun tmp σ H F s R r =>
  of_pa (pa_cons pe_can pa_can hs) (h tmp σ H F s _ fun v H1 F1 d S1 s1 e1 r1 q1 => q1 tmp σ H1 F1 s1 _ fun vs H2 F2 ds S2 s2 e2 r2 q2 => r (v :: vs) H2 F2 (d :: ds) S2 s2 (Same.trans e1 e2) (.cons (r1.mono e2) r2) q2)

theorem ev_one {op : BoolOp} {pos : Pos} (h : EvQ C X a S Q) : EvQ C X (.BoolOp op [a] pos) S Q := fun tmp σ H F s R r => of_pe (pe_one pe_can) (h tmp σ H F s R r)
theorem ev_and {rest : List Expr} {pos : Pos} (h : EvQ C X a S fun x S1 => ∃ k, x = .bl k ∧ (k = true → EvQ C X (.BoolOp .And (b :: rest) pos) S1 Q) ∧ (k = false → Q (.bl false) S1)) : EvQ C X (.BoolOp .And (a :: b :: rest) pos) S Q := fun tmp σ H F s R r =>
  of_pe (pe_and pe_can pe_can) (h tmp σ H F s _ fun v H1 F1 d S1 s1 e1 r1 ⟨k, hd, q1, q2⟩ => by
    subst hd
    cases r1
    refine ⟨k, rfl, ?_⟩
    cases k with
    | true => rw [if_pos rfl]; exact q1 rfl tmp σ H1 F1 s1 R fun v H' F' d S' s' e2 => r v H' F' d S' s' (Same.trans e1 e2)
    | false => rw [if_neg Bool.false_ne_true]; exact r _ H1 F1 _ S1 s1 e1 (.bl false) (q2 rfl))
theorem ev_not {pos : Pos} (h : EvQ C X a S fun x S1 => ∃ k, x = .bl k ∧ Q (.bl (!k)) S1) : EvQ C X (.UnaryOp .Not a pos) S Q := fun tmp σ H F s R r =>
  of_pe (pe_not pe_can) (h tmp σ H F s _ fun v H1 F1 d S1 s1 e1 r1 ⟨k, hd, q1⟩ => by
    subst hd
    cases r1
    exact ⟨k, rfl, r _ H1 F1 _ S1 s1 e1 (.bl _) q1⟩)
def OpS (C : Cfg) (r : R2) (x y : D) (Q : D → Prop) : Prop := ∀ (S : SD) (tmp : Tmp) (σ : L2.St) (H F : Hp) (v u : V), Stt C S tmp σ H F → Rep C.K C.st F v x → Rep C.K C.st F u y → ∀ R : VK,
  (∀ w H' F' z, Stt C S tmp σ H' F' → Same F F' → Rep C.K C.st F' w z → Q z → R w H') → r v u H R
theorem ev_bin {op : Operator} {r : R2} {pos : Pos} (ho : OpR X (binaryOp op) r) (h : EvQ C X a S fun x S1 => EvQ C X b S1 fun y S2 => OpS C r x y fun z => Q z S2) : EvQ C X (.BinOp a op b pos) S Q := fun tmp σ H F s R k =>
  of_pe (pe_op ho pe_can pe_can) (h tmp σ H F s _ fun v H1 F1 d S1 s1 e1 r1 q1 => q1 tmp σ H1 F1 s1 _ fun u H2 F2 d2 S2 s2 e2 r2 q2 =>
    q2 S2 tmp σ H2 F2 v u s2 (r1.mono e2) r2 R fun w H' F' z s3 e3 r3 q3 => k w H' F' z S2 s3 (Same.trans e1 (Same.trans e2 e3)) r3 q3)
theorem ev_cmp {op : CmpOp} {r : R2} {pos : Pos} (ho : OpR X (compareOp op) r) (hm : behindInMarks op b = false) (h : EvQ C X a S fun x S1 => EvQ C X b S1 fun y S2 => OpS C r x y fun z => Q z S2) : EvQ C X (.Compare a [op] [b] pos) S Q := fun tmp σ H F s R k =>
  of_pe (pe_cmpR ho pe_can pe_can hm) (h tmp σ H F s _ fun v H1 F1 d S1 s1 e1 r1 q1 => q1 tmp σ H1 F1 s1 _ fun u H2 F2 d2 S2 s2 e2 r2 q2 =>
    q2 S2 tmp σ H2 F2 v u s2 (r1.mono e2) r2 R fun w H' F' z s3 e3 r3 q3 => k w H' F' z S2 s3 (Same.trans e1 (Same.trans e2 e3)) r3 q3)
theorem ops_I0 {g : Int → Int → V} {f : Int → Int → D} {i j : Int} {Q : D → Prop} (hg : ∀ F, Rep C.K C.st F (g i j) (f i j)) (q : Q (f i j)) : OpS C (rI0 g) (.int i) (.int j) Q := fun S tmp σ H F v u s r1 r2 R k => by
  cases r1
  cases r2
  exact ⟨i, j, rfl, rfl, k _ H F _ s (Same.refl F) (hg F) q⟩
theorem ev_add {pos : Pos} (h : EvQ C X a S fun x S1 => EvQ C X b S1 fun y S2 => ∃ i j, x = .int i ∧ y = .int j ∧ Q (.int (i + j)) S2) : EvQ C X (.BinOp a .Add b pos) S Q :=
  ev_bin op_add (ev_mono h fun x S1 h1 => ev_mono h1 fun y S2 ⟨i, j, e1, e2, q⟩ => by subst e1; subst e2; exact ops_I0 (f := fun i j => .int (i + j)) (fun _ => .int _) q)
theorem ev_sub {pos : Pos} (h : EvQ C X a S fun x S1 => EvQ C X b S1 fun y S2 => ∃ i j, x = .int i ∧ y = .int j ∧ Q (.int (i - j)) S2) : EvQ C X (.BinOp a .Sub b pos) S Q :=
  ev_bin op_sub (ev_mono h fun x S1 h1 => ev_mono h1 fun y S2 ⟨i, j, e1, e2, q⟩ => by subst e1; subst e2; exact ops_I0 (f := fun i j => .int (i - j)) (fun _ => .int _) q)
def scalD : D → D → Option Bool
  | .non, .non => some true
  | .non, .int _ => some false
  | .int _, .non => some false
  | .non, .bl _ => some false
  | .bl _, .non => some false
  | .non, .str _ => some false
  | .str _, .non => some false
  | .int i, .int j => some (decide (i = j))
  | .bl i, .bl j => some (decide (i = j))
  | .str i, .str j => some (decide (i = j))
  | .int _, .str _ => some false
  | .str _, .int _ => some false
  | .bl _, .str _ => some false
  | .str _, .bl _ => some false
  | _, _ => none
theorem scalD_ok {F : Hp} {v u : V} {x y : D} {k : Bool} (r1 : Rep C.K C.st F v x) (r2 : Rep C.K C.st F u y) (h : scalD x y = some k) : scal v u = true ∧ decide (v = u) = k := by
  cases r1 <;> cases r2 <;> simp only [scalD, Option.some.injEq, reduceCtorEq] at h <;> subst h <;> refine ⟨rfl, ?_⟩ <;> simp
theorem ev_lele {pos : Pos} (h : EvQ C X a S fun x S1 => EvQ C X b S1 fun y S2 => ∃ i j, x = .int i ∧ y = .int j ∧ (i ≤ j → EvQ C X c S2 fun z S3 => ∃ l, z = .int l ∧ Q (.bl (decide (j ≤ l))) S3) ∧ (¬ i ≤ j → Q (.bl false) S2))
    (hm : lastMarks [.LtE, .LtE] [b, c] = false := by with_unfolding_all rfl) : EvQ C X (.Compare a [.LtE, .LtE] [b, c] pos) S Q := fun tmp σ H F s R k =>
  of_pe (pe_chain op_le op_le pe_can pe_can pe_can hm) (h tmp σ H F s _ fun v H1 F1 d S1 s1 e1 r1 q1 => q1 tmp σ H1 F1 s1 _ fun u H2 F2 d2 S2 s2 e2 r2 ⟨i, j, z1, z2, q2, q3⟩ => by
    subst z1; subst z2; cases r1; cases r2
    refine ⟨i, j, rfl, rfl, _, rfl, ?_⟩
    by_cases hij : i ≤ j
    · rw [decide_eq_true hij, if_pos rfl]
      exact q2 hij tmp σ H2 F2 s2 _ fun w H3 F3 d3 S3 s3 e3 r3 ⟨l, z3, q⟩ => by
        subst z3; cases r3
        exact ⟨j, l, rfl, rfl, k _ H3 F3 _ S3 s3 (Same.trans e1 (Same.trans e2 e3)) (.bl _) q⟩
    · rw [decide_eq_false hij, if_neg Bool.false_ne_true]
      exact k _ H2 F2 _ S2 s2 (Same.trans e1 e2) (.bl false) (q3 hij))
end
end Dm

namespace Dm
open PySem PySem.Spec PyProof.Rows L2
open GxR (TabB TabG Tabbed)

abbrev MD := List D → (D → Prop) → Prop
def spD (K : PySem.W.Frag) (T : Tbs) (m : MD) : Sp := fun vs H Q _ => ∃ (st : Addr) (F : Hp) (ds : List D) (R : D → Prop), Base K T st true H F ∧ Reps K st F vs ds ∧ m ds R ∧
  ∀ v H' F' d, Base K T st true H' F' → Grow st true H F H' F' → Rep K st F' v d → R d → Q v H'
section
variable {C : Cfg} {X : Cx} {S : SD} {e a b c : Expr} {es : List Expr} {Q : D → SD → Prop}
structure DE where
  nx : SD → Prop
  rt : D → Prop
  bk : SD → Prop := fun _ => False
  ct : SD → Prop := fun _ => False
structure EOk (C : Cfg) (F : Hp) (E : DE) (D' : Ends) : Prop where
  nx : ∀ S' σ' H' F', Stt C S' [] σ' H' F' → Same F F' → E.nx S' → D'.nx σ' H'
  rt : ∀ v H' F' d, Base C.K C.T C.st C.g H' F' → Grow C.st C.g C.H0 C.F0 H' F' → Rep C.K C.st F' v d → E.rt d → D'.rt v H'
  bk : ∀ S' σ' H' F', Stt C S' [] σ' H' F' → Same F F' → E.bk S' → D'.bk σ' H'
  ct : ∀ S' σ' H' F', Stt C S' [] σ' H' F' → Same F F' → E.ct S' → D'.ct σ' H'
theorem EOk.mono {F F' : Hp} {E : DE} {D' : Ends} (h : EOk C F E D') (e : Same F F') : EOk C F' E D' :=
  ⟨fun S' σ' H1 F1 s e1 => h.nx S' σ' H1 F1 s (Same.trans e e1), h.rt, fun S' σ' H1 F1 s e1 => h.bk S' σ' H1 F1 s (Same.trans e e1), fun S' σ' H1 F1 s e1 => h.ct S' σ' H1 F1 s (Same.trans e e1)⟩
def Exs (C : Cfg) (X : Cx) (sts : List Stmt) (S : SD) (E : DE) : Prop := ∀ (σ : L2.St) (H F : Hp), Stt C S [] σ H F → ∀ D' : Ends, EOk C F E D' → CanSs X sts D' σ H
def Ex (C : Cfg) (X : Cx) (st : Stmt) (S : SD) (E : DE) : Prop := ∀ (σ : L2.St) (H F : Hp), Stt C S [] σ H F → ∀ D' : Ends, EOk C F E D' → CanS X st D' σ H
variable {st : Stmt} {sts : List Stmt} {E : DE}
theorem exs_nil (q : E.nx S) : Exs C X [] S E := fun σ H F s D' k => of_pss pss_nil (k.nx S σ H F s (Same.refl F) q)
theorem exs_cons (h : Ex C X st S { E with nx := fun S1 => Exs C X sts S1 E }) : Exs C X (st :: sts) S E := fun σ H F s D' k =>
  of_pss (pss_cons ps_can pss_can) (h σ H F s { D' with nx := CanSs X sts D' } ⟨fun S' σ' H' F' s' e q => q σ' H' F' s' D' (k.mono e), k.rt, k.bk, k.ct⟩)
theorem ex_ret {pos : Pos} (h : EvQ C X e S fun d _ => E.rt d) : Ex C X (.Return (some e) pos) S E := fun σ H F s D' k =>
  of_ps (ps_ret pe_can) (h [] σ H F s D'.rt fun v H' F' d S' s' e' r q => k.rt v H' F' d s'.base s'.grow r q)
def truD : D → Option Bool
  | .non => some false
  | .bl b => some b
  | .int i => some (i != 0)
  | .tup xs => some (!xs.isEmpty)
  | .lst xs => some (!xs.isEmpty)
  | _ => none
theorem reps_empty {K : PySem.W.Frag} {st : Addr} {F : Hp} {vs : List V} {xs : List D} (r : Reps K st F vs xs) : vs.isEmpty = xs.isEmpty := by
  cases r <;> rfl
theorem truD_ok {tmp : Tmp} {σ : L2.St} {H F : Hp} {v : V} {x : D} {k : Bool} (s : Stt C S tmp σ H F) (r : Rep C.K C.st F v x) (h : truD x = some k) : TruV C.K v H k := by
  cases r <;> simp only [truD, Option.some.injEq, reduceCtorEq] at h <;> subst h
  · rfl
  · rfl
  · rfl
  · rename_i a vs xs h r
    exact .inr (.inl ⟨vs, Same.tup s.base.sub h.1, by rw [reps_empty r]⟩)
  · rename_i a vs xs h r
    exact .inl ⟨vs, .inl (.inl (s.base.sub _ _ h)), by rw [reps_empty r]⟩
theorem ex_set {i : Nat} {x : Str} {pos pos' : Pos} (hN : X.N.Nodup) (h : EvQ C X e S fun d S1 => E.nx (S1.set i (Slot.val d))) (hi : X.N[i]? = some x := by rfl) (hx : Loc X.env.scope x := by first | exact Or.inl rfl | exact Or.inr rfl)
    (hs : swapsWith e (some (.Name x pos')) pos.line X.env = pure false := by rfl) (hf : X.fn x = true ∨ X.env.scope.names.lookup x = some .local := by first | exact .inl rfl | exact .inr rfl | assumption) : Ex C X (.Assign [.Name x pos'] e pos) S E := fun σ H F s D' k => ⟨fun pins s0 I => by
  have hl : i < σ.length := by rw [I.len]; exact (List.getElem?_eq_some_iff.mp hi).1
  exact (of_ps (ps_set hN hi hx pe_can hs hf) (h [] σ H F s _ fun v H1 F1 d S1 s1 e1 r1 q1 => k.nx _ _ H1 F1 (s1.set hl r1) e1 q1)).run pins s0 I⟩
structure CanG (X : Cx) (tg : Expr) (v : V) (σ : L2.St) (H : Hp) (R : L2.St → Hp → Prop) : Prop where
  run : ∀ (pins : List (Addr × Obj)) (s : Shared) (u : Value), Inv X pins σ H s → RelV v u → wpAny (model X.prog X.w) X.A (assign tg X.env u) (fun _ s' => ∃ σ' H', Inv X pins σ' H' s' ∧ R σ' H') X.xe s
theorem pg_can {tg : Expr} : PG X tg (CanG X tg) := ⟨fun pins s σ H v u Q I r h => h.run pins s u I r⟩
theorem of_pg {tg : Expr} {t : TG} {v : V} {σ : L2.St} {H : Hp} {R : L2.St → Hp → Prop} (p : PG X tg t) (q : t v σ H R) : CanG X tg v σ H R := ⟨fun pins s u I r => p.run pins s σ H v u R I r q⟩
def AsQ (C : Cfg) (X : Cx) (tg : Expr) (d : D) (S : SD) (Q : SD → Prop) : Prop := ∀ (tmp : Tmp) (σ : L2.St) (H F : Hp) (v : V), Stt C S tmp σ H F → Rep C.K C.st F v d → ∀ R : L2.St → Hp → Prop,
  (∀ σ' H' F' S', Stt C S' tmp σ' H' F' → Same F F' → Q S' → R σ' H') → CanG X tg v σ H R
structure CanGs (X : Cx) (ts : List Expr) (vs : List V) (σ : L2.St) (H : Hp) (R : L2.St → Hp → Prop) : Prop where
  run : ∀ (pins : List (Addr × Obj)) (s : Shared) (us : List Value), Inv X pins σ H s → Vals vs us → wpAny (model X.prog X.w) X.A (assignInOrder ((assignEach ts X.env).map (·.2)) us) (fun _ s' => ∃ σ' H', Inv X pins σ' H' s' ∧ R σ' H') X.xe s
theorem pgs_can {ts : List Expr} : PGs X ts (CanGs X ts) := ⟨fun pins s σ H vs us Q I r h => h.run pins s us I r⟩
theorem of_pgs {ts : List Expr} {t : TGs} {vs : List V} {σ : L2.St} {H : Hp} {R : L2.St → Hp → Prop} (p : PGs X ts t) (q : t vs σ H R) : CanGs X ts vs σ H R := ⟨fun pins s us I r => p.run pins s σ H vs us R I r q⟩
theorem ex_asg {tg : Expr} {pos : Pos} (h : EvQ C X e S fun d S1 => AsQ C X tg d S1 E.nx) (hs : swapsWithSole [tg] e pos.line X.env = pure false := by rfl) (hw : swappedStores [tg] e X.env = pure none := by rfl)
    (h1 : (assignEach [tg] X.env).map (·.2) = [assign tg X.env] := by rfl) : Ex C X (.Assign [tg] e pos) S E := fun σ H F s D' k =>
  of_ps (ps_asg pe_can pg_can hs hw h1) (h [] σ H F s _ fun v H1 F1 d S1 s1 e1 r1 q1 => q1 [] σ H1 F1 v s1 r1 _ fun σ2 H2 F2 S2 s2 e2 q2 => k.nx S2 σ2 H2 F2 s2 (Same.trans e1 e2) q2)
end

structure FunC (K : PySem.W.Frag) (x qual : Str) (st : Stmt) (c f : Addr) (fd : FuncData) : Prop where
  ex : ∃ (oc : Value) (od : Option Addr) (kV doc pm : Value) (an : Option Addr) (ct : Value) (osl : Array (Option Value)),
    fd = PySem.W.fnOf x qual (defArgs st) (defBody st) (defScope st) .none kV doc pm an (.ref c) ct ∧ K.lookup f = some ⟨oc, od, .func fd, osl⟩ ∧ PySem.W.codeIn K (.ref c) qual = true
  kp : PySem.W.keepIn K (.ref f) = true
theorem FunC.to {K : PySem.W.Frag} {x qual : Str} {st : Stmt} {c f : Addr} {fd : FuncData} (F : FunC K x qual st c f fd) : Fun K x qual st f fd := by
  obtain ⟨oc, od, kV, doc, pm, an, ct, osl, h1, h2, h3⟩ := F.ex
  exact ⟨⟨oc, od, kV, doc, pm, an, _, ct, osl, h1, h2, h3⟩, F.kp⟩
abbrev BX (P : Program) (w : World) (K : PySem.W.Frag) (mg : Str → Option Value) (base : Heap) (N : List Str) (qual : Str) (sc : Scope) (f c : Addr) (A : Around) (outer : List Env) (s : Shared) (H : Hp) (E : XK) : Cx :=
  (cxOf CX0 P w K mg base N qual sc f (.ref c) A outer s H E).nox
theorem stt_start {K : PySem.W.Frag} {T : Tbs} {st : Addr} {g : Bool} {H F : Hp} {N : List Str} {vs : List V} {ds : List D} (b : Base K T st g H F) (r : Reps K st F vs ds) (hl : ds.length ≤ N.length) :
    Stt ⟨K, T, st, g, H, F⟩ (ds.map Slot.val ++ List.replicate (N.length - ds.length) Slot.none) [] (L2.start N vs) H F where
  b0 := b
  base := b
  grow := Grow.refl
  val := fun i d h => by
    have hi : i < ds.length := by
      by_cases hi : i < ds.length
      · exact hi
      · rw [List.getElem?_append_right (by simpa using hi), List.getElem?_replicate] at h
        split at h <;> cases h
    rw [List.getElem?_append_left (by simpa using hi), List.getElem?_map] at h
    cases e : ds[i]? with
    | none => rw [e] at h; cases h
    | some x =>
      rw [e] at h
      cases h
      obtain ⟨v, h1, h2⟩ := r.get e
      refine ⟨v, ?_, h2⟩
      unfold L2.start
      rw [List.getElem?_append_left (by rw [List.length_map, r.length]; exact hi), List.getElem?_map, h1]
      rfl
  own := fun i xs h => by
    by_cases hi : i < ds.length
    · rw [List.getElem?_append_left (by simpa using hi), List.getElem?_map] at h
      cases e : ds[i]? with
      | none => rw [e] at h; cases h
      | some x => rw [e] at h; cases h
    · rw [List.getElem?_append_right (by simpa using hi), List.getElem?_replicate] at h
      split at h <;> cases h
  dis := fun i j xs ys a h _ _ _ => by
    by_cases hi : i < ds.length
    · rw [List.getElem?_append_left (by simpa using hi), List.getElem?_map] at h
      cases e : ds[i]? with
      | none => rw [e] at h; cases h
      | some x => rw [e] at h; cases h
    · rw [List.getElem?_append_right (by simpa using hi), List.getElem?_replicate] at h
      split at h <;> cases h
  tm := fun a xs h => by simp at h
  tdis := fun i ys a xs h => by simp at h
  tnd := by simp
  dc := by
    have no : ∀ (i : Nat) (ks : List L2.Key) (xs : List D), (ds.map Slot.val ++ List.replicate (N.length - ds.length) Slot.none)[i]? ≠ some (Slot.dct ks xs) := fun i ks xs h => by
      by_cases hi : i < ds.length
      · rw [List.getElem?_append_left (by simpa using hi), List.getElem?_map] at h
        cases e : ds[i]? with
        | none => rw [e] at h; cases h
        | some x => rw [e] at h; cases h
      · rw [List.getElem?_append_right (by simpa using hi), List.getElem?_replicate] at h
        split at h <;> cases h
    exact ⟨fun i ks xs h => absurd h (no i ks xs), fun i j ks ls xs ys a h _ _ _ => absurd h (no i ks xs)⟩
theorem FunC.ok {P : Program} {w : World} {K : PySem.W.Frag} {mg : Str → Option Value} {base : Heap} {x qual : Str} {st : Stmt} {c f : Addr} {fd : FuncData} {N ps : List Str} {k : Nat} {T : Tbs} {m : MD} (F : FunC K x qual st c f fd) (Sc : FnScope N ps (defScope st)) (len : ∀ ds R, m ds R → ds.length = ps.length)
    (hbody : ∀ (A : Around) (outer : List Env) (s : Shared) (H : Hp) (E : XK), Room k (A.deeper (envOfC qual (defScope st) s.heap.objs.size f (.ref c))) → ∀ (sa : Addr) (H0 F0 : Hp) (ds : List D) (R : D → Prop), m ds R →
      Exs ⟨K, T, sa, true, H0, F0⟩ (BX P w K mg base N qual (defScope st) f c A outer s H E) (defBody st) (ds.map Slot.val ++ List.replicate (N.length - ds.length) Slot.none) { nx := fun _ => R .non, rt := R }) : FnOk P w K mg base CX0 (k + 1) f fd ps (spD K T m) := by
  obtain ⟨oc, od, kV, doc, pm, an, ct, osl, rfl, lk, hcd⟩ := F.ex
  refine fn_of lk hcd Sc (fun vs H Q E h => ?_) fun A outer s H vs Q E hr hsp => ?_
  · obtain ⟨sa, F1, ds, R, b, r, hm, _⟩ := h
    rw [r.length]
    exact len ds R hm
  · obtain ⟨sa, F1, ds, R, b, r, hm, q⟩ := hsp
    have hl : ds.length ≤ N.length := by
      have h1 := len ds R hm
      have h2 := congrArg List.length Sc.pre
      rw [List.length_take] at h2
      omega
    have hb := hbody A outer s H E hr sa H F1 ds R hm
    have z := hb (L2.start N vs) H F1 (stt_start b r hl) { nx := fun _ H' => Q .non H', rt := Q } ⟨fun S' σ' H' F' s' e q' => q .non H' F' .non s'.base s'.grow .non q', fun v H' F' d b' g' r' q' => q v H' F' d b' g' r' q', fun _ _ _ _ _ _ z => z.elim, fun _ _ _ _ _ _ z => z.elim⟩
    exact ⟨_, (pss_can (X := BX P w K mg base N qual (defScope st) f c A outer s H E)).nox, z⟩
end Dm

namespace Dm
open PySem PySem.Spec PyProof.Rows L2
open GxR (TabB TabG Tabbed)
section
variable {C : Cfg} {X : Cx} {S : SD} {e a b c : Expr} {es : List Expr} {Q : D → SD → Prop} {tmp : Tmp} {σ : L2.St} {H F : Hp}

theorem rep_tup {v : V} {xs : List D} (s : Stt C S tmp σ H F) (r : Rep C.K C.st F v (.tup xs)) : ∃ p vs, v = .ref p ∧ SqT C.K H p vs ∧ Reps C.K C.st F vs xs := by
  cases r with
  | tup h r => exact ⟨_, _, rfl, Same.tup s.base.sub h.1, r⟩
theorem rep_lst {v : V} {xs : List D} (s : Stt C S tmp σ H F) (r : Rep C.K C.st F v (.lst xs)) : ∃ p vs, v = .ref p ∧ H p = some (HO.lst vs) ∧ Reps C.K C.st F vs xs := by
  cases r with
  | lst h r => exact ⟨_, _, rfl, s.base.sub _ _ h, r⟩
theorem rep_seq {v : V} {pd : PD} {xs : List D} (s : Stt C S tmp σ H F) (r : RepP C S σ F v pd) (h : pd.seq S = some xs) : ∃ p vs, v = .ref p ∧ (SqL C.K H p vs ∨ SqT C.K H p vs) ∧ Reps C.K C.st F vs xs := by
  cases pd with
  | d x =>
    cases x <;> simp only [PD.seq, Option.some.injEq, reduceCtorEq] at h
    · subst h
      obtain ⟨p, vs, e, q, rr⟩ := rep_tup s r
      exact ⟨p, vs, e, .inr q, rr⟩
    · subst h
      obtain ⟨p, vs, e, q, rr⟩ := rep_lst s r
      exact ⟨p, vs, e, .inl (.inl (.inl q)), rr⟩
  | own i =>
    obtain ⟨h1, ys, h2⟩ := r
    simp only [PD.seq, h2, Option.some.injEq] at h
    subst h
    obtain ⟨p, vs, q1, _, _, q4, q5⟩ := s.own i ys h2
    rw [h1] at q1
    cases q1
    exact ⟨p, vs, rfl, .inl (.inl (.inl q4)), q5⟩
theorem RepP.later {S' : SD} {F' : Hp} {v : V} {pd : PD} {xs : List D} (r : RepP C S σ F v pd) (e : Same F F') (h : pd.seq S' = some xs) : RepP C S' σ F' v pd := by
  cases pd with
  | d x => exact Rep.mono e r
  | own i =>
    refine ⟨r.1, ?_⟩
    simp only [PD.seq] at h
    split at h
    · rename_i ys h2
      exact ⟨ys, h2⟩
    · cases h

def isTupP : PD → Bool
  | .d (.tup _) => true
  | _ => false
theorem rep_lstP {v : V} {pd : PD} {xs : List D} (s : Stt C S tmp σ H F) (r : RepP C S σ F v pd) (h : pd.seq S = some xs) (hn : isTupP pd = false) : ∃ p vs, v = .ref p ∧ H p = some (HO.lst vs) ∧ Reps C.K C.st F vs xs := by
  cases pd with
  | d x =>
    cases x <;> simp only [PD.seq, Option.some.injEq, reduceCtorEq] at h
    · cases hn
    · subst h
      exact rep_lst s r
  | own i =>
    obtain ⟨h1, ys, h2⟩ := r
    simp only [PD.seq, h2, Option.some.injEq] at h
    subst h
    obtain ⟨p, vs, q1, _, _, q4, q5⟩ := s.own i ys h2
    rw [h1] at q1
    cases q1
    exact ⟨p, vs, rfl, q4, q5⟩
def tyS : D → String
  | .non => "NoneType"
  | .bl _ => "bool"
  | .int _ => "int"
  | .str _ => "str"
  | .tup _ => "tuple"
  | .lst _ => "list"
  | .strm => "list"
  | .wt _ => "tuple"
  | .dct _ _ => "dict"
def plain : D → Bool
  | .strm => false
  | .wt _ => false
  | .dct _ _ => false
  | _ => true
theorem ty_of {v : V} {d : D} (s : Stt C S tmp σ H F) (r : Rep C.K C.st F v d) (hp : plain d = true) : TyX C.K H v (.type (tyS d)) := by
  cases r with
  | non => exact .base .non
  | bl b => exact .base (.bl b)
  | int i => exact .base (.int i)
  | str z => exact .base (.str z)
  | tup h r =>
    rcases Same.tup s.base.sub h.1 with (h | ⟨o, h⟩) | ⟨o, its, n, h1, h2, _⟩
    · exact .base (.tup h)
    · exact .fTuple h
    · exact .kTuple h1 h2
  | lst h r => exact .base (.lst (s.base.sub _ _ h))
  | strm => cases hp
  | wt h r => cases hp
  | dct h hk r => cases hp
theorem ev_isi {T : String} {y : Str} {p p2 pos : Pos} (hv : bootBuiltins y = some (.type T)) (hm2 : X.mg y = none) (hm : X.mg "isinstance" = none) (h : EvQ C X a S fun d S1 => plain d = true ∧ ∃ k, kitB (tyS d) T = some k ∧ Q (.bl k) S1)
    (hg : Gl X "isinstance" := by rfl) (hg2 : Gl X y := by rfl) (hK : C.K = X.K := by rfl) (hn : y ≠ "__name__" := by decide) (hd : (y == ("__debug__" : Str)) = false := by decide)
    (he : starEach [a, .Name y p2] X.env = (false, eval a X.env) :: starEach [.Name y p2] X.env := by rfl) (he2 : starEach [.Name y p2] X.env = (false, eval (.Name y p2) X.env) :: starEach [] X.env := by rfl) (hpl : (backTo pos (starEach [.Name y p2] X.env)).any (·.1) = false := by rfl) :
    EvQ C X (.Call (.Name "isinstance" p) [a, .Name y p2] [] pos) S Q := fun tmp σ H F s R r =>
  of_pe (pe_callB call_isi hg hm boot_isinstance (pa_cons pe_can (pa_cons (pe_bltn (v := .ty T) hg2 hm2 hv rfl hn hd) pa_nil he2) he) (hpl := hpl) (he := he))
    (h tmp σ H F s _ fun v H1 F1 d S1 s1 e1 r1 ⟨hp, k, hk, q1⟩ => ⟨v, .ty T, .type (tyS d), .type T, k, rfl, .ty T, by rw [← hK]; exact ty_of s1 r1 hp, kit_ty hk, r _ H1 F1 (.bl k) S1 s1 e1 (.bl k) q1⟩)
def kitT (T : String) : D → Bool
  | .bl _ => T == "bool" || T == "int"
  | .int _ => T == "int"
  | .str _ => T == "str"
  | .tup _ => T == "tuple"
  | .lst _ => T == "list"
  | _ => false
theorem kit_bool (d : D) (hp : plain d = true) : kitB (tyS d) "bool" = some (kitT "bool" d) := by
  cases d <;> first | (cases hp; done) | (simp only [tyS, kitT]; decide +kernel)
theorem kit_int (d : D) (hp : plain d = true) : kitB (tyS d) "int" = some (kitT "int" d) := by
  cases d <;> first | (cases hp; done) | (simp only [tyS, kitT]; decide +kernel)
theorem kit_str (d : D) (hp : plain d = true) : kitB (tyS d) "str" = some (kitT "str" d) := by
  cases d <;> first | (cases hp; done) | (simp only [tyS, kitT]; decide +kernel)
theorem kit_tuple (d : D) (hp : plain d = true) : kitB (tyS d) "tuple" = some (kitT "tuple" d) := by
  cases d <;> first | (cases hp; done) | (simp only [tyS, kitT]; decide +kernel)
theorem kit_list (d : D) (hp : plain d = true) : kitB (tyS d) "list" = some (kitT "list" d) := by
  cases d <;> first | (cases hp; done) | (simp only [tyS, kitT]; decide +kernel)

theorem ev_len {p pos : Pos} (hm : X.mg "len" = none) (h : EvP C X a S fun pd S1 => ∃ xs, pd.seq S1 = some xs ∧ Q (.int (xs.length : Int)) S1) (hg : Gl X "len" := by rfl) (hK : C.K = X.K := by rfl)
    (he : starEach [a] X.env = (false, eval a X.env) :: starEach [] X.env := by rfl) : EvQ C X (.Call (.Name "len" p) [a] [] pos) S Q := fun tmp σ H F s R r =>
  of_pe (pe_callB call_len_seq hg hm PySem.boot_len (pa_cons pe_can pa_nil he) (he := he)) (h tmp σ H F s _ fun v H1 F1 pd S1 s1 e1 r1 ⟨xs, hx, q1⟩ => by
    obtain ⟨p, vs, rfl, hs, rr⟩ := rep_seq s1 r1 hx
    refine ⟨p, vs, rfl, by rw [← hK]; exact hs, ?_⟩
    rw [rr.length]
    exact r _ H1 F1 (.int _) S1 s1 e1 (.int _) q1)
theorem ev_lenS {p pos : Pos} (hm : X.mg "len" = none) (h : EvQ C X a S fun d S1 => ∃ z : Str, d = .str z ∧ z.length ≤ sizeLine ∧ Q (.int (z.length : Int)) S1) (hg : Gl X "len" := by rfl)
    (he : starEach [a] X.env = (false, eval a X.env) :: starEach [] X.env := by rfl) : EvQ C X (.Call (.Name "len" p) [a] [] pos) S Q := fun tmp σ H F s R r =>
  of_pe (pe_callB call_len_str hg hm PySem.boot_len (pa_cons pe_can pa_nil he) (he := he)) (h tmp σ H F s _ fun v H1 F1 d S1 s1 e1 r1 ⟨z, hd, hz, q1⟩ => by
    subst hd
    cases r1
    exact ⟨z, rfl, hz, r _ H1 F1 (.int _) S1 s1 e1 (.int _) q1⟩)
theorem atI_len {α β : Type} {xs : List α} {ys : List β} {i : Int} {x : α} (hl : xs.length = ys.length) (h : atI xs i = some x) : ∃ j, ixN ys.length i = some j ∧ xs[j]? = some x := by
  unfold atI at h
  rw [hl] at h
  cases e : ixN ys.length i with
  | none => rw [e] at h; cases h
  | some j => rw [e] at h; exact ⟨j, rfl, h⟩
theorem Reps.atI {K : PySem.W.Frag} {st : Addr} {vs : List V} {xs : List D} {i : Int} {x : D} (r : Reps K st F vs xs) (h : L2.atI xs i = some x) : ∃ v, L2.atI vs i = some v ∧ Rep K st F v x := by
  obtain ⟨j, h1, h2⟩ := atI_len (ys := vs) r.length.symm h
  obtain ⟨v, h3, h4⟩ := r.get h2
  refine ⟨v, ?_, h4⟩
  unfold L2.atI
  rw [h1]
  exact h3
theorem ev_ix {pos : Pos} (h : EvP C X a S fun pd S1 => EvQ C X b S1 fun y S2 => ∃ xs i d, pd.seq S2 = some xs ∧ y = .int i ∧ L2.atI xs i = some d ∧ Q d S2) (hs : PlainIx b := by exact fun _ _ => rfl) (hK : C.K = X.K := by rfl) : EvQ C X (.Subscript a b pos) S Q := fun tmp σ H F s R r =>
  of_pe (pe_ix ix_seq pe_can pe_can hs) (h tmp σ H F s _ fun v H1 F1 pd S1 s1 e1 r1 q1 => q1 tmp σ H1 F1 s1 _ fun u H2 F2 y S2 s2 e2 r2 ⟨xs, i, d, hx, hy, hd, q2⟩ => by
    subst hy
    cases r2
    obtain ⟨p, vs, rfl, hs, rr⟩ := rep_seq s2 (r1.later e2 hx) hx
    obtain ⟨w, hw, rw'⟩ := rr.atI hd
    have fin := r w H2 F2 d S2 s2 (Same.trans e1 e2) rw' q2
    rw [← hK]
    rcases hs with hs | hs
    · exact .inl ⟨p, vs, i, w, rfl, rfl, hs, hw, fin⟩
    · exact .inr (.inl ⟨p, vs, i, w, rfl, rfl, hs, hw, fin⟩))
theorem ev_ixS {pos : Pos} (h : EvQ C X a S fun x S1 => EvQ C X b S1 fun y S2 => ∃ (z : Str) (i : Int) (n : Nat), x = .str z ∧ y = .int i ∧ z.length ≤ sizeLine ∧ L2.atI z.cps.toList i = some n ∧ Q (.str ⟨#[n]⟩) S2) (hs : PlainIx b := by exact fun _ _ => rfl) : EvQ C X (.Subscript a b pos) S Q := fun tmp σ H F s R r =>
  of_pe (pe_ix ix_seq pe_can pe_can hs) (h tmp σ H F s _ fun v H1 F1 x S1 s1 e1 r1 q1 => q1 tmp σ H1 F1 s1 _ fun u H2 F2 y S2 s2 e2 r2 ⟨z, i, n, hx, hy, hz, hd, q2⟩ => by
    subst hx; subst hy
    cases r1
    cases r2
    exact .inr (.inr ⟨z, i, n, rfl, rfl, hz, hd, r _ H2 F2 _ S2 s2 (Same.trans e1 e2) (.str _) q2⟩))

theorem ev_inSign {pos : Pos} (h : EvQ C X a S fun x S1 => EvQ C X b S1 fun y S2 => ∃ (n : Nat) (z : Str), x = .str ⟨#[n]⟩ ∧ y = .str z ∧ Q (.bl (decide (n ∈ z.cps.toList))) S2) (hm : behindInMarks .In b = false := by rfl) : EvQ C X (.Compare a [.In] [b] pos) S Q :=
  ev_cmp op_in_sign hm (ev_mono h fun x S1 h1 => ev_mono h1 fun y S2 ⟨n, z, e1, e2, q⟩ => fun S tmp σ H F v u s r1 r2 R w => by
    subst e1; subst e2; cases r1; cases r2
    exact ⟨n, z, rfl, rfl, w _ H F _ s (Same.refl F) (.bl _) q⟩)
theorem reps_ints {K : PySem.W.Frag} {st : Addr} : ∀ {zs : List Int} {vs : List V}, Reps K st F vs (zs.map D.int) → vs = zs.map V.int
  | [], _, .nil => rfl
  | z :: zs, _, .cons h t => by
    cases h
    rw [reps_ints t]
    rfl
theorem sz_of {n : Nat} (h : n ≤ 100000) : n ≤ sizeLine := Nat.le_trans h (by decide)
theorem ev_tup {k : Nat} {pos : Pos} (h : EvA C X es S fun ds S1 => ds.length ≤ 100000 ∧ Q (.tup ds) S1) : EvQ C X (.Tuple es k pos) S Q := fun tmp σ H F s R r =>
  of_pe (Tx.pe_new pa_can) (h tmp σ H F s _ fun vs H1 F1 ds S1 s1 e1 r1 ⟨hl, q⟩ => ⟨by rw [r1.length]; exact sz_of hl, fun p o hp ho => by
    obtain ⟨s2, e2, r2⟩ := s1.newT hp ho r1
    exact r _ _ _ _ S1 s2 (Same.trans e1 e2) r2 q⟩)
theorem el_lst {pos : Pos} {Q : List D → SD → Prop} (h : EvA C X es S fun ds S1 => ds.length ≤ 100000 ∧ Q ds S1) : EvL C X (.List es pos) S Q := fun tmp σ H F s R r =>
  of_pe (pe_lst pa_can) (h tmp σ H F s _ fun vs H1 F1 ds S1 s1 e1 r1 ⟨hl, q⟩ => ⟨by rw [r1.length]; exact sz_of hl, fun p hp =>
    r p vs _ F1 ds S1 (s1.grew fun b u z => by rw [upd_ne (ne_of_none z hp)]; exact z) e1 (s1.freshF hp) (s1.fresh0 hp) upd_same (s1.noOwn hp).1 (s1.noOwn hp).2 r1 q⟩)
theorem ev_tupleOf {p pos : Pos} (hm : X.mg "tuple" = none) (h : EvP C X a S fun pd S1 => ∃ xs, pd.seq S1 = some xs ∧ Q (.tup xs) S1) (hg : Gl X "tuple" := by rfl) (hK : C.K = X.K := by rfl)
    (he : starEach [a] X.env = (false, eval a X.env) :: starEach [] X.env := by rfl) : EvQ C X (.Call (.Name "tuple" p) [a] [] pos) S Q := fun tmp σ H F s R r =>
  of_pe (pe_callTy Tx.call_new hg hm boot_tuple (pa_cons pe_can pa_nil he) (he := he)) (h tmp σ H F s _ fun v H1 F1 pd S1 s1 e1 r1 ⟨xs, hx, q1⟩ => by
    rw [← hK]
    cases hl : isTupP pd with
    | true =>
      cases pd with
      | own i => cases hl
      | d x =>
        cases x <;> simp only [PD.seq, Option.some.injEq, reduceCtorEq] at hx
        · subst hx
          obtain ⟨p', vs', rfl, q', rr'⟩ := rep_tup s1 r1
          exact ⟨p', vs', rfl, .inr ⟨q', r _ H1 F1 (.tup _) S1 s1 e1 r1 q1⟩⟩
        · cases hl
    | false =>
      obtain ⟨p, vs, rfl, hs, rr⟩ := rep_lstP s1 r1 hx hl
      refine ⟨p, vs, rfl, .inl ⟨.inl (.inl hs), fun l o hl ho => ?_⟩⟩
      obtain ⟨s2, e2, r2⟩ := s1.newT hl ho rr
      exact r _ _ _ _ S1 s2 (Same.trans e1 e2) r2 q1)
theorem el_listOf {p pos : Pos} {Q : List D → SD → Prop} (hm : X.mg "list" = none) (h : EvP C X a S fun pd S1 => ∃ xs, pd.seq S1 = some xs ∧ Q xs S1) (hg : Gl X "list" := by rfl) (hK : C.K = X.K := by rfl)
    (he : starEach [a] X.env = (false, eval a X.env) :: starEach [] X.env := by rfl) : EvL C X (.Call (.Name "list" p) [a] [] pos) S Q := fun tmp σ H F s R r =>
  of_pe (pe_callTy call_list_of hg hm boot_list (pa_cons pe_can pa_nil he) (he := he)) (h tmp σ H F s _ fun v H1 F1 pd S1 s1 e1 r1 ⟨xs, hx, q1⟩ => by
    obtain ⟨p, vs, rfl, hs, rr⟩ := rep_seq s1 r1 hx
    rw [← hK]
    exact ⟨p, vs, rfl, hs, fun l hp => r l vs _ F1 xs S1 (s1.grew fun b u z => by rw [upd_ne (ne_of_none z hp)]; exact z) e1 (s1.freshF hp) (s1.fresh0 hp) upd_same (s1.noOwn hp).1 (s1.noOwn hp).2 rr q1⟩)

theorem ev_addT {pos : Pos} (h : EvQ C X a S fun x S1 => EvQ C X b S1 fun y S2 => ∃ xs ys, x = .tup xs ∧ y = .tup ys ∧ xs.length + ys.length ≤ 100000 ∧ Q (.tup (xs ++ ys)) S2) (hK : C.K = X.K := by rfl) : EvQ C X (.BinOp a .Add b pos) S Q :=
  ev_bin Tx.op_new (ev_mono h fun x S1 h1 => ev_mono h1 fun y S2 ⟨xs, ys, e1, e2, hl, q⟩ => fun S tmp σ H F v u s r1 r2 R w => by
    subst e1; subst e2
    obtain ⟨p, vs, rfl, q1, rr1⟩ := rep_tup s r1
    obtain ⟨p2, us, rfl, q2, rr2⟩ := rep_tup s r2
    rw [← hK]
    refine ⟨p, p2, vs, us, rfl, rfl, q1, q2, by rw [rr1.length, rr2.length]; exact sz_of hl, fun z => ?_, fun z => ?_, fun p3 o hp ho => ?_⟩
    · subst z
      cases rr1
      exact w _ H F _ s (Same.refl F) r2 q
    · subst z
      cases rr2
      rw [List.append_nil] at q
      exact w _ H F _ s (Same.refl F) r1 q
    · obtain ⟨s3, e3, r3⟩ := s.newT hp ho (rr1.append rr2)
      exact w _ _ _ _ s3 e3 r3 q)
theorem el_addL {pos : Pos} {Q : List D → SD → Prop} (h : EvQ C X a S fun x S1 => EvQ C X b S1 fun y S2 => ∃ xs ys, x = .lst xs ∧ y = .lst ys ∧ xs.length + ys.length ≤ 100000 ∧ Q (xs ++ ys) S2) : EvL C X (.BinOp a .Add b pos) S Q := fun tmp σ H F s R k =>
  of_pe (pe_op op_cat pe_can pe_can) (h tmp σ H F s _ fun v H1 F1 d S1 s1 e1 r1 q1 => q1 tmp σ H1 F1 s1 _ fun u H2 F2 d2 S2 s2 e2 r2 ⟨xs, ys, z1, z2, hl, q⟩ => by
    subst z1; subst z2
    obtain ⟨p, vs, rfl, q1, rr1⟩ := rep_lst s2 (r1.mono e2)
    obtain ⟨p2, us, rfl, q2, rr2⟩ := rep_lst s2 r2
    exact ⟨p, p2, vs, us, rfl, rfl, q1, q2, by rw [rr1.length, rr2.length]; exact sz_of hl, fun l hp =>
      k l _ _ F2 (xs ++ ys) S2 (s2.grew fun b u z => by rw [upd_ne (ne_of_none z hp)]; exact z) (Same.trans e1 e2) (s2.freshF hp) (s2.fresh0 hp) upd_same (s2.noOwn hp).1 (s2.noOwn hp).2 (rr1.append rr2) q⟩)
theorem Reps.flat {K : PySem.W.Frag} {st : Addr} {vs : List V} {xs : List D} (r : Reps K st F vs xs) : ∀ n, Reps K st F (List.replicate n vs).flatten (List.replicate n xs).flatten
  | 0 => .nil
  | n + 1 => by
    rw [List.replicate_succ, List.replicate_succ, List.flatten_cons, List.flatten_cons]
    exact r.append (Reps.flat r n)
structure CanO (X : Cx) (o : Option Expr) (σ : L2.St) (H : Hp) (R : Option Int → Hp → Prop) : Prop where
  run : ∀ (pins : List (Addr × Obj)) (s : Shared), Inv X pins σ H s → wpAny (model X.prog X.w) X.A (evalPart o X.env) (fun u s' => ∃ o' H', Inv X pins σ H' s' ∧ IsPart u o' ∧ R o' H') X.xe s
theorem po_can {o : Option Expr} : PO X o (CanO X o) := ⟨fun pins s _ _ _ I h => h.run pins s I⟩
def EvO (C : Cfg) (X : Cx) (o : Option Expr) (S : SD) (Q : Option Int → SD → Prop) : Prop := ∀ (tmp : Tmp) (σ : L2.St) (H F : Hp), Stt C S tmp σ H F → ∀ R : Option Int → Hp → Prop,
  (∀ i H' F' S', Stt C S' tmp σ H' F' → Same F F' → Q i S' → R i H') → CanO X o σ H R
theorem eo_none {Q : Option Int → SD → Prop} (q : Q none S) : EvO C X none S Q := fun tmp σ H F s R r => ⟨fun pins s0 I => po_none.run pins s0 σ H R I (r none H F S s (Same.refl F) q)⟩
theorem eo_some {Q : Option Int → SD → Prop} (h : EvQ C X e S fun d S1 => ∃ i, d = .int i ∧ Q (some i) S1) : EvO C X (some e) S Q := fun tmp σ H F s R r => ⟨fun pins s0 I =>
  (po_some pe_can).run pins s0 σ H R I (h tmp σ H F s _ fun v H1 F1 d S1 s1 e1 r1 ⟨i, hd, q⟩ => by
    subst hd; cases r1
    exact ⟨i, rfl, r _ H1 F1 S1 s1 e1 q⟩)⟩
def cutD (xs : List D) (lo hi : Option Int) : List D := (xs.drop (HT.sIx xs.length 0 lo)).take (HT.sIx xs.length xs.length hi - HT.sIx xs.length 0 lo)
theorem Reps.cut {K : PySem.W.Frag} {st : Addr} {vs : List V} {xs : List D} (r : Reps K st F vs xs) (lo hi : Option Int) : Reps K st F (cutV vs lo hi) (cutD xs lo hi) := by
  unfold cutV cutD
  rw [r.length]
  exact (r.drop _).take _
theorem ev_slT {lo hi : Option Expr} {p2 pos : Pos} (h : EvQ C X a S fun x S1 => EvO C X lo S1 fun i S2 => EvO C X hi S2 fun j S3 => ∃ xs, x = .tup xs ∧ Q (.tup (cutD xs i j)) S3) (hK : C.K = X.K := by rfl) : EvQ C X (.Subscript a (.Slice lo hi none p2) pos) S Q := fun tmp σ H F s R r =>
  of_pe (pe_slice Tx.sl_new pe_can po_can po_can) (h tmp σ H F s _ fun v H1 F1 x S1 s1 e1 r1 q1 => q1 tmp σ H1 F1 s1 _ fun i H2 F2 S2 s2 e2 q2 => q2 tmp σ H2 F2 s2 _ fun j H3 F3 S3 s3 e3 ⟨xs, hx, q⟩ => by
    subst hx
    have r3 := (r1.mono e2).mono e3
    obtain ⟨p, vs, rfl, qq, rr⟩ := rep_tup s3 r3
    rw [← hK]
    refine ⟨p, vs, rfl, qq, fun ⟨z1, z2⟩ => ?_, fun p3 o hp ho => ?_⟩
    · rw [rr.length] at z1 z2
      have e : cutD xs i j = xs := by
        unfold cutD
        rw [z1, z2]
        simp
      rw [e] at q
      exact r _ H3 F3 _ S3 s3 (Same.trans e1 (Same.trans e2 e3)) r3 q
    · obtain ⟨s4, e4, r4⟩ := s3.newT hp ho (rr.cut i j)
      exact r _ _ _ _ S3 s4 (Same.trans e1 (Same.trans e2 (Same.trans e3 e4))) r4 q)
theorem ev_append {i : Nat} {x : Str} {p apos cpos : Pos} (h : EvQ C X b S fun d S1 => ∃ xs, S1[i]? = some (Slot.own xs) ∧ xs.length ≤ 100000 ∧ Q .non (S1.set i (Slot.own (xs ++ [d])))) {ys0 : List D} (hS : S[i]? = some (Slot.own ys0)) (hN : X.N[i]? = some x := by rfl)
    (hv : Vis X.env.scope x := by first | exact Or.inl rfl | exact Or.inr (Or.inl rfl) | exact Or.inr (Or.inr rfl)) (hd : (x == ("__debug__" : Str)) = false := by decide) (hcd : (x == ("__classdict__" : Str)) = false := by decide)
    (hbase : attributeBase (.Name x p) "append" X.env (eval (.Name x p) X.env) = eval (.Name x p) X.env := by rfl)
    (hfew : ((backTo cpos (starEach [b] X.env)).all (fun x => !x.1) && (backToKw cpos (keywordEach [] X.env)).all (fun x => x.1.isSome)
      && decide (([b] : List Expr).length + ([] : List Keyword).length + (if ([] : List Keyword).isEmpty then 0 else 1) < 30)) = true := by rfl)
    (hline : (apos.endLine == cpos.line) = true := by rfl) (hs : starEach [b] X.env = (false, eval b X.env) :: starEach [] X.env := by rfl) (hplain : (backTo cpos (starEach [] X.env)).any (·.1) = false := by rfl) :
    EvQ C X (.Call (.Attribute (.Name x p) "append" apos) [b] [] cpos) S Q := fun tmp σ H F s R r =>
  of_pe (pe_bm PySem.F.plainAttrs_list PySem.F.slot_list_append PySem.F.type_list_append mt_append (pe_var hN hv hd hcd) (pa_cons pe_can pa_nil hs) hbase hfew hline hs hplain) (by
    obtain ⟨a, vs, h1, h2, h3, h4, h5⟩ := s.own i ys0 hS
    refine ⟨_, h1, .inl ⟨rfl, vs, .inl (.inl h4)⟩, h tmp σ H F s _ fun v H1 F1 d S1 s1 e1 r1 ⟨xs, hS1, hl, q⟩ => ?_⟩
    obtain ⟨a', us, g1, g2, g3, g4, g5⟩ := s1.own i xs hS1
    rw [h1] at g1
    cases g1
    refine ⟨a, us, v, rfl, rfl, g4, by rw [g5.length]; exact Nat.lt_of_le_of_lt hl (by decide), ?_⟩
    exact r .non _ F1 .non _ (s1.write hS1 h1 (g5.snoc r1)) e1 .non q)
end
end Dm

namespace Dm
open PySem PySem.Spec PyProof.Rows L2
open GxR (TabB TabG Tabbed)
section
variable {C : Cfg} {X : Cx} {S : SD} {e a b c : Expr} {es : List Expr} {Q : D → SD → Prop} {tmp : Tmp} {σ : L2.St} {H F : Hp}
def ItSem (C : Cfg) (J : It) (F : Hp) (xs : List D) : Prop := ∀ (i : Nat) (S : SD) (tmp : Tmp) (σ : L2.St) (H F1 : Hp), Stt C S tmp σ H F1 → Same F F1 →
  (∀ x, xs[i]? = some x → J.go i H ∧ ∀ v H', J.yld i H v H' → ∃ F2, Stt C S tmp σ H' F2 ∧ Same F1 F2 ∧ Rep C.K C.st F2 v x) ∧ (xs.length ≤ i → J.stop i H)
theorem ItSem.mono {J : It} {F F' : Hp} {xs : List D} (h : ItSem C J F xs) (e : Same F F') : ItSem C J F' xs := fun i S tmp σ H F1 s e1 => h i S tmp σ H F1 s (Same.trans e e1)
structure CanI (X : Cx) (tg iter : Expr) (σ : L2.St) (H : Hp) (R : It → Hp → Prop) : Prop where
  run : ∀ (pins : List (Addr × Obj)) (s : Shared), Inv X pins σ H s → wpAny (model X.prog X.w) X.A (eval iter X.env) (fun v s1 => wpAny (model X.prog X.w) X.A (pyIter v) (PIE X pins σ tg R) X.xe s1) X.xe s
theorem pi_can {tg iter : Expr} : PI X tg iter (CanI X tg iter) := ⟨fun pins s _ _ _ I h => h.run pins s I⟩
theorem of_pi {tg iter : Expr} {wi : TI} {R : It → Hp → Prop} (p : PI X tg iter wi) (q : wi σ H R) : CanI X tg iter σ H R := ⟨fun pins s I => p.run pins s σ H R I q⟩
def ItQ (C : Cfg) (X : Cx) (tg iter : Expr) (S : SD) (Q : List D → SD → Prop) : Prop := ∀ (tmp : Tmp) (σ : L2.St) (H F : Hp), Stt C S tmp σ H F → ∀ R : It → Hp → Prop,
  (∀ J H' F' xs S', Stt C S' tmp σ H' F' → Same F F' → ItSem C J F' xs → Q xs S' → R J H') → CanI X tg iter σ H R
variable {tg iter : Expr} {QL : List D → SD → Prop}
theorem sem_tup {p : Addr} {vs : List V} {xs : List D} (hq : SqT C.K F p vs) (rr : Reps C.K C.st F vs xs) : ItSem C (Itt C.K p) F xs := fun i S tmp σ H F1 s e => by
  have hH : SqT C.K H p vs := Same.tup (Same.trans e s.base.sub) hq
  refine ⟨fun x hx => ?_, fun hl => ⟨vs, hH, by rw [rr.length]; exact hl⟩⟩
  obtain ⟨v, h1, h2⟩ := rr.get hx
  exact ⟨⟨vs, v, hH, h1⟩, fun w H' ⟨e1, e2⟩ => by
    subst e1
    have := e2 vs hH
    rw [h1] at this
    cases this
    exact ⟨F1, s, Same.refl F1, h2.mono e⟩⟩
theorem sem_lst {p : Addr} {vs : List V} {xs : List D} (hq : F p = some (HO.lst vs)) (rr : Reps C.K C.st F vs xs) : ItSem C (Itl C.K p) F xs := fun i S tmp σ H F1 s e => by
  have hH : SqL C.K H p vs := .inl (.inl (s.base.sub _ _ (e _ _ hq)))
  refine ⟨fun x hx => ?_, fun hl => ⟨vs, hH, by rw [rr.length]; exact hl⟩⟩
  obtain ⟨v, h1, h2⟩ := rr.get hx
  exact ⟨⟨vs, v, hH, h1⟩, fun w H' ⟨e1, e2⟩ => by
    subst e1
    have := e2 vs hH
    rw [h1] at this
    cases this
    exact ⟨F1, s, Same.refl F1, h2.mono e⟩⟩
theorem it_tup (h : EvQ C X iter S fun d S1 => ∃ xs, d = .tup xs ∧ QL xs S1) (hK : C.K = X.K := by rfl) : ItQ C X tg iter S QL := fun tmp σ H F s R r =>
  of_pi (pi_tup pe_can) (h tmp σ H F s _ fun v H1 F1 d S1 s1 e1 r1 ⟨xs, hd, q⟩ => by
    subst hd
    cases r1 with
    | tup hq rr =>
      rename_i p vs
      rw [← hK]
      exact ⟨p, rfl, ⟨vs, Same.tup s1.base.sub hq.1⟩, r _ H1 F1 xs S1 s1 e1 (sem_tup hq.1 rr) q⟩)
theorem it_lst (h : EvQ C X iter S fun d S1 => ∃ xs, d = .lst xs ∧ QL xs S1) (hK : C.K = X.K := by rfl) : ItQ C X tg iter S QL := fun tmp σ H F s R r =>
  of_pi (pi_list pe_can) (h tmp σ H F s _ fun v H1 F1 d S1 s1 e1 r1 ⟨xs, hd, q⟩ => by
    subst hd
    cases r1 with
    | lst hq rr =>
      rename_i p vs
      rw [← hK]
      exact ⟨p, rfl, ⟨vs, .inl (.inl (s1.base.sub _ _ hq))⟩, r _ H1 F1 xs S1 s1 e1 (sem_lst hq rr) q⟩)
def rngD (lo : Int) (n : Nat) : List D := (List.range n).map fun i => D.int (lo + (i : Nat))
theorem rngD_len (lo : Int) (n : Nat) : (rngD lo n).length = n := by unfold rngD; rw [List.length_map, List.length_range]
theorem rngD_get {lo : Int} {n i : Nat} {x : D} (h : (rngD lo n)[i]? = some x) : i < n ∧ x = .int (lo + (i : Nat)) := by
  have hi : i < n := by have := (List.getElem?_eq_some_iff.mp h).1; rwa [rngD_len] at this
  refine ⟨hi, ?_⟩
  unfold rngD at h
  rw [List.getElem?_map, List.getElem?_range hi] at h
  exact (Option.some.inj h).symm
theorem sem_rng {lo : Int} {n : Nat} : ItSem C (Itr lo n) F (rngD lo n) := fun i S tmp σ H F1 s e => by
  refine ⟨fun x hx => ?_, fun hl => by rw [rngD_len] at hl; exact hl⟩
  obtain ⟨hi, rfl⟩ := rngD_get hx
  exact ⟨hi, fun w H' ⟨e1, e2⟩ => by subst e1; subst e2; exact ⟨F1, s, Same.refl F1, .int _⟩⟩
theorem it_rng {p pos : Pos} (hm : X.mg "range" = none) (h : EvQ C X a S fun d S1 => ∃ n, d = .int n ∧ -1000000 ≤ n ∧ n ≤ 1000000 ∧ QL (rngD 0 n.toNat) S1) (hg : Gl X "range" := by rfl) (hs : starEach [a] X.env = [(false, eval a X.env)] := by rfl) : ItQ C X tg (.Call (.Name "range" p) [a] [] pos) S QL := fun tmp σ H F s R r =>
  of_pi (pi_range1 hg hm (pa_cons pe_can pa_nil hs) hs) (h tmp σ H F s _ fun v H1 F1 d S1 s1 e1 r1 ⟨n, hd, h1, h2, q⟩ => by
    subst hd; cases r1
    exact ⟨n, rfl, by omega, by omega, r _ H1 F1 _ S1 s1 e1 sem_rng q⟩)
theorem it_rng2 {p pos : Pos} (hm : X.mg "range" = none) (h : EvQ C X a S fun d S1 => EvQ C X b S1 fun d2 S2 => ∃ l n, d = .int l ∧ d2 = .int n ∧ -1000000 ≤ l ∧ l ≤ 1000000 ∧ -1000000 ≤ n ∧ n ≤ 1000000 ∧ QL (rngD l (n - l).toNat) S2) (hg : Gl X "range" := by rfl)
    (hs : starEach [a, b] X.env = [(false, eval a X.env), (false, eval b X.env)] := by rfl) (hs2 : starEach [b] X.env = [(false, eval b X.env)] := by rfl) : ItQ C X tg (.Call (.Name "range" p) [a, b] [] pos) S QL := fun tmp σ H F s R r =>
  of_pi (pi_range2 hg hm (pa_cons pe_can (pa_cons pe_can pa_nil hs2) (by rw [hs, hs2])) hs hs2) (h tmp σ H F s _ fun v H1 F1 d S1 s1 e1 r1 q1 => q1 tmp σ H1 F1 s1 _ fun u H2 F2 d2 S2 s2 e2 r2 ⟨l, n, hd, hd2, h1, h2, h3, h4, q⟩ => by
    subst hd; subst hd2; cases r1; cases r2
    exact ⟨l, n, rfl, ⟨by omega, by omega, by omega, by omega⟩, r _ H2 F2 _ S2 s2 (Same.trans e1 e2) sem_rng q⟩)
def signsD (z : Str) : List D := z.cps.toList.map fun n => D.str ⟨#[n]⟩
theorem sem_str {z : Str} : ItSem C (Its z) F (signsD z) := fun i S tmp σ H F1 s e => by
  have hlen : (signsD z).length = z.cps.size := by unfold signsD; simp
  refine ⟨fun x hx => ?_, fun hl => by rw [hlen] at hl; exact hl⟩
  have hi : i < z.cps.size := by have := (List.getElem?_eq_some_iff.mp hx).1; rwa [hlen] at this
  refine ⟨hi, fun w H' ⟨e1, n, e2, e3⟩ => ?_⟩
  subst e1; subst e3
  refine ⟨F1, s, Same.refl F1, ?_⟩
  unfold signsD at hx
  rw [List.getElem?_map] at hx
  have e4 : z.cps.toList[i]? = some n := by rw [Array.getElem?_toList]; exact e2
  rw [e4] at hx
  cases hx
  exact .str _
theorem it_str (h : EvQ C X iter S fun d S1 => ∃ z, d = .str z ∧ QL (signsD z) S1) : ItQ C X tg iter S QL := fun tmp σ H F s R r =>
  of_pi (pi_str pe_can) (h tmp σ H F s _ fun v H1 F1 d S1 s1 e1 r1 ⟨z, hd, q⟩ => by
    subst hd; cases r1
    exact ⟨z, rfl, r _ H1 F1 _ S1 s1 e1 sem_str q⟩)

def wipeS (S : SD) : List Nat → SD
  | [] => S
  | v :: vs => (wipeS S vs).set v Slot.none
theorem wipeS_get {S : SD} {i : Nat} {q : Slot} : ∀ {vs : List Nat}, (wipeS S vs)[i]? = some q → (q = Slot.none ∨ (S[i]? = some q ∧ i ∉ vs))
  | [], h => .inr ⟨h, by simp⟩
  | v :: vs, h => by
    unfold wipeS at h
    rcases getset h with ⟨rfl, e⟩ | ⟨n, e⟩
    · exact .inl e
    · rcases wipeS_get e with z | ⟨z1, z2⟩
      · exact .inl z
      · exact .inr ⟨z1, by simp only [List.mem_cons, not_or]; exact ⟨fun z => n z.symm, z2⟩⟩
theorem wipe_same {σ : L2.St} {i : Nat} : ∀ {vs : List Nat}, i ∉ vs → (wipe σ vs)[i]? = σ[i]?
  | [], _ => rfl
  | v :: vs, h => by
    simp only [List.mem_cons, not_or] at h
    unfold wipe
    rw [List.getElem?_set_ne (Ne.symm h.1)]
    exact wipe_same h.2
theorem wipe_set {σ : L2.St} {i : Nat} {x : Option V} : ∀ {vs : List Nat}, i ∈ vs → wipe (σ.set i x) vs = wipe σ vs
  | [], h => by simp at h
  | v :: vs, h => by
    unfold wipe
    by_cases hi : i ∈ vs
    · rw [wipe_set hi]
    · have e : v = i := by
        rcases List.mem_cons.mp h with e | e
        · exact e.symm
        · exact absurd e hi
      subst e
      apply List.ext_getElem?
      intro j
      by_cases hj : v = j
      · subst hj
        by_cases hl : v < σ.length
        · rw [List.getElem?_set_self (by rw [wipe_length, List.length_set]; exact hl), List.getElem?_set_self (by rw [wipe_length]; exact hl)]
        · rw [List.getElem?_eq_none (by simp [wipe_length]; omega), List.getElem?_eq_none (by simp [wipe_length]; omega)]
      · rw [List.getElem?_set_ne hj, List.getElem?_set_ne hj]
        by_cases hjv : j ∈ vs
        · have key : ∀ {τ : L2.St} {vs : List Nat}, j ∈ vs → (wipe τ vs)[j]? = if j < τ.length then some none else none := fun {τ vs} hm => by
            induction vs with
            | nil => simp at hm
            | cons u us ih =>
              unfold wipe
              by_cases hu : u = j
              · subst hu
                by_cases hl : u < τ.length
                · rw [List.getElem?_set_self (by rw [wipe_length]; exact hl), if_pos hl]
                · rw [List.getElem?_eq_none (by simp [wipe_length]; omega), if_neg hl]
              · rw [List.getElem?_set_ne hu]
                rcases List.mem_cons.mp hm with z | z
                · exact absurd z.symm hu
                · exact ih z
          rw [key hjv, key hjv, List.length_set]
        · rw [wipe_same hjv, wipe_same hjv, List.getElem?_set_ne hj]
theorem Stt.wiped {σ2 : L2.St} {vs : List Nat} (s : Stt C S tmp σ2 H F) (hw : wipe σ2 vs = wipe σ vs) : Stt C (wipeS S vs) tmp σ H F := by
  have same : ∀ {i : Nat}, i ∉ vs → σ[i]? = σ2[i]? := fun {i} hi => by rw [← wipe_same hi, ← hw, wipe_same hi]
  refine ⟨s.b0, s.base, s.grow, fun i d h => ?_, fun i xs h => ?_, fun i j xs ys a h1 h2 h3 h4 => ?_, s.tm, fun i ys a xs h h1 => ?_, s.tnd, s.dc.slots fun i ks xs h => by
      rcases wipeS_get h with z | ⟨z1, z2⟩
      · cases z
      · exact ⟨z1, same z2⟩⟩
  · rcases wipeS_get h with z | ⟨z1, z2⟩
    · cases z
    · rw [same z2]
      exact s.val i d z1
  · rcases wipeS_get h with z | ⟨z1, z2⟩
    · cases z
    · rw [same z2]
      exact s.own i xs z1
  · rcases wipeS_get h1 with z | ⟨z1, z2⟩
    · cases z
    rcases wipeS_get h2 with z | ⟨y1, y2⟩
    · cases z
    rw [same z2] at h3
    rw [same y2] at h4
    exact s.dis i j xs ys a z1 y1 h3 h4
  · rcases wipeS_get h1 with z | ⟨z1, z2⟩
    · cases z
    · rw [same z2]
      exact s.tdis i ys a xs h z1
theorem wipe_wipe {σ : L2.St} {vs : List Nat} : wipe (wipe σ vs) vs = wipe σ vs := by
  have key : ∀ us : List Nat, (∀ u ∈ us, u ∈ vs) → wipe (wipe σ us) vs = wipe σ vs := fun us => by
    induction us with
    | nil => intro _; rfl
    | cons u us ih =>
      intro h
      show wipe ((wipe σ us).set u none) vs = _
      rw [wipe_set (h u List.mem_cons_self)]
      exact ih fun x hx => h x (List.mem_cons_of_mem _ hx)
  exact key vs fun _ h => h
theorem Stt.wipeIn {vs : List Nat} (s : Stt C (wipeS S vs) tmp σ H F) : Stt C (wipeS S vs) tmp (wipe σ vs) H F := by
  have s2 : Stt C (wipeS (wipeS S vs) vs) tmp (wipe σ vs) H F := s.wiped (σ2 := σ) wipe_wipe.symm
  refine ⟨s2.b0, s2.base, s2.grow, fun i d h => ?_, fun i xs h => ?_, fun i j xs ys a h1 h2 h3 h4 => ?_, s2.tm, fun i ys a xs h h1 => ?_, s2.tnd, s.dc.slots fun i ks xs h => by
      rcases wipeS_get h with z | ⟨z1, z2⟩
      · cases z
      · exact ⟨h, wipe_same z2⟩⟩
  · rcases wipeS_get h with z | ⟨z1, z2⟩
    · cases z
    · rw [wipe_same z2]
      exact s.val i d h
  · rcases wipeS_get h with z | ⟨z1, z2⟩
    · cases z
    · rw [wipe_same z2]
      exact s.own i xs h
  · rcases wipeS_get h1 with z | ⟨z1, z2⟩
    · cases z
    rcases wipeS_get h2 with z | ⟨y1, y2⟩
    · cases z
    rw [wipe_same z2] at h3
    rw [wipe_same y2] at h4
    exact s.dis i j xs ys a h1 h2 h3 h4
  · rcases wipeS_get h1 with z | ⟨z1, z2⟩
    · cases z
    · rw [wipe_same z2]
      exact s.tdis i ys a xs h h1

def AsW (C : Cfg) (X : Cx) (vs : List Nat) (tg : Expr) (d : D) (S : SD) (Q : SD → Prop) : Prop := ∀ (tmp : Tmp) (σ : L2.St) (H F : Hp) (v : V), Stt C S tmp σ H F → Rep C.K C.st F v d → ∀ R : L2.St → Hp → Prop,
  (∀ σ' H' F' S', Stt C S' tmp σ' H' F' → Same F F' → wipe σ' vs = wipe σ vs → Q S' → R σ' H') → CanG X tg v σ H R
theorem asw_name {vs : List Nat} {i : Nat} {x : Str} {pos : Pos} {d : D} {Q : SD → Prop} (hN : X.N.Nodup) (q : Q (S.set i (Slot.val d))) (hm : i ∈ vs := by decide) (hi : X.N[i]? = some x := by rfl) (hx : Loc X.env.scope x := by first | exact Or.inl rfl | exact Or.inr rfl)
    (hf : X.fn x = true ∨ X.env.scope.names.lookup x = some .local := by first | exact .inl rfl | exact .inr rfl | assumption) : AsW C X vs (.Name x pos) d S Q := fun tmp σ H F v s r R k => ⟨fun pins s0 u I ru => by
  have hl : i < σ.length := by rw [I.len]; exact (List.getElem?_eq_some_iff.mp hi).1
  exact (of_pg (pg_name hN hi hx hf) (k _ H F _ (s.set hl r) (Same.refl F) (wipe_set hm) q)).run pins s0 u I ru⟩
structure CanTs (X : Cx) (ifs : List Expr) (σ : L2.St) (H : Hp) (R : Bool → Hp → Prop) : Prop where
  run : ∀ (pins : List (Addr × Obj)) (s : Shared), Inv X pins σ H s →
  wpAny (model X.prog X.w) X.A (forIn ifs true fun c r => if r = true then do let ok ← isTrue c X.env (eval c X.env); pure (ForInStep.yield ok) else pure (ForInStep.yield r)) (TP X pins σ R) X.xe s
def TsQ (C : Cfg) (X : Cx) (ifs : List Expr) (S : SD) (Q : Bool → SD → Prop) : Prop := ∀ (tmp : Tmp) (σ : L2.St) (H F : Hp), Stt C S tmp σ H F → ∀ R : Bool → Hp → Prop,
  (∀ k H' F' S', Stt C S' tmp σ H' F' → Same F F' → Q k S' → R k H') → CanTs X ifs σ H R
theorem ts_nil {Q : Bool → SD → Prop} (q : Q true S) : TsQ C X [] S Q := fun tmp σ H F s R r => ⟨fun pins s0 I => pts_nil.run pins s0 σ H R I (r true H F S s (Same.refl F) q)⟩
theorem Stt.pushTmp (s : Stt C S tmp σ H F) {p : Addr} (h : H p = none) : Stt C S ((p, []) :: tmp) σ (upd H p (.lst [])) F := by
  have s1 := s.grew (H' := upd H p (.lst [])) fun b u e => by rw [upd_ne (ne_of_none e h)]; exact e
  obtain ⟨n1, n2⟩ := s.noOwn h
  refine ⟨s1.b0, s1.base, s1.grow, s1.val, s1.own, s1.dis, fun a xs hm => ?_, fun i ys a xs hm hS => ?_, ?_, s1.dc⟩
  · rcases List.mem_cons.mp hm with z | z
    · cases z
      exact ⟨[], s.freshF h, s.fresh0 h, upd_same, .nil⟩
    · exact s1.tm a xs z
  · rcases List.mem_cons.mp hm with z | z
    · cases z
      exact n1 i ys hS
    · exact s1.tdis i ys a xs z hS
  · rw [List.map_cons]
    exact List.nodup_cons.mpr ⟨n2, s1.tnd⟩
theorem Stt.appTmp {p : Addr} {acc : List D} {y : V} {d : D} (s : Stt C S ((p, acc) :: tmp) σ H F) (r : Rep C.K C.st F y d) : ∃ us, H p = some (HO.lst us) ∧ us.length = acc.length ∧ Stt C S ((p, acc ++ [d]) :: tmp) σ (upd H p (.lst (us ++ [y]))) F := by
  obtain ⟨us, h1, h2, h3, h4⟩ := s.tm p acc List.mem_cons_self
  refine ⟨us, h3, h4.length, ?_⟩
  have nF : ∀ b o, F b = some o → b ≠ p := fun b o e z => by rw [z, h1] at e; cases e
  have nm : p ∉ tmp.map (·.1) := (List.nodup_cons.mp s.tnd).1
  refine ⟨s.b0, ⟨fun b o e => ?_, s.base.kind, fun P hP => ?_, fun p hp => tabS_keep (s.base.lam p hp) fun b o e h => by rw [upd_ne (lamNe e h h3 (fun _ z => by cases z) (fun _ z => by cases z))]; exact e, fun g => ?_⟩, ⟨s.grow.ff, fun b o e n1 n2 => ?_, s.grow.nn, fun b e => ?_, fun g q c k e => by
    obtain ⟨c1, k1, e1⟩ := s.grow.cs g q c k e
    exact ⟨c1, k1, by rw [upd_ne (Ne.symm (s.nst h2 g))]; exact e1⟩⟩, s.val, fun j zs h => ?_, s.dis, fun b zs h => ?_, fun j ys b zs h hS => ?_, s.tnd, s.dc.mono (H' := upd H p (.lst (us ++ [y]))) (fun b kvs e _ h => ⟨by rw [upd_ne (ne_of e h3 (fun z => by cases z))]; exact e, h⟩) (Same.refl _)⟩
  · rw [upd_ne (nF b o e)]
    exact s.base.sub b o e
  · obtain ⟨ps, q1, q2⟩ := s.base.tab P hP
    exact ⟨ps, by rw [upd_ne (ne_of q1 h3 (fun z => by cases z))]; exact q1, q2⟩
  · obtain ⟨q1, cs, c, k, ns, q2, q3⟩ := s.base.rng g
    exact ⟨q1, cs, c, k, ns, by rw [upd_ne (Ne.symm (s.nst h2 g))]; exact q2, q3⟩
  · rw [upd_ne (fun z => by rw [z, h2] at e; cases e)]
    exact s.grow.hh b o e n1 n2
  · by_cases z : b = p
    · rw [z, upd_same]
      exact fun z => by cases z
    · rw [upd_ne z]
      exact s.grow.al b e
  · obtain ⟨b, ws, g1, g2, g3, g4, g5⟩ := s.own j zs h
    refine ⟨b, ws, g1, g2, g3, ?_, g5⟩
    rw [upd_ne (fun z => s.tdis j zs p acc List.mem_cons_self h (by rw [← z]; exact g1))]
    exact g4
  · rcases List.mem_cons.mp h with z | z
    · cases z
      exact ⟨us ++ [y], h1, h2, upd_same, h4.snoc r⟩
    · obtain ⟨ws, g2, g3, g4, g5⟩ := s.tm b zs (List.mem_cons_of_mem _ z)
      refine ⟨ws, g2, g3, ?_, g5⟩
      rw [upd_ne (fun e => nm (by rw [← e]; exact List.mem_map.mpr ⟨_, z, rfl⟩))]
      exact g4
  · rcases List.mem_cons.mp h with z | z
    · cases z
      exact s.tdis j ys p acc List.mem_cons_self hS
    · exact s.tdis j ys b zs (List.mem_cons_of_mem _ z) hS
theorem Stt.popTmp {p : Addr} {acc : List D} (s : Stt C S ((p, acc) :: tmp) σ H F) : Stt C S tmp σ H F ∧ ∃ us, F p = none ∧ C.H0 p = none ∧ H p = some (HO.lst us) ∧ Reps C.K C.st F us acc ∧ (∀ (i : Nat) (ys : List D), S[i]? = some (Slot.own ys) → σ[i]? ≠ some (some (V.ref p))) ∧ p ∉ tmp.map (·.1) := by
  obtain ⟨us, h1, h2, h3, h4⟩ := s.tm p acc List.mem_cons_self
  exact ⟨⟨s.b0, s.base, s.grow, s.val, s.own, s.dis, fun a xs h => s.tm a xs (List.mem_cons_of_mem _ h), fun i ys a xs h => s.tdis i ys a xs (List.mem_cons_of_mem _ h), (List.nodup_cons.mp s.tnd).2, s.dc⟩,
    us, h1, h2, h3, h4, fun i ys hS => s.tdis i ys p acc List.mem_cons_self hS, (List.nodup_cons.mp s.tnd).1⟩

abbrev ForB (X : Cx) (scope : Scope) (P : Cx → Prop) : Prop := ∀ (s : Shared) (H : Hp) (Ca : Addr) (cl : List (Str × Addr)) (fp : List Addr), P (X.blk s H scope (compEnvC scope cl Ca X.env) fp)
def TurnQ (C : Cfg) (All : (Cx → Prop) → Prop) (vs : List Nat) (tg : Expr) (ifs : List Expr) (elt : Expr) (x : D) (S : SD) (Kp : D → SD → Prop) (Sk : SD → Prop) : Prop :=
  All fun X1 => AsW C X1 vs tg x S fun S2 => All fun X2 => TsQ C X2 ifs S2 fun k S3 => (k = true → All fun X3 => EvQ C X3 elt S3 fun y S4 => Kp y (wipeS S4 vs)) ∧ (k = false → Sk (wipeS S3 vs))
abbrev TLc (X : Cx) (elt tg iter : Expr) (ifs : List Expr) (scope : Scope) (vs : List Nat) : TE := tLc (CanI X tg iter) (fun v σ H R => ForB X scope fun X' => CanG X' tg v σ H R) (fun σ H R => ForB X scope fun X' => CanTs X' ifs σ H R) (fun σ H R => ForB X scope fun X' => CanE X' elt σ H R) vs
def LcQ (C : Cfg) (X : Cx) (elt tg iter : Expr) (ifs : List Expr) (scope : Scope) (vs : List Nat) (S : SD) (Q : List D → SD → Prop) : Prop := ∀ (tmp : Tmp) (σ : L2.St) (H F : Hp), Stt C S tmp σ H F → ∀ R : VK,
  (∀ p us H' F' xs S', Stt C S' tmp σ H' F' → Same F F' → F' p = none → C.H0 p = none → H' p = some (HO.lst us) → (∀ (i : Nat) (ys : List D), S'[i]? = some (Slot.own ys) → σ[i]? ≠ some (some (V.ref p))) → p ∉ tmp.map (·.1) → Reps C.K C.st F' us xs → Q xs S' → R (.ref p) H') → TLc X elt tg iter ifs scope vs σ H R
theorem el_of {elt : Expr} {ifs : List Expr} {scope : Scope} {own : List (Str × Nat)} {pos : Pos} (hN : X.N.Nodup) (ok : BlkOk X.N X.env.scope scope own) (h : LcQ C X elt tg iter ifs scope (own.map (·.2)) S QL)
    (hc : X.calm = true := by rfl) (hs : ∀ x, foldedSetIterable iter X.env x = pure x := by intro _; rfl) : EvL C X (.ListComp elt [⟨tg, iter, ifs, 0⟩] scope pos) S QL := fun tmp σ H F s R r =>
  of_pe (pe_lc (wi := CanI X tg iter) (g := fun v σ H R => ForB X scope fun X' => CanG X' tg v σ H R) (tt := fun σ H R => ForB X scope fun X' => CanTs X' ifs σ H R) (te := fun σ H R => ForB X scope fun X' => CanE X' elt σ H R) hc hN pi_can ok
    (fun s0 H0 Ca cl fp => ⟨fun pins s σ H v u Q I rv z => (z s0 H0 Ca cl fp).run pins s u I rv⟩) (fun s0 H0 Ca cl fp => ⟨fun pins s σ H Q I z => (z s0 H0 Ca cl fp).run pins s I⟩) (fun s0 H0 Ca cl fp => ⟨fun pins s σ H Q I z => (z s0 H0 Ca cl fp).run pins s I⟩) hs) (h tmp σ H F s R r)
theorem lq_gen {elt : Expr} {ifs : List Expr} {scope : Scope} {own : List (Str × Nat)}
    (h : ItQ C X tg iter S fun xs S1 => ∃ Iv : Nat → List D → SD → Prop, Iv 0 [] (wipeS S1 (own.map (·.2))) ∧ (∀ i x acc S, xs[i]? = some x → Iv i acc (wipeS S (own.map (·.2))) → TurnQ C (ForB X scope) (own.map (·.2)) tg ifs elt x (wipeS S (own.map (·.2))) (fun y S' => acc.length ≤ 100000 ∧ Iv (i + 1) (acc ++ [y]) S') (fun S' => Iv (i + 1) acc S')) ∧
      (∀ acc S, Iv xs.length acc (wipeS S (own.map (·.2))) → QL acc (wipeS S (own.map (·.2))))) : LcQ C X elt tg iter ifs scope (own.map (·.2)) S QL := fun tmp σ H F s R r => by
  refine h tmp σ H F s _ fun J H1 F1 xs S1 s1 e1 sem ⟨Iv, h0, hstep, hend⟩ Dd hD => ?_
  refine ⟨fun i m H' => m = xs.length - i ∧ i ≤ xs.length ∧ ∃ acc S' F', Stt C (wipeS S' (own.map (·.2))) ((Dd, acc) :: tmp) σ H' F' ∧ Same F1 F' ∧ Iv i acc (wipeS S' (own.map (·.2))), ⟨xs.length, by omega, Nat.zero_le _, [], S1, F1, (s1.wiped rfl).pushTmp hD, Same.refl F1, h0⟩, ?_⟩
  rintro i m H' ⟨rfl, hi, acc, S', F', s', e', iv⟩
  by_cases hlt : i < xs.length
  · refine .inr ⟨((sem i _ _ σ H' F' s' e').1 xs[i] (List.getElem?_eq_getElem hlt)).1, fun H2 => ∃ acc S2 F2, Stt C (wipeS S2 (own.map (·.2))) ((Dd, acc) :: tmp) σ H2 F2 ∧ Same F1 F2 ∧ Iv (i + 1) acc (wipeS S2 (own.map (·.2))), fun H2 ⟨acc, S2, F2, s2, e2, iv2⟩ => ⟨xs.length - (i + 1), by omega, rfl, hlt, acc, S2, F2, s2, e2, iv2⟩, fun v H2 hy => ?_⟩
    obtain ⟨F2, s2, e2, r2⟩ := ((sem i _ _ σ H' F' s' e').1 xs[i] (List.getElem?_eq_getElem hlt)).2 v H2 hy
    have ef : Same F1 F2 := Same.trans e' e2
    have turn := hstep i xs[i] acc S' (List.getElem?_eq_getElem hlt) iv
    intro a1 a2 a3 a4 a5
    refine turn a1 a2 a3 a4 a5 _ _ H2 F2 v s2.wipeIn r2 _ fun σ3 H3 F3 S3 s3 e3 w3 q3 => ?_
    rw [wipe_wipe] at w3
    refine ⟨w3, fun b1 b2 b3 b4 b5 => q3 b1 b2 b3 b4 b5 _ σ3 H3 F3 s3 _ fun k H4 F4 S4 s4 e4 ⟨q4, q5⟩ => ?_⟩
    have e14 : Same F1 F4 := Same.trans ef (Same.trans e3 e4)
    cases k with
    | false =>
      rw [if_neg Bool.false_ne_true]
      exact ⟨acc, S4, F4, s4.wiped w3, e14, q5 rfl⟩
    | true =>
      rw [if_pos rfl]
      intro c1 c2 c3 c4 c5
      refine q4 rfl c1 c2 c3 c4 c5 _ σ3 H4 F4 s4 _ fun y H5 F5 d S5 s5 e5 r5 ⟨hl, q6⟩ => ?_
      obtain ⟨us, g1, g2, g3⟩ := (s5.wiped w3).appTmp r5
      exact ⟨us, g1, by rw [g2]; exact Nat.lt_of_le_of_lt hl (by decide), acc ++ [d], S5, _, g3, Same.trans e14 e5, q6⟩
  · have hi' : i = xs.length := by omega
    subst hi'
    obtain ⟨s6, us, g1, g2, g3, g4, g5, g6⟩ := s'.popTmp
    exact .inl ⟨(sem _ _ _ σ H' F' s' e').2 (Nat.le_refl _), r Dd us H' F' acc _ s6 (Same.trans e1 e') g1 g2 g3 g5 g6 g4 (hend acc S' iv)⟩

abbrev ForQ (X : Cx) (scope : Scope) (k : Nat) (P : Cx → Prop) : Prop := Gx.ForG X scope k P
theorem tabbed_stt {P : Addr} {H2 : Hp} (s : Stt C S tmp σ H F) (hP : P ∈ C.T) (h : Tabbed P H H2) : Stt C S tmp σ H2 F := by
  obtain ⟨⟨ps, h1, h2⟩, h3⟩ := h
  obtain ⟨ps0, g1, g2⟩ := s.base.tab P hP
  have ne : ∀ b o, H b = some o → (∀ ps, o ≠ .tbl ps) → H2 b = some o := fun b o e n => by
    rw [h3 b (fun z => by rw [z, g1] at e; cases e; exact n _ rfl)]
    exact e
  have nz : ∀ o, fzn o = true → ∀ ps, o ≠ .tbl ps := fun o ho ps z => by rw [z] at ho; cases ho
  have hb : Base C.K C.T C.st C.g H2 F := ⟨fun b o e => ne b o (s.base.sub b o e) (nz o (s.base.kind b o e)), s.base.kind, fun P' hP' => by
      by_cases e : P' = P
      · rw [e]; exact ⟨ps, h1, h2⟩
      · obtain ⟨ps', q1, q2⟩ := s.base.tab P' hP'
        exact ⟨ps', by rw [h3 P' e]; exact q1, q2⟩,
    fun p hp => by
      obtain ⟨psl, l1, l2, l3⟩ := s.base.lam p hp
      have hne : p.1 ≠ P := fun z => C.T.dis P p.2 hP (by rw [← z]; exact hp)
      refine ⟨psl, by rw [h3 _ hne]; exact l1, l2, fun pos cv hc => ?_⟩
      obtain ⟨c, e1, e2⟩ := l3 pos cv hc
      exact ⟨c, e1, ne _ _ e2 LamX.codeO_ne⟩,
    fun g => by
      obtain ⟨q1, cs, c, k, ns, q2, q3⟩ := s.base.rng g
      exact ⟨q1, cs, c, k, ns, ne _ _ q2 (fun ps z => by cases z), q3⟩⟩
  exact s.called hb ⟨Same.refl F, fun b o e n _ => ne b o e n, fun _ e _ => e, fun b e => by
    by_cases z : b = P
    · rw [z, h1]; exact (fun z => by cases z)
    · rw [h3 b z]; exact e, fun g q c k e => ⟨c, k, ne _ _ e (fun ps z => by cases z)⟩⟩
theorem ev_allG {elt : Expr} {ifs : List Expr} {scope : Scope} {gpos p pos : Pos} {own : List (Str × Nat)} {cc P : Addr} {k : Nat} (hr : Room (k + 4) X.A) (hm : X.mg "all" = none) (TB : TabB X.base X.mg cc P) (hP : P ∈ C.T) (hcode : X.env.code = .ref cc) (hN : X.N.Nodup)
    (ok : BlkOk X.N X.env.scope scope own) (hnc : ∀ y ∈ scope.names, y.2 ≠ .cell) (hdot : scope.names.lookup (".0" : Str) = some NameKind.local)
    (h : ItQ C X tg iter S fun xs S1 => ∃ Iv : Nat → SD → Prop, Iv 0 (wipeS S1 (own.map (·.2))) ∧ (∀ i x S, xs[i]? = some x → Iv i (wipeS S (own.map (·.2))) → TurnQ C (ForQ X scope k) (own.map (·.2)) tg ifs elt x (wipeS S (own.map (·.2))) (fun y S' => ∃ t, y = .bl t ∧ if t = true then Iv (i + 1) S' else Q (.bl false) S') (fun S' => Iv (i + 1) S')) ∧
      (∀ S, Iv xs.length (wipeS S (own.map (·.2))) → Q (.bl true) (wipeS S (own.map (·.2)))))
    (hg : Gl X "all" := by rfl) (hco : scope.isCoroutine = false := by rfl) (hs : ∀ v, genFold iter X.env v = pure v := by intro _; rfl)
    (he : starEach [.GeneratorExp elt [⟨tg, iter, ifs, 0⟩] scope gpos] X.env = (false, eval (.GeneratorExp elt [⟨tg, iter, ifs, 0⟩] scope gpos) X.env) :: starEach [] X.env := by rfl) : EvQ C X (.Call (.Name "all" p) [.GeneratorExp elt [⟨tg, iter, ifs, 0⟩] scope gpos] [] pos) S Q := fun tmp σ H F s R r => by
  refine of_pe (Gx.pe_allG (wi := CanI X tg iter) (g := fun v σ H R => ForQ X scope k fun X' => CanG X' tg v σ H R) (tt := fun σ H R => ForQ X scope k fun X' => CanTs X' ifs σ H R) (te := fun σ H R => ForQ X scope k fun X' => CanE X' elt σ H R) hr hg hm TB hcode hN pi_can ok hnc hdot hco
    (fun s0 H0 Ca cd A fp pn hk => ⟨fun pins s σ H v u Q I rv z => (z s0 H0 Ca cd A fp pn hk).run pins s u I rv⟩) (fun s0 H0 Ca cd A fp pn hk => ⟨fun pins s σ H Q I z => (z s0 H0 Ca cd A fp pn hk).run pins s I⟩) (fun s0 H0 Ca cd A fp pn hk => ⟨fun pins s σ H Q I z => (z s0 H0 Ca cd A fp pn hk).run pins s I⟩) hs he) ?_
  refine h tmp σ H F s _ fun J H1 F1 xs S1 s1 e1 sem ⟨Iv, h0, hstep, hend⟩ => ⟨s1.base.tab P hP, fun H2 hT => ?_⟩
  have s2 := tabbed_stt s1 hP hT
  refine ⟨fun i m H' => m = xs.length - i ∧ i ≤ xs.length ∧ ∃ S' F', Stt C (wipeS S' (own.map (·.2))) tmp σ H' F' ∧ Same F1 F' ∧ Iv i (wipeS S' (own.map (·.2))), ⟨xs.length, by omega, Nat.zero_le _, S1, F1, s2.wiped rfl, Same.refl F1, h0⟩, ?_⟩
  rintro i m H' ⟨rfl, hi, S', F', s', e', iv⟩
  by_cases hlt : i < xs.length
  · refine .inr ⟨((sem i _ _ σ H' F' s' e').1 xs[i] (List.getElem?_eq_getElem hlt)).1, fun H2 => ∃ S2 F2, Stt C (wipeS S2 (own.map (·.2))) tmp σ H2 F2 ∧ Same F1 F2 ∧ Iv (i + 1) (wipeS S2 (own.map (·.2))), fun H2 ⟨S2, F2, s2, e2, iv2⟩ => ⟨xs.length - (i + 1), by omega, rfl, hlt, S2, F2, s2, e2, iv2⟩, fun v H2 hy => ?_⟩
    obtain ⟨F2, s2, e2, r2⟩ := ((sem i _ _ σ H' F' s' e').1 xs[i] (List.getElem?_eq_getElem hlt)).2 v H2 hy
    have ef : Same F1 F2 := Same.trans e' e2
    have turn := hstep i xs[i] S' (List.getElem?_eq_getElem hlt) iv
    intro a1 a2 a3 a4 a5 a6 a7 a8
    refine turn a1 a2 a3 a4 a5 a6 a7 a8 _ _ H2 F2 v s2.wipeIn r2 _ fun σ3 H3 F3 S3 s3 e3 w3 q3 => ?_
    rw [wipe_wipe] at w3
    refine ⟨w3, fun b1 b2 b3 b4 b5 b6 b7 b8 => q3 b1 b2 b3 b4 b5 b6 b7 b8 _ σ3 H3 F3 s3 _ fun t H4 F4 S4 s4 e4 ⟨q4, q5⟩ => ?_⟩
    have e14 : Same F1 F4 := Same.trans ef (Same.trans e3 e4)
    cases t with
    | false =>
      rw [if_neg Bool.false_ne_true]
      exact ⟨S4, F4, s4.wiped w3, e14, q5 rfl⟩
    | true =>
      rw [if_pos rfl]
      intro c1 c2 c3 c4 c5 c6 c7 c8
      refine q4 rfl c1 c2 c3 c4 c5 c6 c7 c8 _ σ3 H4 F4 s4 _ fun y H5 F5 d S5 s5 e5 r5 ⟨u, hu, q6⟩ => ?_
      subst hu
      cases r5
      refine ⟨u, rfl, ?_⟩
      cases u with
      | true =>
        rw [if_pos rfl] at q6 ⊢
        exact ⟨S5, F5, s5.wiped w3, Same.trans e14 e5, q6⟩
      | false =>
        rw [if_neg Bool.false_ne_true] at q6 ⊢
        exact r _ H5 F5 (.bl false) _ (s5.wiped w3) (Same.trans e1 (Same.trans e14 e5)) (.bl false) q6
  · have hi' : i = xs.length := by omega
    subst hi'
    exact .inl ⟨(sem _ _ _ σ H' F' s' e').2 (Nat.le_refl _), r _ H' F' (.bl true) _ s' (Same.trans e1 e') (.bl true) (hend S' iv)⟩
end
end Dm

namespace Dm
open PySem PySem.Spec PyProof.Rows L2
open GxR (TabB TabG Tabbed)

def Def (P : Program) (w : World) (K : PySem.W.Frag) (mg : Str → Option Value) (base : Heap) (T : Tbs) (k : Nat) (x : Str) (ps : List Str) (m : MD) : Prop :=
  ∃ (f : Addr) (fd : FuncData), FnOk P w K mg base CX0 k f fd ps (spD K T m) ∧ mg x = some (.ref f) ∧ PySem.W.keepIn K (.ref f) = true ∧ Binds K fd ps []
def DefT (K : PySem.W.Frag) (mg : Str → Option Value) (base : Heap) (T : Tbs) (x : Str) (st : Stmt) (ps : List Str) : Prop :=
  ∃ (c P f : Addr) (fd : FuncData), FunC K x x st c f fd ∧ mg x = some (.ref f) ∧ Binds K fd ps [] ∧ TabB base mg c P ∧ P ∈ T
section
variable {P : Program} {w : World} {K : PySem.W.Frag} {mg : Str → Option Value} {base : Heap} {T : Tbs}
theorem def_of {x : Str} {st : Stmt} {N ps : List Str} {k : Nat} {m : MD} (Dt : DefT K mg base T x st ps) (Sc : FnScope N ps (defScope st)) (len : ∀ ds R, m ds R → ds.length = ps.length)
    (hbody : ∀ (c Pt f : Addr), TabB base mg c Pt → Pt ∈ T → ∀ (A : Around) (outer : List Env) (s : Shared) (H : Hp) (E : XK), Room k (A.deeper (envOfC x (defScope st) s.heap.objs.size f (.ref c))) → ∀ (sa : Addr) (H0 F0 : Hp) (ds : List D) (R : D → Prop), m ds R →
      Exs ⟨K, T, sa, true, H0, F0⟩ (BX P w K mg base N x (defScope st) f c A outer s H E) (defBody st) (ds.map Slot.val ++ List.replicate (N.length - ds.length) Slot.none) { nx := fun _ => R .non, rt := R }) : Def P w K mg base T (k + 1) x ps m := by
  obtain ⟨c, Pt, f, fd, F, hm, hb, TB, hP⟩ := Dt
  exact ⟨f, fd, F.ok Sc len (hbody c Pt f TB hP), hm, F.kp, hb⟩
end

def spStream (K : PySem.W.Frag) (T : Tbs) : Sp := fun vs H Q _ => ∃ (a : Addr) (ns : List Int), vs = [.ref a] ∧ SqL K H a (ns.map V.int) ∧
  ∀ (H' : Hp) (p q : Addr), Same H H' → H' p = some (.lst [.ref q, .int 0, .int 0]) → H' q = some (.lst (ns.map V.int)) → p ≠ q → Q (.ref p) H'
def spLaw (K : PySem.W.Frag) (T : Tbs) : Sp := fun vs H Q _ => ∃ (a : Addr) (ns : List Int), vs = [.ref a] ∧ SqL K H a (ns.map V.int) ∧ (∀ P ∈ T, TabG H P) ∧ (∀ p ∈ T.l, LamX.TabS H p.1 p.2) ∧ ∀ H', Q (.bl true) H'
section
variable {P : Program} {w : World} {K : PySem.W.Frag} {mg : Str → Option Value} {base : Heap} {T : Tbs}
end

def TabFact (K : PySem.W.Frag) (mg : Str → Option Value) (h : Heap) (x : Str) : Prop := ∀ (f c P : Addr) (oc : Value) (od : Option Addr) (fd : FuncData) (sl : Array (Option Value)) (e : Value) (dd : Option Addr) (vs : Array Value) (sl' : Array (Option Value)),
  mg x = some (.ref f) → K.lookup f = some ⟨oc, od, .func fd, sl⟩ → fd.code = .ref c → K.lookup c = some ⟨e, dd, .fields vs, sl'⟩ → vs[11]? = some (.ref P) → PySem.W.CodeHd h c P ∧ h.get? P = some { cls := .none, data := .fields #[] }
theorem walk_ofD {l : PySem.W.OpenLaw} {n k : Nat} {q : Program} {loose : List Str} {XP : (Str → Option Value) → Heap → Prop} {YP : World → Heap → Prop} {d : DefRec} {K : Params → PySem.W.Frag} {x : Str} (names : List Str)
    (hn : l.most = some n) (hn2 : n ≤ sizeLine) (hdf : d.params.defaults = []) (hr : Room k callerA) (hrec : (names.all fun x => (recsOf q).any fun e => e.name == x) = true) (hY : ∀ (w : World) (h : Heap), YP w h → (K w.params).In h)
    (F : ∀ (w : World) (mg : Str → Option Value) (fa : Addr) (h : Heap), (K w.params).In h → h.Ns mainGlobals mg → mg d.name = some (.ref fa) → (∀ x ∈ names, TabFact (K w.params) mg h x) → LamX.LawAtS l w (K w.params) CX0 k n x mg fa h) :
    PySem.W.WalkO q loose XP YP l.row.toRowW d [] (fun f vs => PySem.call f vs) := by
  refine Att.attach_callB hn hdf fun w s₀ s₁ mg mb fa o pm cd doc a vs ns G Y ho hd hcd hmg hobj hints hlen hbits hg => ?_
  have KX := hY w _ Y
  have own : ∀ x ∈ names, TabFact (K w.params) mg s₁.heap x := fun x hx f c P oc od fd sl e dd vs sl' hmx k1 k3 k4 k5 => by
    obtain ⟨dL, hm, hn1⟩ := List.any_eq_true.mp (List.all_eq_true.mp hrec x hx)
    have hn2 : dL.name = x := beq_iff_eq.mp hn1
    obtain ⟨a', o', fd', c', P', h1, h2, h3, h4, h5, h6⟩ := G.T.tab dL hm
    rw [hn2, hmx] at h1
    cases h1
    have g1 := KX _ _ k1
    rw [g1] at h2
    cases h2
    cases h3
    rw [k3] at h4
    cases h4
    have hd5 := PySem.W.CodeHd.of h5 h6
    obtain ⟨⟨oc, vc, e1, _, e3, e4⟩, hP⟩ := h6
    have g2 := KX _ _ k4
    rw [g2] at e1
    cases e1
    cases e3
    rw [k5] at e4
    cases e4
    exact ⟨hd5, hP⟩
  obtain ⟨fd, cs, sp, hT, nT, C, hb, hsp, hF⟩ := F w mg fa _ KX G.T.g hmg own
  exact LamX.law_callTs KX G.T.g G.T.b G.T.builtins G.T.nolimit hg hT nT C G.T.bmain hobj hints (Nat.le_trans hlen hn2) hr hF hb (fun H hH hS => hsp H a ns hlen hbits hH hS) fun H e s' z => z
end Dm

namespace Dm
open PySem PySem.Spec PyProof.Rows L2
open GxR (TabB TabG Tabbed)
section
variable {C : Cfg} {X : Cx} {S : SD} {e a b c : Expr} {es : List Expr} {Q : D → SD → Prop}
theorem ev_gI {x : Str} {i : Int} {pos : Pos} (h : ∃ t, X.mg x = some (.int i t)) (q : Q (.int i) S) (hg : Gl X x := by rfl) (hd : (x == ("__debug__" : Str)) = false := by decide) : EvQ C X (.Name x pos) S Q := by
  obtain ⟨t, h⟩ := h
  exact ev_globI h ⟨t, rfl⟩ q hg hd
theorem ev_gS {x : Str} {i : Str} {pos : Pos} (h : ∃ t, X.mg x = some (.str i t)) (q : Q (.str i) S) (hg : Gl X x := by rfl) (hd : (x == ("__debug__" : Str)) = false := by decide) : EvQ C X (.Name x pos) S Q := by
  obtain ⟨t, h⟩ := h
  exact ev_globS h ⟨t, rfl⟩ q hg hd
end
mutual
def good : D → Bool
  | .strm => false
  | .wt _ => false
  | .dct _ _ => false
  | .str z => decide (z.length ≤ 1000)
  | .tup xs => decide (xs.length ≤ 1000) && goods xs
  | .lst xs => decide (xs.length ≤ 1000) && goods xs
  | _ => true
def goods : List D → Bool
  | [] => true
  | x :: xs => good x && goods xs
end
theorem good_plain {d : D} (h : good d = true) : plain d = true := by
  cases d <;> first | rfl | (simp [good] at h)
theorem goods_iff {xs : List D} : goods xs = true ↔ ∀ x ∈ xs, good x = true := by
  induction xs with
  | nil => simp [goods]
  | cons x xs ih => simp [goods, ih]
theorem good_tup {xs : List D} : good (.tup xs) = true ↔ xs.length ≤ 1000 ∧ goods xs = true := by simp [good]
theorem good_lst {xs : List D} : good (.lst xs) = true ↔ xs.length ≤ 1000 ∧ goods xs = true := by simp [good]
theorem good_str {z : Str} : good (.str z) = true ↔ z.length ≤ 1000 := by simp [good]
def EvC (C : Cfg) (X : Cx) (e : Expr) (S : SD) (Q : Bool → SD → Prop) : Prop := ∀ (tmp : Tmp) (σ : L2.St) (H F : Hp), Stt C S tmp σ H F → ∀ R : Bool → Hp → Prop,
  (∀ k H' F' S', Stt C S' tmp σ H' F' → Same F F' → Q k S' → R k H') → CanT X e σ H R
structure CanW (X : Cx) (e : Expr) (σ : L2.St) (H : Hp) (R : Bool → Hp → Prop) : Prop where
  run : ∀ (wh : Sem Value) (pins : List (Addr × Obj)) (s : Shared), Inv X pins σ H s → wpAny (model X.prog X.w) X.A (isTrue e X.env wh) (TP X pins σ R) X.xe s
def EvW (C : Cfg) (X : Cx) (e : Expr) (S : SD) (Q : Bool → SD → Prop) : Prop := ∀ (tmp : Tmp) (σ : L2.St) (H F : Hp), Stt C S tmp σ H F → ∀ R : Bool → Hp → Prop,
  (∀ k H' F' S', Stt C S' tmp σ H' F' → Same F F' → Q k S' → R k H') → CanW X e σ H R
theorem pw_can {X : Cx} {e : Expr} : PW X e (CanW X e) := ⟨fun wh pins s _ _ _ I h => h.run wh pins s I⟩
theorem of_pw {X : Cx} {e : Expr} {t : TT} {σ : L2.St} {H : Hp} {R : Bool → Hp → Prop} (p : PW X e t) (q : t σ H R) : CanW X e σ H R := ⟨fun wh pins s I => p.run wh pins s σ H R I q⟩
section
variable {C : Cfg} {X : Cx} {S : SD} {e a b c : Expr} {es rest : List Expr} {Q : Bool → SD → Prop} {pos : Pos}
theorem ec_mono {Q' : Bool → SD → Prop} (h : EvC C X e S Q') (k : ∀ d S', Q' d S' → Q d S') : EvC C X e S Q := fun tmp σ H F s R r => h tmp σ H F s R fun v H' F' S' s' e q => r v H' F' S' s' e (k v S' q)
theorem ec_tru (h : EvQ C X e S fun d S1 => ∃ k, truD d = some k ∧ Q k S1) (hK : C.K = X.K := by rfl) (he : ∀ whole, isTrue e X.env whole = (do let v ← whole; standAt e.pos; holding [v] (truthy v)) := by intro _; rfl) : EvC C X e S Q := fun tmp σ H F s R r =>
  of_pt (pt_truth pe_can he) (h tmp σ H F s _ fun v H1 F1 d S1 s1 e1 r1 ⟨k, hd, q⟩ => by
    exact ⟨k, by rw [← hK]; exact truD_ok s1 r1 hd, r k H1 F1 S1 s1 e1 q⟩)
theorem ec_not (h : EvC C X a S fun k S1 => Q (!k) S1) : EvC C X (.UnaryOp .Not a pos) S Q := fun tmp σ H F s R r =>
  of_pt (pt_not pt_can) (h tmp σ H F s _ fun k H1 F1 S1 s1 e1 q => r (!k) H1 F1 S1 s1 e1 q)
theorem ec_w (h : EvW C X e S Q) : EvC C X e S Q := fun tmp σ H F s R r => of_pt (PW.pt pw_can) (h tmp σ H F s R r)
theorem ew_and1 (h : EvC C X a S Q) : EvW C X (.BoolOp .And [a] pos) S Q := fun tmp σ H F s R r => of_pw (pw_and1 pt_can) (h tmp σ H F s R r)
theorem ew_or1 (h : EvC C X a S Q) : EvW C X (.BoolOp .Or [a] pos) S Q := fun tmp σ H F s R r => of_pw (pw_or1 pt_can) (h tmp σ H F s R r)
theorem ew_and (h : EvC C X a S fun k S1 => (k = true → EvW C X (.BoolOp .And (b :: rest) pos) S1 Q) ∧ (k = false → Q false S1)) : EvW C X (.BoolOp .And (a :: b :: rest) pos) S Q := fun tmp σ H F s R r =>
  of_pw (pw_and pt_can pw_can) (h tmp σ H F s _ fun k H1 F1 S1 s1 e1 ⟨q1, q2⟩ => by
    cases k with
    | true => rw [if_pos rfl]; exact q1 rfl tmp σ H1 F1 s1 R fun k H' F' S' s' e2 => r k H' F' S' s' (Same.trans e1 e2)
    | false => rw [if_neg Bool.false_ne_true]; exact r false H1 F1 S1 s1 e1 (q2 rfl))
theorem ew_or (h : EvC C X a S fun k S1 => (k = false → EvW C X (.BoolOp .Or (b :: rest) pos) S1 Q) ∧ (k = true → Q true S1)) : EvW C X (.BoolOp .Or (a :: b :: rest) pos) S Q := fun tmp σ H F s R r =>
  of_pw (pw_or pt_can pw_can) (h tmp σ H F s _ fun k H1 F1 S1 s1 e1 ⟨q1, q2⟩ => by
    cases k with
    | false => rw [if_neg Bool.false_ne_true]; exact q1 rfl tmp σ H1 F1 s1 R fun k H' F' S' s' e2 => r k H' F' S' s' (Same.trans e1 e2)
    | true => rw [if_pos rfl]; exact r true H1 F1 S1 s1 e1 (q2 rfl))
theorem ec_cmp {op : CmpOp} {r : R2} (ho : OpR X (compareOp op) r) (hm : behindInMarks op b = false) (h : EvQ C X a S fun x S1 => EvQ C X b S1 fun y S2 => OpS C r x y fun z => ∃ k, z = .bl k ∧ Q k S2) : EvC C X (.Compare a [op] [b] pos) S Q := fun tmp σ H F s R w =>
  of_pt (pt_cmpR ho pe_can pe_can hm) (h tmp σ H F s _ fun v H1 F1 d S1 s1 e1 r1 q1 => q1 tmp σ H1 F1 s1 _ fun u H2 F2 d2 S2 s2 e2 r2 q2 =>
    q2 S2 tmp σ H2 F2 v u s2 (r1.mono e2) r2 _ fun z H' F' zd s3 e3 r3 ⟨k, hz, q3⟩ => by
      subst hz; cases r3
      exact ⟨k, rfl, w k H' F' S2 s3 (Same.trans e1 (Same.trans e2 e3)) q3⟩)
theorem ec_lt (h : EvQ C X a S fun x S1 => EvQ C X b S1 fun y S2 => ∃ i j, x = .int i ∧ y = .int j ∧ Q (decide (i < j)) S2) : EvC C X (.Compare a [.Lt] [b] pos) S Q :=
  ec_cmp op_lt (nomark _) (ev_mono h fun x S1 h1 => ev_mono h1 fun y S2 ⟨i, j, e1, e2, q⟩ => by subst e1; subst e2; exact ops_I0 (f := fun i j => .bl (decide (i < j))) (fun _ => .bl _) ⟨_, rfl, q⟩)
theorem ec_gt (h : EvQ C X a S fun x S1 => EvQ C X b S1 fun y S2 => ∃ i j, x = .int i ∧ y = .int j ∧ Q (decide (j < i)) S2) : EvC C X (.Compare a [.Gt] [b] pos) S Q :=
  ec_cmp op_gt (nomark _) (ev_mono h fun x S1 h1 => ev_mono h1 fun y S2 ⟨i, j, e1, e2, q⟩ => by subst e1; subst e2; exact ops_I0 (f := fun i j => .bl (decide (j < i))) (fun _ => .bl _) ⟨_, rfl, q⟩)
theorem ec_eq (h : EvQ C X a S fun x S1 => EvQ C X b S1 fun y S2 => ∃ k, scalD x y = some k ∧ Q (k) S2) : EvC C X (.Compare a [.Eq] [b] pos) S Q :=
  ec_cmp op_eq (nomark _) (ev_mono h fun x S1 h1 => ev_mono h1 fun y S2 ⟨k, e1, q⟩ => fun S tmp σ H F v u s r1 r2 R w => by
    obtain ⟨q1, q2⟩ := scalD_ok r1 r2 e1
    refine ⟨q1, ?_⟩
    rw [q2]
    exact w _ H F _ s (Same.refl F) (.bl (k)) ⟨_, rfl, q⟩)
theorem ec_lele (h : EvQ C X a S fun x S1 => EvQ C X b S1 fun y S2 => ∃ i j, x = .int i ∧ y = .int j ∧ (i ≤ j → EvQ C X c S2 fun z S3 => ∃ l, z = .int l ∧ Q (decide (j ≤ l)) S3) ∧ (¬ i ≤ j → Q false S2))
    (hm : lastMarks [.LtE, .LtE] [b, c] = false := by with_unfolding_all rfl) : EvC C X (.Compare a [.LtE, .LtE] [b, c] pos) S Q := fun tmp σ H F s R k =>
  of_pt (pt_chain op_le op_le pe_can pe_can pe_can hm) (h tmp σ H F s _ fun v H1 F1 d S1 s1 e1 r1 q1 => q1 tmp σ H1 F1 s1 _ fun u H2 F2 d2 S2 s2 e2 r2 ⟨i, j, z1, z2, q2, q3⟩ => by
    subst z1; subst z2; cases r1; cases r2
    refine ⟨i, j, rfl, rfl, _, rfl, ?_⟩
    by_cases hij : i ≤ j
    · rw [decide_eq_true hij, if_pos rfl]
      exact q2 hij tmp σ H2 F2 s2 _ fun w H3 F3 d3 S3 s3 e3 r3 ⟨l, z3, q⟩ => by
        subst z3; cases r3
        exact ⟨j, l, rfl, rfl, _, rfl, k _ H3 F3 S3 s3 (Same.trans e1 (Same.trans e2 e3)) q⟩
    · rw [decide_eq_false hij, if_neg Bool.false_ne_true]
      exact ⟨_, rfl, k _ H2 F2 S2 s2 (Same.trans e1 e2) (q3 hij)⟩)
theorem ex_ifC {sa sb : List Stmt} {E : DE} (h : EvC C X c S fun k S1 => (k = true → Exs C X sa S1 E) ∧ (k = false → Exs C X sb S1 E)) : Ex C X (.If c sa sb pos) S E := fun σ H F s D' w =>
  of_ps (ps_if pt_can pss_can pss_can) (h [] σ H F s _ fun k H1 F1 S1 s1 e1 ⟨q1, q2⟩ => by
    cases k with
    | true => rw [if_pos rfl]; exact q1 rfl σ H1 F1 s1 D' (w.mono e1)
    | false => rw [if_neg Bool.false_ne_true]; exact q2 rfl σ H1 F1 s1 D' (w.mono e1))
theorem ts_oneC (h : EvC C X c S Q) : TsQ C X [c] S Q := fun tmp σ H F s R r => ⟨fun pins s0 I => (pts_one pt_can).run pins s0 σ H R I (h tmp σ H F s R r)⟩
end

def blkB (N : List Str) (sc scope : Scope) (own : List (Str × Nat)) : Bool :=
  decide (scope.kind = .function) && scope.names.all (fun y => decide (scope.names.lookup y.1 = some y.2)) && own.all (fun p => decide (N[p.2]? = some p.1)) &&
  scope.names.all (fun y => decide (y.2 ≠ .free) || decide (sc.names.lookup y.1 = some .cell) || decide (sc.names.lookup y.1 = some .free)) &&
  scope.names.all (fun y => (decide (y.2 ≠ .local) && decide (y.2 ≠ .cell)) || decide (y.1 ∈ own.map (·.1)) || decide (y.1 ∉ N))
theorem blk {N : List Str} {sc scope : Scope} {own : List (Str × Nat)} (h : blkB N sc scope own = true) : BlkOk N sc scope own := by
  unfold blkB at h
  simp only [Bool.and_eq_true, decide_eq_true_eq, List.all_eq_true, Bool.or_eq_true] at h
  obtain ⟨⟨⟨⟨h1, h2⟩, h3⟩, h4⟩, h5⟩ := h
  exact ⟨h1, h2, h3, fun y hy e => by rcases h4 y hy with (z | z) | z; exact absurd e z; exact .inl z; exact .inr z, fun y hy e => by
    rcases h5 y hy with (z | z) | z
    · rcases e with e | e
      · exact absurd e z.1
      · exact absurd e z.2
    · exact .inl z
    · exact .inr z⟩
end Dm

namespace Dm
open PySem PySem.Spec PyProof.Rows L2
open GxR (TabB TabG Tabbed)
section
variable {C : Cfg} {X : Cx} {S : SD} {e a b c elt iter : Expr} {es : List Expr} {Q : D → SD → Prop}
end
end Dm

namespace Dm
open PySem PySem.Spec PyProof.Rows L2
open GxR (TabB TabG Tabbed)
section
variable {C : Cfg} {X : Cx} {S : SD} {e a b c : Expr} {es : List Expr} {Q : D → SD → Prop} {tmp : Tmp} {σ : L2.St} {H F : Hp}
theorem Stt.strm (s : Stt C S tmp σ H F) (hg : C.g = true) : F C.st = none ∧ ∃ (cs : Addr) (c k : Int) (ns : List Int), H C.st = some (.lst [.ref cs, .int c, .int k]) ∧ F cs = some (.lst (ns.map V.int)) ∧ 0 ≤ c ∧ 0 ≤ k := s.base.rng hg
theorem Stt.strmSet (s : Stt C S tmp σ H F) (hg : C.g = true) {cs : Addr} {c k : Int} {ns : List Int} {o : HO} (hH : H C.st = some (.lst [.ref cs, .int c, .int k])) (hF : F cs = some (.lst (ns.map V.int))) {c' k' : Int} (hc : 0 ≤ c') (hk : 0 ≤ k') (ho : o = .lst [.ref cs, .int c', .int k']) : Stt C S tmp σ (upd H C.st o) F := by
  subst ho
  have nF := (s.strm hg).1
  have nf : ∀ b u, F b = some u → b ≠ C.st := fun b u e z => by rw [z, nF] at e; cases e
  refine ⟨s.b0, ⟨fun b u e => ?_, s.base.kind, fun P hP => ?_, fun p hp => tabS_keep (s.base.lam p hp) fun b o e h => by rw [upd_ne (lamNe e h hH (fun _ z => by cases z) (fun _ z => by cases z))]; exact e, fun g => ⟨nF, cs, c', k', ns, upd_same, hF, hc, hk⟩⟩, ⟨s.grow.ff, fun b u e n1 n2 => ?_, s.grow.nn, fun b e => ?_, fun g q c k e => by
    obtain ⟨c1, k1, e1⟩ := s.grow.cs g q c k e
    rw [hH] at e1
    cases e1
    exact ⟨c', k', upd_same⟩⟩, s.val, fun i xs h => ?_, s.dis, fun p xs h => ?_, s.tdis, s.tnd, s.dc.mono (H' := upd H C.st (.lst [.ref cs, .int c', .int k'])) (fun b kvs e h0 h => ⟨by rw [upd_ne (s.nst h0 hg)]; exact e, h⟩) (Same.refl _)⟩
  · rw [upd_ne (nf b u e)]
    exact s.base.sub b u e
  · obtain ⟨ps, h1, h2⟩ := s.base.tab P hP
    exact ⟨ps, by rw [upd_ne (ne_of h1 hH (fun z => by cases z))]; exact h1, h2⟩
  · rw [upd_ne (n2 hg)]
    exact s.grow.hh b u e n1 n2
  · by_cases z : b = C.st
    · rw [z, upd_same]
      exact fun z => by cases z
    · rw [upd_ne z]
      exact s.grow.al b e
  · obtain ⟨p, vs, h1, h2, h3, h4, h5⟩ := s.own i xs h
    exact ⟨p, vs, h1, h2, h3, by rw [upd_ne (s.nst h3 hg)]; exact h4, h5⟩
  · obtain ⟨vs, h2, h3, h4, h5⟩ := s.tm p xs h
    exact ⟨vs, h2, h3, by rw [upd_ne (s.nst h3 hg)]; exact h4, h5⟩
theorem ev_strm1 {j pos pos'} (h : EvQ C X a S fun x S1 => x = .strm ∧ ∀ c : Int, 0 ≤ c → Q (.int c) S1) (hg : C.g = true := by rfl) (hK : C.K = X.K := by rfl) : EvQ C X (.Subscript a (.Constant (.int 1) j pos') pos) S Q := fun tmp σ H F s R r =>
  of_pe (pe_ix ix_list pe_can pe_int (fun _ _ => rfl)) (h tmp σ H F s _ fun v H1 F1 x S1 s1 e1 r1 ⟨z, q⟩ => by
    subst z
    cases r1
    obtain ⟨_, cs, c, k, ns, h1, h2, h3, h4⟩ := s1.strm hg
    exact ⟨_, _, _, _, rfl, rfl, .inl (.inl h1), rfl, r _ H1 F1 _ S1 s1 e1 (.int c) (q c h3)⟩)
theorem ev_strm2 {j pos pos'} (h : EvQ C X a S fun x S1 => x = .strm ∧ ∀ c : Int, 0 ≤ c → Q (.int c) S1) (hg : C.g = true := by rfl) (hK : C.K = X.K := by rfl) : EvQ C X (.Subscript a (.Constant (.int 2) j pos') pos) S Q := fun tmp σ H F s R r =>
  of_pe (pe_ix ix_list pe_can pe_int (fun _ _ => rfl)) (h tmp σ H F s _ fun v H1 F1 x S1 s1 e1 r1 ⟨z, q⟩ => by
    subst z
    cases r1
    obtain ⟨_, cs, c, k, ns, h1, h2, h3, h4⟩ := s1.strm hg
    exact ⟨_, _, _, _, rfl, rfl, .inl (.inl h1), rfl, r _ H1 F1 _ S1 s1 e1 (.int k) (q k h4)⟩)
theorem as_strm1 {j pos pos'} {d : D} {Q : SD → Prop} (h : EvQ C X a S fun x S1 => x = .strm ∧ ∃ c : Int, d = .int c ∧ 0 ≤ c ∧ Q S1) (hg : C.g = true := by rfl)
    (ha : ∀ v, assign (.Subscript a (.Constant (.int 1) j pos') pos) X.env v = (do
      let ov ← holding [v] (eval a X.env)
      let iv ← holding [v, ov] (eval (.Constant (.int 1) j pos') X.env)
      standAt pos
      holding [v, ov, iv] (setItem ov iv v)
      release [v, ov, iv] []) := by intro _; rfl) : AsQ C X (.Subscript a (.Constant (.int 1) j pos') pos) d S Q := fun tmp σ H F v s r R k => ⟨fun pins s0 u I ru =>
  (of_pg (pg_sub pe_can pe_int set_list ha) (h tmp σ H F s _ fun v1 H1 F1 x S1 s1 e1 r1 ⟨z, c', hd, hc', q⟩ => by
    subst z; subst hd
    cases r1
    cases r
    obtain ⟨_, cs, c, k2, ns, h1, h2, h3, h4⟩ := s1.strm hg
    exact ⟨_, _, _, 1, rfl, rfl, h1, rfl, k σ _ F1 S1 (s1.strmSet hg h1 h2 hc' h4 rfl) e1 q⟩)).run pins s0 u I ru⟩
theorem as_strm2 {j pos pos'} {d : D} {Q : SD → Prop} (h : EvQ C X a S fun x S1 => x = .strm ∧ ∃ c : Int, d = .int c ∧ 0 ≤ c ∧ Q S1) (hg : C.g = true := by rfl)
    (ha : ∀ v, assign (.Subscript a (.Constant (.int 2) j pos') pos) X.env v = (do
      let ov ← holding [v] (eval a X.env)
      let iv ← holding [v, ov] (eval (.Constant (.int 2) j pos') X.env)
      standAt pos
      holding [v, ov, iv] (setItem ov iv v)
      release [v, ov, iv] []) := by intro _; rfl) : AsQ C X (.Subscript a (.Constant (.int 2) j pos') pos) d S Q := fun tmp σ H F v s r R k => ⟨fun pins s0 u I ru =>
  (of_pg (pg_sub pe_can pe_int set_list ha) (h tmp σ H F s _ fun v1 H1 F1 x S1 s1 e1 r1 ⟨z, c', hd, hc', q⟩ => by
    subst z; subst hd
    cases r1
    cases r
    obtain ⟨_, cs, c, k2, ns, h1, h2, h3, h4⟩ := s1.strm hg
    exact ⟨_, _, _, 2, rfl, rfl, h1, rfl, k σ _ F1 S1 (s1.strmSet hg h1 h2 h3 hc' rfl) e1 q⟩)).run pins s0 u I ru⟩
theorem ops_I {C' : Int → Int → Prop} {g : Int → Int → V} {f : Int → Int → D} {i j : Int} {Q : D → Prop} (hc : C' i j) (hg : ∀ F, Rep C.K C.st F (g i j) (f i j)) (q : Q (f i j)) : OpS C (rI C' g) (.int i) (.int j) Q := fun S tmp σ H F v u s r1 r2 R k => by
  cases r1
  cases r2
  exact ⟨i, j, rfl, rfl, hc, k _ H F _ s (Same.refl F) (hg F) q⟩
theorem ev_mul {pos : Pos} (h : EvQ C X a S fun x S1 => EvQ C X b S1 fun y S2 => ∃ i j, x = .int i ∧ y = .int j ∧ CMul i j ∧ Q (.int (i * j)) S2) : EvQ C X (.BinOp a .Mult b pos) S Q :=
  ev_bin op_mul (ev_mono h fun x S1 h1 => ev_mono h1 fun y S2 ⟨i, j, e1, e2, hc, q⟩ => by subst e1; subst e2; exact ops_I (f := fun i j => .int (i * j)) hc (fun _ => .int _) q)
theorem ev_mod {pos : Pos} (h : EvQ C X a S fun x S1 => EvQ C X b S1 fun y S2 => ∃ i j, x = .int i ∧ y = .int j ∧ 0 < j ∧ Q (.int (i % j)) S2) : EvQ C X (.BinOp a .Mod b pos) S Q :=
  ev_bin op_mod (ev_mono h fun x S1 h1 => ev_mono h1 fun y S2 ⟨i, j, e1, e2, hc, q⟩ => by subst e1; subst e2; exact ops_I (f := fun i j => .int (i % j)) hc (fun _ => .int _) q)
theorem ev_fdiv {pos : Pos} (h : EvQ C X a S fun x S1 => EvQ C X b S1 fun y S2 => ∃ i j, x = .int i ∧ y = .int j ∧ (0 < j ∧ j < 1073741824) ∧ Q (.int (i / j)) S2) : EvQ C X (.BinOp a .FloorDiv b pos) S Q :=
  ev_bin op_fdiv (ev_mono h fun x S1 h1 => ev_mono h1 fun y S2 ⟨i, j, e1, e2, hc, q⟩ => by subst e1; subst e2; exact ops_I (f := fun i j => .int (i / j)) hc (fun _ => .int _) q)
theorem ev_pow {pos : Pos} (h : EvQ C X a S fun x S1 => EvQ C X b S1 fun y S2 => ∃ i j, x = .int i ∧ y = .int j ∧ CPow i j ∧ Q (.int (i ^ j.toNat)) S2) : EvQ C X (.BinOp a .Pow b pos) S Q :=
  ev_bin op_pow (ev_mono h fun x S1 h1 => ev_mono h1 fun y S2 ⟨i, j, e1, e2, hc, q⟩ => by subst e1; subst e2; exact ops_I (f := fun i j => .int (i ^ j.toNat)) hc (fun _ => .int _) q)
theorem ev_int1 {p pos : Pos} (hm : X.mg "int" = none) (h : EvQ C X a S fun d S1 => ∃ i : Int, d = .int i ∧ Q (.int i) S1) (hg : Gl X "int" := by rfl)
    (he : starEach [a] X.env = (false, eval a X.env) :: starEach [] X.env := by rfl) : EvQ C X (.Call (.Name "int" p) [a] [] pos) S Q := fun tmp σ H F s R r =>
  of_pe (pe_callTy call_int1 hg hm boot_int (pa_cons pe_can pa_nil he) (he := he)) (h tmp σ H F s _ fun v H1 F1 d S1 s1 e1 r1 ⟨i, hd, q1⟩ => by
    subst hd
    cases r1
    exact .inl ⟨i, rfl, r _ H1 F1 (.int _) S1 s1 e1 (.int _) q1⟩)
theorem ex_join {st : Stmt} {E : DE} (J : SD → Prop) (h : Ex C X st S { E with nx := J }) (k : ∀ S, J S → E.nx S) : Ex C X st S E := fun σ H F s D' w =>
  h σ H F s D' ⟨fun S' σ' H' F' s' e q => w.nx S' σ' H' F' s' e (k S' q), w.rt, w.bk, w.ct⟩
theorem ex_cell {E : DE} {kk : Int} {p1 p2 p3 p4 p5 p6 p7 p8 p9 p10 p11 p12 p13 p14 p15 p16 p17 : Pos} {j1 j2} (hN : X.N.Nodup) (h0 : X.N[0]? = some ("stream" : Str)) (h2 : X.N[2]? = some ("k" : Str)) (h3 : X.N[3]? = some ("cell" : Str)) (hml : X.mg "len" = none) (hma : X.mg "abs" = none)
    (hS0 : S[0]? = some (Slot.val .strm)) (hS2 : S[2]? = some (Slot.val (.int kk))) (hk : 0 ≤ kk) (q : ∀ cell : Int, 0 ≤ cell → E.nx (S.set 3 (Slot.val (.int cell)))) (q' : E.nx S)
    (v0 : Vis X.env.scope "stream" := by first | exact Or.inl rfl | exact Or.inr (Or.inl rfl) | exact Or.inr (Or.inr rfl)) (v2 : Vis X.env.scope "k" := by first | exact Or.inl rfl | exact Or.inr (Or.inl rfl) | exact Or.inr (Or.inr rfl)) (l3 : Loc X.env.scope "cell" := by first | exact Or.inl rfl | exact Or.inr rfl)
    (hf : X.fn "cell" = true ∨ X.env.scope.names.lookup ("cell" : Str) = some .local := by first | exact .inl rfl | exact .inr rfl) (gl : Gl X "len" := by rfl) (ga : Gl X "abs" := by rfl) (hg : C.g = true := by rfl)
    (he1 : starEach [.Subscript (.Name "stream" p3) (.Constant (.int 0) j1 p4) p5] X.env = (false, eval (.Subscript (.Name "stream" p3) (.Constant (.int 0) j1 p4) p5) X.env) :: starEach [] X.env := by rfl)
    (he2 : starEach [.Subscript (.Subscript (.Name "stream" p10) (.Constant (.int 0) j2 p11) p12) (.Name "k" p13) p14] X.env = (false, eval (.Subscript (.Subscript (.Name "stream" p10) (.Constant (.int 0) j2 p11) p12) (.Name "k" p13) p14) X.env) :: starEach [] X.env := by rfl)
    (hs : swapsWith (.Call (.Name "abs" p9) [.Subscript (.Subscript (.Name "stream" p10) (.Constant (.int 0) j2 p11) p12) (.Name "k" p13) p14] [] p15) (some (.Name "cell" p8)) p16.line X.env = pure false := by rfl) :
    Ex C X (.If (.Compare (.Name "k" p1) [.Lt] [.Call (.Name "len" p2) [.Subscript (.Name "stream" p3) (.Constant (.int 0) j1 p4) p5] [] p6] p7) [.Assign [.Name "cell" p8] (.Call (.Name "abs" p9) [.Subscript (.Subscript (.Name "stream" p10) (.Constant (.int 0) j2 p11) p12) (.Name "k" p13) p14] [] p15) p16] [] p17) S E := fun σ H F s D' k => ⟨fun pins s0 I => by
  have hl : 3 < σ.length := by rw [I.len]; exact (List.getElem?_eq_some_iff.mp h3).1
  have V0 := pe_var (X := X) (pos := p3) h0 v0 (by decide) (by decide)
  have V1 := pe_var (X := X) (pos := p10) h0 v0 (by decide) (by decide)
  have K1 := pe_var (X := X) (pos := p1) h2 v2 (by decide) (by decide)
  have K2 := pe_var (X := X) (pos := p13) h2 v2 (by decide) (by decide)
  refine (of_ps (ps_if (pt_cmpR op_lt K1 (pe_callB call_len_seq gl hml PySem.boot_len (pa_cons (pe_ix ix_list V0 pe_int (fun _ _ => rfl)) pa_nil he1) (he := he1)) (nomark _))
    (pss_cons (ps_set hN h3 l3 (pe_callB call_abs ga hma boot_abs (pa_cons (pe_ix ix_seq (pe_ix ix_list V1 pe_int (fun _ _ => rfl)) K2 (fun _ _ => rfl)) pa_nil he2) (he := he2)) hs hf) pss_nil) pss_nil) ?_).run pins s0 I
  obtain ⟨vs, e1, r1⟩ := s.val 0 _ hS0
  cases r1
  obtain ⟨vk, e2, r2⟩ := s.val 2 _ hS2
  cases r2
  obtain ⟨_, cs, c, k2, ns, g1, g2, g3, g4⟩ := s.strm hg
  have hH : H cs = some (HO.lst (ns.map V.int)) := s.base.sub _ _ g2
  refine ⟨_, e2, _, e1, _, _, _, _, rfl, rfl, .inl (.inl g1), rfl, cs, _, rfl, .inl (.inl (.inl hH)), _, _, rfl, rfl, _, rfl, ?_⟩
  by_cases hlt : kk < (ns.map V.int).length
  · rw [decide_eq_true hlt]
    dsimp only
    rw [if_pos rfl]
    rw [List.length_map] at hlt
    have hi : kk.toNat < ns.length := by omega
    refine ⟨_, e1, _, _, _, _, rfl, rfl, .inl (.inl g1), rfl, _, e2, .inl ⟨cs, _, kk, .int ns[kk.toNat], rfl, rfl, .inl (.inl hH), ?_, _, rfl, ?_⟩⟩
    · unfold L2.atI L2.ixN
      have : 0 ≤ kk ∧ kk < (ns.map V.int).length := ⟨hk, by rw [List.length_map]; exact hlt⟩
      simp [this, hk, hi, hlt]
    · refine k.nx _ _ H F (s.set hl (.int _)) (Same.refl F) (q _ ?_)
      split <;> omega
  · rw [decide_eq_false hlt]
    dsimp only
    rw [if_neg Bool.false_ne_true]
    exact k.nx S σ H F s (Same.refl F) q'⟩
def strOf : D → Option Str
  | .str z => some z
  | _ => none
theorem ev_neg {pos : Pos} (h : EvQ C X a S fun d S1 => ∃ i, d = .int i ∧ Q (.int (-i)) S1) : EvQ C X (.UnaryOp .USub a pos) S Q := fun tmp σ H F s R r =>
  of_pe (pe_un un_neg pe_can) (h tmp σ H F s _ fun v H1 F1 d S1 s1 e1 r1 ⟨i, hd, q⟩ => by
    subst hd
    cases r1
    exact ⟨i, rfl, r _ H1 F1 _ S1 s1 e1 (.int _) q⟩)
theorem g_str {z : Str} (h : z.length ≤ 1000) : good (.str z) = true := good_str.mpr h
theorem g_cons {x : D} {xs : List D} (h1 : good x = true) (h2 : goods xs = true) : goods (x :: xs) = true := by simp [goods, h1, h2]
theorem g_tup {xs : List D} (h1 : xs.length.ble 1000 = true) (h2 : goods xs = true) : good (.tup xs) = true := good_tup.mpr ⟨Nat.le_of_ble_eq_true h1, h2⟩
end
end Dm

namespace Sx
open PySem PySem.Spec PyProof.Rows SS
def tx (xs : List Str) (i : Nat) : Str := xs.getD i Str.empty
section
variable {prog : Program} {w : World} {A : Around} {R : Result → Shared → Prop} {it : Addr} {fp wr : List Addr} {G : Array GenState → Array GenState → Prop} {n : Nat} {P : Nat → Value → Prop} {St : Nat → Shared → Prop}
end
end Sx

namespace Sx
open PySem PySem.Spec PyProof.Rows SS
section
variable {prog : Program} {w : World} {A : Around} {E : Value → Shared → Prop} {s : Shared}
end
end Sx
namespace L2
open PySem PySem.Spec PyProof.Rows
section
variable {X : Cx}
end
end L2

namespace Dm
open PySem PySem.Spec PyProof.Rows L2
open GxR (TabB TabG Tabbed)
section
variable {C : Cfg} {X : Cx} {S : SD} {e a b c : Expr} {es : List Expr} {Q : D → SD → Prop} {tmp : Tmp} {σ : L2.St} {H F : Hp}
end
end Dm

namespace L2
open PySem PySem.Spec PyProof.Rows PySem.SeqAt
def leastOr (d : Int) : List Int → Int
  | [] => d
  | y :: ys => ys.foldl min y
section
variable {X : Cx}
end
end L2
namespace Dm
open PySem PySem.Spec PyProof.Rows L2
open GxR (TabB TabG Tabbed)
section
variable {C : Cfg} {X : Cx} {S : SD} {e a b c : Expr} {es : List Expr} {Q : D → SD → Prop} {tmp : Tmp} {σ : L2.St} {H F : Hp}
end
end Dm

namespace Tx
open PySem PySem.Spec PyProof.Rows L2 Gx
def Whole (K : PySem.W.Frag) (x : V) (H : Hp) : Prop := ∃ a o, x = .ref a ∧ ((∃ u, H a = some (.frz o u)) ∨ K.lookup a = some o) ∧ FT o
section
variable {X : Cx} {o e : Expr} {es : List Expr} {to : TE} {t : TA} {name : Str} {apos cpos : Pos} {id : String} {r : V → List V → Hp → VK → Prop}
theorem whole_is {pins : List (Addr × Obj)} {σ : L2.St} {H : Hp} {s : Shared} {x : V} {v : Value} (I : Inv X pins σ H s) (r : RelV x v) (w : Whole X.K x H) : s.TypeIs v "tuple" ∧ ∀ a, v = .ref a → ∃ ob, s.heap.get? a = some ob ∧ ob.dict = none := by
  obtain ⟨a, ob, rfl, h, c, d⟩ := w
  cases r
  have g : s.heap.get? a = some ob := by
    rcases h with ⟨u, h⟩ | h
    · exact (I.hok a _ h).1
    · exact I.kIn a ob h
  exact ⟨⟨ob, g, c⟩, fun b e => by cases e; exact ⟨ob, g, d⟩⟩
def tMet (K : PySem.W.Frag) (r : V → List V → Hp → VK → Prop) (to : TE) (t : TA) : TE := fun σ H Q => to σ H fun x H1 => Whole K x H1 ∧ t σ H1 fun xs H2 => r x xs H2 Q
theorem pe_tm (slot : Slot "tuple" name id) (hty : typeOf (.builtin id) = pure (.type "method_descriptor")) (hm : MtR X id r) (ho : PE X o to) (ha : PA X (e :: es) t)
    (hbase : attributeBase o name X.env (eval o X.env) = eval o X.env := by rfl)
    (hfew : ((backTo cpos (starEach (e :: es) X.env)).all (fun x => !x.1) && (backToKw cpos (keywordEach [] X.env)).all (fun x => x.1.isSome)
      && decide ((e :: es).length + ([] : List Keyword).length + (if ([] : List Keyword).isEmpty then 0 else 1) < 30)) = true := by rfl)
    (hline : (apos.endLine == cpos.line) = true := by rfl) (hs : starEach (e :: es) X.env = (false, eval e X.env) :: starEach es X.env := by rfl) (hplain : (backTo cpos (starEach es X.env)).any (·.1) = false := by rfl) :
    PE X (.Call (.Attribute o name apos) (e :: es) [] cpos) (tMet X.K r to t) := by
  refine ⟨fun pins s σ H Q I h => wpAny_Call_method_late hbase hfew hline rfl (thn (ho.run pins s σ H _ I h) fun v s1 ⟨x, H1, I1, r1, ty, q1⟩ => ?_)⟩
  have k := whole_is I1 r1 ty
  refine ⟨"tuple", id, PySem.F.plainAttrs_tuple, slot, hty, k.1, k.2, ?_⟩
  have args := ha.run cpos pins s1 σ H1 _ I1 q1
  rw [hs] at args ⊢
  have none' : ((false, eval e X.env) :: starEach es X.env |> backTo cpos).any (·.1) = false := by
    show (false || (backTo cpos (starEach es X.env)).any (·.1)) = false
    rw [hplain]
    rfl
  exact Calls.callWith_builtin none' (Calls.evalArgs_plain (thn args fun us s2 ⟨vs, H2, I2, r2, q2⟩ => hm pins s2 σ H2 x vs v us Q I2 r1 r2 q2))
end
end Tx
namespace Dm
open PySem PySem.Spec PyProof.Rows L2
open GxR (TabB TabG Tabbed)
section
variable {C : Cfg} {X : Cx} {S : SD} {e a b c : Expr} {es : List Expr} {Q : D → SD → Prop} {tmp : Tmp} {σ : L2.St} {H F : Hp}
theorem rep_whole {v : V} {xs : List D} (s : Stt C S tmp σ H F) (r : Rep C.K C.st F v (.tup xs)) : Tx.Whole C.K v H := by
  cases r with
  | tup h r =>
    rcases h.2 with ⟨o, h1, h2⟩ | ⟨o, h1, h2⟩
    · exact ⟨_, o, rfl, .inl ⟨_, s.base.sub _ _ h1⟩, h2⟩
    · exact ⟨_, o, rfl, .inr h1, h2⟩
end
end Dm

namespace Dm
open PySem PySem.Spec PyProof.Rows L2
open GxR (TabB TabG Tabbed)
section
variable {C : Cfg} {X : Cx} {S : SD} {e a b c : Expr} {es : List Expr} {Q : D → SD → Prop} {tmp : Tmp} {σ : L2.St} {H F : Hp}
def isNon : D → Bool
  | .non => true
  | _ => false
theorem non_iff {v : V} {d : D} (r : Rep C.K C.st F v d) : decide (v = .non) = isNon d := by
  cases r <;> simp [isNon]
theorem ec_isN {Q : Bool → SD → Prop} {j pos' pos} (h : EvQ C X a S fun d S1 => Q (isNon d) S1) : EvC C X (.Compare a [.Is] [.Constant .none j pos'] pos) S Q := fun tmp σ H F s R w =>
  of_pt (pt_cmp (pc_isN pe_can)) (h tmp σ H F s _ fun v H1 F1 d S1 s1 e1 r1 q => ⟨_, rfl, by rw [non_iff r1]; exact w _ H1 F1 S1 s1 e1 q⟩)
theorem ev_isN {j pos' pos} (h : EvQ C X a S fun d S1 => Q (.bl (isNon d)) S1) : EvQ C X (.Compare a [.Is] [.Constant .none j pos'] pos) S Q := fun tmp σ H F s R w =>
  of_pe (pe_cmp (pc_isN pe_can)) (h tmp σ H F s _ fun v H1 F1 d S1 s1 e1 r1 q => by rw [non_iff r1]; exact w _ H1 F1 _ S1 s1 e1 (.bl _) q)
theorem reps_bls {K : PySem.W.Frag} {st : Addr} {F : Hp} : ∀ {zs : List Bool} {vs : List V}, Reps K st F vs (zs.map D.bl) → vs = zs.map V.bl
  | [], _, .nil => rfl
  | z :: zs, _, .cons h t => by
    cases h
    rw [reps_bls t]
    rfl
theorem ev_allL {p pos : Pos} (hm : X.mg "all" = none) (h : EvP C X a S fun pd S1 => ∃ bs : List Bool, isTupP pd = false ∧ pd.seq S1 = some (bs.map D.bl) ∧ Q (.bl (bs.all id)) S1) (hg : Gl X "all" := by rfl) (hK : C.K = X.K := by rfl) (hc : X.calm = true := by rfl)
    (he : starEach [a] X.env = (false, eval a X.env) :: starEach [] X.env := by rfl) : EvQ C X (.Call (.Name "all" p) [a] [] pos) S Q := fun tmp σ H F s R r =>
  of_pe (pe_callB (cr_all hc) hg hm boot_all (pa_cons pe_can pa_nil he) (he := he)) (h tmp σ H F s _ fun v H1 F1 pd S1 s1 e1 r1 ⟨bs, ht, hs, q⟩ => by
    obtain ⟨p, vs, rfl, hq, rr⟩ := rep_lstP s1 r1 hs ht
    obtain rfl := reps_bls rr
    exact ⟨p, bs, rfl, .inl (.inl hq), r _ H1 F1 (.bl _) S1 s1 e1 (.bl _) q⟩)
end
end Dm

namespace Tx
open PySem PySem.Spec PyProof.Rows L2 Gx
section
variable {P : Program} {w : World} {A : Around} {E : Value → Shared → Prop} {s : Shared}
end
section
variable {X : Cx} {e : Expr} {te : TE}
end
end Tx
namespace Dm
open PySem PySem.Spec PyProof.Rows L2
section
variable {C : Cfg} {X : Cx} {S : SD} {e a b c : Expr} {es : List Expr} {Q : D → SD → Prop} {tmp : Tmp} {σ : L2.St} {H F : Hp}
theorem Reps.reverse {K : PySem.W.Frag} {st : Addr} : ∀ {vs : List V} {xs : List D}, Reps K st F vs xs → Reps K st F vs.reverse xs.reverse
  | _, _, .nil => .nil
  | _, _, .cons h t => by
    rw [List.reverse_cons, List.reverse_cons]
    exact (Reps.reverse t).append (.cons h .nil)
end
end Dm

namespace Dm
open PySem PySem.Spec PyProof.Rows L2
open GxR (TabB TabG Tabbed)
section
variable {C : Cfg} {X : Cx} {S : SD} {e a b c elt iter tg : Expr} {es : List Expr} {Q : D → SD → Prop} {tmp : Tmp} {σ : L2.St} {H F : Hp} {QL : List D → SD → Prop}
theorem Stt.newW (s : Stt C S tmp σ H F) {p : Addr} {vs : List V} {xs : List D} (h : H p = none) (r : Reps C.K C.st F vs xs) :
    Stt C S tmp σ (upd H p (.tup vs)) (upd F p (.tup vs)) ∧ Same F (upd F p (.tup vs)) ∧ Rep C.K C.st (upd F p (.tup vs)) (.ref p) (.wt xs) :=
  ⟨s.newO h rfl, sameF (s.freshF h), .wt upd_same (r.mono (sameF (s.freshF h)))⟩
def zipD (xs ys : List D) : List D := List.zipWith (fun x y => D.wt [x, y]) xs ys
mutual
def pyD : D → PyData
  | .non => .none
  | .bl b => .bool b
  | .int i => .int i
  | .str z => .str z
  | .tup xs => .tuple (pyDs xs)
  | .lst xs => .list (pyDs xs)
  | .strm => .none
  | .wt xs => .tuple (pyDs xs)
  | .dct _ _ => .none
def pyDs : List D → List PyData
  | [] => []
  | x :: xs => pyD x :: pyDs xs
end
def okN : Nat → D → Bool
  | _, .non => true
  | _, .bl _ => true
  | _, .int _ => true
  | _, .str z => PyData.strOk z
  | n + 1, .tup xs => xs.all (okN n)
  | n + 1, .lst xs => xs.all (okN n)
  | _, _ => false
end
end Dm

namespace Dm
open PySem PySem.Spec PyProof.Rows L2
section
mutual
theorem okN_py : ∀ {d : D} {n : Nat}, okN n d = true → (pyD d).canLay0 = true ∧ (pyD d).depth ≤ n
  | .non, n, _ => ⟨by simp [pyD, PyData.canLay0], by simp [pyD, PyData.depth]⟩
  | .bl _, n, _ => ⟨by simp [pyD, PyData.canLay0], by simp [pyD, PyData.depth]⟩
  | .int _, n, _ => ⟨by simp [pyD, PyData.canLay0], by simp [pyD, PyData.depth]⟩
  | .str z, n, h => ⟨by simpa [pyD, PyData.canLay0, okN] using h, by simp [pyD, PyData.depth]⟩
  | .tup xs, 0, h => by simp [okN] at h
  | .tup xs, n + 1, h => by
    have h' : xs.all (okN n) = true := by simpa only [okN] using h
    obtain ⟨a, b⟩ := okN_pys h'
    exact ⟨by simpa [pyD, PyData.canLay0] using a, by simp only [pyD, PyData.depth]; omega⟩
  | .lst xs, 0, h => by simp [okN] at h
  | .lst xs, n + 1, h => by
    have h' : xs.all (okN n) = true := by simpa only [okN] using h
    obtain ⟨a, b⟩ := okN_pys h'
    exact ⟨by simpa [pyD, PyData.canLay0] using a, by simp only [pyD, PyData.depth]; omega⟩
  | .strm, n, h => by simp [okN] at h
  | .wt _, n, h => by simp [okN] at h
  | .dct _ _, n, h => by simp [okN] at h
theorem okN_pys : ∀ {xs : List D} {n : Nat}, xs.all (okN n) = true → PyData.canLayAll0 (pyDs xs) = true ∧ PyData.depthAll (pyDs xs) ≤ n
  | [], n, _ => ⟨by simp [pyDs, PyData.canLayAll0], by simp [pyDs, PyData.depthAll]⟩
  | x :: xs, n, h => by
    rw [List.all_cons, Bool.and_eq_true] at h
    obtain ⟨a1, a2⟩ := okN_py h.1
    obtain ⟨b1, b2⟩ := okN_pys h.2
    exact ⟨by simp [pyDs, PyData.canLayAll0, a1, b1], by simp only [pyDs, PyData.depthAll]; omega⟩
end
theorem okN_shaped {d : D} {n : Nat} (h : okN n d = true) (hn : n ≤ 64) : SeqAt.shaped (pyD d) = true := by
  obtain ⟨a, b⟩ := okN_py h
  unfold SeqAt.shaped
  rw [a, decide_eq_true (Nat.le_trans b hn)]
  rfl
mutual
theorem eqv_self : ∀ {d : D}, PyData.eqv (pyD d) (pyD d) = true
  | .non => by simp [pyD, PyData.eqv]
  | .bl _ => by simp [pyD, PyData.eqv]
  | .int _ => by simp [pyD, PyData.eqv]
  | .str _ => by simp [pyD, PyData.eqv]
  | .tup xs => by simp only [pyD, PyData.eqv]; exact eqvs_self
  | .lst xs => by simp only [pyD, PyData.eqv]; exact eqvs_self
  | .strm => by simp [pyD, PyData.eqv]
  | .wt xs => by simp only [pyD, PyData.eqv]; exact eqvs_self
  | .dct _ _ => by simp [pyD, PyData.eqv]
theorem eqvs_self : ∀ {xs : List D}, PyData.eqvAll (pyDs xs) (pyDs xs) = true
  | [] => by simp [pyDs, PyData.eqvAll]
  | x :: xs => by simp only [pyDs, PyData.eqvAll, eqv_self, eqvs_self, Bool.and_self]
end
def okB : Nat → D → Bool
  | _, .non => true
  | _, .int _ => true
  | _, .str _ => true
  | n + 1, .tup xs => xs.all (okB n)
  | n + 1, .lst xs => xs.all (okB n)
  | _, _ => false
mutual
theorem eqv_iff : ∀ {d e : D} {n m : Nat}, okB n d = true → okB m e = true → PyData.eqv (pyD d) (pyD e) = true → d = e
  | .non, e, n, m, _, h, q => by cases e <;> first | rfl | (simp [okB] at h; done) | (simp [pyD, PyData.eqv] at q)
  | .int i, e, n, m, _, h, q => by
    cases e with
    | int j => simp [pyD, PyData.eqv] at q; rw [q]
    | strm => simp [okB] at h
    | bl b => simp [okB] at h
    | wt xs => simp [okB] at h
    | dct ks xs => simp [okB] at h
    | _ => simp [pyD, PyData.eqv] at q
  | .str i, e, n, m, _, h, q => by
    cases e with
    | str j => simp [pyD, PyData.eqv] at q; rw [q]
    | strm => simp [okB] at h
    | bl b => simp [okB] at h
    | wt xs => simp [okB] at h
    | dct ks xs => simp [okB] at h
    | _ => simp [pyD, PyData.eqv] at q
  | .tup xs, e, n, m, hd, h, q => by
    cases n with
    | zero => simp [okB] at hd
    | succ n =>
      cases e with
      | tup ys =>
        cases m with
        | zero => simp [okB] at h
        | succ m => exact congrArg D.tup (eqvs_iff (n := n) (m := m) (by simpa only [okB] using hd) (by simpa only [okB] using h) (by simpa only [pyD, PyData.eqv] using q))
      | strm => simp [okB] at h
      | bl b => simp [okB] at h
      | wt xs => simp [okB] at h
      | dct ks xs => simp [okB] at h
      | _ => simp [pyD, PyData.eqv] at q
  | .lst xs, e, n, m, hd, h, q => by
    cases n with
    | zero => simp [okB] at hd
    | succ n =>
      cases e with
      | lst ys =>
        cases m with
        | zero => simp [okB] at h
        | succ m => exact congrArg D.lst (eqvs_iff (n := n) (m := m) (by simpa only [okB] using hd) (by simpa only [okB] using h) (by simpa only [pyD, PyData.eqv] using q))
      | strm => simp [okB] at h
      | bl b => simp [okB] at h
      | wt xs => simp [okB] at h
      | dct ks xs => simp [okB] at h
      | _ => simp [pyD, PyData.eqv] at q
  | .bl _, _, n, _, h, _, _ => by simp [okB] at h
  | .strm, _, n, _, h, _, _ => by simp [okB] at h
  | .wt _, _, n, _, h, _, _ => by simp [okB] at h
  | .dct _ _, _, n, _, h, _, _ => by simp [okB] at h
theorem eqvs_iff : ∀ {xs ys : List D} {n m : Nat}, xs.all (okB n) = true → ys.all (okB m) = true → PyData.eqvAll (pyDs xs) (pyDs ys) = true → xs = ys
  | [], [], _, _, _, _, _ => rfl
  | [], _ :: _, _, _, _, _, q => by simp [pyDs, PyData.eqvAll] at q
  | _ :: _, [], _, _, _, _, q => by simp [pyDs, PyData.eqvAll] at q
  | x :: xs, y :: ys, n, m, h1, h2, q => by
    rw [List.all_cons, Bool.and_eq_true] at h1 h2
    simp only [pyDs, PyData.eqvAll, Bool.and_eq_true] at q
    rw [eqv_iff h1.1 h2.1 q.1, eqvs_iff h1.2 h2.2 q.2]
end
def eqD (x y : D) : Bool := PyData.eqv (pyD x) (pyD y)
theorem eqD_self {x : D} : eqD x x = true := eqv_self
theorem eqD_iff {x y : D} {n m : Nat} (h1 : okB n x = true) (h2 : okB m y = true) : eqD x y = true ↔ x = y := ⟨eqv_iff h1 h2, fun e => by rw [e]; exact eqD_self⟩
theorem eqD_ne {x y : D} {n m : Nat} (h1 : okB n x = true) (h2 : okB m y = true) (h : x ≠ y) : eqD x y = false := by
  cases q : eqD x y with
  | false => rfl
  | true => exact absurd ((eqD_iff h1 h2).mp q) h
end
section
variable {C : Cfg} {X : Cx} {S : SD} {e a b c : Expr} {es : List Expr} {Q : D → SD → Prop} {tmp : Tmp} {σ : L2.St} {H F : Hp} {pos : Pos}
mutual
theorem dp_of (s : Same F H) : ∀ {d : D} {v : V} {n : Nat}, Rep C.K C.st F v d → okN n d = true → Dp C.K H v (pyD d)
  | _, _, _, .non, _ => by rw [pyD]; exact .non
  | _, _, _, .bl b, _ => by rw [pyD]; exact .bl b
  | _, _, _, .int i, _ => by rw [pyD]; exact .int i
  | _, _, _, .str z, _ => by rw [pyD]; exact .str z
  | _, _, 0, .tup h r, k => by simp [okN] at k
  | _, _, n + 1, .tup h r, k => by rw [pyD]; exact .tup (Same.tup s h.1) (dps_of s r (by simpa only [okN] using k))
  | _, _, 0, .lst h r, k => by simp [okN] at k
  | _, _, n + 1, .lst h r, k => by rw [pyD]; exact .lst (.inl (.inl (s _ _ h))) (dps_of s r (by simpa only [okN] using k))
  | _, _, n, .strm, k => by simp [okN] at k
  | _, _, n, .wt h r, k => by simp [okN] at k
  | _, _, n, .dct h hk r, k => by simp [okN] at k
theorem dps_of (s : Same F H) : ∀ {xs : List D} {vs : List V} {n : Nat}, Reps C.K C.st F vs xs → xs.all (okN n) = true → DpAll C.K H vs (pyDs xs)
  | _, _, _, .nil, _ => by rw [pyDs]; exact .nil
  | _, _, n, .cons h t, k => by
    rw [List.all_cons, Bool.and_eq_true] at k
    rw [pyDs]
    exact .cons (dp_of s h k.1) (dps_of s t k.2)
end
theorem ops_eqD {K : PySem.W.Frag} {x y : D} {n m : Nat} {Q : D → Prop} (hK : C.K = K) (h1 : okN n x = true) (h2 : okN m y = true) (hn : n ≤ 64) (hm : m ≤ 64) (q : Q (.bl (eqD x y))) : OpS C (rEqD K) x y Q := fun S tmp σ H F v u s r1 r2 R w => by
  rw [← hK]
  exact ⟨_, _, dp_of s.base.sub r1 h1, dp_of s.base.sub r2 h2, okN_shaped h1 hn, okN_shaped h2 hm, w _ H F _ s (Same.refl F) (.bl _) q⟩
theorem ops_neD {K : PySem.W.Frag} {x y : D} {n m : Nat} {Q : D → Prop} (hK : C.K = K) (h1 : okN n x = true) (h2 : okN m y = true) (hn : n ≤ 64) (hm : m ≤ 64) (q : Q (.bl (!eqD x y))) : OpS C (rNeD K) x y Q := fun S tmp σ H F v u s r1 r2 R w => by
  rw [← hK]
  exact ⟨_, _, dp_of s.base.sub r1 h1, dp_of s.base.sub r2 h2, okN_shaped h1 hn, okN_shaped h2 hm, w _ H F _ s (Same.refl F) (.bl _) q⟩
theorem ev_eqD {k : Nat} (hr : Room k X.A) (h : EvQ C X a S fun x S1 => EvQ C X b S1 fun y S2 => okN 8 x = true ∧ okN 8 y = true ∧ Q (.bl (eqD x y)) S2) (hK : C.K = X.K := by rfl) : EvQ C X (.Compare a [.Eq] [b] pos) S Q :=
  ev_cmp (op_eqD hr.units) (nomark _) (ev_mono h fun x S1 h1 => ev_mono h1 fun y S2 ⟨o1, o2, q⟩ => ops_eqD hK o1 o2 (by decide) (by decide) q)
theorem ec_eqD {k : Nat} {Q : Bool → SD → Prop} (hr : Room k X.A) (h : EvQ C X a S fun x S1 => EvQ C X b S1 fun y S2 => okN 8 x = true ∧ okN 8 y = true ∧ Q (eqD x y) S2) (hK : C.K = X.K := by rfl) : EvC C X (.Compare a [.Eq] [b] pos) S Q :=
  ec_cmp (op_eqD hr.units) (nomark _) (ev_mono h fun x S1 h1 => ev_mono h1 fun y S2 ⟨o1, o2, q⟩ => ops_eqD hK o1 o2 (by decide) (by decide) ⟨_, rfl, q⟩)
theorem ec_neD {k : Nat} {Q : Bool → SD → Prop} (hr : Room k X.A) (h : EvQ C X a S fun x S1 => EvQ C X b S1 fun y S2 => okN 8 x = true ∧ okN 8 y = true ∧ Q (!eqD x y) S2) (hK : C.K = X.K := by rfl) : EvC C X (.Compare a [.NotEq] [b] pos) S Q :=
  ec_cmp (op_neD hr.units) (nomark _) (ev_mono h fun x S1 h1 => ev_mono h1 fun y S2 ⟨o1, o2, q⟩ => ops_neD hK o1 o2 (by decide) (by decide) ⟨_, rfl, q⟩)
end
end Dm

namespace Dm
open PySem PySem.Spec PyProof.Rows L2
open GxR (TabB TabG Tabbed)

inductive RD where
  | d (x : D) | own (xs : List D) | tup (rs : List RD)
mutual
def RD.fz : RD → D
  | .d x => x
  | .own xs => .lst xs
  | .tup rs => .tup (RD.fzs rs)
def RD.fzs : List RD → List D
  | [] => []
  | r :: rs => RD.fz r :: RD.fzs rs
end
section
variable (K : PySem.W.Frag) (st : Addr) (F : Hp)
mutual
inductive RepR : V → RD → Tmp → Prop
  | d {v : V} {x : D} (h : Rep K st F v x) : RepR v (.d x) []
  | own {a : Addr} {xs : List D} : RepR (.ref a) (.own xs) [(a, xs)]
  | tup {a : Addr} {vs : List V} {rs : List RD} {fp : Tmp} (h : TX K F a vs) (r : RepRs vs rs fp) : RepR (.ref a) (.tup rs) fp
inductive RepRs : List V → List RD → Tmp → Prop
  | nil : RepRs [] [] []
  | cons {v : V} {vs : List V} {r : RD} {rs : List RD} {fp fq : Tmp} (h : RepR v r fp) (t : RepRs vs rs fq) : RepRs (v :: vs) (r :: rs) (fp ++ fq)
end
end
section
variable {K : PySem.W.Frag} {st : Addr} {F F' : Hp}
mutual
theorem RepR.mono (e : Same F F') : ∀ {v : V} {r : RD} {fp : Tmp}, RepR K st F v r fp → RepR K st F' v r fp
  | _, _, _, .d h => .d (h.mono e)
  | _, _, _, .own => .own
  | _, _, _, .tup h r => .tup (Same.tx e h) (RepRs.mono e r)
theorem RepRs.mono (e : Same F F') : ∀ {vs : List V} {rs : List RD} {fp : Tmp}, RepRs K st F vs rs fp → RepRs K st F' vs rs fp
  | _, _, _, .nil => .nil
  | _, _, _, .cons h t => .cons (RepR.mono e h) (RepRs.mono e t)
end
theorem RepRs.length : ∀ {vs : List V} {rs : List RD} {fp : Tmp}, RepRs K st F vs rs fp → vs.length = rs.length
  | _, _, _, .nil => rfl
  | _, _, _, .cons _ t => by rw [List.length_cons, List.length_cons, RepRs.length t]
mutual
theorem RepR.fz : ∀ {v : V} {r : RD} {fp : Tmp}, RepR K st F v r fp → (∀ a xs, (a, xs) ∈ fp → ∃ vs, F a = some (HO.lst vs) ∧ Reps K st F vs xs) → Rep K st F v r.fz
  | _, _, _, .d h, _ => h
  | _, _, _, .own, q => by
    obtain ⟨vs, h1, h2⟩ := q _ _ List.mem_cons_self
    exact .lst h1 h2
  | _, _, _, .tup h r, q => .tup h (RepRs.fz r q)
theorem RepRs.fz : ∀ {vs : List V} {rs : List RD} {fp : Tmp}, RepRs K st F vs rs fp → (∀ a xs, (a, xs) ∈ fp → ∃ vs, F a = some (HO.lst vs) ∧ Reps K st F vs xs) → Reps K st F vs (RD.fzs rs)
  | _, _, _, .nil, _ => .nil
  | _, _, _, .cons h t, q => .cons (RepR.fz h fun a xs m => q a xs (List.mem_append_left _ m)) (RepRs.fz t fun a xs m => q a xs (List.mem_append_right _ m))
end
end
section
variable {C : Cfg} {S : SD} {tmp fp : Tmp} {σ : L2.St} {H F : Hp}
theorem Stt.fzTmp : ∀ {fp : Tmp} {F : Hp}, Stt C S (fp ++ tmp) σ H F → ∃ F', Stt C S tmp σ H F' ∧ Same F F' ∧ ∀ a xs, (a, xs) ∈ fp → ∃ vs, F' a = some (HO.lst vs) ∧ Reps C.K C.st F' vs xs
  | [], F, s => ⟨F, s, Same.refl F, fun a xs h => by cases h⟩
  | (p, acc) :: fp, F, s => by
    obtain ⟨s1, us, h1, h2, h3, h4, h5, h6⟩ := s.popTmp
    have s2 := s1.still h3 rfl h1 h2 h5 h6
    obtain ⟨F', s3, e, q⟩ := Stt.fzTmp s2
    refine ⟨F', s3, Same.trans (sameF h1) e, fun a xs m => ?_⟩
    rcases List.mem_cons.mp m with z | z
    · cases z
      exact ⟨us, e _ _ upd_same, (h4.mono (sameF h1)).mono e⟩
    · exact q a xs z
theorem Stt.fzR (s : Stt C S (fp ++ tmp) σ H F) {v : V} {r : RD} (h : RepR C.K C.st F v r fp) : ∃ F', Stt C S tmp σ H F' ∧ Same F F' ∧ Rep C.K C.st F' v r.fz := by
  obtain ⟨F', s', e, q⟩ := s.fzTmp
  exact ⟨F', s', e, (h.mono e).fz q⟩
theorem Stt.addTmp (s : Stt C S tmp σ H F) {p : Addr} {us : List V} {acc : List D} (h1 : F p = none) (h2 : C.H0 p = none) (h3 : H p = some (HO.lst us)) (h4 : Reps C.K C.st F us acc) (h5 : ∀ (i : Nat) (ys : List D), S[i]? = some (Slot.own ys) → σ[i]? ≠ some (some (V.ref p))) (h6 : p ∉ tmp.map (·.1)) : Stt C S ((p, acc) :: tmp) σ H F :=
  ⟨s.b0, s.base, s.grow, s.val, s.own, s.dis, fun a xs hm => by
    rcases List.mem_cons.mp hm with z | z
    · cases z
      exact ⟨us, h1, h2, h3, h4⟩
    · exact s.tm a xs z, fun i ys a xs hm hS => by
    rcases List.mem_cons.mp hm with z | z
    · cases z
      exact h5 i ys hS
    · exact s.tdis i ys a xs z hS, by rw [List.map_cons]; exact List.nodup_cons.mpr ⟨h6, s.tnd⟩, s.dc⟩
def FpOk (K : PySem.W.Frag) (st : Addr) (H0 : Hp) (fp : Tmp) (H' F' : Hp) : Prop := (∀ a xs, (a, xs) ∈ fp → ∃ vs, F' a = none ∧ H0 a = none ∧ H' a = some (HO.lst vs) ∧ Reps K st F' vs xs) ∧ (fp.map (·.1)).Nodup
theorem Stt.fpOk (s : Stt C S (fp ++ tmp) σ H F) : FpOk C.K C.st C.H0 fp H F := ⟨fun a xs h => by
    obtain ⟨vs, h1, h2, h3, h4⟩ := s.tm a xs (List.mem_append_left _ h)
    exact ⟨vs, h1, h2, h3, h4⟩, by
    have := s.tnd
    rw [List.map_append] at this
    exact (List.nodup_append.mp this).1⟩
theorem Stt.addFp {H1 : Hp} (hg : ∀ b o, H1 b = some o → H b ≠ none) (n1 : ∀ p, H1 p = none → C.H0 p = none ∧ (∀ (i : Nat) (ys : List D), S[i]? = some (Slot.own ys) → σ[i]? ≠ some (some (V.ref p))) ∧ p ∉ tmp.map (·.1)) : ∀ {fp : Tmp}, Stt C S tmp σ H F → FpOk C.K C.st H1 fp H F → Stt C S (fp ++ tmp) σ H F
  | [], s, _ => s
  | (p, acc) :: fp, s, ok => by
    have ok' : FpOk C.K C.st H1 fp H F := ⟨fun a xs h => ok.1 a xs (List.mem_cons_of_mem _ h), (List.nodup_cons.mp ok.2).2⟩
    have s1 := Stt.addFp hg n1 s ok'
    obtain ⟨vs, h1, h2, h3, h4⟩ := ok.1 p acc List.mem_cons_self
    obtain ⟨q1, q2, q3⟩ := n1 p h2
    refine s1.addTmp h1 q1 h3 h4 q2 ?_
    rw [List.map_append, List.mem_append]
    rintro (z | z)
    · exact (List.nodup_cons.mp ok.2).1 z
    · exact q3 z
theorem Stt.forget (s : Stt C S tmp σ H F) {i : Nat} {xs : List D} (hS : S[i]? = some (Slot.own xs)) : Stt C (S.set i Slot.none) tmp σ H F := by
  refine ⟨s.b0, s.base, s.grow, fun j e h => ?_, fun j zs h => ?_, fun j k zs ws b q1 q2 q3 q4 => ?_, s.tm, fun j zs b ws h h' => ?_, s.tnd, s.dc.slots fun j ks zs h => by
      rcases getset h with ⟨rfl, q⟩ | ⟨n, q⟩
      · cases q
      · exact ⟨q, rfl⟩⟩
  · rcases getset h with ⟨rfl, q⟩ | ⟨n, q⟩
    · cases q
    · exact s.val j e q
  · rcases getset h with ⟨rfl, q⟩ | ⟨n, q⟩
    · cases q
    · exact s.own j zs q
  · rcases getset q1 with ⟨rfl, q⟩ | ⟨n, q⟩
    · cases q
    rcases getset q2 with ⟨rfl, p2⟩ | ⟨n2, p2⟩
    · cases p2
    exact s.dis j k zs ws b q p2 q3 q4
  · rcases getset h' with ⟨rfl, q⟩ | ⟨n, q⟩
    · cases q
    · exact s.tdis j zs b ws h q
theorem Stt.move (s : Stt C S tmp σ H F) {i : Nat} {xs : List D} (hS : S[i]? = some (Slot.own xs)) : ∃ a, σ[i]? = some (some (V.ref a)) ∧ Stt C (S.set i Slot.none) ((a, xs) :: tmp) σ H F := by
  obtain ⟨a, vs, h1, h2, h3, h4, h5⟩ := s.own i xs hS
  refine ⟨a, h1, (s.forget hS).addTmp h2 h3 h4 h5 (fun j zs h z => ?_) (fun z => ?_)⟩
  · rcases getset h with ⟨rfl, q⟩ | ⟨n, q⟩
    · cases q
    · exact n (s.dis j i zs xs a q hS z h1).symm
  · obtain ⟨q, hq, e⟩ := List.mem_map.mp z
    exact s.tdis i xs q.1 q.2 hq hS (by rw [e]; exact h1)
end

def EvR (C : Cfg) (X : Cx) (e : Expr) (S : SD) (Q : RD → SD → Prop) : Prop := ∀ (tmp : Tmp) (σ : L2.St) (H F : Hp), Stt C S tmp σ H F → ∀ R : VK,
  (∀ v H' F' r fp S', Stt C S' (fp ++ tmp) σ H' F' → Same F F' → RepR C.K C.st F' v r fp → Q r S' → R v H') → CanE X e σ H R
def EvAR (C : Cfg) (X : Cx) (es : List Expr) (S : SD) (Q : List RD → SD → Prop) : Prop := ∀ (tmp : Tmp) (σ : L2.St) (H F : Hp), Stt C S tmp σ H F → ∀ R : List V → Hp → Prop,
  (∀ vs H' F' rs fp S', Stt C S' (fp ++ tmp) σ H' F' → Same F F' → RepRs C.K C.st F' vs rs fp → Q rs S' → R vs H') → CanA X es σ H R
section
variable {C : Cfg} {X : Cx} {S : SD} {e a b c : Expr} {es : List Expr}
theorem er_d {Q : RD → SD → Prop} (h : EvQ C X e S fun d S' => Q (.d d) S') : EvR C X e S Q := fun tmp σ H F s R r => h tmp σ H F s R fun v H' F' d S' s' e' r' q => r v H' F' (.d d) [] S' s' e' (.d r') q
theorem ev_r {Q : D → SD → Prop} (h : EvR C X e S fun r S' => Q r.fz S') : EvQ C X e S Q := fun tmp σ H F s R k => h tmp σ H F s R fun v H' F' r fp S' s' e' r' q => by
  obtain ⟨F2, s2, e2, r2⟩ := s'.fzR r'
  exact k v H' F2 r.fz S' s2 (Same.trans e' e2) r2 q
theorem er_l {Q : RD → SD → Prop} (h : EvL C X e S fun xs S' => Q (.own xs) S') : EvR C X e S Q := fun tmp σ H F s R k => h tmp σ H F s R fun p vs H' F' xs S' s' e' h1 h2 h3 h4 h5 r' q =>
  k (.ref p) H' F' (.own xs) [(p, xs)] S' (s'.addTmp h1 h2 h3 r' h4 h5) e' .own q
theorem er_mv {i : Nat} {x : Str} {pos : Pos} {xs : List D} {Q : RD → SD → Prop} (hS : S[i]? = some (Slot.own xs)) (q : Q (.own xs) (S.set i Slot.none)) (hN : X.N[i]? = some x := by rfl)
    (hv : Vis X.env.scope x := by first | exact Or.inl rfl | exact Or.inr (Or.inl rfl) | exact Or.inr (Or.inr rfl)) (hd : (x == ("__debug__" : Str)) = false := by decide) (hcd : (x == ("__classdict__" : Str)) = false := by decide) : EvR C X (.Name x pos) S Q :=
  fun tmp σ H F s R r => by
    obtain ⟨a, h1, s2⟩ := s.move hS
    exact of_pe (pe_var hN hv hd hcd) ⟨_, h1, r _ H F (.own xs) [(a, xs)] _ s2 (Same.refl F) .own q⟩
theorem ear_nil {Q : List RD → SD → Prop} (q : Q [] S) : EvAR C X [] S Q := fun tmp σ H F s R r => of_pa pa_nil (r [] H F [] [] S s (Same.refl F) .nil q)
theorem ear_cons {Q : List RD → SD → Prop} (h : EvR C X e S fun r S1 => EvAR C X es S1 fun rs S2 => Q (r :: rs) S2) (hs : starEach (e :: es) X.env = (false, eval e X.env) :: starEach es X.env := by rfl) : EvAR C X (e :: es) S Q := fun tmp σ H F s R k =>
  of_pa (pa_cons pe_can pa_can hs) (h tmp σ H F s _ fun v H1 F1 r fp S1 s1 e1 r1 q1 => q1 (fp ++ tmp) σ H1 F1 s1 _ fun vs H2 F2 rs fq S2 s2 e2 r2 q2 => by
    have s3 : Stt C S2 ((fp ++ fq) ++ tmp) σ H2 F2 := by
      refine ⟨s2.b0, s2.base, s2.grow, s2.val, s2.own, s2.dis, fun a xs hm => s2.tm a xs ?_, fun i ys a xs hm => s2.tdis i ys a xs ?_, ?_, s2.dc⟩
      · simp only [List.mem_append] at hm ⊢
        rcases hm with (z | z) | z
        · exact .inr (.inl z)
        · exact .inl z
        · exact .inr (.inr z)
      · simp only [List.mem_append] at hm ⊢
        rcases hm with (z | z) | z
        · exact .inr (.inl z)
        · exact .inl z
        · exact .inr (.inr z)
      · have p : (List.map (·.1) ((fp ++ fq) ++ tmp)).Perm (List.map (·.1) (fq ++ (fp ++ tmp))) := by
          refine List.Perm.map _ ?_
          rw [← List.append_assoc]
          exact List.Perm.append_right tmp List.perm_append_comm
        exact p.nodup_iff.mpr s2.tnd
    exact k (v :: vs) H2 F2 (r :: rs) (fp ++ fq) S2 s3 (Same.trans e1 e2) (.cons (r1.mono e2) r2) q2)
theorem er_tup {n : Nat} {pos : Pos} {Q : RD → SD → Prop} (h : EvAR C X es S fun rs S1 => rs.length ≤ 100000 ∧ Q (.tup rs) S1) : EvR C X (.Tuple es n pos) S Q := fun tmp σ H F s R k =>
  of_pe (Tx.pe_new pa_can) (h tmp σ H F s _ fun vs H1 F1 rs fp S1 s1 e1 r1 ⟨hl, q⟩ => ⟨by rw [r1.length]; exact sz_of hl, fun p o hp ho => by
    have s2 := s1.newO (o := .frz o (.tup vs)) hp rfl
    have e2 := sameF (o := HO.frz o (.tup vs)) (s1.freshF hp)
    exact k _ _ _ (.tup rs) fp S1 s2 (Same.trans e1 e2) (.tup ⟨.inl (.inr ⟨o, upd_same⟩), .inl ⟨o, upd_same, ho⟩⟩ (r1.mono e2)) q⟩)
end
end Dm

namespace Dm
open PySem PySem.Spec PyProof.Rows L2
open GxR (TabB TabG Tabbed)

mutual
def D.noL : D → Bool
  | .lst _ => false
  | .tup xs => D.noLs xs
  | .wt xs => D.noLs xs
  | .dct _ xs => D.noLs xs
  | _ => true
def D.noLs : List D → Bool
  | [] => true
  | x :: xs => D.noL x && D.noLs xs
end
mutual
def RD.noL : RD → Bool
  | .d x => x.noL
  | .own xs => D.noLs xs
  | .tup rs => RD.noLs rs
def RD.noLs : List RD → Bool
  | [] => true
  | x :: xs => RD.noL x && RD.noLs xs
end
section
variable {K : PySem.W.Frag} {st : Addr} {F F' : Hp}
def Cut (F F' : Hp) : Prop := ∀ a o, F a = some o → (∀ xs, o ≠ HO.lst xs) → F' a = some o
theorem Cut.tx (e : Cut F F') {a : Addr} {vs : List V} (h : TX K F a vs) : TX K F' a vs := by
  refine ⟨?_, ?_⟩
  · rcases h.1 with (z | ⟨o, z⟩) | z
    · exact .inl (.inl (e _ _ z (fun xs q => by cases q)))
    · exact .inl (.inr ⟨o, e _ _ z (fun xs q => by cases q)⟩)
    · exact .inr z
  · rcases h.2 with ⟨o, z, f⟩ | z
    · exact .inl ⟨o, e _ _ z (fun xs q => by cases q), f⟩
    · exact .inr z
mutual
theorem Rep.cut (e : Cut F F') : ∀ {v : V} {d : D}, Rep K st F v d → d.noL = true → Rep K st F' v d
  | _, _, .non, _ => .non
  | _, _, .bl b, _ => .bl b
  | _, _, .int i, _ => .int i
  | _, _, .str z, _ => .str z
  | _, _, .tup h r, q => .tup (Cut.tx e h) (Reps.cutL e r (by simpa [D.noL] using q))
  | _, _, .lst h r, q => by simp [D.noL] at q
  | _, _, .strm, _ => .strm
  | _, _, .wt h r, q => .wt (e _ _ h (fun xs z => by cases z)) (Reps.cutL e r (by simpa [D.noL] using q))
  | _, _, .dct h hk r, q => .dct (e _ _ h (fun xs z => by cases z)) hk (Reps.cutL e r (by simpa [D.noL] using q))
theorem Reps.cutL (e : Cut F F') : ∀ {vs : List V} {xs : List D}, Reps K st F vs xs → D.noLs xs = true → Reps K st F' vs xs
  | _, _, .nil, _ => .nil
  | _, _, .cons h t, q => by
    simp only [D.noLs, Bool.and_eq_true] at q
    exact .cons (Rep.cut e h q.1) (Reps.cutL e t q.2)
end
mutual
theorem RepR.cut (e : Cut F F') : ∀ {v : V} {r : RD} {fp : Tmp}, RepR K st F v r fp → r.noL = true → RepR K st F' v r fp ∧ ∀ a xs, (a, xs) ∈ fp → D.noLs xs = true
  | _, _, _, .d h, q => ⟨.d (h.cut e (by simpa [RD.noL] using q)), fun a xs m => by cases m⟩
  | _, _, _, .own, q => ⟨.own, fun a xs m => by
      simp only [List.mem_singleton, Prod.mk.injEq] at m
      obtain ⟨rfl, rfl⟩ := m
      simpa [RD.noL] using q⟩
  | _, _, _, .tup h r, q => by
    obtain ⟨h1, h2⟩ := RepRs.cut e r (by simpa [RD.noL] using q)
    exact ⟨.tup (Cut.tx e h) h1, h2⟩
theorem RepRs.cut (e : Cut F F') : ∀ {vs : List V} {rs : List RD} {fp : Tmp}, RepRs K st F vs rs fp → RD.noLs rs = true → RepRs K st F' vs rs fp ∧ ∀ a xs, (a, xs) ∈ fp → D.noLs xs = true
  | _, _, _, .nil, _ => ⟨.nil, fun a xs m => by cases m⟩
  | _, _, _, .cons h t, q => by
    simp only [RD.noLs, Bool.and_eq_true] at q
    obtain ⟨h1, h2⟩ := RepR.cut e h q.1
    obtain ⟨h3, h4⟩ := RepRs.cut e t q.2
    exact ⟨.cons h1 h3, fun a xs m => by
      rcases List.mem_append.mp m with z | z
      · exact h2 a xs z
      · exact h4 a xs z⟩
end
end

def PD.at (S : SD) : PD → Option D
  | .d x => some x
  | .own i => match S[i]? with
    | some (Slot.own xs) => some (.lst xs)
    | some (Slot.val x) => some x
    | _ => none
def PD.ats (S : SD) : List PD → Option (List D)
  | [] => some []
  | p :: ps => match p.at S, PD.ats S ps with
    | some x, some xs => some (x :: xs)
    | _, _ => none
def RepW (K : PySem.W.Frag) (st : Addr) (σ : L2.St) (F : Hp) (v : V) : PD → Prop
  | .d x => Rep K st F v x
  | .own i => σ[i]? = some (some v)
inductive RepWs (K : PySem.W.Frag) (st : Addr) (σ : L2.St) (F : Hp) : List V → List PD → Prop
  | nil : RepWs K st σ F [] []
  | cons {v : V} {vs : List V} {p : PD} {ps : List PD} (h : RepW K st σ F v p) (t : RepWs K st σ F vs ps) : RepWs K st σ F (v :: vs) (p :: ps)
theorem RepW.mono {K : PySem.W.Frag} {st : Addr} {σ : L2.St} {F F' : Hp} (e : Same F F') {v : V} {p : PD} (h : RepW K st σ F v p) : RepW K st σ F' v p := by
  cases p with
  | d x => exact Rep.mono e h
  | own i => exact h
theorem RepWs.mono {K : PySem.W.Frag} {st : Addr} {σ : L2.St} {F F' : Hp} (e : Same F F') : ∀ {vs : List V} {ps : List PD}, RepWs K st σ F vs ps → RepWs K st σ F' vs ps
  | _, _, .nil => .nil
  | _, _, .cons h t => .cons (h.mono e) (RepWs.mono e t)
def EvAP (C : Cfg) (X : Cx) (es : List Expr) (S : SD) (Q : List PD → SD → Prop) : Prop := ∀ (tmp : Tmp) (σ : L2.St) (H F : Hp), Stt C S tmp σ H F → ∀ R : List V → Hp → Prop,
  (∀ vs H' F' ps S', Stt C S' tmp σ H' F' → Same F F' → RepWs C.K C.st σ F' vs ps → Q ps S' → R vs H') → CanA X es σ H R
section
variable {C : Cfg} {X : Cx} {S : SD} {e a b c : Expr} {es : List Expr}
theorem eap_nil {Q : List PD → SD → Prop} (q : Q [] S) : EvAP C X [] S Q := fun tmp σ H F s R r => of_pa pa_nil (r [] H F [] S s (Same.refl F) .nil q)
theorem eap_cons {Q : List PD → SD → Prop} (h : EvP C X e S fun p S1 => EvAP C X es S1 fun ps S2 => Q (p :: ps) S2) (hs : starEach (e :: es) X.env = (false, eval e X.env) :: starEach es X.env := by rfl) : EvAP C X (e :: es) S Q := fun tmp σ H F s R r =>
  of_pa (pa_cons pe_can pa_can hs) (h tmp σ H F s _ fun v H1 F1 p S1 s1 e1 r1 q1 => q1 tmp σ H1 F1 s1 _ fun vs H2 F2 ps S2 s2 e2 r2 q2 => r (v :: vs) H2 F2 (p :: ps) S2 s2 (Same.trans e1 e2) (.cons (by
    cases p with
    | d x => exact Rep.mono e2 r1
    | own i => exact r1.1) r2) q2)
end
def frzS : List PD → SD → SD
  | [], S => S
  | .d _ :: ps, S => frzS ps S
  | .own i :: ps, S => frzS ps (match S[i]? with
    | some (Slot.own xs) => S.set i (Slot.val (.lst xs))
    | _ => S)
def OwnA (S : SD) (σ : L2.St) (b : Addr) : Prop := ∃ (i : Nat) (xs : List D), S[i]? = some (Slot.own xs) ∧ σ[i]? = some (some (V.ref b))
theorem at_frz {S : SD} {i : Nat} {xs : List D} (h : S[i]? = some (Slot.own xs)) (p : PD) : p.at (S.set i (Slot.val (.lst xs))) = p.at S := by
  cases p with
  | d x => rfl
  | own j =>
    simp only [PD.at]
    by_cases e : i = j
    · subst e
      have hi : i < S.length := (List.getElem?_eq_some_iff.mp h).1
      rw [List.getElem?_set_self hi, h]
    · rw [List.getElem?_set_ne e]
theorem ats_frz {S : SD} {i : Nat} {xs : List D} (h : S[i]? = some (Slot.own xs)) : ∀ ps : List PD, PD.ats (S.set i (Slot.val (.lst xs))) ps = PD.ats S ps
  | [] => rfl
  | p :: ps => by
    unfold PD.ats
    rw [at_frz h, ats_frz h ps]
section
variable {C : Cfg} {tmp fp : Tmp} {σ : L2.St} {H : Hp}
theorem Stt.freeze2 {S : SD} {F : Hp} (s : Stt C S tmp σ H F) {i : Nat} {xs : List D} (hS : S[i]? = some (Slot.own xs)) : ∃ a F', σ[i]? = some (some (V.ref a)) ∧ Stt C (S.set i (Slot.val (.lst xs))) tmp σ H F' ∧ Same F F' ∧ Rep C.K C.st F' (.ref a) (.lst xs) ∧ ∀ b, b ≠ a → F' b = F b := by
  obtain ⟨a, vs, h1, h2, h3, h4, h5⟩ := s.own i xs hS
  have iσ : i < σ.length := (List.getElem?_eq_some_iff.mp h1).1
  have other : ∀ (j : Nat) (zs : List D), j ≠ i → S[j]? = some (Slot.own zs) → σ[j]? ≠ some (some (V.ref a)) := fun j zs hj h z => hj (s.dis j i zs xs a h hS z h1)
  have s2 := (s.forget hS).still h4 rfl h2 h3 (fun j zs h => by
    rcases getset h with ⟨rfl, q⟩ | ⟨n, q⟩
    · cases q
    · exact other j zs (Ne.symm n) q) (fun z => by
      obtain ⟨q, hq, e⟩ := List.mem_map.mp z
      exact s.tdis i xs q.1 q.2 hq hS (by rw [e]; exact h1))
  have r : Rep C.K C.st (upd F a (.lst vs)) (.ref a) (.lst xs) := .lst upd_same (h5.mono (sameF h2))
  have s3 := s2.set (i := i) iσ r
  refine ⟨a, _, h1, ?_, sameF h2, r, fun b hb => upd_ne hb⟩
  rw [List.set_set] at s3
  have e : σ.set i (some (V.ref a)) = σ := by
    apply List.ext_getElem?
    intro j
    by_cases hj : i = j
    · subst hj
      rw [List.getElem?_set_self iσ, h1]
    · rw [List.getElem?_set_ne hj]
  rw [e] at s3
  exact s3
theorem Stt.fzArgs : ∀ {ps : List PD} {S : SD} {F : Hp} {vs : List V} {ds : List D}, Stt C S tmp σ H F → RepWs C.K C.st σ F vs ps → PD.ats S ps = some ds → ∃ F1, Stt C (frzS ps S) tmp σ H F1 ∧ Same F F1 ∧ Reps C.K C.st F1 vs ds ∧ ∀ b, F1 b = F b ∨ OwnA S σ b
  | [], S, F, _, ds, s, .nil, e => by
    cases e
    exact ⟨F, s, Same.refl F, .nil, fun b => .inl rfl⟩
  | .d x :: ps, S, F, _, ds, s, .cons h t, e => by
    simp only [PD.ats, PD.at] at e
    split at e
    · rename_i x' xs e1 e2
      cases e1; cases e
      obtain ⟨F1, s1, e3, r, q⟩ := Stt.fzArgs s t e2
      exact ⟨F1, s1, e3, .cons (Rep.mono e3 h) r, q⟩
    · cases e
  | .own i :: ps, S, F, _, ds, s, .cons (v := v) h t, e => by
    have h : σ[i]? = some (some v) := h
    simp only [PD.ats] at e
    cases e1 : PD.at S (.own i) with
    | none => rw [e1] at e; cases e
    | some x' =>
      cases e2 : PD.ats S ps with
      | none => rw [e1, e2] at e; cases e
      | some xs =>
        rw [e1, e2] at e
        cases e
        simp only [PD.at] at e1
        cases hS : S[i]? with
        | none => rw [hS] at e1; cases e1
        | some sl =>
          rw [hS] at e1
          cases sl with
          | none => cases e1
          | dct ks ys => cases e1
          | own ys =>
            cases e1
            obtain ⟨a, F2, g1, g2, g3, g4, g5⟩ := s.freeze2 hS
            rw [h] at g1
            cases g1
            rw [← ats_frz hS] at e2
            obtain ⟨F1, s1, e3, r, q⟩ := Stt.fzArgs g2 (t.mono g3) e2
            have eq : frzS (.own i :: ps) S = frzS ps (S.set i (Slot.val (.lst ys))) := by
              show frzS ps (match S[i]? with | some (Slot.own xs) => S.set i (Slot.val (.lst xs)) | _ => S) = _
              rw [hS]
            refine ⟨F1, by rw [eq]; exact s1, Same.trans g3 e3, .cons (g4.mono e3) r, fun b => ?_⟩
            by_cases hba : b = a
            · exact .inr ⟨i, ys, hS, by rw [hba]; exact h⟩
            · rcases q b with z | ⟨j, zs, z1, z2⟩
              · exact .inl (by rw [z, g5 b hba])
              · refine .inr ⟨j, zs, ?_, z2⟩
                rcases getset z1 with ⟨rfl, m⟩ | ⟨n, m⟩
                · cases m
                · exact m
          | val x =>
            cases e1
            obtain ⟨w, g1, g2⟩ := s.val i _ hS
            rw [h] at g1
            cases g1
            obtain ⟨F1, s1, e3, r, q⟩ := Stt.fzArgs s t e2
            have eq : frzS (.own i :: ps) S = frzS ps S := by
              show frzS ps (match S[i]? with | some (Slot.own xs) => S.set i (Slot.val (.lst xs)) | _ => S) = _
              rw [hS]
            exact ⟨F1, by rw [eq]; exact s1, e3, .cons (g2.mono e3) r, q⟩
theorem Stt.back {S : SD} {ps : List PD} {F F1 : Hp} (s : Stt C S tmp σ H F) (s1 : Stt C (frzS ps S) tmp σ H F1) (e1 : Same F F1) (hF1 : ∀ b, F1 b = F b ∨ OwnA S σ b) {H' F' : Hp} (bs : Base C.K C.T C.st C.g H' F') (g : Grow C.st C.g H F1 H' F') (hg : C.g = true) {v : V} {r : RD} (rr : RepR C.K C.st F' v r fp) (hn : r.noL = true) (ok : FpOk C.K C.st H fp H' F') :
    ∃ F2, Stt C S (fp ++ tmp) σ H' F2 ∧ Same F F2 ∧ RepR C.K C.st F2 v r fp := by
  have ownF : ∀ b, OwnA S σ b → F b = none := fun b ⟨i, xs, h1, h2⟩ => by
    obtain ⟨a, vs, g1, g2, g3, g4, g5⟩ := s.own i xs h1
    rw [h2] at g1; cases g1; exact g2
  have ownL : ∀ b, OwnA S σ b → ∃ vs, H b = some (HO.lst vs) := fun b ⟨i, xs, h1, h2⟩ => by
    obtain ⟨a, vs, g1, g2, g3, g4, g5⟩ := s.own i xs h1
    rw [h2] at g1; cases g1; exact ⟨vs, g4⟩
  have own0 : ∀ b, OwnA S σ b → C.H0 b = none := fun b ⟨i, xs, h1, h2⟩ => by
    obtain ⟨a, vs, g1, g2, g3, g4, g5⟩ := s.own i xs h1
    rw [h2] at g1; cases g1; exact g3
  have ownH : ∀ b vs, OwnA S σ b → H b = some (HO.lst vs) → H' b = some (HO.lst vs) := fun b vs h e => g.hh b _ e (fun ps z => by cases z) (s.nst (own0 b h))
  classical
  let F2 : Hp := fun b => if OwnA S σ b then none else F' b
  have f2 : ∀ b, ¬ OwnA S σ b → F2 b = F' b := fun b h => if_neg h
  have f2o : ∀ b, OwnA S σ b → F2 b = none := fun b h => if_pos h
  have f2s : ∀ b o, F2 b = some o → F' b = some o := fun b o e => by
    by_cases h : OwnA S σ b
    · rw [f2o b h] at e; cases e
    · rw [f2 b h] at e; exact e
  have f2n : ∀ b, F' b = none → F2 b = none := fun b e => by
    by_cases h : OwnA S σ b
    · exact f2o b h
    · rw [f2 b h]; exact e
  have eF : Same F F2 := fun b o e => by
    have h : ¬ OwnA S σ b := fun h => by rw [ownF b h] at e; cases e
    rw [f2 b h]
    exact g.ff _ _ (e1 _ _ e)
  have cut : Cut F' F2 := fun b o e n => by
    have h : ¬ OwnA S σ b := fun h => by
      obtain ⟨vs, hl⟩ := ownL b h
      have z := bs.sub b o e
      rw [ownH b vs h hl] at z
      exact n _ (Option.some.inj z).symm
    rw [f2 b h]; exact e
  obtain ⟨rr2, nl⟩ := rr.cut cut hn
  have ok2 : FpOk C.K C.st H fp H' F2 := ⟨fun a xs m => by
    obtain ⟨vs, k1, k2, k3, k4⟩ := ok.1 a xs m
    exact ⟨vs, f2n a k1, k2, k3, k4.cutL cut (nl a xs m)⟩, ok.2⟩
  have g1 := s1.grow.trans g
  have s1F : ∀ a kvs, H a = some (HO.dK kvs) → F a = none → F1 a = none := fun a kvs h4 h2 => by
    rcases hF1 a with z | z
    · rw [z]; exact h2
    · obtain ⟨vs, hl⟩ := ownL a z
      rw [h4] at hl; cases hl
  have s3 : Stt C S tmp σ H' F2 := by
    refine ⟨s.b0, ⟨fun b o e => bs.sub b o (f2s b o e), fun b o e => bs.kind b o (f2s b o e), bs.tab, bs.lam, fun hg' => ?_⟩, ⟨fun b o e => ?_, g1.hh, fun b e h => f2n b (g1.nn b e h), g1.al, g1.cs⟩, fun i d h => ?_, fun i xs h => ?_, s.dis, fun a xs h => ?_, s.tdis, s.tnd, s.dc.mono (fun a kvs h4 h3 h2 => ⟨g.hh a _ h4 (fun ps z => by cases z) (s.nst h3), f2n a (g.nn a (s1F a kvs h4 h2) (by rw [h4]; exact fun z => by cases z))⟩) eF⟩
    · obtain ⟨q1, cs, c, k, ns, q2, q3, q4, q5⟩ := bs.rng hg'
      refine ⟨f2n _ q1, cs, c, k, ns, q2, ?_, q4, q5⟩
      obtain ⟨p1, cs0, c0, k0, ns0, p2, p3, p4, p5⟩ := s.base.rng hg'
      obtain ⟨c1, k1, p6⟩ := g.cs hg' cs0 c0 k0 p2
      rw [q2] at p6
      cases p6
      have hno : ¬ OwnA S σ cs := fun h => by rw [ownF cs h] at p3; cases p3
      rw [f2 cs hno]
      exact q3
    · have e := s.grow.ff _ _ e
      exact eF _ _ e
    · obtain ⟨w, h1, h2⟩ := s.val i d h
      exact ⟨w, h1, h2.mono eF⟩
    · obtain ⟨a, vs, h1, h2, h3, h4, h5⟩ := s.own i xs h
      exact ⟨a, vs, h1, f2o a ⟨i, xs, h, h1⟩, h3, ownH a vs ⟨i, xs, h, h1⟩ h4, h5.mono eF⟩
    · obtain ⟨vs, h2, h3, h4, h5⟩ := s.tm a xs h
      obtain ⟨_, k2, _, _, _⟩ := s1.tm a xs h
      have nn : F' a = none := g.nn a k2 (by rw [h4]; exact fun z => by cases z)
      exact ⟨vs, f2n a nn, h3, g.hh a _ h4 (fun ps z => by cases z) (s.nst h3), h5.mono eF⟩
  refine ⟨F2, Stt.addFp (H1 := H) (fun b o e => g.al b (by rw [e]; exact fun z => by cases z)) (fun p hp => ?_) s3 ok2, eF, rr2⟩
  exact ⟨s.fresh0 hp, (s.noOwn hp).1, (s.noOwn hp).2⟩
end

abbrev MR := List D → (RD → Prop) → Prop
def spR (K : PySem.W.Frag) (T : Tbs) (m : MR) : Sp := fun vs H Q _ => ∃ (st : Addr) (F : Hp) (ds : List D) (R : RD → Prop), Base K T st true H F ∧ Reps K st F vs ds ∧ m ds R ∧
  ∀ v H' F' r fp, Base K T st true H' F' → Grow st true H F H' F' → RepR K st F' v r fp → FpOk K st H fp H' F' → R r → Q v H'
def behind (ps : List PD) (S : SD) (r : RD) : SD := if r.noL then S else frzS ps S
section
variable {C : Cfg} {X : Cx} {S : SD} {e a b c : Expr} {es : List Expr}
theorem er_call {Q : RD → SD → Prop} {k : Nat} {f : Addr} {fd : FuncData} {ps : List Str} {m : MR} {x : Str} {p pos : Pos} (G : FnOk X.prog X.w X.K X.mg X.base CX0 k f fd ps (spR C.K C.T m)) (hr : Room k X.A) (hm : X.mg x = some (.ref f)) (hk : PySem.W.keepIn X.K (.ref f) = true) (hb : Binds X.K fd ps [])
    (h : EvAP C X (e :: es) S fun pds S1 => ∃ ds, PD.ats S1 pds = some ds ∧ m ds fun r => Q r (behind pds S1 r)) (hgt : C.g = true := by rfl) (hg : Gl X x := by rfl) (hdb : (x == ("__debug__" : Str)) = false := by decide) (he : starEach (e :: es) X.env = (false, eval e X.env) :: starEach es X.env := by rfl) (hpl : (backTo pos (starEach es X.env)).any (·.1) = false := by rfl) :
    EvR C X (.Call (.Name x p) (e :: es) [] pos) S Q := fun tmp σ H F s R k =>
  of_pe (pe_call G hr hg hm hk hb .nil pass0 pa_can hdb he hpl) (h tmp σ H F s _ fun vs H1 F1 pds S1 s1 e1 r1 ⟨ds, hds, q1⟩ => by
    obtain ⟨F2, s2, e2, r2, hF2⟩ := s1.fzArgs r1 hds
    refine ⟨C.st, F2, ds, fun r => Q r (behind pds S1 r), by rw [← hgt]; exact s2.base, by rw [List.append_nil]; exact r2, q1, fun v H' F' r fp b g rr ok q2 => ?_⟩
    rw [← hgt] at b g
    cases hn : r.noL with
    | true =>
      obtain ⟨F3, s3, e3, rr3⟩ := s1.back s2 e2 hF2 b g hgt rr hn ok
      have eb : behind pds S1 r = S1 := by unfold behind; rw [hn]; rfl
      rw [eb] at q2
      exact k v H' F3 r fp S1 s3 (Same.trans e1 e3) rr3 q2
    | false =>
      have eb : behind pds S1 r = frzS pds S1 := by unfold behind; rw [hn]; rfl
      rw [eb] at q2
      have s3 := s2.called b g
      have s4 := Stt.addFp (H1 := H1) (fun b o e => g.al b (by rw [e]; exact fun z => by cases z)) (fun p hp => ⟨s2.fresh0 hp, (s2.noOwn hp).1, (s2.noOwn hp).2⟩) s3 ok
      exact k v H' F' r fp _ s4 (Same.trans e1 (Same.trans e2 g.ff)) rr q2)
end
end Dm

namespace Dm
open PySem PySem.Spec PyProof.Rows L2
open GxR (TabB TabG Tabbed)

def putS (i : Nat) (r : RD) (S : SD) : SD := match r with
  | .own xs => S.set i (Slot.own xs)
  | r => S.set i (Slot.val r.fz)
section
variable {C : Cfg} {S : SD} {tmp fp : Tmp} {σ : L2.St} {H F : Hp}
theorem Stt.put (s : Stt C S (fp ++ tmp) σ H F) {v : V} {r : RD} {i : Nat} (rr : RepR C.K C.st F v r fp) (hi : i < σ.length) : ∃ F', Stt C (putS i r S) tmp (σ.set i (some v)) H F' ∧ Same F F' := by
  cases r with
  | own xs =>
    cases rr with
    | own =>
      rename_i a
      obtain ⟨s1, us, h1, h2, h3, h4, h5, h6⟩ := Stt.popTmp (p := a) (acc := xs) (tmp := tmp) s
      exact ⟨F, s1.setOwn hi h1 h2 h3 h4 (fun j ys _ => h5 j ys) h6, Same.refl F⟩
  | d x =>
    obtain ⟨F', s', e, q⟩ := s.fzR rr
    exact ⟨F', s'.set hi q, e⟩
  | tup rs =>
    obtain ⟨F', s', e, q⟩ := s.fzR rr
    exact ⟨F', s'.set hi q, e⟩
theorem Reps.toR {K : PySem.W.Frag} {st : Addr} : ∀ {vs : List V} {xs : List D}, Reps K st F vs xs → RepRs K st F vs (xs.map RD.d) []
  | _, _, .nil => .nil
  | _, _, .cons h t => RepRs.cons (fp := []) (fq := []) (.d h) (Reps.toR t)
end

structure RE where
  nx : SD → Prop
  rt : RD → Prop
  bk : SD → Prop := fun _ => False
  ct : SD → Prop := fun _ => False
structure ROk (C : Cfg) (F : Hp) (E : RE) (D' : Ends) : Prop where
  nx : ∀ S' σ' H' F', Stt C S' [] σ' H' F' → Same F F' → E.nx S' → D'.nx σ' H'
  rt : ∀ v H' F' r fp, Base C.K C.T C.st C.g H' F' → Grow C.st C.g C.H0 C.F0 H' F' → RepR C.K C.st F' v r fp → FpOk C.K C.st C.H0 fp H' F' → E.rt r → D'.rt v H'
  bk : ∀ S' σ' H' F', Stt C S' [] σ' H' F' → Same F F' → E.bk S' → D'.bk σ' H'
  ct : ∀ S' σ' H' F', Stt C S' [] σ' H' F' → Same F F' → E.ct S' → D'.ct σ' H'
theorem ROk.mono {C : Cfg} {F F' : Hp} {E : RE} {D' : Ends} (h : ROk C F E D') (e : Same F F') : ROk C F' E D' :=
  ⟨fun S' σ' H1 F1 s e1 => h.nx S' σ' H1 F1 s (Same.trans e e1), h.rt, fun S' σ' H1 F1 s e1 => h.bk S' σ' H1 F1 s (Same.trans e e1), fun S' σ' H1 F1 s e1 => h.ct S' σ' H1 F1 s (Same.trans e e1)⟩
def Rxs (C : Cfg) (X : Cx) (sts : List Stmt) (S : SD) (E : RE) : Prop := ∀ (σ : L2.St) (H F : Hp), Stt C S [] σ H F → ∀ D' : Ends, ROk C F E D' → CanSs X sts D' σ H
def Rx (C : Cfg) (X : Cx) (st : Stmt) (S : SD) (E : RE) : Prop := ∀ (σ : L2.St) (H F : Hp), Stt C S [] σ H F → ∀ D' : Ends, ROk C F E D' → CanS X st D' σ H
def AsR (C : Cfg) (X : Cx) (tg : Expr) (r : RD) (S : SD) (Q : SD → Prop) : Prop := ∀ (tmp fp : Tmp) (σ : L2.St) (H F : Hp) (v : V), Stt C S (fp ++ tmp) σ H F → RepR C.K C.st F v r fp → ∀ R : L2.St → Hp → Prop,
  (∀ σ' H' F' S', Stt C S' tmp σ' H' F' → Same F F' → Q S' → R σ' H') → CanG X tg v σ H R
def AsRs (C : Cfg) (X : Cx) (ts : List Expr) (rs : List RD) (S : SD) (Q : SD → Prop) : Prop := ∀ (tmp fp : Tmp) (σ : L2.St) (H F : Hp) (vs : List V), Stt C S (fp ++ tmp) σ H F → RepRs C.K C.st F vs rs fp → ∀ R : L2.St → Hp → Prop,
  (∀ σ' H' F' S', Stt C S' tmp σ' H' F' → Same F F' → Q S' → R σ' H') → CanGs X ts vs σ H R
section
variable {C : Cfg} {X : Cx} {S : SD} {e a b c : Expr} {es : List Expr} {st : Stmt} {sts : List Stmt} {E : RE}
theorem rxs_nil (q : E.nx S) : Rxs C X [] S E := fun σ H F s D' k => of_pss pss_nil (k.nx S σ H F s (Same.refl F) q)
theorem rxs_cons (h : Rx C X st S { E with nx := fun S1 => Rxs C X sts S1 E }) : Rxs C X (st :: sts) S E := fun σ H F s D' k =>
  of_pss (pss_cons ps_can pss_can) (h σ H F s { D' with nx := CanSs X sts D' } ⟨fun S' σ' H' F' s' e q => q σ' H' F' s' D' (k.mono e), k.rt, k.bk, k.ct⟩)
theorem rx_ret {pos : Pos} (h : EvR C X e S fun r _ => E.rt r) : Rx C X (.Return (some e) pos) S E := fun σ H F s D' k =>
  of_ps (ps_ret pe_can) (h [] σ H F s D'.rt fun v H' F' r fp S' s' e' rr q => k.rt v H' F' r fp s'.base s'.grow rr s'.fpOk q)
theorem rx_if {sa sb : List Stmt} {pos : Pos} (h : EvC C X c S fun k S1 => (k = true → Rxs C X sa S1 E) ∧ (k = false → Rxs C X sb S1 E)) : Rx C X (.If c sa sb pos) S E := fun σ H F s D' w =>
  of_ps (ps_if pt_can pss_can pss_can) (h [] σ H F s _ fun k H1 F1 S1 s1 e1 ⟨q1, q2⟩ => by
    cases k with
    | true => rw [if_pos rfl]; exact q1 rfl σ H1 F1 s1 D' (w.mono e1)
    | false => rw [if_neg Bool.false_ne_true]; exact q2 rfl σ H1 F1 s1 D' (w.mono e1))
theorem rx_expr {pos : Pos} (h : EvQ C X e S fun _ S1 => E.nx S1) (hs : swapsWith e none pos.line X.env = pure false := by rfl) : Rx C X (.Expr e pos) S E := fun σ H F s D' k =>
  of_ps (ps_expr pe_can hs) (h [] σ H F s _ fun v H1 F1 d S1 s1 e1 r1 q1 => k.nx S1 σ H1 F1 s1 e1 q1)
theorem rx_set {i : Nat} {x : Str} {pos pos' : Pos} (hN : X.N.Nodup) (h : EvR C X e S fun r S1 => E.nx (putS i r S1)) (hi : X.N[i]? = some x := by rfl) (hx : Loc X.env.scope x := by first | exact Or.inl rfl | exact Or.inr rfl)
    (hs : swapsWith e (some (.Name x pos')) pos.line X.env = pure false := by rfl) (hf : X.fn x = true ∨ X.env.scope.names.lookup x = some .local := by first | exact .inl rfl | exact .inr rfl | assumption) : Rx C X (.Assign [.Name x pos'] e pos) S E := fun σ H F s D' k => ⟨fun pins s0 I => by
  have hl : i < σ.length := by rw [I.len]; exact (List.getElem?_eq_some_iff.mp hi).1
  exact (of_ps (ps_set hN hi hx pe_can hs hf) (h [] σ H F s _ fun v H1 F1 r fp S1 s1 e1 r1 q1 => by
    obtain ⟨F2, s2, e2⟩ := s1.put r1 hl
    exact k.nx _ _ H1 F2 s2 (Same.trans e1 e2) q1)).run pins s0 I⟩
theorem rx_setLc {tg iter elt : Expr} {i : Nat} {y : Str} {py pos spos : Pos} {ifs : List Expr} {scope : Scope} {own : List (Str × Nat)} (hN : X.N.Nodup) (ok : BlkOk X.N X.env.scope scope own) (h : LcQ C X elt tg iter ifs scope (own.map (·.2)) S fun xs S1 => E.nx (S1.set i (Slot.own xs)))
    (hy : X.N[i]? = some y := by rfl) (hyl : X.env.scope.names.lookup y = some .local := by rfl) (hsw : swapsWith (.ListComp elt [⟨tg, iter, ifs, 0⟩] scope pos) (some (.Name y py)) spos.line X.env = pure true := by rfl)
    (hc : X.calm = true := by rfl) (hs : ∀ x, foldedSetIterable iter X.env x = pure x := by intro _; rfl) : Rx C X (.Assign [.Name y py] (.ListComp elt [⟨tg, iter, ifs, 0⟩] scope pos) spos) S E := fun σ H F s D' k => ⟨fun pins s0 I => by
  have hl : i < σ.length := by rw [I.len]; exact (List.getElem?_eq_some_iff.mp hy).1
  exact (of_ps (ps_setLc (wi := CanI X tg iter) (g := fun v σ H R => ForB X scope fun X' => CanG X' tg v σ H R) (tt := fun σ H R => ForB X scope fun X' => CanTs X' ifs σ H R) (te := fun σ H R => ForB X scope fun X' => CanE X' elt σ H R) hc hN hy hyl hsw pi_can ok
    (fun s0 H0 Ca cl fp => ⟨fun pins s σ H v u Q I rv z => (z s0 H0 Ca cl fp).run pins s u I rv⟩) (fun s0 H0 Ca cl fp => ⟨fun pins s σ H Q I z => (z s0 H0 Ca cl fp).run pins s I⟩) (fun s0 H0 Ca cl fp => ⟨fun pins s σ H Q I z => (z s0 H0 Ca cl fp).run pins s I⟩) hs)
    (h [] σ H F s _ fun p us H1 F1 xs S1 s1 e1 h1 h2 h3 h4 h5 r1 q1 => k.nx _ _ H1 F1 (s1.setOwn hl h1 h2 h3 r1 (fun j ys _ => h4 j ys) h5) e1 q1)).run pins s0 I⟩
theorem asr_name {i : Nat} {x : Str} {pos : Pos} {r : RD} {Q : SD → Prop} (hN : X.N.Nodup) (q : Q (putS i r S)) (hi : X.N[i]? = some x := by rfl) (hx : Loc X.env.scope x := by first | exact Or.inl rfl | exact Or.inr rfl)
    (hf : X.fn x = true ∨ X.env.scope.names.lookup x = some .local := by first | exact .inl rfl | exact .inr rfl | assumption) : AsR C X (.Name x pos) r S Q := fun tmp fp σ H F v s rr R k => ⟨fun pins s0 u I ru => by
  have hl : i < σ.length := by rw [I.len]; exact (List.getElem?_eq_some_iff.mp hi).1
  obtain ⟨F2, s2, e2⟩ := s.put rr hl
  exact (of_pg (pg_name hN hi hx hf) (k _ H F2 _ s2 e2 q)).run pins s0 u I ru⟩
theorem asrs_nil {Q : SD → Prop} (q : Q S) : AsRs C X [] [] S Q := fun tmp fp σ H F vs s r R k => by
  cases r
  exact of_pgs pgs_nil ⟨rfl, k σ H F S s (Same.refl F) q⟩
theorem asrs_cons {t : Expr} {ts : List Expr} {r : RD} {rs : List RD} {Q : SD → Prop} (h : AsR C X t r S fun S1 => AsRs C X ts rs S1 Q) (hp : PGs X (t :: ts) (gCons (CanG X t) (CanGs X ts)) := by exact pgs_cons pg_can pgs_can) : AsRs C X (t :: ts) (r :: rs) S Q := fun tmp fp σ H F vs s rr R k => by
  cases rr with
  | cons r1 r2 =>
    rename_i v vs' fp fq
    rw [List.append_assoc] at s
    exact of_pgs hp ⟨v, vs', rfl, h (fq ++ tmp) fp σ H F v s r1 _ fun σ1 H1 F1 S1 s1 e1 q1 => q1 tmp fq σ1 H1 F1 vs' s1 (r2.mono e1) R fun σ2 H2 F2 S2 s2 e2 q2 => k σ2 H2 F2 S2 s2 (Same.trans e1 e2) q2⟩
def RD.parts : RD → Option (List RD)
  | .tup rs => some rs
  | .d (.tup xs) => some (xs.map RD.d)
  | .d (.lst xs) => some (xs.map RD.d)
  | .d (.wt xs) => some (xs.map RD.d)
  | .own xs => some (xs.map RD.d)
  | _ => none
theorem asr_tup {es : List Expr} {n k : Nat} {pos : Pos} {r : RD} {rs : List RD} {Q : SD → Prop} (hr : r.parts = some rs) (h : AsRs C X es rs S Q) (hl : rs.length = n) (hK : C.K = X.K := by rfl) (hc : X.calm = true := by rfl) (hn : (assignEach es X.env).length = n := by rfl) (hst : (assignEach es X.env).findIdx? (·.1) = none := by rfl) : AsR C X (.Tuple es k pos) r S Q := fun tmp fp σ H F v s rr R w => by
  cases r with
  | tup rs' =>
    cases hr
    cases rr with
    | tup hq q =>
      rename_i a vs
      exact of_pg (pg_tup hc pgs_can hn hst) ⟨a, vs, rfl, by rw [← hK]; exact Same.tup s.base.sub hq.1, by rw [q.length]; exact hl, h tmp fp σ H F vs s q R w⟩
  | own xs =>
    cases hr
    cases rr with
    | own =>
      rename_i a
      obtain ⟨s1, us, h1, h2, h3, h4, h5, h6⟩ := Stt.popTmp (p := a) (acc := xs) (tmp := tmp) s
      exact of_pg (pg_lst hc pgs_can hn hst) ⟨a, us, rfl, .inl (.inl h3), by rw [h4.length]; simpa using hl, h tmp [] σ H F us s1 h4.toR R w⟩
  | d x =>
    cases rr with
    | d q =>
      cases q with
      | tup hq q =>
        cases hr
        rename_i a vs xs
        exact of_pg (pg_tup hc pgs_can hn hst) ⟨a, vs, rfl, by rw [← hK]; exact Same.tup s.base.sub hq.1, by rw [q.length]; simpa using hl, h tmp [] σ H F vs s q.toR R w⟩
      | lst hq q =>
        cases hr
        rename_i a vs xs
        exact of_pg (pg_lst hc pgs_can hn hst) ⟨a, vs, rfl, .inl (.inl (s.base.sub _ _ hq)), by rw [q.length]; simpa using hl, h tmp [] σ H F vs s q.toR R w⟩
      | wt hq q =>
        cases hr
        rename_i a vs xs
        exact of_pg (pg_tup hc pgs_can hn hst) ⟨a, vs, rfl, .inl (.inl (s.base.sub _ _ hq)), by rw [q.length]; simpa using hl, h tmp [] σ H F vs s q.toR R w⟩
      | _ => cases hr
theorem rx_asg {tg : Expr} {pos : Pos} (h : EvR C X e S fun r S1 => AsR C X tg r S1 E.nx) (hs : swapsWithSole [tg] e pos.line X.env = pure false := by rfl) (hw : swappedStores [tg] e X.env = pure none := by rfl)
    (h1 : (assignEach [tg] X.env).map (·.2) = [assign tg X.env] := by rfl) : Rx C X (.Assign [tg] e pos) S E := fun σ H F s D' k =>
  of_ps (ps_asg pe_can pg_can hs hw h1) (h [] σ H F s _ fun v H1 F1 r fp S1 s1 e1 r1 q1 => q1 [] fp σ H1 F1 v s1 r1 _ fun σ2 H2 F2 S2 s2 e2 q2 => k.nx S2 σ2 H2 F2 s2 (Same.trans e1 e2) q2)
theorem rx_for {tg iter : Expr} {body : List Stmt} {pos : Pos} (h : ItQ C X tg iter S fun xs S1 => ∃ Iv : Nat → SD → Prop, Iv 0 S1 ∧ (∀ i x S, xs[i]? = some x → Iv i S → AsR C X tg (.d x) S fun S2 => Rxs C X body S2 { nx := Iv (i + 1), rt := E.rt, bk := E.nx, ct := Iv (i + 1) }) ∧ (∀ S, Iv xs.length S → E.nx S))
    (hc : X.calm = true := by rfl) (hx : X.xe = (fun _ _ => False) := by rfl) (hs : ∀ x, foldedSetIterable iter X.env x = pure x := by intro _; rfl) : Rx C X (.For tg iter body [] pos) S E := fun σ H F s D' k =>
  of_ps (ps_for (by rw [hx]; exact PassesOwn.never) hc pi_can pg_can pss_can hs) (h [] σ H F s _ fun J H1 F1 xs S1 s1 e1 sem ⟨Iv, h0, hstep, hend⟩ => by
    refine ⟨fun i m σ' H' => m = xs.length - i ∧ i ≤ xs.length ∧ ∃ S' F', Stt C S' [] σ' H' F' ∧ Same F1 F' ∧ Iv i S', ⟨xs.length, by omega, Nat.zero_le _, S1, F1, s1, Same.refl F1, h0⟩, ?_⟩
    rintro i m σ' H' ⟨rfl, hi, S', F', s', e', iv⟩
    by_cases hlt : i < xs.length
    · refine .inr ⟨((sem i S' [] σ' H' F' s' e').1 xs[i] (List.getElem?_eq_getElem hlt)).1, fun σ2 H2 => ∃ S2 F2, Stt C S2 [] σ2 H2 F2 ∧ Same F1 F2 ∧ Iv (i + 1) S2, fun σ2 H2 ⟨S2, F2, s2, e2, iv2⟩ => ⟨xs.length - (i + 1), by omega, rfl, hlt, S2, F2, s2, e2, iv2⟩, fun v H2 hy => ?_⟩
      obtain ⟨F2, s2, e2, r2⟩ := ((sem i S' [] σ' H' F' s' e').1 xs[i] (List.getElem?_eq_getElem hlt)).2 v H2 hy
      have ef : Same F1 F2 := Same.trans e' e2
      refine hstep i xs[i] S' (List.getElem?_eq_getElem hlt) iv [] [] σ' H2 F2 v s2 (.d r2) _ fun σ3 H3 F3 S3 s3 e3 q3 => ?_
      refine q3 σ3 H3 F3 s3 _ ⟨fun S4 σ4 H4 F4 s4 e4 q4 => ⟨S4, F4, s4, Same.trans ef (Same.trans e3 e4), q4⟩, fun v4 H4 F4 d4 fp b4 g4 r4 f4 q4 => k.rt v4 H4 F4 d4 fp b4 g4 r4 f4 q4, fun S4 σ4 H4 F4 s4 e4 q4 => k.nx S4 σ4 H4 F4 s4 (Same.trans e1 (Same.trans ef (Same.trans e3 e4))) q4, fun S4 σ4 H4 F4 s4 e4 q4 => ⟨S4, F4, s4, Same.trans ef (Same.trans e3 e4), q4⟩⟩
    · have hi' : i = xs.length := by omega
      subst hi'
      exact .inl ⟨(sem _ S' [] σ' H' F' s' e').2 (Nat.le_refl _), k.nx S' σ' H' F' s' (Same.trans e1 e') (hend S' iv)⟩)
end

theorem FunC.okR {P : Program} {w : World} {K : PySem.W.Frag} {mg : Str → Option Value} {base : Heap} {x qual : Str} {st : Stmt} {c f : Addr} {fd : FuncData} {N ps : List Str} {k : Nat} {T : Tbs} {m : MR} (F : FunC K x qual st c f fd) (Sc : FnScope N ps (defScope st)) (len : ∀ ds R, m ds R → ds.length = ps.length)
    (hbody : ∀ (A : Around) (outer : List Env) (s : Shared) (H : Hp) (E : XK), Room k (A.deeper (envOfC qual (defScope st) s.heap.objs.size f (.ref c))) → ∀ (sa : Addr) (H0 F0 : Hp) (ds : List D) (R : RD → Prop), m ds R →
      Rxs ⟨K, T, sa, true, H0, F0⟩ (BX P w K mg base N qual (defScope st) f c A outer s H E) (defBody st) (ds.map Slot.val ++ List.replicate (N.length - ds.length) Slot.none) { nx := fun _ => R (.d .non), rt := R }) : FnOk P w K mg base CX0 (k + 1) f fd ps (spR K T m) := by
  obtain ⟨oc, od, kV, doc, pm, an, ct, osl, rfl, lk, hcd⟩ := F.ex
  refine fn_of lk hcd Sc (fun vs H Q E h => ?_) fun A outer s H vs Q E hr hsp => ?_
  · obtain ⟨sa, F1, ds, R, b, r, hm, _⟩ := h
    rw [r.length]
    exact len ds R hm
  · obtain ⟨sa, F1, ds, R, b, r, hm, q⟩ := hsp
    have hl : ds.length ≤ N.length := by
      have h1 := len ds R hm
      have h2 := congrArg List.length Sc.pre
      rw [List.length_take] at h2
      omega
    have hb := hbody A outer s H E hr sa H F1 ds R hm
    have z := hb (L2.start N vs) H F1 (stt_start b r hl) { nx := fun _ H' => Q .non H', rt := Q } ⟨fun S' σ' H' F' s' e q' => q .non H' F' (.d .non) [] s'.base s'.grow (.d .non) ⟨fun a xs m => (by cases m), (by simp)⟩ q', fun v H' F' d fp b' g' r' f' q' => q v H' F' d fp b' g' r' f' q', fun _ _ _ _ _ _ z => z.elim, fun _ _ _ _ _ _ z => z.elim⟩
    exact ⟨_, (pss_can (X := BX P w K mg base N qual (defScope st) f c A outer s H E)).nox, z⟩
def DefR (P : Program) (w : World) (K : PySem.W.Frag) (mg : Str → Option Value) (base : Heap) (T : Tbs) (k : Nat) (x : Str) (ps : List Str) (m : MR) : Prop :=
  ∃ (f : Addr) (fd : FuncData), FnOk P w K mg base CX0 k f fd ps (spR K T m) ∧ mg x = some (.ref f) ∧ PySem.W.keepIn K (.ref f) = true ∧ Binds K fd ps []
section
variable {P : Program} {w : World} {K : PySem.W.Frag} {mg : Str → Option Value} {base : Heap} {T : Tbs}
theorem defR_of {x : Str} {st : Stmt} {N ps : List Str} {k : Nat} {m : MR} (Dt : DefT K mg base T x st ps) (Sc : FnScope N ps (defScope st)) (len : ∀ ds R, m ds R → ds.length = ps.length)
    (hbody : ∀ (c Pt f : Addr), TabB base mg c Pt → Pt ∈ T → ∀ (A : Around) (outer : List Env) (s : Shared) (H : Hp) (E : XK), Room k (A.deeper (envOfC x (defScope st) s.heap.objs.size f (.ref c))) → ∀ (sa : Addr) (H0 F0 : Hp) (ds : List D) (R : RD → Prop), m ds R →
      Rxs ⟨K, T, sa, true, H0, F0⟩ (BX P w K mg base N x (defScope st) f c A outer s H E) (defBody st) (ds.map Slot.val ++ List.replicate (N.length - ds.length) Slot.none) { nx := fun _ => R (.d .non), rt := R }) : DefR P w K mg base T (k + 1) x ps m := by
  obtain ⟨c, Pt, f, fd, F, hm, hb, TB, hP⟩ := Dt
  exact ⟨f, fd, F.okR Sc len (hbody c Pt f TB hP), hm, F.kp, hb⟩
theorem er_callD {C : Cfg} {X : Cx} {S : SD} {e : Expr} {es : List Expr} {Q : RD → SD → Prop} {k : Nat} {ps : List Str} {m : MR} {x : Str} {p pos : Pos} (G : DefR X.prog X.w X.K X.mg X.base C.T k x ps m) (hr : Room k X.A)
    (h : EvAP C X (e :: es) S fun pds S1 => ∃ ds, PD.ats S1 pds = some ds ∧ m ds fun r => Q r (behind pds S1 r)) (hK : C.K = X.K := by rfl) (hgt : C.g = true := by rfl) (hg : Gl X x := by rfl) (hdb : (x == ("__debug__" : Str)) = false := by decide) (he : starEach (e :: es) X.env = (false, eval e X.env) :: starEach es X.env := by rfl) (hpl : (backTo pos (starEach es X.env)).any (·.1) = false := by rfl) :
    EvR C X (.Call (.Name x p) (e :: es) [] pos) S Q := by
  obtain ⟨f, fd, F, hm, hk, hb⟩ := G
  have F' : FnOk X.prog X.w X.K X.mg X.base CX0 k f fd ps (spR C.K C.T m) := by
    rw [hK]
    exact F
  exact er_call F' hr hm hk hb h hgt hg hdb he hpl
end
end Dm

namespace Dm
open PySem PySem.Spec PyProof.Rows L2
open GxR (TabB TabG Tabbed)
section
variable {K : PySem.W.Frag} {st : Addr} {F : Hp}
end
section
variable {C : Cfg} {S : SD} {tmp : Tmp} {σ : L2.St} {H F : Hp}
theorem upd_self {σ : L2.St} {i : Nat} {x : Option V} (h : σ[i]? = some x) : σ.set i x = σ := by
  apply List.ext_getElem?
  intro j
  by_cases hj : i = j
  · subst hj
    rw [List.getElem?_set_self (List.getElem?_eq_some_iff.mp h).1, h]
  · rw [List.getElem?_set_ne hj]
theorem Stt.dctFreeze (s : Stt C S tmp σ H F) {i : Nat} {ks : List L2.Key} {xs : List D} (hS : S[i]? = some (Slot.dct ks xs)) : ∃ a kvs, σ[i]? = some (some (V.ref a)) ∧ F a = none ∧ H a = some (HO.dK kvs) ∧ ∀ od, Stt C (S.set i (Slot.val (.dct ks xs))) tmp σ (upd H a (.frz od (.dK kvs))) (upd F a (.frz od (.dK kvs))) ∧ Same F (upd F a (.frz od (.dK kvs))) ∧
    Rep C.K C.st (upd F a (.frz od (.dK kvs))) (.ref a) (.dct ks xs) := by
  obtain ⟨a, kvs, h1, h2, h3, h4, h5, h6⟩ := s.dc.at' i ks xs hS
  refine ⟨a, kvs, h1, h2, h4, fun od => ?_⟩
  have sF : Same F (upd F a (.frz od (.dK kvs))) := sameF h2
  have rp : Rep C.K C.st (upd F a (.frz od (.dK kvs))) (.ref a) (.dct ks xs) := .dct upd_same h5 (h6.mono sF)
  have nF : ∀ b o, F b = some o → b ≠ a := fun b o e z => by rw [z, h2] at e; cases e
  have other : ∀ (j : Nat) (ms : List L2.Key) (zs : List D), j ≠ i → S[j]? = some (Slot.dct ms zs) → σ[j]? ≠ some (some (V.ref a)) := fun j ms zs hj h z => hj (s.dc.dis j i ms ks zs xs a h hS z h1)
  refine ⟨⟨s.b0, ⟨fun b o e => ?_, fun b o e => ?_, fun P hP => ?_, fun p hp => tabS_keep (s.base.lam p hp) fun b o e h => by rw [upd_ne (lamNe e h h4 (fun _ z => by cases z) (fun _ z => by cases z))]; exact e, fun g => ?_⟩, ⟨fun b o e => sF b o (s.grow.ff b o e), fun b o e n1 n2 => ?_, fun b e n => ?_, fun b e => ?_, fun g q c k e => by
    obtain ⟨c1, k1, e1⟩ := s.grow.cs g q c k e
    exact ⟨c1, k1, by rw [upd_ne (Ne.symm (s.nst h3 g))]; exact e1⟩⟩, fun j e h => ?_, fun j zs h => ?_, fun j k zs ws b q1 q2 q3 q4 => ?_, fun b zs h => ?_, fun j zs b ws h h' => ?_, s.tnd, ⟨fun j ms zs h => ?_, fun j k ms ns zs ws b q1 q2 q3 q4 => ?_⟩⟩, sF, rp⟩
  · by_cases z : b = a
    · subst z
      rw [upd_same] at e ⊢
      exact e
    · rw [upd_ne z] at e ⊢
      exact s.base.sub b o e
  · by_cases z : b = a
    · subst z
      rw [upd_same] at e
      cases e
      rfl
    · rw [upd_ne z] at e
      exact s.base.kind b o e
  · obtain ⟨ps, q1, q2⟩ := s.base.tab P hP
    exact ⟨ps, by rw [upd_ne (ne_of q1 h4 (fun z => by cases z))]; exact q1, q2⟩
  · obtain ⟨q1, cs, c, k, ns, q2, q3, q4⟩ := s.base.rng g
    exact ⟨by rw [upd_ne (Ne.symm (s.nst h3 g))]; exact q1, cs, c, k, ns, by rw [upd_ne (Ne.symm (s.nst h3 g))]; exact q2, sF _ _ q3, q4⟩
  · rw [upd_ne (fun z => by rw [z, h3] at e; cases e)]
    exact s.grow.hh b o e n1 n2
  · rw [upd_ne (fun z => n (by rw [z]; exact h3))]
    exact s.grow.nn b e n
  · by_cases z : b = a
    · rw [z, upd_same]
      exact fun z => by cases z
    · rw [upd_ne z]
      exact s.grow.al b e
  · rcases getset h with ⟨rfl, q⟩ | ⟨n, q⟩
    · cases q
      exact ⟨_, h1, rp⟩
    · obtain ⟨v, g1, g2⟩ := s.val j e q
      exact ⟨v, g1, g2.mono sF⟩
  · rcases getset h with ⟨rfl, q⟩ | ⟨n, q⟩
    · cases q
    · obtain ⟨b, ws, g1, g2, g3, g4, g5⟩ := s.own j zs q
      have nb := ne_of g4 h4 (fun z => by cases z)
      exact ⟨b, ws, g1, by rw [upd_ne nb]; exact g2, g3, by rw [upd_ne nb]; exact g4, g5.mono sF⟩
  · rcases getset q1 with ⟨rfl, p1⟩ | ⟨n, p1⟩
    · cases p1
    rcases getset q2 with ⟨rfl, p2⟩ | ⟨n, p2⟩
    · cases p2
    exact s.dis j k zs ws b p1 p2 q3 q4
  · obtain ⟨ws, g2, g3, g4, g5⟩ := s.tm b zs h
    have nb := ne_of g4 h4 (fun z => by cases z)
    exact ⟨ws, by rw [upd_ne nb]; exact g2, g3, by rw [upd_ne nb]; exact g4, g5.mono sF⟩
  · rcases getset h' with ⟨rfl, q⟩ | ⟨n, q⟩
    · cases q
    · exact s.tdis j zs b ws h q
  · rcases getset h with ⟨rfl, q⟩ | ⟨n, q⟩
    · cases q
    · obtain ⟨b, ws, g1, g2, g3, g4, g5, g6⟩ := s.dc.at' j ms zs q
      have nb : b ≠ a := fun z => other j ms zs (Ne.symm n) q (by rw [← z]; exact g1)
      exact ⟨b, ws, g1, by rw [upd_ne nb]; exact g2, g3, by rw [upd_ne nb]; exact g4, g5, g6.mono sF⟩
  · rcases getset q1 with ⟨rfl, p1⟩ | ⟨n, p1⟩
    · cases p1
    rcases getset q2 with ⟨rfl, p2⟩ | ⟨n, p2⟩
    · cases p2
    exact s.dc.dis j k ms ns zs ws b p1 p2 q3 q4
end
section
variable {C : Cfg} {X : Cx} {S : SD} {Q : D → SD → Prop}
theorem ev_dctName {i : Nat} {x : Str} {pos : Pos} {ks : List L2.Key} {xs : List D} (hS : S[i]? = some (Slot.dct ks xs)) (q : Q (.dct ks xs) (S.set i (Slot.val (.dct ks xs)))) (hN : X.N[i]? = some x := by rfl)
    (hv : Vis X.env.scope x := by first | exact Or.inl rfl | exact Or.inr (Or.inl rfl) | exact Or.inr (Or.inr rfl)) (hd : (x == ("__debug__" : Str)) = false := by decide) (hcd : (x == ("__classdict__" : Str)) = false := by decide) : EvQ C X (.Name x pos) S Q :=
  fun tmp σ H F s R r => ⟨fun pins s0 I => by
    obtain ⟨a, kvs, h1, h2, h4, hz⟩ := s.dctFreeze hS
    obtain ⟨od, I1⟩ := I.lock h4 True.intro
    obtain ⟨s1, e1, rp⟩ := hz od
    exact (of_pe (pe_var hN hv hd hcd) ⟨_, h1, r _ _ _ _ _ s1 e1 rp q⟩).run pins s0 I1⟩
end
end Dm

namespace Dm
open PySem PySem.Spec PyProof.Rows L2
open GxR (TabB TabG Tabbed)

inductive Exn where
  | mk (cls : Str) (args : List D)
inductive T (α : Type) : Type where
  | ret (a : α)
  | fail
  | exc (x : Exn)
  | draw (n : Int) (k : Int → T α)
namespace T
def bind {α β : Type} : T α → (α → T β) → T β
  | ret a, f => f a
  | fail, _ => fail
  | exc x, _ => exc x
  | draw n k, f => draw n fun d => (k d).bind f
@[simp] theorem ret_bind {α β : Type} (a : α) (f : α → T β) : (T.ret a).bind f = f a := rfl
@[simp] theorem fail_bind {α β : Type} (f : α → T β) : (T.fail : T α).bind f = .fail := rfl
@[simp] theorem exc_bind {α β : Type} (x : Exn) (f : α → T β) : (T.exc x : T α).bind f = .exc x := rfl
theorem bind_assoc {α β γ : Type} (t : T α) (f : α → T β) (g : β → T γ) : (t.bind f).bind g = t.bind fun a => (f a).bind g := by
  induction t with
  | ret a => rfl
  | fail => rfl
  | exc x => rfl
  | draw n k ih => show T.draw n _ = T.draw n _; congr 1; funext d; exact ih d
end T
def W {α : Type} : T α → (α → Prop) → Prop
  | .ret a, Q => Q a
  | .fail, _ => False
  | .exc _, _ => False
  | .draw n k, Q => 1 ≤ n ∧ ∀ d, 0 ≤ d → d < n → W (k d) Q
theorem W_bind {α β : Type} {t : T α} {f : α → T β} {Q : β → Prop} : W (t.bind f) Q ↔ W t fun a => W (f a) Q := by
  induction t with
  | ret a => exact Iff.rfl
  | fail => exact Iff.rfl
  | exc x => exact Iff.rfl
  | draw n k ih =>
    show (_ ∧ _) ↔ (_ ∧ _)
    exact ⟨fun ⟨h, q⟩ => ⟨h, fun d a b => (ih d).mp (q d a b)⟩, fun ⟨h, q⟩ => ⟨h, fun d a b => (ih d).mpr (q d a b)⟩⟩
theorem W_mono {α : Type} {t : T α} {Q Q' : α → Prop} (h : W t Q) (k : ∀ a, Q a → Q' a) : W t Q' := by
  induction t with
  | ret a => exact k a h
  | fail => exact h
  | exc x => exact h
  | draw n f ih => exact ⟨h.1, fun d a b => ih d (h.2 d a b)⟩

abbrev SQ := SD → T (D × SD)
abbrev SR := SD → T (RD × SD)
abbrev SP := SD → T (PD × SD)
abbrev SC := SD → T (Bool × SD)
abbrev SI := SD → T (List D × SD)
abbrev SG := RD → SD → T SD
inductive Out where
  | nx (S : SD) | rt (r : RD) | bk (S : SD) | ct (S : SD)
abbrev SS := SD → T Out
def OutP (E : RE) : Out → Prop
  | .nx S => E.nx S
  | .rt r => E.rt r
  | .bk S => E.bk S
  | .ct S => E.ct S
def SndQ (C : Cfg) (X : Cx) (e : Expr) (f : SQ) : Prop := ∀ (S : SD) (Q : D → SD → Prop), W (f S) (fun p => Q p.1 p.2) → EvQ C X e S Q
def SndR (C : Cfg) (X : Cx) (e : Expr) (f : SR) : Prop := ∀ (S : SD) (Q : RD → SD → Prop), W (f S) (fun p => Q p.1 p.2) → EvR C X e S Q
def SndP (C : Cfg) (X : Cx) (e : Expr) (f : SP) : Prop := ∀ (S : SD) (Q : PD → SD → Prop), W (f S) (fun p => Q p.1 p.2) → EvP C X e S Q
def SndC (C : Cfg) (X : Cx) (e : Expr) (f : SC) : Prop := ∀ (S : SD) (Q : Bool → SD → Prop), W (f S) (fun p => Q p.1 p.2) → EvC C X e S Q
def SndW (C : Cfg) (X : Cx) (e : Expr) (f : SC) : Prop := ∀ (S : SD) (Q : Bool → SD → Prop), W (f S) (fun p => Q p.1 p.2) → EvW C X e S Q
def SndI (C : Cfg) (X : Cx) (tg e : Expr) (f : SI) : Prop := ∀ (S : SD) (Q : List D → SD → Prop), W (f S) (fun p => Q p.1 p.2) → ItQ C X tg e S Q
def SndG (C : Cfg) (X : Cx) (e : Expr) (f : SG) : Prop := ∀ (r : RD) (S : SD) (Q : SD → Prop), W (f r S) Q → AsR C X e r S Q
def SndGs (C : Cfg) (X : Cx) (es : List Expr) (fs : List RD → SD → T SD) : Prop := ∀ (rs : List RD) (S : SD) (Q : SD → Prop), W (fs rs S) Q → AsRs C X es rs S Q
def SndS (C : Cfg) (X : Cx) (st : Stmt) (f : SS) : Prop := ∀ (S : SD) (E : RE), W (f S) (OutP E) → Rx C X st S E
def SndSs (C : Cfg) (X : Cx) (sts : List Stmt) (f : SS) : Prop := ∀ (S : SD) (E : RE), W (f S) (OutP E) → Rxs C X sts S E
def SndAR (C : Cfg) (X : Cx) (es : List Expr) (f : SD → T (List RD × SD)) : Prop := ∀ (S : SD) (Q : List RD → SD → Prop), W (f S) (fun p => Q p.1 p.2) → EvAR C X es S Q
def SndAP (C : Cfg) (X : Cx) (es : List Expr) (f : SD → T (List PD × SD)) : Prop := ∀ (S : SD) (Q : List PD → SD → Prop), W (f S) (fun p => Q p.1 p.2) → EvAP C X es S Q

section
variable {C : Cfg} {X : Cx} {e tg : Expr} {es : List Expr} {S : SD}
theorem SndQ.u {f : SQ} (h : SndQ C X e f) {P : D × SD → Prop} (w : W (f S) P) : EvQ C X e S fun d S1 => P (d, S1) := h S (fun d S1 => P (d, S1)) w
theorem SndR.u {f : SR} (h : SndR C X e f) {P : RD × SD → Prop} (w : W (f S) P) : EvR C X e S fun d S1 => P (d, S1) := h S (fun d S1 => P (d, S1)) w
theorem SndP.u {f : SP} (h : SndP C X e f) {P : PD × SD → Prop} (w : W (f S) P) : EvP C X e S fun d S1 => P (d, S1) := h S (fun d S1 => P (d, S1)) w
theorem SndC.u {f : SC} (h : SndC C X e f) {P : Bool × SD → Prop} (w : W (f S) P) : EvC C X e S fun d S1 => P (d, S1) := h S (fun d S1 => P (d, S1)) w
theorem SndI.u {f : SI} (h : SndI C X tg e f) {P : List D × SD → Prop} (w : W (f S) P) : ItQ C X tg e S fun d S1 => P (d, S1) := h S (fun d S1 => P (d, S1)) w
theorem SndAR.u {f : SD → T (List RD × SD)} (h : SndAR C X es f) {P : List RD × SD → Prop} (w : W (f S) P) : EvAR C X es S fun d S1 => P (d, S1) := h S (fun d S1 => P (d, S1)) w
theorem SndAP.u {f : SD → T (List PD × SD)} (h : SndAP C X es f) {P : List PD × SD → Prop} (w : W (f S) P) : EvAP C X es S fun d S1 => P (d, S1) := h S (fun d S1 => P (d, S1)) w
theorem SndQ.k {f : SQ} (h : SndQ C X e f) {P : D × SD → Prop} {Q : D → SD → Prop} (w : W (f S) P) (k : ∀ d S1, P (d, S1) → Q d S1) : EvQ C X e S Q := h S Q (W_mono w fun p q => k p.1 p.2 q)
theorem SndR.k {f : SR} (h : SndR C X e f) {P : RD × SD → Prop} {Q : RD → SD → Prop} (w : W (f S) P) (k : ∀ d S1, P (d, S1) → Q d S1) : EvR C X e S Q := h S Q (W_mono w fun p q => k p.1 p.2 q)
theorem SndP.k {f : SP} (h : SndP C X e f) {P : PD × SD → Prop} {Q : PD → SD → Prop} (w : W (f S) P) (k : ∀ d S1, P (d, S1) → Q d S1) : EvP C X e S Q := h S Q (W_mono w fun p q => k p.1 p.2 q)
theorem SndC.k {f : SC} (h : SndC C X e f) {P : Bool × SD → Prop} {Q : Bool → SD → Prop} (w : W (f S) P) (k : ∀ d S1, P (d, S1) → Q d S1) : EvC C X e S Q := h S Q (W_mono w fun p q => k p.1 p.2 q)
theorem SndI.k {f : SI} (h : SndI C X tg e f) {P : List D × SD → Prop} {Q : List D → SD → Prop} (w : W (f S) P) (k : ∀ d S1, P (d, S1) → Q d S1) : ItQ C X tg e S Q := h S Q (W_mono w fun p q => k p.1 p.2 q)
theorem SndAR.k {f : SD → T (List RD × SD)} (h : SndAR C X es f) {P : List RD × SD → Prop} {Q : List RD → SD → Prop} (w : W (f S) P) (k : ∀ d S1, P (d, S1) → Q d S1) : EvAR C X es S Q := h S Q (W_mono w fun p q => k p.1 p.2 q)
theorem SndAP.k {f : SD → T (List PD × SD)} (h : SndAP C X es f) {P : List PD × SD → Prop} {Q : List PD → SD → Prop} (w : W (f S) P) (k : ∀ d S1, P (d, S1) → Q d S1) : EvAP C X es S Q := h S Q (W_mono w fun p q => k p.1 p.2 q)
theorem W.no {α : Type} {Q : α → Prop} {G : Prop} (w : W (T.fail : T α) Q) : G := False.elim w
end

def vQ (i : Nat) : SQ := fun S => match S[i]? with
  | some (.val d) => .ret (d, S)
  | some (.own xs) => .ret (.lst xs, S.set i (.val (.lst xs)))
  | some (.dct ks xs) => .ret (.dct ks xs, S.set i (.val (.dct ks xs)))
  | _ => .fail
def vP (i : Nat) : SP := fun S => match S[i]? with
  | some (.val d) => .ret (.d d, S)
  | some (.own _) => .ret (.own i, S)
  | some (.dct ks xs) => .ret (.d (.dct ks xs), S.set i (.val (.dct ks xs)))
  | _ => .fail
def vM (i : Nat) : SR := fun S => match S[i]? with
  | some (.val d) => .ret (.d d, S)
  | some (.own xs) => .ret (.own xs, S.set i .none)
  | some (.dct ks xs) => .ret (.d (.dct ks xs), S.set i (.val (.dct ks xs)))
  | _ => .fail
def cQ (d : D) : SQ := fun S => .ret (d, S)
def rq (f : SQ) : SR := fun S => (f S).bind fun p => .ret (.d p.1, p.2)
def qr (f : SR) : SQ := fun S => (f S).bind fun p => .ret (p.1.fz, p.2)
def pq (f : SQ) : SP := fun S => (f S).bind fun p => .ret (.d p.1, p.2)
def un1 (op : D → T D) (f : SQ) : SQ := fun S => (f S).bind fun p => (op p.1).bind fun z => .ret (z, p.2)
def bin2 (op : D → D → T D) (f g : SQ) : SQ := fun S => (f S).bind fun p => (g p.2).bind fun q => (op p.1 q.1).bind fun z => .ret (z, q.2)
def bin2R (op : D → D → T RD) (f g : SQ) : SR := fun S => (f S).bind fun p => (g p.2).bind fun q => (op p.1 q.1).bind fun z => .ret (z, q.2)
def seqO (S : SD) (p : PD) : T (List D) := match p.seq S with
  | some xs => .ret xs
  | _ => .fail
def un1P (op : List D → T D) (f : SP) : SQ := fun S => (f S).bind fun p => (seqO p.2 p.1).bind fun xs => (op xs).bind fun z => .ret (z, p.2)
def un1PR (op : List D → T RD) (f : SP) : SR := fun S => (f S).bind fun p => (seqO p.2 p.1).bind fun xs => (op xs).bind fun z => .ret (z, p.2)
def bin2P (op : List D → D → T D) (f : SP) (g : SQ) : SQ := fun S => (f S).bind fun p => (g p.2).bind fun q => (seqO q.2 p.1).bind fun xs => (op xs q.1).bind fun z => .ret (z, q.2)
def argsR : List SR → SD → T (List RD × SD)
  | [], S => .ret ([], S)
  | f :: fs, S => (f S).bind fun p => (argsR fs p.2).bind fun q => .ret (p.1 :: q.1, q.2)
def argsP : List SP → SD → T (List PD × SD)
  | [], S => .ret ([], S)
  | f :: fs, S => (f S).bind fun p => (argsP fs p.2).bind fun q => .ret (p.1 :: q.1, q.2)
def lenT {α : Type} (xs : List α) : T Unit := if xs.length ≤ 100000 then .ret () else .fail
def tupR (fs : List SR) : SR := fun S => (argsR fs S).bind fun q => (lenT q.1).bind fun _ => .ret (.tup q.1, q.2)
def lstR (fs : List SR) : SR := fun S => (argsR fs S).bind fun q => (lenT q.1).bind fun _ => .ret (.own (RD.fzs q.1), q.2)
def callR (g : List D → T RD) (fs : List SP) : SR := fun S => (argsP fs S).bind fun q => match PD.ats q.2 q.1 with
  | some ds => (g ds).bind fun r => .ret (r, behind q.1 q.2 r)
  | _ => .fail
def ifR (c : SC) (f g : SR) : SR := fun S => (c S).bind fun p => if p.1 then f p.2 else g p.2
def ifQ (c : SC) (f g : SQ) : SQ := fun S => (c S).bind fun p => if p.1 then f p.2 else g p.2
def truC (f : SQ) : SC := fun S => (f S).bind fun p => match truD p.1 with
  | some k => .ret (k, p.2)
  | _ => .fail
def notC (c : SC) : SC := fun S => (c S).bind fun p => .ret (!p.1, p.2)
def andC (c d : SC) : SC := fun S => (c S).bind fun p => if p.1 then d p.2 else .ret (false, p.2)
def orC (c d : SC) : SC := fun S => (c S).bind fun p => if p.1 then .ret (true, p.2) else d p.2
def boolT : D → T Bool
  | .bl b => .ret b
  | _ => .fail
def andQ (f g : SQ) : SQ := fun S => (f S).bind fun p => (boolT p.1).bind fun b => if b then g p.2 else .ret (.bl false, p.2)
def orQ (f g : SQ) : SQ := fun S => (f S).bind fun p => (boolT p.1).bind fun b => if b then .ret (.bl true, p.2) else g p.2
def cmp2 (op : D → D → T Bool) (f g : SQ) : SC := fun S => (f S).bind fun p => (g p.2).bind fun q => (op p.1 q.1).bind fun z => .ret (z, q.2)
def cmpQ (c : SC) : SQ := fun S => (c S).bind fun p => .ret (.bl p.1, p.2)
def nxS : SS := fun S => .ret (.nx S)
def seqS (f g : SS) : SS := fun S => (f S).bind fun o => match o with
  | .nx S1 => g S1
  | o => .ret o
def retS (f : SR) : SS := fun S => (f S).bind fun p => .ret (.rt p.1)
def failS : SS := fun _ => .fail
def ifS (c : SC) (f g : SS) : SS := fun S => (c S).bind fun p => if p.1 then f p.2 else g p.2
def setS (i : Nat) (f : SR) : SS := fun S => (f S).bind fun p => .ret (.nx (putS i p.1 p.2))
def exprS (f : SQ) : SS := fun S => (f S).bind fun p => .ret (.nx p.2)
def asgS (f : SR) (g : SG) : SS := fun S => (f S).bind fun p => (g p.1 p.2).bind fun S1 => .ret (.nx S1)
def par2S (i j : Nat) (f g : SR) : SS := fun S => (f S).bind fun p => (g p.2).bind fun q => .ret (.nx (putS j q.1 (putS i p.1 q.2)))
def nameG (i : Nat) : SG := fun r S => .ret (putS i r S)
def tgsG : List SG → List RD → SD → T SD
  | [], [], S => .ret S
  | g :: gs, r :: rs, S => (g r S).bind fun S1 => tgsG gs rs S1
  | _, _, _ => .fail
def tupG (gs : List SG) : SG := fun r S => match r.parts with
  | some rs => tgsG gs rs S
  | _ => .fail
def loopT (tg : SG) (body : SS) : List D → SD → T Out
  | [], S => .ret (.nx S)
  | x :: xs, S => (tg (.d x) S).bind fun S1 => (body S1).bind fun o => match o with
    | .nx S2 => loopT tg body xs S2
    | .ct S2 => loopT tg body xs S2
    | .bk S2 => .ret (.nx S2)
    | .rt r => .ret (.rt r)
def forS (it : SI) (tg : SG) (body : SS) : SS := fun S => (it S).bind fun p => loopT tg body p.1 p.2
def whileT (c : SC) (body : SS) : Nat → SD → T Out
  | 0, _ => .fail
  | n + 1, S => (c S).bind fun p => if p.1 then (body p.2).bind fun o => match o with
      | .nx S2 => whileT c body n S2
      | .ct S2 => whileT c body n S2
      | .bk S2 => .ret (.nx S2)
      | .rt r => .ret (.rt r)
    else .ret (.nx p.2)
def whileS (c : SC) (body : SS) : SS := whileT c body 10000
def augS (i : Nat) (f : Int → Int → Int) (g : SQ) : SS := fun S => match S[i]? with
  | some (.val (.int u)) => (g S).bind fun p => match p.1 with
    | .int v => .ret (.nx (p.2.set i (.val (.int (f u v)))))
    | _ => .fail
  | _ => .fail
def endT (o : Out) : T RD := match o with
  | .nx _ => .ret (.d .non)
  | .rt r => .ret r
  | _ => .fail
def defT (n : Nat) (body : SS) (ds : List D) : T RD := (body (ds.map Slot.val ++ List.replicate (n - ds.length) Slot.none)).bind endT

section
variable {C : Cfg} {X : Cx} {e a b c : Expr} {es rest : List Expr} {f g : SQ} {pos : Pos}
theorem q_var {i : Nat} {x : Str} (hN : X.N[i]? = some x := by rfl)
    (hv : Vis X.env.scope x := by first | exact Or.inl rfl | exact Or.inr (Or.inl rfl) | exact Or.inr (Or.inr rfl)) (hd : (x == ("__debug__" : Str)) = false := by decide) (hcd : (x == ("__classdict__" : Str)) = false := by decide) : SndQ C X (.Name x pos) (vQ i) := fun S Q w => by
  unfold vQ at w
  cases hS : S[i]? with
  | none => rw [hS] at w; exact w.elim
  | some sl =>
    rw [hS] at w
    cases sl with
    | none => exact w.elim
    | val d => exact ev_name hS w hN hv hd hcd
    | own xs => exact ev_own hS w hN hv hd hcd
    | dct ks xs => exact ev_dctName hS w hN hv hd hcd
theorem p_var {i : Nat} {x : Str} (hN : X.N[i]? = some x := by rfl)
    (hv : Vis X.env.scope x := by first | exact Or.inl rfl | exact Or.inr (Or.inl rfl) | exact Or.inr (Or.inr rfl)) (hd : (x == ("__debug__" : Str)) = false := by decide) (hcd : (x == ("__classdict__" : Str)) = false := by decide) : SndP C X (.Name x pos) (vP i) := fun S Q w => by
  unfold vP at w
  cases hS : S[i]? with
  | none => rw [hS] at w; exact w.elim
  | some sl =>
    rw [hS] at w
    cases sl with
    | none => exact w.elim
    | val d => exact ep_ev (ev_name hS w hN hv hd hcd)
    | own xs => exact ep_own hS w hN hv hd hcd
    | dct ks xs => exact ep_ev (ev_dctName hS w hN hv hd hcd)
theorem r_var {i : Nat} {x : Str} (hN : X.N[i]? = some x := by rfl)
    (hv : Vis X.env.scope x := by first | exact Or.inl rfl | exact Or.inr (Or.inl rfl) | exact Or.inr (Or.inr rfl)) (hd : (x == ("__debug__" : Str)) = false := by decide) (hcd : (x == ("__classdict__" : Str)) = false := by decide) : SndR C X (.Name x pos) (vM i) := fun S Q w => by
  unfold vM at w
  cases hS : S[i]? with
  | none => rw [hS] at w; exact w.elim
  | some sl =>
    rw [hS] at w
    cases sl with
    | none => exact w.elim
    | val d => exact er_d (ev_name hS w hN hv hd hcd)
    | own xs => exact er_mv hS w hN hv hd hcd
    | dct ks xs => exact er_d (ev_dctName hS w hN hv hd hcd)
theorem r_q (h : SndQ C X e f) : SndR C X e (rq f) := fun S Q w => er_d (h.u (W_bind.mp w))
theorem q_r {f : SR} (h : SndR C X e f) : SndQ C X e (qr f) := fun S Q w => ev_r (h.u (W_bind.mp w))
theorem p_q (h : SndQ C X e f) : SndP C X e (pq f) := fun S Q w => ep_ev (h.u (W_bind.mp w))
theorem q_int {i : Int} {j} : SndQ C X (.Constant (.int i) j pos) (cQ (.int i)) := fun S Q w => ev_int w
theorem q_bl {i : Bool} {j} : SndQ C X (.Constant (.bool i) j pos) (cQ (.bl i)) := fun S Q w => ev_bl w
theorem q_non {j} : SndQ C X (.Constant .none j pos) (cQ .non) := fun S Q w => ev_non w
theorem q_str {i : Str} {j} : SndQ C X (.Constant (.str i) j pos) (cQ (.str i)) := fun S Q w => ev_str w
theorem q_gI {x : Str} {i : Int} (h : ∃ t, X.mg x = some (.int i t)) (hg : Gl X x := by rfl) (hd : (x == ("__debug__" : Str)) = false := by decide) : SndQ C X (.Name x pos) (cQ (.int i)) := fun S Q w => ev_gI h w hg hd
theorem q_gS {x : Str} {i : Str} (h : ∃ t, X.mg x = some (.str i t)) (hg : Gl X x := by rfl) (hd : (x == ("__debug__" : Str)) = false := by decide) : SndQ C X (.Name x pos) (cQ (.str i)) := fun S Q w => ev_gS h w hg hd
theorem snd2 {op : D → D → T D} (ha : SndQ C X a f) (hb : SndQ C X b g) {S : SD} {Q : D → SD → Prop} {Kp : D → D → SD → Prop} (w : W (bin2 op f g S) fun p => Q p.1 p.2) (k : ∀ x y S2, W (op x y) (fun z => Q z S2) → Kp x y S2) : EvQ C X a S fun x S1 => EvQ C X b S1 fun y S2 => Kp x y S2 :=
  ev_mono (ha.u (W_bind.mp w)) fun x S1 w1 => ev_mono (hb.u (W_bind.mp w1)) fun y S2 w2 => k x y S2 (W_bind.mp w2)
theorem snd2C {op : D → D → T Bool} (ha : SndQ C X a f) (hb : SndQ C X b g) {S : SD} {Q : Bool → SD → Prop} {Kp : D → D → SD → Prop} (w : W (cmp2 op f g S) fun p => Q p.1 p.2) (k : ∀ x y S2, W (op x y) (fun z => Q z S2) → Kp x y S2) : EvQ C X a S fun x S1 => EvQ C X b S1 fun y S2 => Kp x y S2 :=
  ev_mono (ha.u (W_bind.mp w)) fun x S1 w1 => ev_mono (hb.u (W_bind.mp w1)) fun y S2 w2 => k x y S2 (W_bind.mp w2)
def iOp (h : Int → Int → Int) : D → D → T D
  | .int i, .int j => .ret (.int (h i j))
  | _, _ => .fail
theorem iOp_w {h : Int → Int → Int} {x y : D} {Q : D → Prop} (w : W (iOp h x y) Q) : ∃ i j, x = .int i ∧ y = .int j ∧ Q (.int (h i j)) := by
  cases x <;> first | (cases y <;> first | exact ⟨_, _, rfl, rfl, w⟩ | exact w.elim) | exact w.elim
def iOpC (c : Int → Int → Bool) (h : Int → Int → Int) : D → D → T D
  | .int i, .int j => if c i j then .ret (.int (h i j)) else .fail
  | _, _ => .fail
def iMod : D → D → T D := iOpC (fun _ j => decide (0 < j)) (· % ·)
def iDiv : D → D → T D := iOpC (fun _ j => decide (0 < j ∧ j < 1073741824)) (· / ·)
def iMul : D → D → T D := iOpC (fun i j => decide ((-(2 ^ 64) < i ∧ i < 2 ^ 64) ∨ (-(2 ^ 64) < j ∧ j < 2 ^ 64))) (· * ·)
theorem q_addI (ha : SndQ C X a f) (hb : SndQ C X b g) : SndQ C X (.BinOp a .Add b pos) (bin2 (iOp (· + ·)) f g) := fun S Q w => ev_add (snd2 ha hb w fun x y S2 => iOp_w)
theorem q_subI (ha : SndQ C X a f) (hb : SndQ C X b g) : SndQ C X (.BinOp a .Sub b pos) (bin2 (iOp (· - ·)) f g) := fun S Q w => ev_sub (snd2 ha hb w fun x y S2 => iOp_w)
def iNeg : D → T D
  | .int i => .ret (.int (-i))
  | _ => .fail
def iAbs : D → T D
  | .int i => .ret (.int (if i < 0 then -i else i))
  | _ => .fail
def iId : D → T D
  | .int i => .ret (.int i)
  | .bl k => .ret (.int (if k then 1 else 0))
  | _ => .fail
theorem snd1 {op : D → T D} (ha : SndQ C X a f) {S : SD} {Q : D → SD → Prop} {Kp : D → SD → Prop} (w : W (un1 op f S) fun p => Q p.1 p.2) (k : ∀ x S2, W (op x) (fun z => Q z S2) → Kp x S2) : EvQ C X a S Kp :=
  ev_mono (ha.u (W_bind.mp w)) fun x S1 w1 => k x S1 (W_bind.mp w1)
theorem c_tru (h : SndQ C X e f) (hK : C.K = X.K := by rfl) (he : ∀ whole, isTrue e X.env whole = (do let v ← whole; standAt e.pos; holding [v] (truthy v)) := by intro _; rfl) : SndC C X e (truC f) := fun S Q w =>
  ec_tru (ev_mono (h.u (W_bind.mp w)) fun d S1 w => by
    cases q : truD d with
    | none => rw [q] at w; exact w.elim
    | some k => rw [q] at w; exact ⟨k, rfl, w⟩) hK he
variable {cf df : SC}
theorem c_not (h : SndC C X a cf) : SndC C X (.UnaryOp .Not a pos) (notC cf) := fun S Q w => ec_not (h.u (W_bind.mp w))
theorem c_w (h : SndW C X e cf) : SndC C X e cf := fun S Q w => ec_w (h S Q w)
theorem w_and1 (h : SndC C X a cf) : SndW C X (.BoolOp .And [a] pos) cf := fun S Q w => ew_and1 (h S Q w)
theorem w_or1 (h : SndC C X a cf) : SndW C X (.BoolOp .Or [a] pos) cf := fun S Q w => ew_or1 (h S Q w)
theorem w_and (h : SndC C X a cf) (k : SndW C X (.BoolOp .And (b :: rest) pos) df) : SndW C X (.BoolOp .And (a :: b :: rest) pos) (andC cf df) := fun S Q w =>
  ew_and (ec_mono (h.u (W_bind.mp w)) fun t S1 w1 => ⟨fun ht => by subst ht; exact k S1 Q w1, fun ht => by subst ht; exact w1⟩)
theorem w_or (h : SndC C X a cf) (k : SndW C X (.BoolOp .Or (b :: rest) pos) df) : SndW C X (.BoolOp .Or (a :: b :: rest) pos) (orC cf df) := fun S Q w =>
  ew_or (ec_mono (h.u (W_bind.mp w)) fun t S1 w1 => ⟨fun ht => by subst ht; exact k S1 Q w1, fun ht => by subst ht; exact w1⟩)
theorem boolT_w {x : D} {Q : Bool → Prop} (w : W (boolT x) Q) : ∃ k, x = .bl k ∧ Q k := by
  cases x <;> first | exact ⟨_, rfl, w⟩ | exact w.elim
theorem q_one {op : BoolOp} (h : SndQ C X a f) : SndQ C X (.BoolOp op [a] pos) f := fun S Q w => ev_one (h S Q w)
theorem q_and (h : SndQ C X a f) (k : SndQ C X (.BoolOp .And (b :: rest) pos) g) : SndQ C X (.BoolOp .And (a :: b :: rest) pos) (andQ f g) := fun S Q w =>
  ev_and (ev_mono (h.u (W_bind.mp w)) fun x S1 w1 => by
    obtain ⟨t, rfl, w2⟩ := boolT_w (W_bind.mp w1)
    exact ⟨t, rfl, fun ht => by subst ht; exact k S1 Q w2, fun ht => by subst ht; exact w2⟩)
def nQ (f : SQ) : SQ := fun S => (f S).bind fun p => (boolT p.1).bind fun b => .ret (.bl (!b), p.2)
theorem q_not (h : SndQ C X a f) : SndQ C X (.UnaryOp .Not a pos) (nQ f) := fun S Q w => ev_not (ev_mono (h.u (W_bind.mp w)) fun x S1 w1 => by
    obtain ⟨t, rfl, w2⟩ := boolT_w (W_bind.mp w1)
    exact ⟨t, rfl, w2⟩)
def iCmp (h : Int → Int → Bool) : D → D → T Bool
  | .int i, .int j => .ret (h i j)
  | _, _ => .fail
theorem iCmp_w {h : Int → Int → Bool} {x y : D} {Q : Bool → Prop} (w : W (iCmp h x y) Q) : ∃ i j, x = .int i ∧ y = .int j ∧ Q (h i j) := by
  cases x <;> first | (cases y <;> first | exact ⟨_, _, rfl, rfl, w⟩ | exact w.elim) | exact w.elim
def eqT (x y : D) : T Bool := if okN 8 x && okN 8 y then .ret (eqD x y) else .fail
def neT (x y : D) : T Bool := if okN 8 x && okN 8 y then .ret (!eqD x y) else .fail
theorem eqT_w {x y : D} {Q : Bool → Prop} (w : W (eqT x y) Q) : okN 8 x = true ∧ okN 8 y = true ∧ Q (eqD x y) := by
  unfold eqT at w
  split at w
  · rename_i h
    rw [Bool.and_eq_true] at h
    exact ⟨h.1, h.2, w⟩
  · exact w.elim
theorem neT_w {x y : D} {Q : Bool → Prop} (w : W (neT x y) Q) : okN 8 x = true ∧ okN 8 y = true ∧ Q (!eqD x y) := by
  unfold neT at w
  split at w
  · rename_i h
    rw [Bool.and_eq_true] at h
    exact ⟨h.1, h.2, w⟩
  · exact w.elim
theorem cmpQ_w {cf : SC} {S : SD} {Q : D → SD → Prop} (w : W (cmpQ cf S) fun p => Q p.1 p.2) : W (cf S) fun p => Q (.bl p.1) p.2 := W_bind.mp w
theorem c_gt (ha : SndQ C X a f) (hb : SndQ C X b g) : SndC C X (.Compare a [.Gt] [b] pos) (cmp2 (iCmp fun i j => decide (j < i)) f g) := fun S Q w => ec_gt (snd2C ha hb w fun x y S2 => iCmp_w)
theorem q_eq {k : Nat} (hr : Room k X.A) (ha : SndQ C X a f) (hb : SndQ C X b g) (hK : C.K = X.K := by rfl) : SndQ C X (.Compare a [.Eq] [b] pos) (cmpQ (cmp2 eqT f g)) := fun S Q w => ev_eqD hr (snd2C (Q := fun k S => Q (.bl k) S) ha hb (cmpQ_w w) fun x y S2 => eqT_w) hK
theorem c_eq {k : Nat} (hr : Room k X.A) (ha : SndQ C X a f) (hb : SndQ C X b g) (hK : C.K = X.K := by rfl) : SndC C X (.Compare a [.Eq] [b] pos) (cmp2 eqT f g) := fun S Q w => ec_eqD hr (snd2C ha hb w fun x y S2 => eqT_w) hK
theorem c_ne {k : Nat} (hr : Room k X.A) (ha : SndQ C X a f) (hb : SndQ C X b g) (hK : C.K = X.K := by rfl) : SndC C X (.Compare a [.NotEq] [b] pos) (cmp2 neT f g) := fun S Q w => ec_neD hr (snd2C ha hb w fun x y S2 => neT_w) hK
def leleC (f g h : SQ) : SC := fun S => (f S).bind fun p => (g p.2).bind fun q => (iCmp (fun i j => decide (i ≤ j)) p.1 q.1).bind fun k => if k then (h q.2).bind fun r => (iCmp (fun i j => decide (i ≤ j)) q.1 r.1).bind fun k => .ret (k, r.2) else .ret (false, q.2)
theorem lele_w {S : SD} {h : SQ} {Q : Bool → SD → Prop} (ha : SndQ C X a f) (hb : SndQ C X b g) (hc : SndQ C X c h) (w : W (leleC f g h S) fun p => Q p.1 p.2) : EvQ C X a S fun x S1 => EvQ C X b S1 fun y S2 => ∃ i j, x = .int i ∧ y = .int j ∧ (i ≤ j → EvQ C X c S2 fun z S3 => ∃ l, z = .int l ∧ Q (decide (j ≤ l)) S3) ∧ (¬ i ≤ j → Q false S2) :=
  ev_mono (ha.u (W_bind.mp w)) fun x S1 w1 => ev_mono (hb.u (W_bind.mp w1)) fun y S2 w2 => by
    obtain ⟨i, j, rfl, rfl, w3⟩ := iCmp_w (W_bind.mp w2)
    refine ⟨i, j, rfl, rfl, fun hij => ?_, fun hij => ?_⟩
    · rw [decide_eq_true hij] at w3
      exact ev_mono (hc.u (W_bind.mp w3)) fun z S3 w4 => by
        obtain ⟨j', l, e1, rfl, w5⟩ := iCmp_w (W_bind.mp w4)
        cases e1
        exact ⟨l, rfl, w5⟩
    · rw [decide_eq_false hij] at w3
      exact w3
theorem c_lele {h : SQ} (ha : SndQ C X a f) (hb : SndQ C X b g) (hc : SndQ C X c h) (hm : lastMarks [.LtE, .LtE] [b, c] = false := by with_unfolding_all rfl) : SndC C X (.Compare a [.LtE, .LtE] [b, c] pos) (leleC f g h) := fun S Q w => ec_lele (lele_w ha hb hc w) hm
theorem q_lele {h : SQ} (ha : SndQ C X a f) (hb : SndQ C X b g) (hc : SndQ C X c h) (hm : lastMarks [.LtE, .LtE] [b, c] = false := by with_unfolding_all rfl) : SndQ C X (.Compare a [.LtE, .LtE] [b, c] pos) (cmpQ (leleC f g h)) := fun S Q w => ev_lele (lele_w (Q := fun k S => Q (.bl k) S) ha hb hc (cmpQ_w w)) hm
def isNC (f : SQ) : SC := fun S => (f S).bind fun p => .ret (isNon p.1, p.2)
theorem c_isN {j} {pos' : Pos} (h : SndQ C X a f) : SndC C X (.Compare a [.Is] [.Constant .none j pos'] pos) (isNC f) := fun S Q w => ec_isN (h.u (W_bind.mp w))
theorem q_isN {j} {pos' : Pos} (h : SndQ C X a f) : SndQ C X (.Compare a [.Is] [.Constant .none j pos'] pos) (cmpQ (isNC f)) := fun S Q w => ev_isN (ev_mono (h.u (W_bind.mp (cmpQ_w w))) fun d S1 q => q)
def bCmp (h : Bool → Bool → Bool) : D → D → T Bool
  | .bl i, .bl j => .ret (h i j)
  | _, _ => .fail
end

section
variable {C : Cfg} {X : Cx} {e a b c iter tg : Expr} {es rest ts : List Expr} {pos : Pos} {st : Stmt} {sts sa sb body : List Stmt}
theorem ar_nil : SndAR C X [] (argsR []) := fun S Q w => ear_nil w
theorem ar_cons {f : SR} {fs : List SR} (h : SndR C X e f) (t : SndAR C X es (argsR fs)) (hs : starEach (e :: es) X.env = (false, eval e X.env) :: starEach es X.env := by rfl) : SndAR C X (e :: es) (argsR (f :: fs)) := fun S Q w =>
  ear_cons (fun tmp σ H F s R k => h S (fun r S1 => EvAR C X es S1 fun rs S2 => Q (r :: rs) S2) (W_mono (W_bind.mp w) fun p w1 => t p.2 _ (W_bind.mp w1)) tmp σ H F s R k) hs
theorem ap_nil : SndAP C X [] (argsP []) := fun S Q w => eap_nil w
theorem ap_cons {f : SP} {fs : List SP} (h : SndP C X e f) (t : SndAP C X es (argsP fs)) (hs : starEach (e :: es) X.env = (false, eval e X.env) :: starEach es X.env := by rfl) : SndAP C X (e :: es) (argsP (f :: fs)) := fun S Q w =>
  eap_cons (fun tmp σ H F s R k => h S (fun r S1 => EvAP C X es S1 fun rs S2 => Q (r :: rs) S2) (W_mono (W_bind.mp w) fun p w1 => t p.2 _ (W_bind.mp w1)) tmp σ H F s R k) hs
theorem lenT_w {α : Type} {xs : List α} {Q : Unit → Prop} (w : W (lenT xs) Q) : xs.length ≤ 100000 ∧ Q () := by
  unfold lenT at w
  split at w
  · exact ⟨by assumption, w⟩
  · exact w.elim
theorem r_tup {n : Nat} {fs : List SR} (h : SndAR C X es (argsR fs)) : SndR C X (.Tuple es n pos) (tupR fs) := fun S Q w =>
  er_tup (h.k (W_bind.mp w) fun rs S1 w1 => lenT_w (W_bind.mp w1))
theorem r_lst {fs : List SR} (h : SndAR C X es (argsR fs)) : SndR C X (.List es pos) (lstR fs) := fun S Q w =>
  er_l (el_lst (Q := fun xs S' => Q (.own xs) S') fun tmp σ H F s R k => h S (fun rs S1 => rs.length ≤ 100000 ∧ Q (.own (RD.fzs rs)) S1) (W_mono (W_bind.mp w) fun p w1 => lenT_w (W_bind.mp w1)) tmp σ H F s R fun vs H' F' rs fp S' s' e' r' ⟨hl, q⟩ => by
    obtain ⟨F2, s2, e2, q2⟩ := s'.fzTmp
    have hlen : (RD.fzs rs).length = rs.length := by
      have : ∀ l : List RD, (RD.fzs l).length = l.length := fun l => by induction l with | nil => rfl | cons x l ih => simp [RD.fzs, ih]
      exact this rs
    exact k vs H' F2 (RD.fzs rs) S' s2 (Same.trans e' e2) ((r'.mono e2).fz q2) ⟨by rw [hlen]; exact hl, q⟩)
theorem r_call {k : Nat} {ps : List Str} {x : Str} {p : Pos} {gT : List D → T RD} {fs : List SP} (G : DefR X.prog X.w X.K X.mg X.base C.T k x ps fun ds R => W (gT ds) R) (hr : Room k X.A) (h : SndAP C X (e :: es) (argsP fs))
    (hK : C.K = X.K := by rfl) (hgt : C.g = true := by rfl) (hg : Gl X x := by rfl) (hdb : (x == ("__debug__" : Str)) = false := by decide) (he : starEach (e :: es) X.env = (false, eval e X.env) :: starEach es X.env := by rfl) (hpl : (backTo pos (starEach es X.env)).any (·.1) = false := by rfl) :
    SndR C X (.Call (.Name x p) (e :: es) [] pos) (callR gT fs) := fun S Q w =>
  er_callD G hr (h.k (W_bind.mp w) fun q S1 w1 => by
    have w1 : W (match PD.ats S1 q with | some ds => (gT ds).bind fun r => .ret (r, behind q S1 r) | _ => .fail) fun p => Q p.1 p.2 := w1
    cases hq : PD.ats S1 q with
    | none => rw [hq] at w1; exact w1.no
    | some ds => rw [hq] at w1; exact ⟨ds, rfl, W_bind.mp w1⟩) hK hgt hg hdb he hpl
theorem s_nil : SndSs C X [] nxS := fun S E w => rxs_nil w
theorem s_cons {f g : SS} (h : SndS C X st f) (t : SndSs C X sts g) : SndSs C X (st :: sts) (seqS f g) := fun S E w =>
  rxs_cons (h S _ (W_mono (W_bind.mp w) fun o w1 => by
    cases o with
    | nx S1 => exact t S1 E w1
    | rt r => exact w1
    | bk S1 => exact w1
    | ct S1 => exact w1))
theorem s_one {f : SS} (h : SndS C X st f) : SndSs C X [st] f := fun S E w =>
  rxs_cons (h S _ (W_mono w fun o w1 => by
    cases o with
    | nx S1 => exact rxs_nil w1
    | rt r => exact w1
    | bk S1 => exact w1
    | ct S1 => exact w1))
theorem s_ret {f : SR} (h : SndR C X e f) : SndS C X (.Return (some e) pos) (retS f) := fun S E w => rx_ret (h.u (W_bind.mp w))
theorem s_fail : SndS C X st failS := fun S E w => w.elim
theorem s_if {cf : SC} {f g : SS} (h : SndC C X c cf) (h1 : SndSs C X sa f) (h2 : SndSs C X sb g) : SndS C X (.If c sa sb pos) (ifS cf f g) := fun S E w =>
  rx_if (ec_mono (h.u (W_bind.mp w)) fun k S1 w1 => ⟨fun hk => by subst hk; exact h1 S1 E w1, fun hk => by subst hk; exact h2 S1 E w1⟩)
theorem s_set {f : SR} {i : Nat} {x : Str} {pos' : Pos} (hN : X.N.Nodup) (h : SndR C X e f) (hi : X.N[i]? = some x := by rfl) (hx : Loc X.env.scope x := by first | exact Or.inl rfl | exact Or.inr rfl)
    (hs : swapsWith e (some (.Name x pos')) pos.line X.env = pure false := by rfl) (hf : X.fn x = true ∨ X.env.scope.names.lookup x = some .local := by first | exact .inl rfl | exact .inr rfl | assumption) : SndS C X (.Assign [.Name x pos'] e pos) (setS i f) := fun S E w =>
  rx_set hN (h.u (W_bind.mp w)) hi hx hs hf
theorem s_expr {f : SQ} (h : SndQ C X e f) (hs : swapsWith e none pos.line X.env = pure false := by rfl) : SndS C X (.Expr e pos) (exprS f) := fun S E w => rx_expr (h S (fun _ S1 => E.nx S1) (W_bind.mp w)) hs
theorem g_name {i : Nat} {x : Str} (hN : X.N.Nodup) (hi : X.N[i]? = some x := by rfl) (hx : Loc X.env.scope x := by first | exact Or.inl rfl | exact Or.inr rfl)
    (hf : X.fn x = true ∨ X.env.scope.names.lookup x = some .local := by first | exact .inl rfl | exact .inr rfl | assumption) : SndG C X (.Name x pos) (nameG i) := fun r S Q w => asr_name hN w hi hx hf
theorem gs_nil : SndGs C X [] (tgsG []) := fun rs S Q w => by
  cases rs with
  | nil => exact asrs_nil w
  | cons r rs => exact w.elim
theorem gs_cons {t : Expr} {g : SG} {gs : List SG} (h : SndG C X t g) (k : SndGs C X ts (tgsG gs)) (hp : PGs X (t :: ts) (gCons (CanG X t) (CanGs X ts)) := by exact pgs_cons pg_can pgs_can) : SndGs C X (t :: ts) (tgsG (g :: gs)) := fun rs S Q w => by
  cases rs with
  | nil => exact w.elim
  | cons r rs =>
    have w1 : W (g r S) fun S1 => W (tgsG gs rs S1) Q := W_bind.mp w
    exact asrs_cons (h r S _ (W_mono w1 fun S1 w2 => k rs S1 Q w2)) hp
theorem tgs_len : ∀ {gs : List SG} {rs : List RD} {S : SD} {Q : SD → Prop}, W (tgsG gs rs S) Q → rs.length = gs.length
  | [], [], _, _, _ => rfl
  | [], _ :: _, _, _, w => w.elim
  | _ :: _, [], _, _, w => w.elim
  | g :: gs, r :: rs, S, Q, w => by
    have w1 : W (g r S) fun S1 => W (tgsG gs rs S1) Q := W_bind.mp w
    rw [List.length_cons, List.length_cons]
    have : ∀ {t : T SD}, W t (fun S1 => W (tgsG gs rs S1) Q) → rs.length = gs.length := fun {t} => by
      induction t with
      | ret a => exact fun w => tgs_len w
      | fail => exact fun w => w.elim
      | exc x => exact fun w => w.elim
      | draw n k ih => exact fun w => ih 0 (w.2 0 (Int.le_refl _) (by have := w.1; omega))
    rw [this w1]
theorem gt_tup {k : Nat} {gs : List SG} (h : SndGs C X ts (tgsG gs)) (hK : C.K = X.K := by rfl) (hc : X.calm = true := by rfl) (hn : (assignEach ts X.env).length = gs.length := by rfl) (hst : (assignEach ts X.env).findIdx? (·.1) = none := by rfl) : SndG C X (.Tuple ts k pos) (tupG gs) := fun r S Q w => by
  unfold tupG at w
  cases hr : r.parts with
  | none => rw [hr] at w; exact w.elim
  | some rs =>
    rw [hr] at w
    exact asr_tup hr (h rs S Q w) (tgs_len w) hK hc hn hst
theorem s_asg {f : SR} {g : SG} (h : SndR C X e f) (k : SndG C X tg g) (hs : swapsWithSole [tg] e pos.line X.env = pure false := by rfl) (hw : swappedStores [tg] e X.env = pure none := by rfl)
    (h1 : (assignEach [tg] X.env).map (·.2) = [assign tg X.env] := by rfl) : SndS C X (.Assign [tg] e pos) (asgS f g) := fun S E w =>
  rx_asg (h.k (W_bind.mp w) fun r S1 w1 => k r S1 _ (W_bind.mp w1)) hs hw h1
theorem loop_ok {g : SG} {f : SS} (hg : SndG C X tg g) (hb : SndSs C X body f) {E : RE} {xs : List D} (i : Nat) (x : D) (S : SD) (hx : xs[i]? = some x) (w : W (loopT g f (xs.drop i) S) (OutP E)) :
    AsR C X tg (.d x) S fun S2 => Rxs C X body S2 { nx := fun S3 => W (loopT g f (xs.drop (i + 1)) S3) (OutP E), rt := E.rt, bk := E.nx, ct := fun S3 => W (loopT g f (xs.drop (i + 1)) S3) (OutP E) } := by
  obtain ⟨hi, he⟩ := List.getElem?_eq_some_iff.mp hx
  rw [List.drop_eq_getElem_cons hi, he] at w
  have w1 : W (g (.d x) S) fun S1 => W ((f S1).bind fun o => match o with | .nx S2 => loopT g f (xs.drop (i + 1)) S2 | .ct S2 => loopT g f (xs.drop (i + 1)) S2 | .bk S2 => .ret (.nx S2) | .rt r => .ret (.rt r)) (OutP E) := W_bind.mp w
  refine hg (.d x) S _ (W_mono w1 fun S1 w2 => hb S1 _ (W_mono (W_bind.mp w2) fun o w3 => ?_))
  cases o with
  | nx S2 => exact w3
  | ct S2 => exact w3
  | bk S2 => exact w3
  | rt r => exact w3
theorem s_for {it : SI} {g : SG} {f : SS} (hi : SndI C X tg iter it) (hg : SndG C X tg g) (hb : SndSs C X body f) (hc : X.calm = true := by rfl) (hx : X.xe = (fun _ _ => False) := by rfl) (hs : ∀ x, foldedSetIterable iter X.env x = pure x := by intro _; rfl) :
    SndS C X (.For tg iter body [] pos) (forS it g f) := fun S E w =>
  rx_for (hi.k (W_bind.mp w) fun xs S1 w1 => ⟨fun i S => W (loopT g f (xs.drop i) S) (OutP E), w1, fun i x S hx iv => loop_ok hg hb i x S hx iv, fun S iv => by
    have iv : W (loopT g f (xs.drop xs.length) S) (OutP E) := iv
    rw [List.drop_length] at iv
    exact iv⟩) hc hx hs
end

theorem def_sem {P : Program} {w : World} {K : PySem.W.Frag} {mg : Str → Option Value} {base : Heap} {Tb : Tbs} {x : Str} {st : Stmt} {N ps : List Str} {k : Nat} {f : SS} (Dt : DefT K mg base Tb x st ps) (Sc : FnScope N ps (defScope st))
    (h : ∀ (c Pt fa : Addr), TabB base mg c Pt → Pt ∈ Tb → ∀ (A : Around) (outer : List Env) (s : Shared) (H : Hp) (E : XK), Room k (A.deeper (envOfC x (defScope st) s.heap.objs.size fa (.ref c))) → ∀ (sa : Addr) (H0 F0 : Hp),
      SndSs ⟨K, Tb, sa, true, H0, F0⟩ (BX P w K mg base N x (defScope st) fa c A outer s H E) (defBody st) f) :
    DefR P w K mg base Tb (k + 1) x ps fun ds R => ds.length = ps.length ∧ W (defT N.length f ds) R :=
  defR_of Dt Sc (fun ds R h => h.1) fun c Pt fa TB hP A outer s H E hr sa H0 F0 ds R ⟨hl, hw⟩ => h c Pt fa TB hP A outer s H E hr sa H0 F0 _ _ (W_mono (W_bind.mp hw) fun o w1 => by
    cases o with
    | nx S1 => exact w1
    | rt r => exact w1
    | bk S1 => exact w1.elim
    | ct S1 => exact w1.elim)
theorem DefR.weak {P : Program} {w : World} {K : PySem.W.Frag} {mg : Str → Option Value} {base : Heap} {Tb : Tbs} {x : Str} {ps : List Str} {k : Nat} {m m' : MR} (h : DefR P w K mg base Tb k x ps m) (q : ∀ ds R, m' ds R → m ds R) : DefR P w K mg base Tb k x ps m' := by
  obtain ⟨f, fd, F, h1, h2, h3⟩ := h
  refine ⟨f, fd, ⟨fun vs H Q E ⟨st, F1, ds, R, b, r, hm, z⟩ => F.len vs H Q E ⟨st, F1, ds, R, b, r, q _ _ hm, z⟩, fun A outer s H args us vs Q E hr e0 hb rr ⟨st, F1, ds, R, b, r, hm, z⟩ => F.run A outer s H args us vs Q E hr e0 hb rr ⟨st, F1, ds, R, b, r, q _ _ hm, z⟩⟩, h1, h2, h3⟩
def arity (n : Nat) (f : List D → T RD) (ds : List D) : T RD := if ds.length = n then f ds else .fail
theorem def_sem' {P : Program} {w : World} {K : PySem.W.Frag} {mg : Str → Option Value} {base : Heap} {Tb : Tbs} {x : Str} {ps : List Str} {k : Nat} {f : List D → T RD} (h : DefR P w K mg base Tb k x ps fun ds R => ds.length = ps.length ∧ W (f ds) R) : DefR P w K mg base Tb k x ps fun ds R => W (arity ps.length f ds) R :=
  h.weak fun ds R w => by
    unfold arity at w
    split at w
    · exact ⟨by assumption, w⟩
    · exact w.elim
end Dm

namespace Dm
open PySem PySem.Spec PyProof.Rows L2
open GxR (TabB TabG Tabbed)
section
variable {C : Cfg} {X : Cx} {e a b c iter tg : Expr} {es rest ts : List Expr} {pos p p2 : Pos} {f g : SQ} {pf : SP}
def isiT (T : String) (d : D) : Dm.T D := if plain d then .ret (.bl (kitT T d)) else .fail
theorem isiT_w {T : String} {d : D} {Q : D → Prop} (hk : ∀ d, plain d = true → kitB (tyS d) T = some (kitT T d)) (w : W (isiT T d) Q) : plain d = true ∧ ∃ k, kitB (tyS d) T = some k ∧ Q (.bl k) := by
  unfold isiT at w
  split at w
  · rename_i h
    exact ⟨h, _, hk d h, w⟩
  · exact False.elim w
theorem q_isi {T : String} {y : Str} (hk : ∀ d, plain d = true → kitB (tyS d) T = some (kitT T d)) (hv : bootBuiltins y = some (.type T)) (hm2 : X.mg y = none) (hm : X.mg "isinstance" = none) (h : SndQ C X a f)
    (hg : Gl X "isinstance" := by rfl) (hg2 : Gl X y := by rfl) (hK : C.K = X.K := by rfl) (hn : y ≠ "__name__" := by decide) (hd : (y == ("__debug__" : Str)) = false := by decide)
    (he : starEach [a, .Name y p2] X.env = (false, eval a X.env) :: starEach [.Name y p2] X.env := by rfl) (he2 : starEach [.Name y p2] X.env = (false, eval (.Name y p2) X.env) :: starEach [] X.env := by rfl) (hpl : (backTo pos (starEach [.Name y p2] X.env)).any (·.1) = false := by rfl) :
    SndQ C X (.Call (.Name "isinstance" p) [a, .Name y p2] [] pos) (un1 (isiT T) f) := fun S Q w =>
  ev_isi hv hm2 hm (snd1 h w fun x S2 => isiT_w hk) hg hg2 hK hn hd he he2 hpl
theorem seqO_w {S : SD} {pd : PD} {Q : List D → Prop} (w : W (seqO S pd) Q) : ∃ xs, pd.seq S = some xs ∧ Q xs := by
  unfold seqO at w
  cases h : pd.seq S with
  | none => rw [h] at w; exact w.no
  | some xs => rw [h] at w; exact ⟨xs, rfl, w⟩
theorem snd1P {op : List D → T D} (ha : SndP C X a pf) {S : SD} {Q : D → SD → Prop} {Kp : PD → SD → Prop} (w : W (un1P op pf S) fun p => Q p.1 p.2) (k : ∀ pd xs S2, pd.seq S2 = some xs → W (op xs) (fun z => Q z S2) → Kp pd S2) : EvP C X a S Kp :=
  ha.k (W_bind.mp w) fun pd S1 w1 => by
    obtain ⟨xs, h, w2⟩ := seqO_w (W_bind.mp w1)
    exact k pd xs S1 h (W_bind.mp w2)
def lenOp (xs : List D) : T D := .ret (.int xs.length)
theorem q_len (hm : X.mg "len" = none) (h : SndP C X a pf) (hg : Gl X "len" := by rfl) (hK : C.K = X.K := by rfl)
    (he : starEach [a] X.env = (false, eval a X.env) :: starEach [] X.env := by rfl) : SndQ C X (.Call (.Name "len" p) [a] [] pos) (un1P lenOp pf) := fun S Q w =>
  ev_len hm (snd1P h w fun pd xs S2 hx w => ⟨xs, hx, w⟩) hg hK he
def lenS : D → T D
  | .str z => if z.length ≤ 100000 then .ret (.int z.length) else .fail
  | _ => .fail
theorem q_lenS (hm : X.mg "len" = none) (h : SndQ C X a f) (hg : Gl X "len" := by rfl)
    (he : starEach [a] X.env = (false, eval a X.env) :: starEach [] X.env := by rfl) : SndQ C X (.Call (.Name "len" p) [a] [] pos) (un1 lenS f) := fun S Q w =>
  ev_lenS hm (snd1 h w fun x S2 w => by
    cases x <;> first | exact False.elim w | skip
    rename_i z
    unfold lenS at w
    dsimp only at w
    split at w
    · exact ⟨z, rfl, sz_of (by assumption), w⟩
    · exact False.elim w) hg he
def ixOp (xs : List D) : D → T D
  | .int i => match L2.atI xs i with
    | some d => .ret d
    | _ => .fail
  | _ => .fail
theorem q_ix (h : SndP C X a pf) (k : SndQ C X b g) (hs : PlainIx b := by exact fun _ _ => rfl) (hK : C.K = X.K := by rfl) : SndQ C X (.Subscript a b pos) (bin2P ixOp pf g) := fun S Q w =>
  ev_ix (h.k (W_bind.mp w) fun pd S1 w1 => k.k (W_bind.mp w1) fun y S2 w2 => by
    obtain ⟨xs, hx, w3⟩ := seqO_w (W_bind.mp w2)
    have w4 : W (ixOp xs y) fun z => Q z S2 := W_bind.mp w3
    cases y <;> first | exact False.elim w4 | skip
    rename_i i
    unfold ixOp at w4
    dsimp only at w4
    cases hd : L2.atI xs i with
    | none => rw [hd] at w4; exact w4.no
    | some d => rw [hd] at w4; exact ⟨xs, i, d, hx, rfl, hd, w4⟩) hs hK
def ixS : D → D → T D
  | .str z, .int i => if z.length ≤ 100000 then (match L2.atI z.cps.toList i with
    | some n => .ret (.str ⟨#[n]⟩)
    | _ => .fail) else .fail
  | _, _ => .fail
theorem q_ixS (h : SndQ C X a f) (k : SndQ C X b g) (hs : PlainIx b := by exact fun _ _ => rfl) : SndQ C X (.Subscript a b pos) (bin2 ixS f g) := fun S Q w =>
  ev_ixS (snd2 h k w fun x y S2 w => by
    cases x <;> first | (cases y <;> first | exact False.elim w | skip) | exact False.elim w
    rename_i z i
    unfold ixS at w
    dsimp only at w
    split at w
    · rename_i hz
      cases hd : L2.atI z.cps.toList i with
      | none => rw [hd] at w; exact w.no
      | some n => rw [hd] at w; exact ⟨z, i, n, rfl, rfl, sz_of hz, hd, w⟩
    · exact False.elim w) hs
abbrev SO := SD → T (Option Int × SD)
def SndO (C : Cfg) (X : Cx) (o : Option Expr) (f : SO) : Prop := ∀ (S : SD) (Q : Option Int → SD → Prop), W (f S) (fun p => Q p.1 p.2) → EvO C X o S Q
theorem SndO.k {o : Option Expr} {f : SO} (h : SndO C X o f) {S : SD} {P : Option Int × SD → Prop} {Q : Option Int → SD → Prop} (w : W (f S) P) (k : ∀ d S1, P (d, S1) → Q d S1) : EvO C X o S Q := h S Q (W_mono w fun p q => k p.1 p.2 q)
def oN : SO := fun S => .ret (none, S)
def intT : D → T Int
  | .int i => .ret i
  | _ => .fail
theorem intT_w {x : D} {Q : Int → Prop} (w : W (intT x) Q) : ∃ i, x = .int i ∧ Q i := by
  cases x <;> first | exact ⟨_, rfl, w⟩ | exact False.elim w
def oS (f : SQ) : SO := fun S => (f S).bind fun p => (intT p.1).bind fun i => .ret (some i, p.2)
theorem o_none : SndO C X none oN := fun S Q w => eo_none w
theorem o_some (h : SndQ C X e f) : SndO C X (some e) (oS f) := fun S Q w => eo_some (h.k (W_bind.mp w) fun d S1 w1 => intT_w (W_bind.mp w1))
variable {lo hi : Option Expr} {lf hf : SO}
def slQ (op : D → Option Int → Option Int → T D) (f : SQ) (lo hi : SO) : SQ := fun S => (f S).bind fun p => (lo p.2).bind fun q => (hi q.2).bind fun r => (op p.1 q.1 r.1).bind fun z => .ret (z, r.2)
def slTup : D → Option Int → Option Int → T D
  | .tup xs, i, j => .ret (.tup (Dm.cutD xs i j))
  | _, _, _ => .fail
def slL (f : SQ) (lo hi : SO) : SR := fun S => (f S).bind fun p => (lo p.2).bind fun q => (hi q.2).bind fun r => match p.1 with
  | .lst xs => .ret (.own (Dm.cutD xs q.1 r.1), r.2)
  | _ => .fail
theorem q_slT (h : SndQ C X a f) (h1 : SndO C X lo lf) (h2 : SndO C X hi hf) (hK : C.K = X.K := by rfl) : SndQ C X (.Subscript a (.Slice lo hi none p2) pos) (slQ slTup f lf hf) := fun S Q w =>
  ev_slT (h.k (W_bind.mp w) fun x S1 w1 => h1.k (W_bind.mp w1) fun i S2 w2 => h2.k (W_bind.mp w2) fun j S3 w3 => by
    have w4 : W (slTup x i j) fun z => Q z S3 := W_bind.mp w3
    cases x <;> first | exact False.elim w4 | skip
    exact ⟨_, rfl, w4⟩) hK
def revTup : D → T D
  | .tup xs => .ret (.tup xs.reverse)
  | _ => .fail
def addT : D → D → T D
  | .tup xs, .tup ys => if xs.length + ys.length ≤ 100000 then .ret (.tup (xs ++ ys)) else .fail
  | _, _ => .fail
def addL : D → D → T RD
  | .lst xs, .lst ys => if xs.length + ys.length ≤ 100000 then .ret (.own (xs ++ ys)) else .fail
  | _, _ => .fail
theorem q_addT (ha : SndQ C X a f) (hb : SndQ C X b g) (hK : C.K = X.K := by rfl) : SndQ C X (.BinOp a .Add b pos) (bin2 addT f g) := fun S Q w => ev_addT (snd2 ha hb w fun x y S2 w => by
  cases x <;> first | (cases y <;> first | exact False.elim w | skip) | exact False.elim w
  unfold addT at w
  dsimp only at w
  split at w
  · exact ⟨_, _, rfl, rfl, by assumption, w⟩
  · exact False.elim w) hK
theorem r_addL (ha : SndQ C X a f) (hb : SndQ C X b g) : SndR C X (.BinOp a .Add b pos) (bin2R addL f g) := fun S Q w =>
  er_l (el_addL (Q := fun xs S1 => Q (.own xs) S1) (ha.k (W_bind.mp w) fun x S1 w1 => hb.k (W_bind.mp w1) fun y S2 w2 => by
    have w : W (addL x y) fun z => Q z S2 := W_bind.mp w2
    cases x <;> first | (cases y <;> first | exact False.elim w | skip) | exact False.elim w
    unfold addL at w
    dsimp only at w
    split at w
    · exact ⟨_, _, rfl, rfl, by assumption, w⟩
    · exact False.elim w))
def flatD : D → Bool
  | .non => true
  | .bl _ => true
  | .int _ => true
  | .str _ => true
  | _ => false
theorem flat_v {K : PySem.W.Frag} {st : Addr} {F : Hp} {v : V} {d : D} (r : Rep K st F v d) (h : flatD d = true) : flatV v = true := by
  cases r <;> first | rfl | cases h
theorem flats_v {K : PySem.W.Frag} {st : Addr} {F : Hp} : ∀ {vs : List V} {xs : List D}, Reps K st F vs xs → xs.all flatD = true → vs.all flatV = true
  | _, _, .nil, _ => rfl
  | _, _, .cons h t, q => by
    rw [List.all_cons, Bool.and_eq_true] at q ⊢
    exact ⟨flat_v h q.1, flats_v t q.2⟩
theorem eqV_D {K : PySem.W.Frag} {st : Addr} {F : Hp} {v u : V} {x y : D} (r : Rep K st F v x) (q : Rep K st F u y) (hx : flatD x = true) (hy : flatD y = true) : eqV v u = eqD x y := by
  cases r <;> first | (cases hx; done) | (cases q <;> first | (cases hy; done) | (simp [eqV, eqD, pyD, PyData.eqv]; try (split <;> rfl); done) | (simp [eqV, eqD, pyD, PyData.eqv]))
theorem inV_D {K : PySem.W.Frag} {st : Addr} {F : Hp} {v : V} {x : D} (r : Rep K st F v x) (hx : flatD x = true) : ∀ {vs : List V} {xs : List D}, Reps K st F vs xs → xs.all flatD = true → inV v vs = xs.any fun y => eqD y x
  | _, _, .nil, _ => rfl
  | _, _, .cons h t, q => by
    rw [List.all_cons, Bool.and_eq_true] at q
    unfold inV
    rw [List.any_cons, List.any_cons, eqV_D h r q.1 hx]
    congr 1
    exact inV_D r hx t q.2
def inOp (x : D) (ys : List D) : T Bool := if flatD x && ys.all flatD then .ret (ys.any fun y => eqD y x) else .fail
def inC (op : D → List D → T Bool) (f : SQ) (g : SP) : SC := fun S => (f S).bind fun p => (g p.2).bind fun q => (seqO q.2 q.1).bind fun ys => (op p.1 ys).bind fun k => .ret (k, q.2)
theorem inOp_w {x : D} {ys : List D} {Q : Bool → Prop} (w : W (inOp x ys) Q) : flatD x = true ∧ ys.all flatD = true ∧ Q (ys.any fun y => eqD y x) := by
  unfold inOp at w
  split at w
  · rename_i h
    rw [Bool.and_eq_true] at h
    exact ⟨h.1, h.2, w⟩
  · exact False.elim w
theorem c_inG {neg : Bool} {op : CmpOp} (ho : OpR X (compareOp op) (rIn X.K neg)) (hm : behindInMarks op b = false) (ha : SndQ C X a f) (hb : SndP C X b pf) (hK : C.K = X.K) : SndC C X (.Compare a [op] [b] pos) (if neg then notC (inC inOp f pf) else inC inOp f pf) := fun S Q w => by
  have w0 : W (inC inOp f pf S) fun p => Q (if neg then !p.1 else p.1) p.2 := by
    cases neg with
    | false => exact w
    | true => exact W_bind.mp w
  exact fun tmp σ H F s R r => of_pt (pt_cmpR ho pe_can pe_can hm) ((ha.u (W_bind.mp w0)) tmp σ H F s _ fun v H1 F1 x S1 s1 e1 r1 w1 => (hb.u (W_bind.mp w1)) tmp σ H1 F1 s1 _ fun u H2 F2 pd S2 s2 e2 r2 w2 => by
    obtain ⟨ys, hy, w3⟩ := seqO_w (W_bind.mp w2)
    obtain ⟨h1, h2, q⟩ := inOp_w (W_bind.mp w3)
    obtain ⟨p, vs, rfl, hs, rr⟩ := rep_seq s2 r2 hy
    have r1' := r1.mono e2
    rw [← hK]
    refine ⟨p, vs, rfl, hs, flat_v r1' h1, flats_v rr h2, ?_⟩
    rw [inV_D r1' h1 rr h2]
    exact ⟨_, rfl, r _ H2 F2 S2 s2 (Same.trans e1 e2) q⟩)
theorem c_notIn (ha : SndQ C X a f) (hb : SndP C X b pf) (hm : behindInMarks .NotIn b = false := by rfl) (hK : C.K = X.K := by rfl) : SndC C X (.Compare a [.NotIn] [b] pos) (notC (inC inOp f pf)) := c_inG (neg := true) op_notIn_seq hm ha hb hK
def sgnT : D → D → T Bool
  | .str x, .str z => match x.cps.toList with
    | [n] => .ret (decide (n ∈ z.cps.toList))
    | _ => .fail
  | _, _ => .fail
theorem sgnT_w {x y : D} {Q : Bool → Prop} (w : W (sgnT x y) Q) : ∃ (n : Nat) (z : Str), x = .str ⟨#[n]⟩ ∧ y = .str z ∧ Q (decide (n ∈ z.cps.toList)) := by
  cases x <;> first | (cases y <;> first | exact False.elim w | skip) | exact False.elim w
  rename_i x z
  unfold sgnT at w
  dsimp only at w
  split at w
  · rename_i n hn
    refine ⟨n, z, ?_, rfl, w⟩
    obtain ⟨⟨l⟩⟩ := x
    have : l = [n] := hn
    rw [this]
  · exact False.elim w
theorem q_inS (ha : SndQ C X a f) (hb : SndQ C X b g) (hm : behindInMarks .In b = false := by rfl) : SndQ C X (.Compare a [.In] [b] pos) (cmpQ (cmp2 sgnT f g)) := fun S Q w => ev_inSign (snd2C (Q := fun k S => Q (.bl k) S) ha hb (cmpQ_w w) fun x y S2 => sgnT_w) hm
def tupOp (xs : List D) : T D := .ret (.tup xs)
theorem q_tupleOf (hm : X.mg "tuple" = none) (h : SndP C X a pf) (hg : Gl X "tuple" := by rfl) (hK : C.K = X.K := by rfl)
    (he : starEach [a] X.env = (false, eval a X.env) :: starEach [] X.env := by rfl) : SndQ C X (.Call (.Name "tuple" p) [a] [] pos) (un1P tupOp pf) := fun S Q w =>
  ev_tupleOf hm (snd1P h w fun pd xs S2 hx w => ⟨xs, hx, w⟩) hg hK he
theorem snd1PR {op : List D → T RD} (ha : SndP C X a pf) {S : SD} {Q : RD → SD → Prop} {Kp : PD → SD → Prop} (w : W (un1PR op pf S) fun p => Q p.1 p.2) (k : ∀ pd xs S2, pd.seq S2 = some xs → W (op xs) (fun z => Q z S2) → Kp pd S2) : EvP C X a S Kp :=
  ha.k (W_bind.mp w) fun pd S1 w1 => by
    obtain ⟨xs, h, w2⟩ := seqO_w (W_bind.mp w1)
    exact k pd xs S1 h (W_bind.mp w2)
def ownOp (xs : List D) : T RD := .ret (.own xs)
theorem r_listOf (hm : X.mg "list" = none) (h : SndP C X a pf) (hg : Gl X "list" := by rfl) (hK : C.K = X.K := by rfl)
    (he : starEach [a] X.env = (false, eval a X.env) :: starEach [] X.env := by rfl) : SndR C X (.Call (.Name "list" p) [a] [] pos) (un1PR ownOp pf) := fun S Q w =>
  er_l (el_listOf (Q := fun xs S1 => Q (.own xs) S1) hm (snd1PR h w fun pd xs S2 hx w => ⟨xs, hx, w⟩) hg hK he)
def bools : List D → Option (List Bool)
  | [] => some []
  | .bl b :: xs => (bools xs).map (b :: ·)
  | _ => none
theorem bools_ok : ∀ {xs : List D} {bs : List Bool}, bools xs = some bs → xs = bs.map D.bl
  | [], bs, h => by cases h; rfl
  | x :: xs, bs, h => by
    cases x <;> first | (simp [bools] at h; done) | skip
    rename_i b
    simp only [bools, Option.map_eq_some_iff] at h
    obtain ⟨a, h1, rfl⟩ := h
    rw [bools_ok h1]; rfl
def allL (f : SP) : SQ := fun S => (f S).bind fun p => if isTupP p.1 then .fail else (seqO p.2 p.1).bind fun xs => match bools xs with
  | some bs => .ret (.bl (bs.all id), p.2)
  | _ => .fail
theorem q_allL (hm : X.mg "all" = none) (h : SndP C X a pf) (hg : Gl X "all" := by rfl) (hK : C.K = X.K := by rfl) (hc : X.calm = true := by rfl)
    (he : starEach [a] X.env = (false, eval a X.env) :: starEach [] X.env := by rfl) : SndQ C X (.Call (.Name "all" p) [a] [] pos) (allL pf) := fun S Q w =>
  ev_allL hm (h.k (W_bind.mp w) fun pd S1 w1 => by
    dsimp only at w1
    split at w1
    · exact False.elim w1
    · rename_i ht
      obtain ⟨xs, hx, w2⟩ := seqO_w (W_bind.mp w1)
      cases hb : bools xs with
      | none => rw [hb] at w2; exact w2.no
      | some bs =>
        rw [hb] at w2
        exact ⟨bs, by simpa using ht, by rw [hx, bools_ok hb], w2⟩) hg hK hc he
def anyL (f : SP) : SQ := fun S => (f S).bind fun p => if isTupP p.1 then .fail else (seqO p.2 p.1).bind fun xs => match bools xs with
  | some bs => .ret (.bl (bs.any id), p.2)
  | _ => .fail
def intsO : List D → Option (List Int)
  | [] => some []
  | .int b :: xs => (intsO xs).map (b :: ·)
  | _ => none
theorem intsO_ok : ∀ {xs : List D} {bs : List Int}, intsO xs = some bs → xs = bs.map D.int
  | [], bs, h => by cases h; rfl
  | x :: xs, bs, h => by
    cases x <;> first | (simp [intsO] at h; done) | skip
    rename_i b
    simp only [intsO, Option.map_eq_some_iff] at h
    obtain ⟨a, h1, rfl⟩ := h
    rw [intsO_ok h1]; rfl
@[simp] theorem intsO_map : ∀ (ns : List Int), intsO (ns.map D.int) = some ns
  | [] => rfl
  | n :: ns => by rw [List.map_cons, intsO, intsO_map ns]; rfl
def strsO : List D → Option (List Str)
  | [] => some []
  | .str b :: xs => (strsO xs).map (b :: ·)
  | _ => none
@[simp] theorem strsO_map : ∀ (ns : List Str), strsO (ns.map D.str) = some ns
  | [] => rfl
  | n :: ns => by rw [List.map_cons, strsO, strsO_map ns]; rfl
def insI (x : Int) : List Int → List Int
  | [] => [x]
  | y :: ys => if x ≤ y then x :: y :: ys else y :: insI x ys
def sortI : List Int → List Int
  | [] => []
  | x :: xs => insI x (sortI xs)
def sortedI (f : SP) : SR := fun S => (f S).bind fun p => if isTupP p.1 then .fail else (seqO p.2 p.1).bind fun xs => match intsO xs with
  | some ns => if ns.length < 64 then .ret (.own ((sortI ns).map D.int), p.2) else .fail
  | _ => .fail
end
end Dm

namespace Dm
open PySem PySem.Spec PyProof.Rows L2
open GxR (TabB TabG Tabbed)

abbrev SGW := D → SD → T SD
def SndGW (C : Cfg) (X : Cx) (vs : List Nat) (tg : Expr) (g : SGW) : Prop := ∀ (d : D) (S : SD) (Q : SD → Prop), W (g d S) Q → AsW C X vs tg d S Q
def SndTs (C : Cfg) (X : Cx) (ifs : List Expr) (f : SC) : Prop := ∀ (S : SD) (Q : Bool → SD → Prop), W (f S) (fun p => Q p.1 p.2) → TsQ C X ifs S Q
def nameW (i : Nat) : SGW := fun d S => .ret (S.set i (Slot.val d))
def tgsW : List SGW → List D → SD → T SD
  | [], [], S => .ret S
  | g :: gs, r :: rs, S => (g r S).bind fun S1 => tgsW gs rs S1
  | _, _, _ => .fail
def tupW (gs : List SGW) : SGW := fun d S => match d with
  | .tup xs => tgsW gs xs S
  | .wt xs => tgsW gs xs S
  | _ => .fail
def yesC : SC := fun S => .ret (true, S)
def compT (vs : List Nat) (tg : SGW) (ifs : SC) (elt : SQ) : List D → List D → SD → T (List D × SD)
  | [], acc, S => .ret (acc, S)
  | x :: xs, acc, S => (tg x S).bind fun S1 => (ifs S1).bind fun p => if p.1 then (elt p.2).bind fun q => (lenT acc).bind fun _ => compT vs tg ifs elt xs (acc ++ [q.1]) (wipeS q.2 vs) else compT vs tg ifs elt xs acc (wipeS p.2 vs)
def compI (it : SI) (vs : List Nat) (tg : SGW) (ifs : SC) (elt : SQ) : SD → T (List D × SD) := fun S => (it S).bind fun p => compT vs tg ifs elt p.1 [] (wipeS p.2 vs)
def lcR (it : SI) (vs : List Nat) (tg : SGW) (ifs : SC) (elt : SQ) : SR := fun S => (compI it vs tg ifs elt S).bind fun q => .ret (.own q.1, q.2)
def tupGQ (it : SI) (vs : List Nat) (tg : SGW) (ifs : SC) (elt : SQ) : SQ := fun S => (compI it vs tg ifs elt S).bind fun q => (lenT q.1).bind fun _ => .ret (.tup q.1, q.2)
def allT (vs : List Nat) (tg : SGW) (ifs : SC) (elt : SQ) : List D → SD → T (D × SD)
  | [], S => .ret (.bl true, S)
  | x :: xs, S => (tg x S).bind fun S1 => (ifs S1).bind fun p => if p.1 then (elt p.2).bind fun q => (boolT q.1).bind fun b => if b then allT vs tg ifs elt xs (wipeS q.2 vs) else .ret (.bl false, wipeS q.2 vs) else allT vs tg ifs elt xs (wipeS p.2 vs)
def allGQ (it : SI) (vs : List Nat) (tg : SGW) (ifs : SC) (elt : SQ) : SQ := fun S => (it S).bind fun p => allT vs tg ifs elt p.1 (wipeS p.2 vs)
section
variable {C : Cfg} {X : Cx} {e a b c iter tg elt : Expr} {es rest ts ifs : List Expr} {pos p gpos : Pos} {f g ef : SQ} {cf : SC} {it : SI} {scope : Scope} {own : List (Str × Nat)} {vs : List Nat} {gw : SGW}
theorem gw_name {i : Nat} {x : Str} (hN : X.N.Nodup) (hm : i ∈ vs := by decide) (hi : X.N[i]? = some x := by rfl) (hx : Loc X.env.scope x := by first | exact Or.inl rfl | exact Or.inr rfl)
    (hf : X.fn x = true ∨ X.env.scope.names.lookup x = some .local := by first | exact .inl rfl | exact .inr rfl | assumption) : SndGW C X vs (.Name x pos) (nameW i) := fun d S Q w => asw_name hN w hm hi hx hf
theorem W_any {α : Type} {G : Prop} : ∀ {t : T α}, W t (fun _ => G) → G
  | .ret a, w => w
  | .fail, w => False.elim w
  | .exc x, w => False.elim w
  | .draw n k, w => W_any (w.2 0 (Int.le_refl _) (by have := w.1; omega))
theorem ts_none : SndTs C X [] yesC := fun S Q w => ts_nil w
theorem ts_c (h : SndC C X c cf) : SndTs C X [c] cf := fun S Q w => ts_oneC (h S Q w)
theorem turn_ok {All : (Cx → Prop) → Prop} (mono : ∀ {P Q : Cx → Prop}, All P → (∀ X, P X → Q X) → All Q) (hg : All fun X1 => SndGW C X1 vs tg gw) (ht : All fun X1 => SndTs C X1 ifs cf) (he : All fun X1 => SndQ C X1 elt ef) {x : D} {S : SD} {Kp : D → SD → Prop} {Sk : SD → Prop}
    (w : W (gw x S) fun S1 => W (cf S1) fun p => if p.1 then W (ef p.2) fun q => Kp q.1 (wipeS q.2 vs) else Sk (wipeS p.2 vs)) : TurnQ C All vs tg ifs elt x S Kp Sk :=
  mono hg fun X1 h1 => h1 x S _ (W_mono w fun S1 w1 => mono ht fun X2 h2 => h2 S1 _ (W_mono w1 fun q w2 => ⟨fun hk => mono he fun X3 h3 => h3 q.2 _ (by rw [if_pos hk] at w2; exact w2), fun hk => by rw [if_neg (by rw [hk]; exact Bool.false_ne_true)] at w2; exact w2⟩))
theorem lc_sem (hN : X.N.Nodup) (hi : SndI C X tg iter it) (hg : ForB X scope fun X1 => SndGW C X1 (own.map (·.2)) tg gw) (ht : ForB X scope fun X1 => SndTs C X1 ifs cf) (he : ForB X scope fun X1 => SndQ C X1 elt ef) {S : SD} {Q : List D → SD → Prop}
    (w : W (compI it (own.map (·.2)) gw cf ef S) fun q => Q q.1 q.2) : LcQ C X elt tg iter ifs scope (own.map (·.2)) S Q :=
  lq_gen (hi.k (W_bind.mp w) fun xs S1 w1 => ⟨fun i acc S2 => W (compT (own.map (·.2)) gw cf ef (xs.drop i) acc S2) fun q => Q q.1 q.2, w1, fun i x acc S2 hx iv => by
    obtain ⟨hlt, hxe⟩ := List.getElem?_eq_some_iff.mp hx
    dsimp only at iv
    rw [List.drop_eq_getElem_cons hlt, hxe] at iv
    refine turn_ok (All := ForB X scope) (fun h k a1 a2 a3 a4 a5 => k _ (h a1 a2 a3 a4 a5)) hg ht he ?_
    refine W_mono (W_bind.mp iv) fun S3 w3 => W_mono (W_bind.mp w3) fun q w4 => ?_
    try dsimp only at w4
    split at w4
    · rename_i hq
      rw [if_pos hq]
      refine W_mono (W_bind.mp w4) fun z w5 => ?_
      exact lenT_w (W_bind.mp w5)
    · rename_i hq
      rw [if_neg hq]
      exact w4, fun acc S2 iv => by
    dsimp only at iv
    rw [List.drop_length] at iv
    exact iv⟩)
theorem r_lc (hN : X.N.Nodup) (ok : BlkOk X.N X.env.scope scope own) (hi : SndI C X tg iter it) (hg : ForB X scope fun X1 => SndGW C X1 (own.map (·.2)) tg gw) (ht : ForB X scope fun X1 => SndTs C X1 ifs cf) (he : ForB X scope fun X1 => SndQ C X1 elt ef)
    (hc : X.calm = true := by rfl) (hs : ∀ x, foldedSetIterable iter X.env x = pure x := by intro _; rfl) : SndR C X (.ListComp elt [⟨tg, iter, ifs, 0⟩] scope pos) (lcR it (own.map (·.2)) gw cf ef) := fun S Q w =>
  er_l (el_of (QL := fun xs S1 => Q (.own xs) S1) hN ok (lc_sem hN hi hg ht he (Q := fun xs S1 => Q (.own xs) S1) (W_bind.mp w)) hc hs)
theorem s_lc {i : Nat} {y : Str} {py spos : Pos} (hN : X.N.Nodup) (ok : BlkOk X.N X.env.scope scope own) (hi : SndI C X tg iter it) (hg : ForB X scope fun X1 => SndGW C X1 (own.map (·.2)) tg gw) (ht : ForB X scope fun X1 => SndTs C X1 ifs cf) (he : ForB X scope fun X1 => SndQ C X1 elt ef)
    (hy : X.N[i]? = some y := by rfl) (hyl : X.env.scope.names.lookup y = some .local := by rfl) (hsw : swapsWith (.ListComp elt [⟨tg, iter, ifs, 0⟩] scope pos) (some (.Name y py)) spos.line X.env = pure true := by rfl)
    (hc : X.calm = true := by rfl) (hs : ∀ x, foldedSetIterable iter X.env x = pure x := by intro _; rfl) : SndS C X (.Assign [.Name y py] (.ListComp elt [⟨tg, iter, ifs, 0⟩] scope pos) spos) (setS i (lcR it (own.map (·.2)) gw cf ef)) := fun S E w =>
  rx_setLc hN ok (lc_sem hN hi hg ht he (Q := fun xs S1 => E.nx (S1.set i (Slot.own xs))) (W_mono (W_bind.mp (W_bind.mp w)) fun q w1 => w1)) hy hyl hsw hc hs
theorem forQ_mono {k : Nat} {P Q : Cx → Prop} (h : ForQ X scope k P) (q : ∀ X, P X → Q X) : ForQ X scope k Q := fun a1 a2 a3 a4 a5 a6 a7 a8 => q _ (h a1 a2 a3 a4 a5 a6 a7 a8)
theorem q_allG {cc Pt : Addr} {k : Nat} (hr : Room (k + 4) X.A) (hm : X.mg "all" = none) (TB : TabB X.base X.mg cc Pt) (hP : Pt ∈ C.T) (hcode : X.env.code = .ref cc) (hN : X.N.Nodup)
    (ok : BlkOk X.N X.env.scope scope own) (hnc : ∀ y ∈ scope.names, y.2 ≠ .cell) (hdot : scope.names.lookup (".0" : Str) = some NameKind.local)
    (hi : SndI C X tg iter it) (hgt : ForQ X scope k fun X1 => SndGW C X1 (own.map (·.2)) tg gw) (ht : ForQ X scope k fun X1 => SndTs C X1 ifs cf) (he : ForQ X scope k fun X1 => SndQ C X1 elt ef)
    (hg : Gl X "all" := by rfl) (hco : scope.isCoroutine = false := by rfl) (hs : ∀ v, genFold iter X.env v = pure v := by intro _; rfl)
    (hst : starEach [.GeneratorExp elt [⟨tg, iter, ifs, 0⟩] scope gpos] X.env = (false, eval (.GeneratorExp elt [⟨tg, iter, ifs, 0⟩] scope gpos) X.env) :: starEach [] X.env := by rfl) : SndQ C X (.Call (.Name "all" p) [.GeneratorExp elt [⟨tg, iter, ifs, 0⟩] scope gpos] [] pos) (allGQ it (own.map (·.2)) gw cf ef) := fun S Q w =>
  ev_allG hr hm TB hP hcode hN ok hnc hdot (hi.k (W_bind.mp w) fun xs S1 w1 => ⟨fun i S2 => W (allT (own.map (·.2)) gw cf ef (xs.drop i) S2) fun q => Q q.1 q.2, w1, fun i x S2 hx iv => by
    obtain ⟨hlt, hxe⟩ := List.getElem?_eq_some_iff.mp hx
    dsimp only at iv
    rw [List.drop_eq_getElem_cons hlt, hxe] at iv
    refine turn_ok (All := ForQ X scope k) (fun h q => forQ_mono h q) hgt ht he ?_
    refine W_mono (W_bind.mp iv) fun S3 w3 => W_mono (W_bind.mp w3) fun q w4 => ?_
    try dsimp only at w4
    split at w4
    · rename_i hq
      rw [if_pos hq]
      refine W_mono (W_bind.mp w4) fun z w5 => ?_
      obtain ⟨t, ht, w6⟩ := boolT_w (W_bind.mp w5)
      refine ⟨t, ht, ?_⟩
      split at w6
      · rename_i h; rw [if_pos h]; exact w6
      · rename_i h; rw [if_neg h]; exact w6
    · rename_i hq
      rw [if_neg hq]
      exact w4, fun S2 iv => by
    dsimp only at iv
    rw [List.drop_length] at iv
    exact iv⟩) hg hco hs hst
def iTup (f : SQ) : SI := fun S => (f S).bind fun p => match p.1 with
  | .tup xs => .ret (xs, p.2)
  | _ => .fail
def iLst (f : SQ) : SI := fun S => (f S).bind fun p => match p.1 with
  | .lst xs => .ret (xs, p.2)
  | _ => .fail
def iStr (f : SQ) : SI := fun S => (f S).bind fun p => match p.1 with
  | .str z => .ret (signsD z, p.2)
  | _ => .fail
def iRng (f : SQ) : SI := fun S => (f S).bind fun p => match p.1 with
  | .int n => if -1000000 ≤ n ∧ n ≤ 1000000 then .ret (rngD 0 n.toNat, p.2) else .fail
  | _ => .fail
def iRng2 (f g : SQ) : SI := fun S => (f S).bind fun p => (g p.2).bind fun q => match p.1, q.1 with
  | .int l, .int n => if -1000000 ≤ l ∧ l ≤ 1000000 ∧ -1000000 ≤ n ∧ n ≤ 1000000 then .ret (rngD l (n - l).toNat, q.2) else .fail
  | _, _ => .fail
def iZip (f g : SQ) : SI := fun S => (f S).bind fun p => (g p.2).bind fun q => match p.1, q.1 with
  | .tup xs, .tup ys => .ret (zipD xs ys, q.2)
  | .lst xs, .lst ys => .ret (zipD xs ys, q.2)
  | _, _ => .fail
theorem i_tup (h : SndQ C X iter f) (hK : C.K = X.K := by rfl) : SndI C X tg iter (iTup f) := fun S Q w => it_tup (h.k (W_bind.mp w) fun d S1 w1 => by
  cases d <;> first | exact False.elim w1 | skip
  exact ⟨_, rfl, w1⟩) hK
theorem i_lst (h : SndQ C X iter f) (hK : C.K = X.K := by rfl) : SndI C X tg iter (iLst f) := fun S Q w => it_lst (h.k (W_bind.mp w) fun d S1 w1 => by
  cases d <;> first | exact False.elim w1 | skip
  exact ⟨_, rfl, w1⟩) hK
theorem i_str (h : SndQ C X iter f) : SndI C X tg iter (iStr f) := fun S Q w => it_str (h.k (W_bind.mp w) fun d S1 w1 => by
  cases d <;> first | exact False.elim w1 | skip
  exact ⟨_, rfl, w1⟩)
theorem i_rng (hm : X.mg "range" = none) (h : SndQ C X a f) (hg : Gl X "range" := by rfl) (hs : starEach [a] X.env = [(false, eval a X.env)] := by rfl) : SndI C X tg (.Call (.Name "range" p) [a] [] pos) (iRng f) := fun S Q w => it_rng hm (h.k (W_bind.mp w) fun d S1 w1 => by
  cases d <;> first | exact False.elim w1 | skip
  dsimp only at w1
  split at w1
  · rename_i hn
    exact ⟨_, rfl, hn.1, hn.2, w1⟩
  · exact False.elim w1) hg hs
theorem i_rng2 (hm : X.mg "range" = none) (h : SndQ C X a f) (k : SndQ C X b g) (hg : Gl X "range" := by rfl)
    (hs : starEach [a, b] X.env = [(false, eval a X.env), (false, eval b X.env)] := by rfl) (hs2 : starEach [b] X.env = [(false, eval b X.env)] := by rfl) : SndI C X tg (.Call (.Name "range" p) [a, b] [] pos) (iRng2 f g) := fun S Q w => it_rng2 hm (h.k (W_bind.mp w) fun d S1 w1 => k.k (W_bind.mp w1) fun d2 S2 w2 => by
  cases d <;> first | (cases d2 <;> first | exact False.elim w2 | skip) | exact False.elim w2
  dsimp only at w2
  split at w2
  · rename_i hn
    exact ⟨_, _, rfl, rfl, hn.1, hn.2.1, hn.2.2.1, hn.2.2.2, w2⟩
  · exact False.elim w2) hg hs hs2
def appQ (i : Nat) (f : SQ) : SQ := fun S => match S[i]? with
  | some (.own _) => (f S).bind fun p => match p.2[i]? with
    | some (.own xs) => if xs.length ≤ 100000 then .ret (.non, p.2.set i (.own (xs ++ [p.1]))) else .fail
    | _ => .fail
  | _ => .fail
def popQ (i : Nat) (f : SQ) : SQ := fun S => match S[i]? with
  | some (.own _) => (f S).bind fun p => match p.1, p.2[i]? with
    | .int n, some (.own xs) => if 0 ≤ n ∧ xs.length ≤ 100000 then (match xs[n.toNat]? with
      | some y => .ret (y, p.2.set i (.own (xs.eraseIdx n.toNat)))
      | _ => .fail) else .fail
    | _, _ => .fail
  | _ => .fail
theorem own_w {S : SD} {i : Nat} {α : Type} {t : T α} {Q : α → Prop} (w : W (match S[i]? with | some (.own _) => t | _ => .fail) Q) : ∃ xs, S[i]? = some (Slot.own xs) ∧ W t Q := by
  cases hS : S[i]? with
  | none => rw [hS] at w; exact w.no
  | some sl =>
    rw [hS] at w
    cases sl <;> first | exact w.no | skip
    exact ⟨_, rfl, w⟩
theorem q_append {i : Nat} {x : Str} {apos cpos : Pos} (h : SndQ C X b f) (hN : X.N[i]? = some x := by rfl)
    (hv : Vis X.env.scope x := by first | exact Or.inl rfl | exact Or.inr (Or.inl rfl) | exact Or.inr (Or.inr rfl)) (hd : (x == ("__debug__" : Str)) = false := by decide) (hcd : (x == ("__classdict__" : Str)) = false := by decide)
    (hbase : attributeBase (.Name x p) "append" X.env (eval (.Name x p) X.env) = eval (.Name x p) X.env := by rfl)
    (hfew : ((backTo cpos (starEach [b] X.env)).all (fun x => !x.1) && (backToKw cpos (keywordEach [] X.env)).all (fun x => x.1.isSome)
      && decide (([b] : List Expr).length + ([] : List Keyword).length + (if ([] : List Keyword).isEmpty then 0 else 1) < 30)) = true := by rfl)
    (hline : (apos.endLine == cpos.line) = true := by rfl) (hs : starEach [b] X.env = (false, eval b X.env) :: starEach [] X.env := by rfl) (hplain : (backTo cpos (starEach [] X.env)).any (·.1) = false := by rfl) :
    SndQ C X (.Call (.Attribute (.Name x p) "append" apos) [b] [] cpos) (appQ i f) := fun S Q w => by
  obtain ⟨ys, hS, w1⟩ := own_w w
  refine ev_append (h.k (W_bind.mp w1) fun d S1 w2 => ?_) hS hN hv hd hcd hbase hfew hline hs hplain
  dsimp only at w2
  cases hS1 : S1[i]? with
  | none => rw [hS1] at w2; exact w2.no
  | some sl =>
    rw [hS1] at w2
    cases sl <;> first | exact w2.no | skip
    rename_i xs
    dsimp only at w2
    split at w2
    · exact ⟨xs, rfl, by assumption, w2⟩
    · exact w2.no
end
end Dm

namespace Dm
open PySem PySem.Spec PyProof.Rows L2
open GxR (TabB TabG Tabbed)
theorem Def.toR {P : Program} {w : World} {K : PySem.W.Frag} {mg : Str → Option Value} {base : Heap} {Tb : Tbs} {x : Str} {ps : List Str} {k : Nat} {m : MD} (h : Def P w K mg base Tb k x ps m) {m' : MR} (q : ∀ ds R, m' ds R → m ds fun d => R (.d d)) : DefR P w K mg base Tb k x ps m' := by
  obtain ⟨f, fd, F, h1, h2, h3⟩ := h
  have conv : ∀ vs H Q E, spR K Tb m' vs H Q E → spD K Tb m vs H Q E := fun vs H Q E ⟨st, F1, ds, R, b, r, hm, z⟩ => ⟨st, F1, ds, fun d => R (.d d), b, r, q ds R hm, fun v H' F' d b' g' r' hr => z v H' F' (.d d) [] b' g' (.d r') ⟨fun a xs m => (by cases m), (by simp)⟩ hr⟩
  exact ⟨f, fd, ⟨fun vs H Q E h => F.len vs H Q E (conv _ _ _ _ h), fun A outer s H args us vs Q E hr e0 hb rr h => F.run A outer s H args us vs Q E hr e0 hb rr (conv _ _ _ _ h)⟩, h1, h2, h3⟩
def sm_l_next : List D → T RD
  | [.strm, .int many] => if many ≤ 1000000 then .draw many fun d => .ret (.d (.int d)) else .fail
  | _ => .fail
theorem sm_next_w {ds : List D} {R : RD → Prop} (w : W (sm_l_next ds) R) : ∃ many : Int, ds = [.strm, .int many] ∧ 1 ≤ many ∧ many ≤ 1000000 ∧ ∀ d : Int, 0 ≤ d → d < many → R (.d (.int d)) := by
  unfold sm_l_next at w
  split at w
  · rename_i many
    split at w
    · exact ⟨many, rfl, w.1, by assumption, w.2⟩
    · exact False.elim w
  · exact False.elim w
section
variable {C : Cfg} {X : Cx} {e a b c iter tg o : Expr} {es rest ts : List Expr} {pos p p2 : Pos} {f g h : SQ} {pf : SP} {cf : SC}
def isLstP : PD → Bool
  | .d (.lst _) => true
  | .own _ => true
  | _ => false
def bin2L (op : List D → D → T D) (f : SP) (g : SQ) : SQ := fun S => (f S).bind fun p => if isLstP p.1 then (g p.2).bind fun q => (seqO q.2 p.1).bind fun xs => (op xs q.1).bind fun z => .ret (z, q.2) else .fail
end
end Dm

namespace Dm
open PySem PySem.Spec PyProof.Rows L2
open GxR (TabB TabG Tabbed)
def constK : Const → Option D
  | .none => some .non
  | .bool b => some (.bl b)
  | .int i => some (.int i)
  | .str z => some (.str z)
  | _ => none
def constE : Nat → Expr → Option D
  | _, .Constant k _ _ => constK k
  | _, .UnaryOp .USub (.Constant (.int i) _ _) _ => some (.int (-i))
  | n + 1, .Tuple es _ _ => ((es.mapM (constE n)).bind fun ds => if ds.length.ble 100000 then some (.tup ds) else none)
  | n + 1, .List es _ => ((es.mapM (constE n)).bind fun ds => if ds.length.ble 100000 then some (.lst ds) else none)
  | _, _ => none
section
variable {C : Cfg} {X : Cx} {e a b c iter tg o : Expr} {es rest ts : List Expr} {pos p p2 : Pos} {f g h : SQ} {pf : SP} {cf : SC}
theorem ev_constK {S : SD} {Q : D → SD → Prop} {k : Const} {j} {d : D} (h : constK k = some d) (q : Q d S) : EvQ C X (.Constant k j pos) S Q := by
  cases k <;> simp only [constK, Option.some.injEq, reduceCtorEq] at h <;> subst h
  · exact ev_non q
  · exact ev_bl q
  · exact ev_int q
  · exact ev_str q
def plainE : Expr → Bool
  | .Starred .. => false
  | _ => true
theorem star_plain {env : Env} (h : plainE e = true) : starEach (e :: es) env = (false, eval e env) :: starEach es env := by
  cases e <;> first | rfl | cases h
theorem constE_plain {n : Nat} {d : D} (h : constE n e = some d) : plainE e = true := by
  cases e <;> first | rfl | skip
  cases n <;> simp [constE] at h
theorem constsE_ok {n : Nat} (ih : ∀ {e : Expr} {d : D} {S : SD} {Q : D → SD → Prop}, constE n e = some d → Q d S → EvQ C X e S Q) : ∀ {es : List Expr} {ds : List D} {S : SD} {Q : List D → SD → Prop}, es.mapM (constE n) = some ds → Q ds S → EvA C X es S Q
  | [], ds, S, Q, h, q => by
    cases h
    exact ea_nil q
  | e :: es, ds, S, Q, h, q => by
    rw [List.mapM_cons] at h
    cases h1 : constE n e with
    | none => rw [h1] at h; cases h
    | some d =>
      rw [h1] at h
      cases h2 : es.mapM (constE n) with
      | none => rw [h2] at h; cases h
      | some ds' =>
        rw [h2] at h
        cases h
        exact ea_cons (ih h1 (constsE_ok ih h2 q)) (star_plain (constE_plain h1))
theorem constE_ok : ∀ (n : Nat) {e : Expr} {d : D} {S : SD} {Q : D → SD → Prop}, constE n e = some d → Q d S → EvQ C X e S Q := by
  intro n
  induction n with
  | zero =>
    intro e d S Q h q
    unfold constE at h
    split at h
    · exact ev_constK h q
    · cases h
      exact ev_neg (ev_int ⟨_, rfl, q⟩)
    · rename_i e; cases e
    · rename_i e; cases e
    · cases h
  | succ n ih =>
    intro e d S Q h q
    unfold constE at h
    split at h
    · exact ev_constK h q
    · cases h
      exact ev_neg (ev_int ⟨_, rfl, q⟩)
    · rename_i es k pos e1
      cases e1
      cases h1 : es.mapM (constE n) with
      | none => rw [h1] at h; cases h
      | some ds =>
        rw [h1] at h
        rw [Option.bind_some] at h
        split at h
        · rename_i hl
          cases h
          exact ev_tup (constsE_ok (fun h q => ih h q) h1 ⟨Nat.le_of_ble_eq_true hl, q⟩)
        · cases h
    · rename_i es pos e1
      cases e1
      cases h1 : es.mapM (constE n) with
      | none => rw [h1] at h; cases h
      | some ds =>
        rw [h1] at h
        rw [Option.bind_some] at h
        split at h
        · rename_i hl
          cases h
          exact ev_el (el_lst (constsE_ok (fun h q => ih h q) h1 ⟨Nat.le_of_ble_eq_true hl, q⟩))
        · cases h
    · cases h
def cR (xs : List D) : SR := fun S => .ret (.own xs, S)
theorem q_ce {d : D} (n : Nat) (h : constE n e = some d) : SndQ C X e (cQ d) := fun S Q w => constE_ok n h w
theorem r_ce {ds : List D} (n : Nat) (h : constE (n + 1) (.List es pos) = some (.lst ds)) : SndR C X (.List es pos) (cR ds) := fun S Q w => by
  rw [constE] at h
  cases h1 : es.mapM (constE n) with
  | none => rw [h1] at h; cases h
  | some ds' =>
    rw [h1] at h
    rw [Option.bind_some] at h
    split at h
    · rename_i hl
      cases h
      exact er_l (el_lst (Q := fun xs S1 => Q (.own xs) S1) (constsE_ok (fun h q => constE_ok n h q) h1 ⟨Nat.le_of_ble_eq_true hl, w⟩))
    · cases h
end
end Dm

namespace PySem
open Sem (wp)
open AutoSeq1 (wpAny_loadPart')
section
variable {prog : Program} {w : World} {A : Around} {E : Value → Shared → Prop} {s : Shared}
end
end PySem

namespace PySem
section
variable {prog : Program} {w : World} {A : Around} {E : Value → Shared → Prop} {s : Shared}
end
end PySem
namespace L2
open PySem PySem.Spec PyProof.Rows
end L2
namespace Dm
open PySem PySem.Spec PyProof.Rows L2
open GxR (TabB TabG Tabbed)
def enumD (xs : List D) : List D := xs.zipIdx.map fun p => D.wt [.int (p.2 : Nat), p.1]
section
variable {C : Cfg} {X : Cx} {S : SD} {tmp : Tmp} {σ : L2.St} {H F : Hp} {iter tg a : Expr} {p pos : Pos} {f : SQ}
def iEnum (f : SQ) : SI := fun S => (f S).bind fun p => match p.1 with
  | .tup xs => .ret (enumD xs, p.2)
  | .lst xs => .ret (enumD xs, p.2)
  | _ => .fail
end
end Dm

namespace L2
open PySem PySem.Spec PyProof.Rows
section
variable {X : Cx}
end
end L2
namespace Dm
open PySem PySem.Spec PyProof.Rows L2
open GxR (TabB TabG Tabbed)
section
variable {C : Cfg} {X : Cx} {e a b c iter tg o : Expr} {es rest ts : List Expr} {pos p p2 : Pos} {f g h : SQ} {pf : SP} {cf : SC}
def insQ (i : Nat) (f g : SQ) : SQ := fun S => match S[i]? with
  | some (.own _) => (f S).bind fun p => (g p.2).bind fun q => match p.1, q.2[i]? with
    | .int n, some (.own xs) => if 0 ≤ n ∧ n < 100000 ∧ xs.length < 100000 then .ret (.non, q.2.set i (.own (xs.take n.toNat ++ [q.1] ++ xs.drop n.toNat))) else .fail
    | _, _ => .fail
  | _ => .fail
def extQ (i : Nat) (f : SQ) : SQ := fun S => match S[i]? with
  | some (.own _) => (f S).bind fun p => match p.1, p.2[i]? with
    | .lst ys, some (.own xs) => if xs.length + ys.length ≤ 100000 then .ret (.non, p.2.set i (.own (xs ++ ys))) else .fail
    | _, _ => .fail
  | _ => .fail
theorem q_insert {i : Nat} {x : Str} {apos cpos : Pos} (h : SndQ C X a f) (h2 : SndQ C X b g) (hN : X.N[i]? = some x := by rfl)
    (hv : Vis X.env.scope x := by first | exact Or.inl rfl | exact Or.inr (Or.inl rfl) | exact Or.inr (Or.inr rfl)) (hd : (x == ("__debug__" : Str)) = false := by decide) (hcd : (x == ("__classdict__" : Str)) = false := by decide)
    (hbase : attributeBase (.Name x p) "insert" X.env (eval (.Name x p) X.env) = eval (.Name x p) X.env := by rfl)
    (hfew : ((backTo cpos (starEach [a, b] X.env)).all (fun x => !x.1) && (backToKw cpos (keywordEach [] X.env)).all (fun x => x.1.isSome)
      && decide (([a, b] : List Expr).length + ([] : List Keyword).length + (if ([] : List Keyword).isEmpty then 0 else 1) < 30)) = true := by rfl)
    (hline : (apos.endLine == cpos.line) = true := by rfl) (hs : starEach [a, b] X.env = (false, eval a X.env) :: starEach [b] X.env := by rfl) (hs2 : starEach [b] X.env = (false, eval b X.env) :: starEach [] X.env := by rfl) (hplain : (backTo cpos (starEach [b] X.env)).any (·.1) = false := by rfl) :
    SndQ C X (.Call (.Attribute (.Name x p) "insert" apos) [a, b] [] cpos) (insQ i f g) := fun S Q w tmp σ H F s R k => by
  obtain ⟨ys, hS, w1⟩ := own_w w
  refine of_pe (pe_bm PySem.F.plainAttrs_list PySem.F.slot_list_insert PySem.F.type_list_insert mt_insert (pe_var hN hv hd hcd) (pa_cons pe_can (pa_cons pe_can pa_nil hs2) hs) hbase hfew hline hs hplain) ?_
  obtain ⟨l, vs, h1, g2, g3, g4, g5⟩ := s.own i ys hS
  refine ⟨_, h1, .inl ⟨rfl, vs, .inl (.inl g4)⟩, h.u (W_bind.mp w1) tmp σ H F s _ fun v H1 F1 d S1 s1 e1 r1 w2 => h2.u (W_bind.mp w2) tmp σ H1 F1 s1 _ fun u H2 F2 d2 S2 s2 e2 r2 w3 => ?_⟩
  cases d <;> first | exact False.elim w3 | skip
  rename_i n
  dsimp only at w3
  cases hS2 : S2[i]? with
  | none => rw [hS2] at w3; exact w3.no
  | some sl =>
    rw [hS2] at w3
    cases sl <;> first | exact w3.no | skip
    rename_i xs
    dsimp only at w3
    split at w3
    · rename_i hn
      cases r1
      obtain ⟨l', us, q1, q2, q3, q4, q5⟩ := s2.own i xs hS2
      rw [h1] at q1
      cases q1
      refine ⟨l, us, n, u, rfl, rfl, q4, by rw [q5.length]; exact Nat.lt_of_lt_of_le hn.2.2 (by decide), hn.1, by have := hn.2.1; omega, ?_⟩
      exact k .non _ F2 .non _ (s2.write hS2 h1 (((q5.take n.toNat).append (.cons r2 .nil)).append (q5.drop n.toNat))) (Same.trans e1 e2) .non w3
    · exact w3.no
def inOpD (x : D) (ys : List D) : T Bool := if okN 8 x && okN 8 (.lst ys) then .ret (ys.any fun y => eqD y x) else .fail
def inCD (f : SQ) (g : SP) : SC := fun S => (f S).bind fun p => (g p.2).bind fun q => if isTupP q.1 then .fail else (seqO q.2 q.1).bind fun ys => (inOpD p.1 ys).bind fun k => .ret (k, q.2)
theorem DefR.mono {P : Program} {w : World} {K : PySem.W.Frag} {mg : Str → Option Value} {base : Heap} {Tb : Tbs} {x : Str} {ps : List Str} {k l : Nat} {m : MR} (h : DefR P w K mg base Tb k x ps m) (hl : k ≤ l) : DefR P w K mg base Tb l x ps m := by
  obtain ⟨f, fd, F, h1, h2, h3⟩ := h
  exact ⟨f, fd, F.mono hl, h1, h2, h3⟩
end
section
variable {P : Program} {w : World} {K : PySem.W.Frag} {mg : Str → Option Value} {base : Heap} {T : Tbs}
theorem law_ofR {fL c : Addr} {fd : FuncData} {sL st1 : Stmt} {N : List Str} {k j : Nat} {rest : List Stmt} (F : FunC K "law" "law" sL c fL fd) (Sc : FnScope N ["script"] (defScope sL)) (hst : defBody sL = st1 :: rest) (hj : j < N.length) (hN : 0 < N.length)
    (hbody : ∀ (A : Around) (outer : List Env) (s : Shared) (H : Hp) (E : XK), Room k (A.deeper (envOfC "law" (defScope sL) s.heap.objs.size fL (.ref c))) →
      PS (BX P w K mg base N "law" (defScope sL) fL c A outer s H E) st1 (tAsg (tCall (spStream K T) [] E0 (tCons (tVar 0) tNil)) (gName j)) ∧ ∀ (sa : Addr) (H0 F0 : Hp),
      Rxs ⟨K, T, sa, true, H0, F0⟩ (BX P w K mg base N "law" (defScope sL) fL c A outer s H E) rest ((List.replicate N.length Slot.none).set j (Slot.val .strm)) { nx := fun _ => False, rt := fun r => r.fz = .bl true }) : FnOk P w K mg base CX0 (k + 1) fL fd ["script"] (spLaw K T) := by
  obtain ⟨oc, od, kV, doc, pm, an, ct, osl, rfl, lk, hcd⟩ := F.ex
  refine fn_of lk hcd Sc (fun vs H Q E h => ?_) fun A outer s H vs Q E hr h => ?_
  · obtain ⟨a, ns, rfl, _⟩ := h
    rfl
  · obtain ⟨a, ns, rfl, hS, hT, hTl, q⟩ := h
    obtain ⟨h1, h2⟩ := hbody A outer s H E hr
    rw [hst]
    refine ⟨_, (pss_cons h1 pss_can).nox, ?_⟩
    refine ⟨.ref a, rfl, a, ns, rfl, hS, fun H' p qq sm e1 e2 hpq => ?_⟩
    have hl : (L2.start N [V.ref a]).length = N.length := by
      unfold L2.start
      rw [List.length_append, List.length_map, List.length_replicate, List.length_singleton]
      omega
    have nT : ∀ b xs, H' b = some (HO.lst xs) → ∀ ps, H' b ≠ some (.tbl ps) := fun b xs e ps z => by rw [e] at z; cases z
    have b0 : Base K T p true H' (fun b => if b = qq then some (HO.lst (ns.map V.int)) else none) := by
      refine ⟨fun b o e => ?_, fun b o e => ?_, fun P hP => ?_, fun p hp => (hTl p hp).ext sm, fun _ => ⟨if_neg hpq, qq, 0, 0, ns, e1, if_pos rfl, Int.le_refl _, Int.le_refl _⟩⟩
      · by_cases hb : b = qq
        · have z := (if_pos hb).symm.trans e
          cases z
          rw [hb]
          exact e2
        · have z := (if_neg hb).symm.trans e
          cases z
      · by_cases hb : b = qq
        · have z := (if_pos hb).symm.trans e
          cases z
          rfl
        · have z := (if_neg hb).symm.trans e
          cases z
      · obtain ⟨ps, g1, g2⟩ := hT P hP
        exact ⟨ps, sm _ _ g1, g2⟩
    have none_get : ∀ {i : Nat} {q : Slot}, ((List.replicate N.length Slot.none).set j (Slot.val .strm))[i]? = some q → q = Slot.none ∨ (q = Slot.val .strm ∧ i = j) := fun {i q} e => by
      rcases getset e with ⟨rfl, z⟩ | ⟨_, z⟩
      · exact .inr ⟨z, rfl⟩
      · rw [List.getElem?_replicate] at z
        split at z <;> cases z
        exact .inl rfl
    refine h2 p H' (fun b => if b = qq then some (HO.lst (ns.map V.int)) else none) _ H' _ ⟨b0, b0, Grow.refl, fun i d e => ?_, fun i xs e => ?_, fun i k' xs ys a e => ?_, fun a xs e => by simp at e, fun i ys a xs e => by simp at e, by simp, DcOk.no fun i ks xs e => by
      rcases none_get e with z | ⟨z, _⟩ <;> cases z⟩ _ ⟨fun _ _ _ _ _ _ z => z.elim, fun v H2 F2 r fp _ _ rr _ z => ?_, fun _ _ _ _ _ _ z => z.elim, fun _ _ _ _ _ _ z => z.elim⟩
    · rcases none_get e with z | ⟨z, rfl⟩
      · cases z
      · cases z
        exact ⟨.ref p, List.getElem?_set_self (by rw [hl]; exact hj), .strm⟩
    · rcases none_get e with z | ⟨z, _⟩ <;> cases z
    · rcases none_get e with z | ⟨z, _⟩ <;> cases z
    · have z : r.fz = .bl true := z
      cases r with
      | d x =>
        have z : x = .bl true := z
        subst z
        cases rr with
        | d rr =>
          cases rr
          exact q _
      | own xs => simp [RD.fz] at z
      | tup rs => simp [RD.fz] at z
end
end Dm

namespace Dm
open PySem PySem.Spec PyProof.Rows L2
structure Tag {α : Sort _} (f : α) : Type where
def T.bnd {α β : Type} (x : T α) (f : α → T β) (t : Tag f := ⟨⟩) : T β := x.bind f
theorem T.ret_bnd {α β : Type} (a : α) (f : α → T β) (t : Tag f) : (T.ret a).bnd f t = f a := (rfl)
theorem T.fail_bnd {α β : Type} (f : α → T β) (t : Tag f) : (T.fail : T α).bnd f t = .fail := (rfl)
@[irreducible] def WB {α : Type} (x : T α) (Q : α → Prop) (t : Tag Q := ⟨⟩) : Prop := W x Q
theorem WB_iff {α : Type} {x : T α} {Q : α → Prop} {t : Tag Q} : WB x Q t ↔ W x Q := by unfold WB; exact Iff.rfl
theorem WB_bnd {α β : Type} (x : T α) (f : α → T β) (t : Tag f) (Q : β → Prop) (t2 : Tag Q) : WB (x.bnd f t) Q t2 = WB x (fun a => WB (f a) Q) := propext (WB_iff.trans (W_bind.trans (by
  rw [WB_iff]
  constructor
  · intro h; exact W_mono h fun a h => WB_iff.mpr h
  · intro h; exact W_mono h fun a h => WB_iff.mp h)))
theorem WB_ret {α : Type} (a : α) (Q : α → Prop) (t : Tag Q) : WB (.ret a) Q t = Q a := propext WB_iff
theorem w_next {n : Int} {Q : RD → Prop} {t} (h1 : 1 ≤ n) (h2 : n ≤ 1000000) (k : ∀ d : Nat, (d : Int) < n → Q (.d (.int (d : Nat)))) : WB (sm_l_next [.strm, .int n]) Q t := by
  rw [WB_iff]
  unfold sm_l_next
  simp only [h2, if_true]
  exact ⟨h1, fun d h0 hd => by
    obtain ⟨m, rfl⟩ := Int.eq_ofNat_of_zero_le h0
    exact k m hd⟩
end Dm

namespace Dm
open PySem PySem.Spec PyProof.Rows L2
open GxR (TabB TabG Tabbed)
def ixSetS (i : Nat) (ix f : SQ) : SS := fun S => (f S).bind fun p => (match p.2[i]? with
  | some (.own _) => .ret ()
  | _ => .fail : T Unit).bind fun _ => (ix p.2).bind fun q => match q.1, q.2[i]? with
  | .int n, some (.own xs) => if 0 ≤ n ∧ n.toNat < xs.length then .ret (.nx (q.2.set i (.own (xs.set n.toNat p.1)))) else .fail
  | _, _ => .fail
section
variable {C : Cfg} {X : Cx} {e a b c iter tg o : Expr} {es rest ts : List Expr} {pos p p2 : Pos} {f g h : SQ} {pf : SP} {cf : SC}
theorem ownU_w {S : SD} {i : Nat} {Q : Unit → Prop} (w : W (match S[i]? with | some (.own _) => T.ret () | _ => .fail) Q) : ∃ xs, S[i]? = some (Slot.own xs) ∧ Q () := by
  cases hS : S[i]? with
  | none => rw [hS] at w; exact w.no
  | some sl =>
    rw [hS] at w
    cases sl <;> first | exact w.no | skip
    exact ⟨_, rfl, w⟩
theorem ixN_nat {n m : Nat} (h : m < n) : ixN n (m : Int) = some m := by
  unfold ixN
  simp [h]
theorem reps_set {K : PySem.W.Frag} {st : Addr} {F : Hp} : ∀ {vs : List V} {xs : List D} {v : V} {d : D} (n : Nat), Reps K st F vs xs → Rep K st F v d → Reps K st F (vs.set n v) (xs.set n d)
  | _, _, _, _, n, .nil, _ => .nil
  | _, _, _, _, 0, .cons h t, r => .cons r t
  | _, _, _, _, n + 1, .cons h t, r => .cons h (reps_set n t r)
theorem s_ixSet {i : Nat} {x : Str} {ix : Expr} {spos : Pos} {gi : SQ} (h : SndQ C X e f) (k : SndQ C X ix gi) (hN : X.N[i]? = some x := by rfl)
    (hv : Vis X.env.scope x := by first | exact Or.inl rfl | exact Or.inr (Or.inl rfl) | exact Or.inr (Or.inr rfl)) (hd : (x == ("__debug__" : Str)) = false := by decide) (hcd : (x == ("__classdict__" : Str)) = false := by decide)
    (ha : ∀ v, assign (.Subscript (.Name x p) ix spos) X.env v = (do
      let ov ← holding [v] (eval (.Name x p) X.env)
      let iv ← holding [v, ov] (eval ix X.env)
      standAt spos
      holding [v, ov, iv] (setItem ov iv v)
      release [v, ov, iv] []) := by intro _; rfl)
    (hs : swapsWithSole [.Subscript (.Name x p) ix spos] e pos.line X.env = pure false := by rfl) (hw : swappedStores [.Subscript (.Name x p) ix spos] e X.env = pure none := by rfl)
    (h1 : (assignEach [.Subscript (.Name x p) ix spos] X.env).map (·.2) = [assign (.Subscript (.Name x p) ix spos) X.env] := by rfl) :
    SndS C X (.Assign [.Subscript (.Name x p) ix spos] e pos) (ixSetS i gi f) := fun S E w σ H F s D' kk =>
  of_ps (ps_asg pe_can (pg_sub (pe_var hN hv hd hcd) pe_can set_list ha) hs hw h1) (h.u (W_bind.mp w) [] σ H F s _ fun v H1 F1 d S1 s1 e1 r1 w1 => by
    obtain ⟨xs0, hS0, w1'⟩ := ownU_w (W_bind.mp w1)
    obtain ⟨a0, vs0, g1, g2, g3, g4, g5⟩ := s1.own i xs0 hS0
    refine ⟨V.ref a0, g1, k.u (W_bind.mp w1') [] σ H1 F1 s1 _ fun u H2 F2 d2 S2 s2 e2 r2 w2 => ?_⟩
    cases d2 <;> first | exact w2.no | skip
    rename_i n
    dsimp only at w2
    cases hS2 : S2[i]? with
    | none => rw [hS2] at w2; exact w2.no
    | some sl =>
      rw [hS2] at w2
      cases sl <;> first | exact w2.no | skip
      rename_i xs
      dsimp only at w2
      split at w2
      · rename_i hn
        obtain ⟨a', us, q1, q2, q3, q4, q5⟩ := s2.own i xs hS2
        rw [g1] at q1
        cases q1
        cases r2
        refine ⟨a0, us, n, n.toNat, rfl, rfl, q4, ?_, ?_⟩
        · have := ixN_nat (n := us.length) (m := n.toNat) (by rw [q5.length]; exact hn.2)
          rwa [show ((n.toNat : Nat) : Int) = n by omega] at this
        · exact kk.nx _ σ _ F2 (s2.write hS2 g1 (reps_set _ q5 (r1.mono e2))) (Same.trans e1 e2) w2
      · exact w2.no)

def flatV : D → Option V
  | .int i => some (.int i)
  | .str z => some (.str z)
  | .bl b => some (.bl b)
  | .non => some .non
  | _ => none
def iSeqT (K : PySem.W.Frag) (tl : TE) : TI := fun σ H R => tl σ H fun x H1 => ∃ a, x = .ref a ∧ (((∃ xs, SqL K H1 a xs) ∧ R (Itl K a) H1) ∨ ((∃ xs, SqT K H1 a xs) ∧ R (Itt K a) H1))
theorem pi_seq {l : Expr} {tl : TE} (hl : PE X l tl) : PI X tg l (iSeqT X.K tl) := by
  refine ⟨fun pins s σ H R I h => ?_⟩
  refine thn (hl.run pins s σ H _ I h) fun v s1 ⟨x, H1, I1, r1, q1⟩ => ?_
  obtain ⟨a, e, q1⟩ := q1
  subst e
  cases r1
  rcases q1 with ⟨⟨xs, hq⟩, q⟩ | ⟨⟨xs, hq⟩, q⟩
  · obtain ⟨its, rv, p, hz⟩ := I1.list hq
    refine wpAny_pyIter_list p.isList ?_
    refine ⟨s1.heap.objs.size, [s1.heap.objs.size], _, _, H1, rfl, I1.kept (t' := s1.toks) fun b o e => Heap.get?_push_of_some _ e, turn_list a _, ⟨_, Heap.get?_push_size _ rfl, rfl, rfl⟩, fun b hb => ?_, q⟩
    have e : b = s1.heap.objs.size := by simpa using hb
    subst e
    exact I1.fpOk (Nat.le_refl _) (I1.hok.fresh (Nat.le_refl _))
  · obtain ⟨its, rv, p, hz⟩ := I1.tuple hq
    refine wpAny_pyIter_tuple (show s1.heap.IsTuple a its.toArray from p) ?_
    refine ⟨s1.heap.objs.size, [s1.heap.objs.size], _, _, H1, rfl, I1.kept (t' := s1.toks) fun b o e => Heap.get?_push_of_some _ e, turn_tuple a _, ⟨_, Heap.get?_push_size _ rfl, rfl, rfl⟩, fun b hb => ?_, q⟩
    have e : b = s1.heap.objs.size := by simpa using hb
    subst e
    exact I1.fpOk (Nat.le_refl _) (I1.hok.fresh (Nat.le_refl _))
def seqD : D → Option (List D)
  | .tup xs => some xs
  | .lst xs => some xs
  | _ => none
def iSeq (f : SQ) : SI := fun S => (f S).bind fun p => match seqD p.1 with
  | some xs => .ret (xs, p.2)
  | _ => .fail
def iRev (f : SQ) : SI := fun S => (f S).bind fun p => match seqD p.1 with
  | some xs => .ret (xs.reverse, p.2)
  | _ => .fail
def dwnD (hi : Int) (n : Nat) : List D := (List.range n).map fun i => D.int (hi - (i : Nat))
def small (n : Int) : Bool := decide (-1000000 ≤ n) && decide (n ≤ 1000000)
def iRevR (f : SQ) : SI := fun S => (f S).bind fun p => match p.1 with
  | .int n => if small n then .ret (dwnD (n - 1) n.toNat, p.2) else .fail
  | _ => .fail
def iRevR2 (f g : SQ) : SI := fun S => (f S).bind fun p => (g p.2).bind fun q => match p.1, q.1 with
  | .int l, .int n => if small l && small n then .ret (dwnD (n - 1) (n - l).toNat, q.2) else .fail
  | _, _ => .fail
def iRngD (f g : SQ) : SI := fun S => (f S).bind fun p => (g p.2).bind fun q => match p.1, q.1 with
  | .int l, .int n => if small l && small n then .ret (dwnD l (l - n).toNat, q.2) else .fail
  | _, _ => .fail
end
end Dm

namespace Dm
open PySem PySem.Spec PyProof.Rows L2
open GxR (TabB TabG Tabbed)
section
variable {C : Cfg} {X : Cx} {S : SD} {e a b c tg iter : Expr} {es : List Expr} {Q : D → SD → Prop} {tmp : Tmp} {σ : L2.St} {H F : Hp} {QL : List D → SD → Prop}
end
def anyT (vs : List Nat) (tg : SGW) (ifs : SC) (elt : SQ) : List D → SD → T (D × SD)
  | [], S => .ret (.bl false, S)
  | x :: xs, S => (tg x S).bind fun S1 => (ifs S1).bind fun p => if p.1 then (elt p.2).bind fun q => (boolT q.1).bind fun b => if b then .ret (.bl true, wipeS q.2 vs) else anyT vs tg ifs elt xs (wipeS q.2 vs) else anyT vs tg ifs elt xs (wipeS p.2 vs)
def anyGQ (it : SI) (vs : List Nat) (tg : SGW) (ifs : SC) (elt : SQ) : SQ := fun S => (it S).bind fun p => anyT vs tg ifs elt p.1 (wipeS p.2 vs)
section
variable {C : Cfg} {X : Cx} {e a b c iter tg elt : Expr} {es rest ts ifs : List Expr} {pos p gpos : Pos} {f g ef : SQ} {cf : SC} {it : SI} {scope : Scope} {own : List (Str × Nat)} {vs : List Nat} {gw : SGW} {pf : SP}
def truP (f : SP) : SC := fun S => (f S).bind fun p => match p.1 with
  | .d x => (match truD x with
    | some k => .ret (k, p.2)
    | _ => .fail)
  | .own i => (match p.2[i]? with
    | some (.own xs) => .ret (!xs.isEmpty, p.2)
    | _ => .fail)
def leltC (f g h : SQ) : SC := fun S => (f S).bind fun p => (g p.2).bind fun q => (iCmp (fun i j => decide (i ≤ j)) p.1 q.1).bind fun k => if k then (h q.2).bind fun r => (iCmp (fun i j => decide (i < j)) q.1 r.1).bind fun k => .ret (k, r.2) else .ret (false, q.2)
def ltltC (f g h : SQ) : SC := fun S => (f S).bind fun p => (g p.2).bind fun q => (iCmp (fun i j => decide (i < j)) p.1 q.1).bind fun k => if k then (h q.2).bind fun r => (iCmp (fun i j => decide (i < j)) q.1 r.1).bind fun k => .ret (k, r.2) else .ret (false, q.2)
def ltleC (f g h : SQ) : SC := fun S => (f S).bind fun p => (g p.2).bind fun q => (iCmp (fun i j => decide (i < j)) p.1 q.1).bind fun k => if k then (h q.2).bind fun r => (iCmp (fun i j => decide (i ≤ j)) q.1 r.1).bind fun k => .ret (k, r.2) else .ret (false, q.2)
end
end Dm

namespace PyProof.Rows
open PySem
section
variable {prog : Program} {w : World} {A : Around} {E : Value → Shared → Prop} {s : Shared}
end
end PyProof.Rows
namespace Dm
open PySem PySem.Spec PyProof.Rows L2
open GxR (TabB TabG Tabbed)
def leS (a b : Str) : Bool := !ltCps b.cps.toList a.cps.toList
def insStr (x : Str) : List Str → List Str
  | [] => [x]
  | y :: ys => if leS x y then x :: y :: ys else y :: insStr x ys
def sortStr : List Str → List Str
  | [] => []
  | x :: xs => insStr x (sortStr xs)
def sortedS' (f : SP) : SR := fun S => (f S).bind fun p => (seqO p.2 p.1).bind fun xs => match strsO xs with
  | some zs => if zs.length < 64 then .ret (.own ((sortStr zs).map D.str), p.2) else .fail
  | _ => .fail
section
variable {C : Cfg} {X : Cx} {e a b c tg iter : Expr} {p pos : Pos} {pf : SP} {S : SD}
end
end Dm

namespace Dm
open PySem PySem.Spec PyProof.Rows L2

structure OexS (K : PySem.W.Frag) (C : Addr) : Prop where
  op : PySem.W.nsIn K cStatics "thirdparty.any" = some none
  su : PySem.W.ks_superIn K C C "__init__" = some (some (.builtin "ValueError.__init__"))
  sb : PySem.W.subIn K (.ref C) (.type "ValueError") = some true
section
variable {X : Cx} {pins : List (Addr × Obj)} {σ : L2.St} {H : Hp} {s : Shared} {a C so u : Addr} {E : Value → Shared → Prop} {A : Around}
theorem mw_method {name : Str} {pl : Sem Bool} {Q : Value × List Value → Shared → Prop} (T : OexC X.K C) (TS : OexS X.K C) (I : Inv X pins σ H s) (ea : H a = some (exo a C none)) (hso : s.heap.get? so = some (PySem.W.ks_superObj C a C)) (hname : name = "__init__")
    (h : ∀ s', Inv X ((s.heap.objs.size, PySem.W.kxs_mw "ValueError.__init__" a) :: pins) σ H s' → Q (.ref s.heap.objs.size, []) s') : wpAny (model X.prog X.w) A (getMethod (.ref so) name pl) Q E s := by
  subst hname
  obtain ⟨nm, q, N, bs, bm, sn, sub, ab, col, dd, k0, k1, k2, k3, k5, hC, hbm⟩ := T.cls
  have hcl : PySem.W.clsIn X.K C = some { name := nm, bases := bs, mro := .ref C :: bm, ns := N, qualname := q, hasDict := true, slotNames := sn, subclasses := sub, abstract := ab, collection := col, hasDel := false } := by unfold PySem.W.clsIn; rw [hC] <;> rfl
  obtain ⟨t1, ho⟩ := exo_at I.hok ea
  have J : PySem.W.InstAt s.heap a { cls := .ref C, dict := none, data := .fields #[.ref t1, .none, .none, .none, .bool false, .none] } C none := ⟨ho, rfl, rfl, trivial⟩
  have hI : PySem.W.Looks (model X.prog X.w) s.heap (isInstance (.ref a) (.type "ValueError")) true := J.type.andThen (PySem.W.looks_subIn I.kIn TS.sb)
  have hm := TS.su
  have fin := fun t' => h { s with heap := s.heap.push (PySem.W.kxs_mw "ValueError.__init__" a), toks := t' } (ClX.pin_new I (fun _ _ z => Heap.get?_push_of_some _ z) (Nat.le_refl _) (Heap.get?_push_size s.heap rfl) (fun v z => nomatch z))
  have kin := I.kIn
  obtain ⟨hh, g, d, t, os⟩ := s
  unfold PySem.W.ks_superIn at hm
  rw [hcl] at hm
  refine PySem.W.kxs_getMethod PySem.W.kxs_ValueError hso (PySem.W.looks_opaque kin TS.op) (l₀ := .ref C :: bm) ?_ rfl kin hm hI (PySem.W.ks_ne kin J hcl) (by decide) (fin _)
  exact fun A Q E s k q => wpAny_bind ((PySem.W.looks_clsIn kin hcl) A _ E s k (wpAny_pure q))
theorem mw_call {us : List Value} {Q : Value → Shared → Prop} (T : OexC X.K C) (I : Inv X ((u, PySem.W.kxs_mw "ValueError.__init__" a) :: pins) σ H s) (ea : H a = some (exo a C none)) (hl : us.length ≤ sizeLine) (h : ∀ s', Inv X pins σ H s' → Q .none s') :
    wpAny (model X.prog X.w) A (call (.ref u) us) Q E s := by
  obtain ⟨nm, q, N, bs, bm, sn, sub, ab, col, dd, k0, k1, k2, k3, k5, hC, hbm⟩ := T.cls
  have hu := ClX.pin_at I
  have I0 := ClX.unpin I
  obtain ⟨t1, ho⟩ := exo_at I0.hok ea
  have hC' := I0.kIn _ _ hC
  obtain ⟨hp, g, d, t, os⟩ := s
  refine wpAny_call (codeAny_of_tree ?_)
  show wpAny _ A.in1 (callAny (.ref u) ⟨us, []⟩) _ _ _
  simp only [callAny]
  refine wpAny_bind (wpAny_load hu ?_)
  simp only [PySem.W.kxs_mw, show (Value.type "method-wrapper" == Value.type "method" || Value.type "method-wrapper" == Value.type "builtin_function_or_method" || Value.type "method-wrapper" == Value.type "method-wrapper") = true by decide, if_true]
  refine PySem.W.KFB.if_so (by decide) ?_
  refine wpAny_bind (PySem.ESX.check_bound F.excBase_ValueError hC' ho rfl ?_)
  refine wpAny_bind (wpAny_pure (wpAny_pure ?_))
  refine ⟨Code.quiet_builtin _ (by decide +kernel), codeAny_builtin F.excBase_ValueError.initEntry ?_⟩
  rw [Around.under_plainId F.excBase_ValueError.init.plain _]
  refine PySem.W.exc_init_tree (cls := .ref C) (t0 := t1) (dv := none) (c2 := .none) (c3 := .none) (b4 := .bool false) ho hl fun h' k hx _ => ?_
  have J := I0.write (t' := t) (x := a) (e := a) (o := exo a C none) (by rw [ea]; exact True.intro) (.inl rfl) k ⟨_, hx⟩ (exo_ok hx)
  have eu : upd H a (exo a C none) = H := by
    funext b
    by_cases hb : b = a
    · rw [hb, upd_same, ea]
    · rw [upd_ne hb]
  rw [eu] at J
  exact h _ J
end
section
variable {X : Cx} {pins : List (Addr × Obj)} {σ : L2.St} {H : Hp} {s : Shared} {a C so u f cc cda : Addr} {E : Value → Shared → Prop} {A : Around} {e : Expr} {es : List Expr} {ta : TA} {p0 p1 p2 p3 p4 : Pos} {body : List Stmt}
theorem mw_callWith {pos : Pos} {Q : Value → Shared → Prop}
    (h : wpAny (model X.prog X.w) A (spliced (backTo pos (starEach (e :: es) X.env))) (fun vs s₁ => PySem.W.KxsAt "ValueError.__init__" u a s₁.heap ∧ wpAny (model X.prog X.w) A (call (.ref u) vs) Q E s₁) E s)
    (he : starEach (e :: es) X.env = (false, eval e X.env) :: starEach es X.env := by rfl) (hplain : (backTo pos (starEach es X.env)).any (·.1) = false := by rfl) :
    wpAny (model X.prog X.w) A (callWith pos (.ref u) [] (backTo pos (starEach (e :: es) X.env)) []) Q E s := by
  rw [he] at h ⊢
  refine PySem.W.kxs_callWith (i := "ValueError.__init__") (x := a) (by show (false || (backTo pos (starEach es X.env)).any (·.1)) = false; rw [hplain]; rfl) ?_
  exact PySem.Calls.evalArgs_plain h
structure SupAt (X : Cx) (C : Addr) (x : Str) : Prop where
  fn : ∃ (f : Addr) (oc : Value) (od : Option Addr) (fd : FuncData) (osl : Array (Option Value)) (ar : Arg), X.env.func = some f ∧ X.K.lookup f = some ⟨oc, od, .func fd, osl⟩ ∧ (fd.params.posonlyargs ++ fd.params.args).head? = some ar ∧ ar.arg = x
  co : ∃ (cda : Addr) (ec : Value) (ed : Option Addr) (vs : Array Value) (sl : Array (Option Value)) (file : Str) (tf : Tok), X.env.code = .ref cda ∧ X.K.lookup cda = some ⟨ec, ed, .fields vs, sl⟩ ∧ vs[2]? = some (.str file tf) ∧ ((X.prog.main.file : Str) == file) = true
  top : (X.prog.main.scope.names.lookup ("super" : Str)).isSome = false
  ks : X.env.kindOf "super" = some .globalImplicit
  kc : X.env.kindOf "__class__" = some .free
  cell : ∃ (cc : Addr) (cl : Value) (cld : Option Addr) (csl : Array (Option Value)), X.env.cells.lookup ("__class__" : Str) = some cc ∧ X.K.lookup cc = some ⟨cl, cld, .cell (some (.ref C)), csl⟩
  mg : X.mg "super" = none
  lx : X.env.scope.names.lookup x = some .local
theorem sup_init {x : Str} {pl : Sem Bool} (U : SupAt X C x) (T : OexC X.K C) (TS : OexS X.K C) (ha : PA X (e :: es) ta) (hx : X.N[0]? = some x) {D : Ends} (I : Inv X [] σ H s) (e0 : σ[0]? = some (some (.ref a))) (ea : H a = some (exo a C none))
    (h : ta σ H fun vs H1 => vs.length ≤ 1000 ∧ H1 a = some (exo a C none) ∧ D.nx σ H1)
    (hi : interactive X.env = false := by rfl) (hs : swapsWith (.Call (.Attribute (.Call (.Name "super" p0) [] [] p1) "__init__" p2) (e :: es) [] p3) none p4.line X.env = pure false := by rfl)
    (he : starEach (e :: es) X.env = (false, eval e X.env) :: starEach es X.env := by rfl) (hpl : (backTo p3 (starEach es X.env)).any (·.1) = false := by rfl)
    (hev : eval (.Call (.Attribute (.Call (.Name "super" p0) [] [] p1) "__init__" p2) (e :: es) [] p3) X.env = (do
      let ov ← attributeBase (.Call (.Name "super" p0) [] [] p1) "__init__" X.env (eval (.Call (.Name "super" p0) [] [] p1) X.env)
      standAt p2.atName
      let (f, first) ← holding [ov] (getMethod ov "__init__" pl)
      callWith p3 f first (backTo p3 (starEach (e :: es) X.env)) []) := by rfl) :
    PySem.wpAt (model X.prog X.w) X.A (.func body X.env) (exec (.Expr (.Call (.Attribute (.Call (.Name "super" p0) [] [] p1) "__init__" p2) (e :: es) [] p3) p4) X.env) (L2.SP X [] D) X.xe s := by
  obtain ⟨f, oc, od, fd, osl, ar, hf, lf, hp, rfl⟩ := U.fn
  obtain ⟨cda, ec, ed, vs, sl, file, tf, hc, lc, hvs, hfile⟩ := U.co
  obtain ⟨cc, cl, cld, csl, hcc, lcc⟩ := U.cell
  obtain ⟨nm, q, N, bs, bm, sn, sub, ab, col, dd, k0, k1, k2, k3, k5, hC, hbm⟩ := T.cls
  obtain ⟨t1, ho⟩ := exo_at I.hok ea
  refine PySem.ks_wpAt_Expr_any (PySem.ks_wpAt_MethodCall (PySem.ks_wpAt_super_base U.ks U.kc (by decide) hf (I.kIn _ _ lf) rfl hp hc (I.kIn _ _ lc) rfl hvs hfile U.top ?_) hev) hi hs
  obtain ⟨mb, h1, h2⟩ := I.ok.mod.blt
  refine PySem.W.ks_loadName_global I.ok.kind U.ks (Calls.loadGlobal_builtin (by rw [I.ok.glob]; exact I.ok.mod.glob.keeps I.bk) U.mg (by rw [I.ok.blt]; exact h1.keeps I.bk) ((h2 _ (by decide)).trans (by rfl : bootBuiltins "super" = some (.type "super"))) ⟨rfl, ?_⟩)
  refine wpAny_loadName_free I.ok.kind U.kc hcc ⟨_, I.kIn _ _ lcc, rfl⟩ ?_
  obtain ⟨m, hn, hlk⟩ := I.loc
  obtain ⟨u0, ru, hu⟩ := hlk 0 ar.arg (.ref a) hx e0 (.inl U.lx)
  obtain rfl : u0 = Value.ref a := ru
  rcases hu with ⟨hka, hv⟩ | ⟨hka, _⟩
  · refine wpAny_loadName_local I.ok.kind hka hn hv ?_
    refine PySem.ks_wpAny_isType_cls (I.kIn _ _ hC) rfl ⟨rfl, ?_⟩
    refine PySem.ks_wpAny_call_super (I.kIn _ _ hC) rfl ho rfl (fun c z => by cases z) ?_ (fun h' e' k => ?_)
    · exact PySem.W.looks_mroIn I.kIn (by
        have hcl : PySem.W.clsIn X.K C = some { name := nm, bases := bs, mro := .ref C :: bm, ns := N, qualname := q, hasDict := true, slotNames := sn, subclasses := sub, abstract := ab, collection := col, hasDel := false } := by unfold PySem.W.clsIn; rw [hC] <;> rfl
        unfold PySem.W.mroIn
        rw [hcl]
        simp)
    · have I1 : Inv X [] σ H { s with heap := h' } := I.kept (t' := s.toks) k
      refine mw_method T TS I1 ea e' rfl fun s2 I2 => ?_
      refine mw_callWith (a := a) (thn (ha.run p3 _ s2 σ H _ I2 h) fun us s3 ⟨ws, H1, I3, r3, hz, ea1, q3⟩ => ⟨ClX.pin_at I3, ?_⟩) he hpl
      exact mw_call T I3 ea1 (by rw [← Paired.length r3, sizeLine_eq]; omega) fun s4 I4 => ⟨σ, H1, I4, q3⟩
  · have z : X.env.scope.names.lookup ar.arg = some .cell ∨ X.env.scope.names.lookup ar.arg = some .free := hka
    rw [U.lx] at z
    rcases z with z | z <;> cases z
end
end Dm

namespace Dm
open PySem PySem.Spec PyProof.Rows L2 NdefX

section
variable {CX : CXT} {P : Program} {w : World} {K : PySem.W.Frag} {mg : Str → Option Value} {base : Heap} {k : Nat} {f C cc cda : Addr} {name qual : Str} {params : Arguments} {scope : Scope} {dV kV doc pm ct oc : Value} {an od : Option Addr}
    {osl : Array (Option Value)} {N ps : List Str} {sp : Sp} {e : Expr} {es : List Expr} {rest : List Stmt} {p0 p1 p2 p3 p4 : Pos} {x : Str} {pl : Env → Sem Bool}
theorem init_of (lk : K.lookup f = some ⟨oc, od, .func (PySem.W.fnX name qual params (.Expr (.Call (.Attribute (.Call (.Name "super" p0) [] [] p1) "__init__" p2) (e :: es) [] p3) p4 :: rest) scope [("__class__", cc)] dV kV doc pm an (.ref cda) ct), osl⟩)
    (hcd : PySem.W.codeIn K (.ref cda) qual = true) (S : NScope N ps ["__class__"] scope) (len : ∀ vs H Q E, sp vs H Q E → vs.length = ps.length) (hx : N[0]? = some x) (T : OexC K C) (TO : OexS K C)
    (lcc : ∃ (cl : Value) (cld : Option Addr) (csl : Array (Option Value)), K.lookup cc = some ⟨cl, cld, .cell (some (.ref C)), csl⟩)
    (U : ∀ (A : Around) (outer : List Env) (s : Shared) (H : Hp) (E : XK), SupAt (ncx CX P w K mg base N ⟨name, qual, params, (.Expr (.Call (.Attribute (.Call (.Name "super" p0) [] [] p1) "__init__" p2) (e :: es) [] p3) p4 :: rest), scope, [("__class__", cc)], cda⟩ f A outer s H E) C x)
    (hbody : ∀ (A : Around) (outer : List Env) (s : Shared) (H : Hp) (vs : List V) (Q : VK) (E : XK), Room k (A.deeper (envF ⟨name, qual, params, (.Expr (.Call (.Attribute (.Call (.Name "super" p0) [] [] p1) "__init__" p2) (e :: es) [] p3) p4 :: rest), scope, [("__class__", cc)], cda⟩ f s.heap.objs.size)) → sp vs H Q E →
      ∃ (ta : TA) (t : L2.TS) (a : Addr), PA (ncx CX P w K mg base N ⟨name, qual, params, (.Expr (.Call (.Attribute (.Call (.Name "super" p0) [] [] p1) "__init__" p2) (e :: es) [] p3) p4 :: rest), scope, [("__class__", cc)], cda⟩ f A outer s H E) (e :: es) ta ∧
        PSs (ncx CX P w K mg base N ⟨name, qual, params, (.Expr (.Call (.Attribute (.Call (.Name "super" p0) [] [] p1) "__init__" p2) (e :: es) [] p3) p4 :: rest), scope, [("__class__", cc)], cda⟩ f A outer s H E) rest t ∧
        (startF N vs [none])[0]? = some (some (.ref a)) ∧ H a = some (exo a C none) ∧ ta (startF N vs [none]) H fun us H1 => us.length ≤ 1000 ∧ H1 a = some (exo a C none) ∧ t { nx := fun _ H' => Q .non H', rt := Q } (startF N vs [none]) H1)
    (hs : ∀ env : Env, swapsWith (.Call (.Attribute (.Call (.Name "super" p0) [] [] p1) "__init__" p2) (e :: es) [] p3) none p4.line env = pure false := by intro _; rfl)
    (he : ∀ env : Env, starEach (e :: es) env = (false, eval e env) :: starEach es env := by intro _; rfl) (hpl : ∀ env : Env, (backTo p3 (starEach es env)).any (·.1) = false := by intro _; rfl)
    (hev : ∀ env : Env, eval (.Call (.Attribute (.Call (.Name "super" p0) [] [] p1) "__init__" p2) (e :: es) [] p3) env = (do
      let ov ← attributeBase (.Call (.Name "super" p0) [] [] p1) "__init__" env (eval (.Call (.Name "super" p0) [] [] p1) env)
      standAt p2.atName
      let (f, first) ← holding [ov] (getMethod ov "__init__" (pl env))
      callWith p3 f first (backTo p3 (starEach (e :: es) env)) []) := by intro _; rfl) :
    FnOk P w K mg base CX (k + 1) f (PySem.W.fnX name qual params (.Expr (.Call (.Attribute (.Call (.Name "super" p0) [] [] p1) "__init__" p2) (e :: es) [] p3) p4 :: rest) scope [("__class__", cc)] dV kV doc pm an (.ref cda) ct) ps sp := by
  refine ⟨len, fun A outer s H args us vs Q E hr e0 hb r hsp => ?_⟩
  have hl := len _ _ _ _ hsp
  have KX : K.In s.heap := e0.mod.kin.keeps fun b o e => (e0.bs b o e).1
  have lim : s.heap.NoLimit := e0.mod.nolimit.keeps fun b o e => (e0.bs b o e).1
  obtain ⟨cl, cld, csl, lcc⟩ := lcc
  have cin : ∃ o, base.get? cc = some o := ⟨_, e0.mod.kin _ _ lcc⟩
  have Cs : CellsAt [("__class__", cc)] ["__class__"] [none] s.heap H := by
    obtain ⟨o, ho⟩ := cin
    obtain ⟨h1, h2⟩ := e0.bs cc o ho
    have look : ∀ (y : Str) (c : Addr), ([("__class__", cc)] : List (Str × Addr)).lookup y = some c → c = cc ∧ y = "__class__" := fun y c h => by
      have m := PySem.mem_of_lookup h
      simp at m
      exact ⟨m.2, m.1⟩
    refine ⟨rfl, fun y c h => ?_, fun y z c h1 h2 => (look y c h1).2.trans (look z c h2).2.symm, fun i y h => ?_⟩
    · obtain ⟨rfl, _⟩ := look y c h
      exact ⟨h2, _, _, KX _ _ lcc, rfl⟩
    · cases i with
      | zero =>
        obtain rfl : ("__class__" : Str) = y := by simpa using h
        exact ⟨cc, by simp [List.lookup], fun v z => by simp at z⟩
      | succ i => simp at h
  refine codeAny_call_function hr.depth (KX _ _ lk) rfl S.co S.gen rfl (PySem.W.codeRec_of KX hcd) (hb _ _ _ _ ?_)
  refine wpAny_newFunctionEnv S.nocell (fun ⟨n, _⟩ hy => S.par n (List.of_mem_zip hy).1) (fun h₁ hns hsb => ⟨lim.fresh _ hsb, ?_⟩) S.kind
  have kp : ∀ b o, s.heap.get? b = some o → h₁.get? b = some o := fun b o e => hsb.extBut b o (Nat.ne_of_lt (Heap.lt_size e)) (Heap.get?_push_of_some _ e)
  obtain ⟨ta, t, a, hta, ht, h0, ea, hq⟩ := hbody A outer s H vs Q E (hr.deeper _) hsp
  have I : Inv (ncx CX P w K mg base N ⟨name, qual, params, (.Expr (.Call (.Attribute (.Call (.Name "super" p0) [] [] p1) "__init__" p2) (e :: es) [] p3) p4 :: rest), scope, [("__class__", cc)], cda⟩ f A outer s H E) [] (startF N vs [none]) H { s with heap := h₁, toks := s.toks + (ps.zip us).length } := inv_startN S hr.hd e0 hl r Cs hns kp
  refine PySem.ks_codeAny_funcAt (env := envF ⟨name, qual, params, (.Expr (.Call (.Attribute (.Call (.Name "super" p0) [] [] p1) "__init__" p2) (e :: es) [] p3) p4 :: rest), scope, [("__class__", cc)], cda⟩ f s.heap.objs.size) ?_
  refine PySem.ks_wpAt_execs_cons (PySem.ks_wpAt_mono (sup_init (D := { nx := t { nx := fun _ H' => Q .non H', rt := Q }, rt := Q }) (U A outer s H E) T TO hta hx I h0 ea hq (by show interactive (envF _ _ _) = false; unfold interactive; simp [S.kind]) (hs _) (he _) (hpl _) (hev _)) (fun fl s' hs => ?_) fun e s' hs => hs)
  have fin : ∀ {σ' : L2.St} {H' : Hp} {v : V} {u : Value} {s' : Shared}, Inv (ncx CX P w K mg base N ⟨name, qual, params, (.Expr (.Call (.Attribute (.Call (.Name "super" p0) [] [] p1) "__init__" p2) (e :: es) [] p3) p4 :: rest), scope, [("__class__", cc)], cda⟩ f A outer s H E) [] σ' H' s' → L2.RelV v u → Q v H' → CE outer P w H s Q u s' :=
    fun {σ' H' v u s'} J rv q => ⟨v, H', J.os, J.bare, J.base, J.hok, rv, q⟩
  have fin2 : ∀ {fl : Flow} {s' : Shared}, L2.SP (ncx CX P w K mg base N ⟨name, qual, params, (.Expr (.Call (.Attribute (.Call (.Name "super" p0) [] [] p1) "__init__" p2) (e :: es) [] p3) p4 :: rest), scope, [("__class__", cc)], cda⟩ f A outer s H E) [] { nx := fun _ H' => Q .non H', rt := Q } fl s' → CR CX outer P w H s Q E (.ok (.ret (match fl with | .ret v => v | _ => .none))) s' := fun {fl s'} hs => by
    cases fl with
    | ret u =>
      obtain ⟨v, σ', H', J, rv, q⟩ := hs
      exact fin J rv q
    | next =>
      obtain ⟨σ', H', J, q⟩ := hs
      exact fin (v := V.non) (u := Value.none) J rfl q
    | brk =>
      obtain ⟨_, _, _, q⟩ := hs
      exact False.elim q
    | cont =>
      obtain ⟨_, _, _, q⟩ := hs
      exact False.elim q
  cases fl with
  | next =>
    obtain ⟨σ', H', J, q⟩ := hs
    exact PySem.wpAt_of_wpAny (wpAny_mono (ht.run [] s' σ' H' _ J q) (fun fl s' hs => fin2 hs) fun e s' hs => hs)
  | ret u =>
    obtain ⟨v, σ', H', J, rv, q⟩ := hs
    exact fin J rv q
  | brk =>
    obtain ⟨_, _, _, q⟩ := hs
    exact False.elim q
  | cont =>
    obtain ⟨_, _, _, q⟩ := hs
    exact False.elim q
end
end Dm

namespace Dm
open PySem PySem.Spec PyProof.Rows L2

def noX {α : Type} : T α → T α
  | .ret a => .ret a
  | .fail => .fail
  | .exc _ => .fail
  | .draw n k => .draw n fun d => noX (k d)
def WX {α : Type} : T α → (α → Prop) → (Exn → Prop) → Prop
  | .ret a, Q, _ => Q a
  | .fail, _, _ => False
  | .exc x, _, ex => ex x
  | .draw n k, Q, ex => 1 ≤ n ∧ ∀ d, 0 ≤ d → d < n → WX (k d) Q ex
theorem WX_bind {α β : Type} {t : T α} {f : α → T β} {Q : β → Prop} {ex : Exn → Prop} : WX (t.bind f) Q ex ↔ WX t (fun a => WX (f a) Q ex) ex := by
  induction t with
  | ret a => exact Iff.rfl
  | fail => exact Iff.rfl
  | exc x => exact Iff.rfl
  | draw n k ih =>
    show (_ ∧ _) ↔ (_ ∧ _)
    exact ⟨fun ⟨h, q⟩ => ⟨h, fun d a b => (ih d).mp (q d a b)⟩, fun ⟨h, q⟩ => ⟨h, fun d a b => (ih d).mpr (q d a b)⟩⟩
theorem WX_mono {α : Type} {t : T α} {Q Q' : α → Prop} {ex ex' : Exn → Prop} (h : WX t Q ex) (k : ∀ a, Q a → Q' a) (kx : ∀ x, ex x → ex' x) : WX t Q' ex' := by
  induction t with
  | ret a => exact k a h
  | fail => exact h
  | exc x => exact kx x h
  | draw n f ih => exact ⟨h.1, fun d a b => ih d (h.2 d a b)⟩
theorem WX_noX {α : Type} {t : T α} {Q : α → Prop} {ex : Exn → Prop} : WX (noX t) Q ex ↔ W t Q := by
  induction t with
  | ret a => exact Iff.rfl
  | fail => exact Iff.rfl
  | exc x => exact Iff.rfl
  | draw n k ih =>
    show (_ ∧ _) ↔ (_ ∧ _)
    exact ⟨fun ⟨h, q⟩ => ⟨h, fun d a b => (ih d).mp (q d a b)⟩, fun ⟨h, q⟩ => ⟨h, fun d a b => (ih d).mpr (q d a b)⟩⟩
theorem WX_no {α : Type} {t : T α} {Q : α → Prop} : WX t Q (fun _ => False) ↔ W t Q := by
  induction t with
  | ret a => exact Iff.rfl
  | fail => exact Iff.rfl
  | exc x => exact Iff.rfl
  | draw n k ih =>
    show (_ ∧ _) ↔ (_ ∧ _)
    exact ⟨fun ⟨h, q⟩ => ⟨h, fun d a b => (ih d).mp (q d a b)⟩, fun ⟨h, q⟩ => ⟨h, fun d a b => (ih d).mpr (q d a b)⟩⟩

def xFields (c : Str) : List Str :=
  if c = "BadValue" then ["name"] else if c = "NotApplicable" then ["index", "why"] else if c = "TooLarge" then ["what"] else if c = "TextError" then ["column", "words"] else []
def xArg : D → Bool
  | .str y => decide (y.length ≤ 1000)
  | .int i => decide (0 ≤ i) && decide (i < 1000)
  | _ => false
def xOk (c : Str) (ds : List D) : Bool := decide (ds.length = (xFields c).length) && ds.all xArg
def Exn.cls : Exn → Str
  | .mk c _ => c
def Exn.args : Exn → List D
  | .mk _ as => as
def XRep (K : PySem.W.Frag) (mg : Str → Option Value) (st : Addr) (H F : Hp) (cls : Value) (d : Option Addr) (x : Exn) : Prop :=
  ∃ (Ca dd : Addr) (vs : List V), cls = .ref Ca ∧ mg x.cls = some (.ref Ca) ∧ d = some dd ∧ H dd = some (.xd ((xFields x.cls).zip vs).reverse) ∧ Reps K st F vs x.args ∧ vs.length = (xFields x.cls).length ∧ F dd = none
def XOk (C : Cfg) (X : Cx) (ex : Exn → Prop) (Wx : L2.WX) : Prop := ∀ (x : Exn) (cls : Value) (d : Option Addr) (σ' : L2.St) (H' F' : Hp), Base C.K C.T C.st C.g H' F' → Grow C.st C.g C.H0 C.F0 H' F' → XRep X.K X.mg C.st H' F' cls d x → ex x → Wx cls d σ' H'
end Dm

namespace Dm
open PySem PySem.Spec PyProof.Rows L2
open GxR (TabB TabG Tabbed)

def EvRX (C : Cfg) (X : Cx) (e : Expr) (S : SD) (Q : RD → SD → Prop) (ex : Exn → Prop) : Prop := ∀ (σ : L2.St) (H F : Hp), Stt C S [] σ H F → ∀ R : VK,
  (∀ v H' F' r fp S', Stt C S' (fp ++ []) σ H' F' → Same F F' → RepR C.K C.st F' v r fp → Q r S' → R v H') → ∀ Wx : L2.WX, XOk C X ex Wx → Takes X Wx → CanE X e σ H R
def RxX (C : Cfg) (X : Cx) (st : Stmt) (S : SD) (E : RE) (ex : Exn → Prop) : Prop := ∀ (σ : L2.St) (H F : Hp), Stt C S [] σ H F → ∀ D' : Ends, ROk C F E D' → ∀ Wx : L2.WX, XOk C X ex Wx → Takes X Wx → CanS X st D' σ H
def RxsX (C : Cfg) (X : Cx) (sts : List Stmt) (S : SD) (E : RE) (ex : Exn → Prop) : Prop := ∀ (σ : L2.St) (H F : Hp), Stt C S [] σ H F → ∀ D' : Ends, ROk C F E D' → ∀ Wx : L2.WX, XOk C X ex Wx → Takes X Wx → CanSs X sts D' σ H
def SndRX (C : Cfg) (X : Cx) (e : Expr) (f : SR) : Prop := ∀ (S : SD) (Q : RD → SD → Prop) (ex : Exn → Prop), WX (f S) (fun p => Q p.1 p.2) ex → EvRX C X e S Q ex
def SndSX (C : Cfg) (X : Cx) (st : Stmt) (f : SS) : Prop := ∀ (S : SD) (E : RE) (ex : Exn → Prop), WX (f S) (OutP E) ex → RxX C X st S E ex
def SndSsX (C : Cfg) (X : Cx) (sts : List Stmt) (f : SS) : Prop := ∀ (S : SD) (E : RE) (ex : Exn → Prop), WX (f S) (OutP E) ex → RxsX C X sts S E ex
def leafS (f : SS) : SS := fun S => noX (f S)
def leafR (f : SR) : SR := fun S => noX (f S)
def dropS (f : SR) : SS := fun S => (f S).bind fun p => .ret (.nx p.2)
def callXR (g : List D → T RD) (fs : List SP) : SR := fun S => (noX (argsP fs S)).bind fun q => match PD.ats q.2 q.1 with
  | some ds => (g ds).bind fun r => .ret (r, behind q.1 q.2 r)
  | _ => .fail
def raiseS (c : Str) (fs : List SP) : SS := fun S => (noX (argsP fs S)).bind fun q => match PD.ats q.2 q.1 with
  | some ds => if xOk c ds = true then .exc (.mk c ds) else .fail
  | _ => .fail
def ifXS (c : SC) (f g : SS) : SS := fun S => (noX (c S)).bind fun p => if p.1 then f p.2 else g p.2
theorem PS.nox1 {X : Cx} {st : Stmt} {t : L2.TS} (h : PS X.nox st t) : PS X st t := ⟨fun pins s σ H D I hw =>
  wpAny_mono (h.run pins s σ H D (I.wish _) hw) (fun _ _ q => q.unwish) fun _ _ z => False.elim z⟩
section
variable {C : Cfg} {X : Cx} {S : SD} {e c tg iter : Expr} {es : List Expr} {st : Stmt} {sts sa sb body : List Stmt} {E : RE} {pos : Pos} {ex : Exn → Prop}
theorem x_leaf {f : SS} (h : SndS C X.nox st f) : SndSX C X st (leafS f) := fun S E ex w σ H F s D' k Wx _ _ =>
  of_ps (PS.nox1 ps_can) (h S E (WX_noX.mp w) σ H F s D' k)
theorem x_ret {f : SR} (h : SndRX C X e f) : SndSX C X (.Return (some e) pos) (retS f) := fun S E ex w σ H F s D' k Wx hw tk =>
  of_ps (ps_ret pe_can) (h S (fun r _ => E.rt r) ex (WX_bind.mp w) σ H F s D'.rt (fun v H' F' r fp S' s' e' rr q => k.rt v H' F' r fp s'.base s'.grow rr s'.fpOk q) Wx hw tk)
theorem x_drop {f : SR} (h : SndRX C X e f) (hs : swapsWith e none pos.line X.env = pure false := by rfl) : SndSX C X (.Expr e pos) (dropS f) := fun S E ex w σ H F s D' k Wx hw tk =>
  of_ps (ps_expr pe_can hs) (h S (fun _ S1 => E.nx S1) ex (WX_bind.mp w) σ H F s _ (fun v H1 F1 r fp S1 s1 e1 r1 q1 => by
    obtain ⟨F2, s2, e2, _⟩ := s1.fzR r1
    exact k.nx S1 σ H1 F2 s2 (Same.trans e1 e2) q1) Wx hw tk)
theorem x_nil : SndSsX C X [] nxS := fun S E ex w σ H F s D' k Wx _ _ => of_pss pss_nil (k.nx S σ H F s (Same.refl F) w)
theorem x_cons {f g : SS} (h : SndSX C X st f) (t : SndSsX C X sts g) : SndSsX C X (st :: sts) (seqS f g) := fun S E ex w σ H F s D' k Wx hw tk =>
  of_pss (pss_cons ps_can pss_can) (h S { E with nx := fun S1 => RxsX C X sts S1 E ex } ex (WX_mono (WX_bind.mp w) (fun o w1 => by
    cases o with
    | nx S1 => exact t S1 E ex w1
    | rt r => exact w1
    | bk S1 => exact w1
    | ct S1 => exact w1) fun _ z => z) σ H F s { D' with nx := CanSs X sts D' } ⟨fun S' σ' H' F' s' e q => q σ' H' F' s' D' (k.mono e) Wx hw tk, k.rt, k.bk, k.ct⟩ Wx hw tk)
theorem x_one {f : SS} (h : SndSX C X st f) : SndSsX C X [st] f := fun S E ex w σ H F s D' k Wx hw tk =>
  of_pss (pss_cons ps_can pss_can) (h S { E with nx := fun S1 => RxsX C X [] S1 E ex } ex (WX_mono w (fun o w1 => by
    cases o with
    | nx S1 => exact x_nil S1 E ex w1
    | rt r => exact w1
    | bk S1 => exact w1
    | ct S1 => exact w1) fun _ z => z) σ H F s { D' with nx := CanSs X [] D' } ⟨fun S' σ' H' F' s' e q => q σ' H' F' s' D' (k.mono e) Wx hw tk, k.rt, k.bk, k.ct⟩ Wx hw tk)
theorem x_if {cf : SC} {f g : SS} (hc : SndC C X.nox c cf) (h1 : SndSsX C X sa f) (h2 : SndSsX C X sb g) : SndSX C X (.If c sa sb pos) (ifXS cf f g) := fun S E ex w σ H F s D' k Wx hw tk =>
  of_ps (ps_if (PT.nox pt_can) pss_can pss_can) (hc S (fun b S1 => WX (if b then f S1 else g S1) (OutP E) ex) (WX_noX.mp (WX_bind.mp w)) [] σ H F s _ fun b H1 F1 S1 s1 e1 q1 => by
    cases b with
    | true => rw [if_pos rfl]; exact h1 S1 E ex q1 σ H1 F1 s1 D' (k.mono e1) Wx hw tk
    | false => rw [if_neg Bool.false_ne_true]; exact h2 S1 E ex q1 σ H1 F1 s1 D' (k.mono e1) Wx hw tk)
end
end Dm

namespace Dm
open PySem PySem.Spec PyProof.Rows L2
open GxR (TabB TabG Tabbed)

def xV : V → Prop
  | .str y => y.length ≤ 1000
  | .int i => 0 ≤ i ∧ i < 1000
  | _ => False
def spInit (C : Addr) (fs : List Str) : Sp := fun vs H Q _ => ∃ (a : Addr) (ws : List V), vs = .ref a :: ws ∧ ws.length = fs.length ∧ (∀ v ∈ ws, xV v) ∧ H a = some (exo a C none) ∧
  ∀ (d : Addr) (H' : Hp), H d = none → d ≠ a → H' a = some (exo a C (some d)) → H' d = some (exd d (fs.zip ws).reverse) → (∀ b, b ≠ a → b ≠ d → H' b = H b) → Q .non H'
def ClsX (P : Program) (w : World) (K : PySem.W.Frag) (mg : Str → Option Value) (base : Heap) (k : Nat) (c : Str) : Prop :=
  ∃ (Ca fI : Addr) (fd : FuncData), mg c = some (.ref Ca) ∧ OexC K Ca ∧ PySem.W.findIn K (.ref Ca) "__init__" = some (some (.ref fI)) ∧ PySem.W.typeIn K (.ref fI) = some (.type "function") ∧
    FnOk P w K mg base CX0 k fI fd ("self" :: xFields c) (spInit Ca (xFields c)) ∧ Binds K fd ("self" :: xFields c) []
theorem rep_xV {K : PySem.W.Frag} {st : Addr} {F : Hp} : ∀ {vs : List V} {ds : List D}, Reps K st F vs ds → ds.all xArg = true → ∀ v ∈ vs, xV v
  | _, _, .nil, _ => fun v hv => by cases hv
  | _, _, .cons (v := v0) (x := x0) h t, e => fun v hv => by
    rw [List.all_cons, Bool.and_eq_true] at e
    rcases List.mem_cons.mp hv with z | z
    · subst z
      cases h with
      | str y => exact of_decide_eq_true (p := y.length ≤ 1000) e.1
      | int i =>
        have := e.1
        unfold xArg at this
        simp only [Bool.and_eq_true, decide_eq_true_eq] at this
        exact this
      | non => exact absurd e.1 Bool.false_ne_true
      | bl b => exact absurd e.1 Bool.false_ne_true
      | tup => exact absurd e.1 Bool.false_ne_true
      | lst => exact absurd e.1 Bool.false_ne_true
      | strm => exact absurd e.1 Bool.false_ne_true
      | wt => exact absurd e.1 Bool.false_ne_true
      | dct => exact absurd e.1 Bool.false_ne_true
    · exact rep_xV t e.2 v z
section
variable {C : Cfg} {X : Cx} {S : SD} {e c tg iter : Expr} {es : List Expr} {pos : Pos}
theorem x_raise {k : Nat} {n : Str} {p pos' : Pos} {fs : List SP} (Cl : ClsX X.prog X.w X.K X.mg X.base k n) (hr : Room (k + 1) X.A) (h : SndAP C X (e :: es) (argsP fs)) (hc : X.calm = true := by rfl) (hg : Gl X n := by rfl) (hK : C.K = X.K := by rfl)
    (hdb : (n == ("__debug__" : Str)) = false := by decide) (he : starEach (e :: es) X.env = (false, eval e X.env) :: starEach es X.env := by rfl) (hpl : (backTo pos (starEach es X.env)).any (·.1) = false := by rfl) :
    SndSX C X (.Raise (some (.Call (.Name n p) (e :: es) [] pos)) none pos') (raiseS n fs) := fun S E ex w σ H F s D' kk Wx hw tk => by
  obtain ⟨Ca, fI, fd, hm, T, iC, tI, F1, hb⟩ := Cl
  have w1 : W (argsP fs S) fun q => WX (match PD.ats q.2 q.1 with | some ds => if xOk n ds = true then .exc (.mk n ds) else .fail | _ => .fail) (OutP E) ex := WX_noX.mp (WX_bind.mp w)
  refine of_ps (ps_raise hc tk (pmk_oex T iC tI F1 hr hb .nil pass0 hg hm pa_can hdb he hpl)) ?_
  refine h S (fun pds S1 => WX (match PD.ats S1 pds with | some ds => if xOk n ds = true then .exc (.mk n ds) else .fail | _ => .fail) (OutP E) ex) w1 [] σ H F s _ fun vs H1 F0 pds S1 s1 e1 r1 q1 => ?_
  dsimp only at q1
  cases hds : PD.ats S1 pds with
  | none => rw [hds] at q1; exact q1.elim
  | some ds =>
    rw [hds] at q1
    have q1 : WX (if xOk n ds = true then (.exc (.mk n ds) : Dm.T Out) else .fail) (OutP E) ex := q1
    by_cases hx : xOk n ds = true
    · rw [if_pos hx] at q1
      have q1 : ex (.mk n ds) := q1
      obtain ⟨F2, s2, e2, r2, _⟩ := s1.fzArgs r1 hds
      unfold xOk at hx
      rw [Bool.and_eq_true] at hx
      have hl : ds.length = (xFields n).length := of_decide_eq_true hx.1
      have hlv : vs.length = (xFields n).length := by rw [r2.length]; exact hl
      have h2 : (xFields n).length ≤ 2 := by
        unfold xFields
        repeat' split
        all_goals decide
      refine ⟨by omega, fun a ha => ⟨a, vs, by rw [List.append_nil], hlv, rep_xV r2 hx.2, upd_same, fun d H' hd hda ea ed ho => ⟨rfl, d, _, ea, ed, ?_, ?_⟩⟩⟩
      · rw [upd_ne hda] at hd
        exact hd
      · have hd1 : H1 d = none := by rw [upd_ne hda] at hd; exact hd
        have eH : upd (del H' a) d (.xd ((xFields n).zip vs).reverse) = upd H1 d (.xd ((xFields n).zip vs).reverse) := by
          funext b
          by_cases hbd : b = d
          · subst hbd
            rw [upd_same, upd_same]
          · rw [upd_ne hbd, upd_ne hbd]
            by_cases hba : b = a
            · rw [hba, del_same, ha]
            · rw [del_ne hba, ho b hba hbd, upd_ne hba]
        rw [eH]
        have s3 : Stt C (frzS pds S1) [] σ (upd H1 d (.xd ((xFields n).zip vs).reverse)) F2 := s2.grew fun b o e => by
          rw [upd_ne (ne_of_none e hd1)]
          exact e
        exact hw (.mk n ds) (.ref Ca) (some d) σ _ F2 s3.base s3.grow ⟨Ca, d, vs, rfl, hm, rfl, upd_same, by rw [← hK]; exact r2, hlv, s2.freshF hd1⟩ q1
    · rw [if_neg hx] at q1
      exact q1.elim
end

abbrev MX := List D → (RD → Prop) → (Exn → Prop) → Prop
def spX (K : PySem.W.Frag) (T : Tbs) (mg : Str → Option Value) (m : MX) : Sp := fun vs H Q E => ∃ (st : Addr) (F : Hp) (ds : List D) (R : RD → Prop) (ex : Exn → Prop), Base K T st true H F ∧ Reps K st F vs ds ∧ m ds R ex ∧
  (∀ v H' F' r fp, Base K T st true H' F' → Grow st true H F H' F' → RepR K st F' v r fp → FpOk K st H fp H' F' → R r → Q v H') ∧
  (∀ x cls d H' F', Base K T st true H' F' → Grow st true H F H' F' → XRep K mg st H' F' cls d x → ex x → E cls d H')
def DefX (P : Program) (w : World) (K : PySem.W.Frag) (mg : Str → Option Value) (base : Heap) (T : Tbs) (k : Nat) (x : Str) (ps : List Str) (m : MX) : Prop :=
  ∃ (f : Addr) (fd : FuncData), FnOk P w K mg base (L2.CX P w) k f fd ps (spX K T mg m) ∧ mg x = some (.ref f) ∧ PySem.W.keepIn K (.ref f) = true ∧ Binds K fd ps []
section
variable {C : Cfg} {X : Cx} {S : SD} {e : Expr} {es : List Expr}
theorem xr_call {k : Nat} {ps : List Str} {g : List D → T RD} {fs : List SP} {x : Str} {p pos : Pos} (G : DefX X.prog X.w X.K X.mg X.base C.T k x ps fun ds R ex => WX (g ds) R ex) (hr : Room k X.A) (h : SndAP C X (e :: es) (argsP fs))
    (hK : C.K = X.K := by rfl) (hgt : C.g = true := by rfl) (hg : Gl X x := by rfl) (hdb : (x == ("__debug__" : Str)) = false := by decide) (he : starEach (e :: es) X.env = (false, eval e X.env) :: starEach es X.env := by rfl) (hpl : (backTo pos (starEach es X.env)).any (·.1) = false := by rfl) :
    SndRX C X (.Call (.Name x p) (e :: es) [] pos) (callXR g fs) := fun S Q ex w σ H F s R kk Wx hw tk => by
  obtain ⟨f, fd, G, hm, hk, hb⟩ := G
  have w1 : W (argsP fs S) fun q => WX (match PD.ats q.2 q.1 with | some ds => (g ds).bind fun r => .ret (r, behind q.1 q.2 r) | _ => .fail) (fun p => Q p.1 p.2) ex := WX_noX.mp (WX_bind.mp w)
  refine of_pe (pe_call (E := fun cls d H' => ∀ σ', Wx cls d σ' H') G hr hg hm hk hb .nil (passes_call tk fun cls d σ' H' z => z σ') pa_can hdb he hpl) ?_
  refine h S (fun pds S1 => WX (match PD.ats S1 pds with | some ds => (g ds).bind fun r => .ret (r, behind pds S1 r) | _ => .fail) (fun p => Q p.1 p.2) ex) w1 [] σ H F s _ fun vs H1 F1 pds S1 s1 e1 r1 q1 => ?_
  dsimp only at q1
  cases hds : PD.ats S1 pds with
  | none => rw [hds] at q1; exact q1.elim
  | some ds =>
    rw [hds] at q1
    have q1 : WX (g ds) (fun r => Q r (behind pds S1 r)) ex := WX_bind.mp q1
    obtain ⟨F2, s2, e2, r2, hF2⟩ := s1.fzArgs r1 hds
    refine ⟨C.st, F2, ds, fun r => Q r (behind pds S1 r), ex, by rw [← hgt, ← hK]; exact s2.base, by rw [List.append_nil, ← hK]; exact r2, q1, fun v H' F' r fp b g rr ok q2 => ?_, fun y cls d H' F' b g xr q2 σ' => ?_⟩
    · rw [← hgt, ← hK] at b
      rw [← hgt] at g
      rw [← hK] at rr ok
      cases hn : r.noL with
      | true =>
        obtain ⟨F3, s3, e3, rr3⟩ := s1.back s2 e2 hF2 b g hgt rr hn ok
        have eb : behind pds S1 r = S1 := by unfold behind; rw [hn]; rfl
        rw [eb] at q2
        exact kk v H' F3 r fp S1 s3 (Same.trans e1 e3) rr3 q2
      | false =>
        have eb : behind pds S1 r = frzS pds S1 := by unfold behind; rw [hn]; rfl
        rw [eb] at q2
        have s3 := s2.called b g
        have s4 := Stt.addFp (H1 := H1) (fun b o e => g.al b (by rw [e]; exact fun z => by cases z)) (fun p hp => ⟨s2.fresh0 hp, (s2.noOwn hp).1, (s2.noOwn hp).2⟩) s3 ok
        exact kk v H' F' r fp _ s4 (Same.trans e1 (Same.trans e2 g.ff)) rr q2
    · rw [← hgt, ← hK] at b
      rw [← hgt] at g
      exact hw y cls d σ' H' F' b (s2.grow.trans g) xr q2
end
abbrev BXX (P : Program) (w : World) (K : PySem.W.Frag) (mg : Str → Option Value) (base : Heap) (N : List Str) (qual : Str) (sc : Scope) (f c : Addr) (A : Around) (outer : List Env) (s : Shared) (H : Hp) (E : XK) : Cx :=
  cxOf (L2.CX P w) P w K mg base N qual sc f (.ref c) A outer s H E
theorem bxx_own {P : Program} {w : World} {K : PySem.W.Frag} {mg : Str → Option Value} {base : Heap} {N : List Str} {qual : Str} {sc : Scope} {f c : Addr} {A : Around} {outer : List Env} {s : Shared} {H : Hp} {E : XK} :
    PassesOwn (model P w) (BXX P w K mg base N qual sc f c A outer s H E).A (BXX P w K mg base N qual sc f c A outer s H E).env (BXX P w K mg base N qual sc f c A outer s H E).xe := passes_of (X := BXX P w K mg base N qual sc f c A outer s H E) rfl
theorem defX_of {P : Program} {w : World} {K : PySem.W.Frag} {mg : Str → Option Value} {base : Heap} {T : Tbs} {x : Str} {st : Stmt} {N ps : List Str} {k : Nat} {m : MX} (Dt : DefT K mg base T x st ps) (Sc : FnScope N ps (defScope st)) (len : ∀ ds R ex, m ds R ex → ds.length = ps.length)
    (hbody : ∀ (c Pt f : Addr), TabB base mg c Pt → Pt ∈ T → ∀ (A : Around) (outer : List Env) (s : Shared) (H : Hp) (E : XK), Room k (A.deeper (envOfC x (defScope st) s.heap.objs.size f (.ref c))) → ∀ (sa : Addr) (H0 F0 : Hp) (ds : List D) (R : RD → Prop) (ex : Exn → Prop), m ds R ex →
      RxsX ⟨K, T, sa, true, H0, F0⟩ (BXX P w K mg base N x (defScope st) f c A outer s H E) (defBody st) (ds.map Slot.val ++ List.replicate (N.length - ds.length) Slot.none) { nx := fun _ => R (.d .non), rt := R } ex) : DefX P w K mg base T (k + 1) x ps m := by
  obtain ⟨c, Pt, f, fd, Fc, hm, hb, TB, hP⟩ := Dt
  have kp := Fc.kp
  obtain ⟨oc, od, kV, doc, pm, an, ct, osl, rfl, lk, hcd⟩ := Fc.ex
  refine ⟨f, _, fn_of lk hcd Sc (fun vs H Q E h => ?_) fun A outer s H vs Q E hr hsp => ?_, hm, kp, hb⟩
  · obtain ⟨sa, F1, ds, R, ex, b, r, hm, _⟩ := h
    rw [r.length]
    exact len ds R ex hm
  · obtain ⟨sa, F1, ds, R, ex, b, r, hm, q, qx⟩ := hsp
    have hl : ds.length ≤ N.length := by
      have h1 := len ds R ex hm
      have h2 := congrArg List.length Sc.pre
      rw [List.length_take] at h2
      omega
    have hb := hbody c Pt f TB hP A outer s H E hr sa H F1 ds R ex hm
    have z := hb (L2.start N vs) H F1 (stt_start b r hl) { nx := fun _ H' => Q .non H', rt := Q } ⟨fun S' σ' H' F' s' e q' => q .non H' F' (.d .non) [] s'.base s'.grow (.d .non) ⟨fun a xs m => (by cases m), (by simp)⟩ q', fun v H' F' d fp b' g' r' f' q' => q v H' F' d fp b' g' r' f' q', fun _ _ _ _ _ _ z => z.elim, fun _ _ _ _ _ _ z => z.elim⟩
      (fun cls d _ H => E cls d H) (fun y cls d σ' H' F' b' g' xr hx => qx y cls d H' F' b' g' xr hx) (takes_of (X := BXX P w K mg base N x (defScope st) f c A outer s H E) rfl rfl rfl rfl)
    exact ⟨_, pss_can (X := BXX P w K mg base N x (defScope st) f c A outer s H E), z⟩
theorem def_semX {P : Program} {w : World} {K : PySem.W.Frag} {mg : Str → Option Value} {base : Heap} {Tb : Tbs} {x : Str} {st : Stmt} {N ps : List Str} {k : Nat} {f : SS} (Dt : DefT K mg base Tb x st ps) (Sc : FnScope N ps (defScope st))
    (h : ∀ (c Pt fa : Addr), TabB base mg c Pt → Pt ∈ Tb → ∀ (A : Around) (outer : List Env) (s : Shared) (H : Hp) (E : XK), Room k (A.deeper (envOfC x (defScope st) s.heap.objs.size fa (.ref c))) → ∀ (sa : Addr) (H0 F0 : Hp),
      SndSsX ⟨K, Tb, sa, true, H0, F0⟩ (BXX P w K mg base N x (defScope st) fa c A outer s H E) (defBody st) f) :
    DefX P w K mg base Tb (k + 1) x ps fun ds R ex => ds.length = ps.length ∧ WX (defT N.length f ds) R ex :=
  defX_of Dt Sc (fun ds R ex h => h.1) fun c Pt fa TB hP A outer s H E hr sa H0 F0 ds R ex ⟨hl, hw⟩ => h c Pt fa TB hP A outer s H E hr sa H0 F0 _ _ ex (WX_mono (WX_bind.mp hw) (fun o w1 => by
    cases o with
    | nx S1 => exact w1
    | rt r => exact w1
    | bk S1 => exact w1.elim
    | ct S1 => exact w1.elim) fun _ z => z)
theorem def_semX' {P : Program} {w : World} {K : PySem.W.Frag} {mg : Str → Option Value} {base : Heap} {Tb : Tbs} {x : Str} {ps : List Str} {k n : Nat} {f : SS} (h : DefX P w K mg base Tb k x ps fun ds R ex => ds.length = ps.length ∧ WX (defT n f ds) R ex) :
    DefX P w K mg base Tb k x ps fun ds R ex => WX (arity ps.length (defT n f) ds) R ex := by
  obtain ⟨fa, fd, G, hm, hk, hb⟩ := h
  refine ⟨fa, fd, G.imp fun vs H Q E z => ?_, hm, hk, hb⟩
  obtain ⟨sa, F, ds, R, ex, b, r, z1, z2⟩ := z
  refine ⟨sa, F, ds, R, ex, b, r, ?_, z2⟩
  unfold arity at z1
  by_cases hl : ds.length = ps.length
  · simp only [hl, if_true] at z1
    exact ⟨hl, z1⟩
  · simp only [hl, if_false] at z1
    exact z1.elim
end Dm

namespace Dm
open PySem PySem.Spec PyProof.Rows L2 NdefX
open GxR (TabB TabG Tabbed)

theorem small_text : ∀ n : Fin 1000, (Str.ofString (toString ((n.val : Nat) : Int))).length ≤ 3 := by decide +kernel
theorem int_text {i : Int} (h0 : 0 ≤ i) (h1 : i < 1000) : (Str.ofString (toString i)).length ≤ 3 := by
  obtain ⟨n, rfl⟩ := Int.eq_ofNat_of_zero_le h0
  exact small_text ⟨n, by omega⟩
theorem str_app (a b : Str) : (a ++ b).length = a.length + b.length := by
  show (Str.append a b).length = _
  unfold Str.append Str.length
  simp
def JOk (m : Nat) (ts : List TE) (n : Nat) : Prop := ∀ (acc : Str) (σ : L2.St) (H : Hp) (Q : Str → Hp → Prop), (∀ i, 1 ≤ i → i ≤ m → ∃ v, σ[i]? = some (some v) ∧ xV v) → acc.length + n ≤ sizeLine → (∀ out, Q out H) → tJs ts acc σ H Q
theorem j_nil {m : Nat} : JOk m [] 0 := fun acc σ H Q _ _ q => q acc
theorem j_str {m n : Nat} {z : Str} {ts : List TE} (h : JOk m ts n) : JOk m (tC (.str z) :: ts) (z.length + n) := fun acc σ H Q hs hz q =>
  ⟨z, rfl, by rw [str_app]; omega, h _ σ H Q hs (by rw [str_app]; omega) q⟩
theorem j_fmt {m n i : Nat} {ts : List TE} (h : JOk m ts n) (h1 : 1 ≤ i := by decide) (h2 : i ≤ m := by decide) : JOk m (tFmt (tVar i) :: ts) (1000 + n) := fun acc σ H Q hs hz q => by
  obtain ⟨v, hv, hx⟩ := hs i h1 h2
  refine ⟨v, hv, ?_⟩
  cases v with
  | str y =>
    have hx : y.length ≤ 1000 := hx
    exact .inl ⟨y, rfl, by rw [sizeLine_eq]; omega, y, rfl, by rw [str_app]; omega, h _ σ H Q hs (by rw [str_app]; omega) q⟩
  | int k =>
    obtain ⟨a, b⟩ : 0 ≤ k ∧ k < 1000 := hx
    have hl := int_text a b
    refine .inr ⟨k, rfl, ?_, _, rfl, by rw [str_app]; omega, h _ σ H Q hs (by rw [str_app]; omega) q⟩
    have : k.natAbs.log2 ≤ k.natAbs := Nat.log2_le_self _
    omega
  | _ => exact hx.elim
section
variable {P : Program} {w : World} {K : PySem.W.Frag} {mg : Str → Option Value} {base : Heap}
structure ClsT (P : Program) (K : PySem.W.Frag) (mg : Str → Option Value) (c : Str) (sI : Stmt) (Ca fI cc cda : Addr) (fd : FuncData) : Prop where
  cm : mg c = some (.ref Ca)
  oc : OexC K Ca
  os : OexS K Ca
  ini : PySem.W.findIn K (.ref Ca) "__init__" = some (some (.ref fI))
  ty : PySem.W.typeIn K (.ref fI) = some (.type "function")
  no : ∀ f ∈ xFields c, PySem.W.findIn K (.ref Ca) f = some none
  ex : ∃ (oc : Value) (od : Option Addr) (dV kV doc pm ct : Value) (an : Option Addr) (osl : Array (Option Value)), fd = PySem.W.fnX "__init__" (c ++ ".__init__") (defArgs sI) (defBody sI) (defScope sI) [("__class__", cc)] dV kV doc pm an (.ref cda) ct ∧ K.lookup fI = some ⟨oc, od, .func fd, osl⟩
  bi : Binds K fd ("self" :: xFields c) []
  hcd : PySem.W.codeIn K (.ref cda) (c ++ ".__init__") = true
  lcc : ∃ (cl : Value) (cld : Option Addr) (csl : Array (Option Value)), K.lookup cc = some ⟨cl, cld, .cell (some (.ref Ca)), csl⟩
  lco : ∃ (ec : Value) (ed : Option Addr) (vs : Array Value) (sl : Array (Option Value)) (file : Str) (tf : Tok), K.lookup cda = some ⟨ec, ed, .fields vs, sl⟩ ∧ vs[2]? = some (.str file tf) ∧ ((P.main.file : Str) == file) = true
  top : (P.main.scope.names.lookup ("super" : Str)).isSome = false
  sup : mg "super" = none
  sc : NScope ("self" :: (xFields c ++ [("__class__" : Str)])) ("self" :: xFields c) ["__class__"] (defScope sI)
  ks : (defScope sI).names.lookup ("super" : Str) = some .globalImplicit
  kc : (defScope sI).names.lookup ("__class__" : Str) = some .free
  sl : (defScope sI).names.lookup ("self" : Str) = some .local
  ar : ((defArgs sI).posonlyargs ++ (defArgs sI).args).head?.map (·.arg) = some "self"
theorem ClsT.sup_at {c : Str} {sI : Stmt} {Ca fI cc cda : Addr} {fd : FuncData} (T : ClsT P K mg c sI Ca fI cc cda fd) {CX : CXT} {A : Around} {outer : List Env} {s : Shared} {H : Hp} {E : XK} {body : List Stmt} (hb : body = defBody sI) :
    SupAt (ncx CX P w K mg base ("self" :: (xFields c ++ [("__class__" : Str)])) ⟨"__init__", c ++ ".__init__", defArgs sI, body, defScope sI, [("__class__", cc)], cda⟩ fI A outer s H E) Ca "self" := by
  obtain ⟨oc, od, dV, kV, doc, pm, ct, an, osl, rfl, lk⟩ := T.ex
  obtain ⟨ec, ed, vs, sl, file, tf, l1, l2, l3⟩ := T.lco
  obtain ⟨cl, cld, csl, l4⟩ := T.lcc
  have ha := T.ar
  cases hh : ((defArgs sI).posonlyargs ++ (defArgs sI).args).head? with
  | none => rw [hh] at ha; cases ha
  | some a =>
    rw [hh] at ha
    exact ⟨⟨fI, oc, od, _, osl, a, rfl, lk, hh, Option.some.inj ha⟩, ⟨cda, ec, ed, vs, sl, file, tf, rfl, l1, l2, l3⟩, T.top, T.ks, T.kc, ⟨cc, cl, cld, csl, by simp [envF, PySem.W.envX, ncx, List.lookup], l4⟩, T.sup, T.sl⟩
theorem xv_slots {vs : List V} {N : List Str} {a : Addr} (hl : ∀ v ∈ vs, xV v) : ∀ i, 1 ≤ i → i ≤ vs.length → ∃ v, (startF N (.ref a :: vs) [none])[i]? = some (some v) ∧ xV v := fun i h1 h2 => by
  obtain ⟨j, rfl⟩ : ∃ j, i = j + 1 := ⟨i - 1, by omega⟩
  have hj : j < vs.length := by omega
  refine ⟨vs[j], ?_, hl _ (List.getElem_mem hj)⟩
  unfold startF
  rw [List.getElem?_append_left (by rw [List.length_map, List.length_cons]; omega), List.getElem?_map, List.getElem?_cons_succ, List.getElem?_eq_getElem hj]
  rfl
theorem clsX1 {c f : Str} {sI : Stmt} {Ca fI cc cda : Addr} {fd : FuncData} {v1 v2 : Expr} {rest : List Expr} {p0 p1 p2 p3 p4 p5 q1 q2 q3 q4 : Pos} {n : Nat} (T : ClsT P K mg c sI Ca fI cc cda fd) (hf : xFields c = [f])
    (hb : defBody sI = [.Expr (.Call (.Attribute (.Call (.Name "super" p0) [] [] p1) "__init__" p2) [.JoinedStr (v1 :: v2 :: rest) p5] [] p3) p4, .Assign [.Attribute (.Name "self" q1) f q2] (.Name f q3) q4])
    (hj : ∀ (X : Cx), X.N = [("self" : Str), f, "__class__"] → X.env.scope = defScope sI → ∃ ts, PJ X (v1 :: v2 :: rest) ts ∧ JOk 1 ts n) (hn : n ≤ 100000)
    (hvf : (defScope sI).names.lookup f = some .local) (hdf : (f == ("__debug__" : Str)) = false) (hcf : (f == ("__classdict__" : Str)) = false) {pl : Env → Sem Bool}
    (hev : ∀ env : Env, eval (.Call (.Attribute (.Call (.Name "super" p0) [] [] p1) "__init__" p2) [.JoinedStr (v1 :: v2 :: rest) p5] [] p3) env = (do
      let ov ← attributeBase (.Call (.Name "super" p0) [] [] p1) "__init__" env (eval (.Call (.Name "super" p0) [] [] p1) env)
      standAt p2.atName
      let (f, first) ← holding [ov] (getMethod ov "__init__" (pl env))
      callWith p3 f first (backTo p3 (starEach [.JoinedStr (v1 :: v2 :: rest) p5] env)) []) := by intro _; rfl) : ClsX P w K mg base 3 c := by
  have SA := fun {A outer s H E} => T.sup_at (w := w) (base := base) (CX := CX0) (A := A) (outer := outer) (s := s) (H := H) (E := E) hb.symm
  obtain ⟨oc, od, dV, kV, doc, pm, ct, an, osl, e, lk⟩ := T.ex
  have sc := T.sc
  rw [hb] at e
  rw [hf] at sc SA
  refine ⟨Ca, fI, fd, T.cm, T.oc, T.ini, T.ty, ?_, T.bi⟩
  subst e
  rw [hf]
  refine init_of (k := 2) (pl := pl) (hev := hev) lk T.hcd sc (fun vs H Q E h => ?_) rfl T.oc T.os T.lcc (fun A outer s H E => SA) (fun A outer s H vs Q E hr h => ?_)
  · obtain ⟨a, ws, rfl, hl, _⟩ := h
    rw [List.length_cons, hl]
    rfl
  · obtain ⟨a, ws, rfl, hl, hv, ea, q⟩ := h
    obtain ⟨ts, hpj, hjo⟩ := hj (ncx CX0 P w K mg base [("self" : Str), f, "__class__"] ⟨"__init__", c ++ ".__init__", defArgs sI, _, defScope sI, [("__class__", cc)], cda⟩ fI A outer s H E) rfl rfl
    obtain ⟨v, rfl⟩ : ∃ v, ws = [v] := by
      match ws, hl with
      | [v], _ => exact ⟨v, rfl⟩
    refine ⟨_, _, a, pa_cons (pe_joined hpj) pa_nil (by rfl), pss_cons (ps_ost (pe_var (i := 0) (by rfl) (.inl T.sl)) (pe_var (i := 1) (by rfl) (.inl hvf) hdf hcf) (by rfl)) pss_nil, rfl, ea, ?_⟩
    have ss := xv_slots (N := [("self" : Str), f, "__class__"]) (a := a) hv
    refine hjo Str.empty _ H _ ss (by rw [sizeLine_eq]; show 0 + n ≤ _; omega) fun out => ⟨show 1 ≤ 1000 by decide, ea, ?_⟩
    refine ⟨v, rfl, .ref a, rfl, a, Ca, rfl, T.oc, T.no f (by rw [hf]; exact List.mem_singleton.mpr rfl), .inl ⟨ea, fun dx hd hne => ?_⟩⟩
    exact q dx _ hd hne upd_same (by rw [upd_ne hne, upd_same]; rfl) fun b h1 h2 => by rw [upd_ne h1, upd_ne h2]
end
end Dm

namespace Dm
open PySem PySem.Spec PyProof.Rows L2
open GxR (TabB TabG Tabbed)

def tryT (h : Exn → T Out) : T Out → T Out
  | .ret a => .ret a
  | .fail => .fail
  | .exc x => h x
  | .draw n k => .draw n fun d => tryT h (k d)
theorem WX_try {h : Exn → T Out} {t : T Out} {Q : Out → Prop} {ex : Exn → Prop} : WX (tryT h t) Q ex ↔ WX t Q fun x => WX (h x) Q ex := by
  induction t with
  | ret a => exact Iff.rfl
  | fail => exact Iff.rfl
  | exc x => exact Iff.rfl
  | draw n k ih =>
    show (_ ∧ _) ↔ (_ ∧ _)
    exact ⟨fun ⟨h, q⟩ => ⟨h, fun d a b => (ih d).mp (q d a b)⟩, fun ⟨h, q⟩ => ⟨h, fun d a b => (ih d).mpr (q d a b)⟩⟩
def xSub (n c : Str) : Bool := decide (n = c) || decide (c = "RulesError") || decide (c = "ValueError")
mutual
def D.noS : D → Bool
  | .strm => false
  | .tup xs => D.noSs xs
  | .lst xs => D.noSs xs
  | .wt xs => D.noSs xs
  | .dct _ xs => D.noSs xs
  | _ => true
def D.noSs : List D → Bool
  | [] => true
  | x :: xs => D.noS x && D.noSs xs
end
mutual
def RD.noS : RD → Bool
  | .d x => x.noS
  | .own xs => D.noSs xs
  | .tup rs => RD.noSs rs
def RD.noSs : List RD → Bool
  | [] => true
  | r :: rs => RD.noS r && RD.noSs rs
end
section
variable {K : PySem.W.Frag} {a st : Addr} {F : Hp}
mutual
theorem Rep.reS : ∀ {v : V} {d : D}, Rep K a F v d → d.noS = true → Rep K st F v d
  | _, _, .non, _ => .non
  | _, _, .bl b, _ => .bl b
  | _, _, .int i, _ => .int i
  | _, _, .str z, _ => .str z
  | _, _, .tup h r, e => .tup h (Reps.reS r e)
  | _, _, .lst h r, e => .lst h (Reps.reS r e)
  | _, _, .strm, e => absurd e Bool.false_ne_true
  | _, _, .wt h r, e => .wt h (Reps.reS r e)
  | _, _, .dct h hk r, e => .dct h hk (Reps.reS r e)
theorem Reps.reS : ∀ {vs : List V} {xs : List D}, Reps K a F vs xs → D.noSs xs = true → Reps K st F vs xs
  | _, _, .nil, _ => .nil
  | _, _, .cons h t, e => by
    have e : (D.noS _ && D.noSs _) = true := e
    rw [Bool.and_eq_true] at e
    exact .cons (Rep.reS h e.1) (Reps.reS t e.2)
end
mutual
theorem RepR.reS : ∀ {v : V} {r : RD} {fp : Tmp}, RepR K a F v r fp → r.noS = true → RepR K st F v r fp ∧ ∀ p xs, (p, xs) ∈ fp → D.noSs xs = true
  | _, _, _, .d h, e => ⟨.d (h.reS e), fun p xs m => by cases m⟩
  | _, _, _, .own (a := b) (xs := ys), e => ⟨.own, fun p xs m => by
    rcases List.mem_cons.mp m with z | z
    · cases z; exact e
    · cases z⟩
  | _, _, _, .tup h r, e => ⟨.tup h (RepRs.reS r e).1, (RepRs.reS r e).2⟩
theorem RepRs.reS : ∀ {vs : List V} {rs : List RD} {fp : Tmp}, RepRs K a F vs rs fp → RD.noSs rs = true → RepRs K st F vs rs fp ∧ ∀ p xs, (p, xs) ∈ fp → D.noSs xs = true
  | _, _, _, .nil, _ => ⟨.nil, fun p xs m => by cases m⟩
  | _, _, _, .cons h t, e => by
    have e : (RD.noS _ && RD.noSs _) = true := e
    rw [Bool.and_eq_true] at e
    obtain ⟨h1, h2⟩ := RepR.reS h e.1
    obtain ⟨t1, t2⟩ := RepRs.reS t e.2
    exact ⟨.cons h1 t1, fun p xs m => by
      rcases List.mem_append.mp m with z | z
      · exact h2 p xs z
      · exact t2 p xs z⟩
end
end
def suiteT (su : Exn → T RD) (x : Exn) : T Out := (noX (su x)).bind fun r => if r.noS = true then .ret (.rt r) else .fail
def hdl (xs : List Str) (c : Str) (su : Exn → T RD) (more : Exn → T Out) (x : Exn) : T Out := if x.cls ∈ xs then (if xSub x.cls c = true then suiteT su x else more x) else .fail
def passX (x : Exn) : T Out := .exc x
def tryS (h : Exn → T Out) (f : SS) : SS := fun S => tryT h (f S)
def suSlots (n : Nat) (i : Option Nat) : SD := match i with
  | some i => (List.replicate n Slot.none).set i (.val .strm)
  | none => List.replicate n Slot.none
def SuOk (C : Cfg) (X : Cx) (i : Option Nat) (sts : List Stmt) (su : Exn → T RD) : Prop := ∀ (x : Exn) (R : RD → Prop), W (su x) (fun r => r.noS = true ∧ R r) → ∀ (a : Addr) (oe : Obj) (cls : Value) (d : Option Addr) (pn : List (Addr × Obj)) (H' F' : Hp), Zc cls d oe → (∃ vs, oe.data = .fields vs) →
  Base C.K C.T C.st C.g H' F' → XRep X.K X.mg C.st H' F' cls d x → Rxs ⟨C.K, C.T, a, false, H', F'⟩ (X.suite a ((a, oe) :: pn)) sts (suSlots X.N.length i) { nx := fun _ => False, rt := fun r => r.noS = true ∧ R r }
def XmOk (K : PySem.W.Frag) (mg : Str → Option Value) (xs : List Str) (c : Str) (cv : Value) : Prop := ∀ n ∈ xs, ∀ a, mg n = some (.ref a) → PySem.W.exmOne K (.ref a) cv = some (xSub n c)
theorem slots_none {n : Nat} {i : Option Nat} {j : Nat} {q : Slot} (e : (suSlots n i)[j]? = some q) : q = Slot.none ∨ (q = Slot.val .strm ∧ i = some j) := by
  cases i with
  | none =>
    have e : (List.replicate n Slot.none)[j]? = some q := e
    rw [List.getElem?_replicate] at e
    split at e <;> cases e
    exact .inl rfl
  | some i =>
    have e : ((List.replicate n Slot.none).set i (Slot.val .strm))[j]? = some q := e
    rcases getset e with ⟨rfl, z⟩ | ⟨_, z⟩
    · exact .inr ⟨z, rfl⟩
    · rw [List.getElem?_replicate] at z
      split at z <;> cases z
      exact .inl rfl
section
variable {C : Cfg} {X : Cx} {E : RE} {F : Hp} {D' : Ends} {σ : L2.St} {H' F' : Hp} {a : Addr}
theorem su_stt {n : Nat} {i : Option Nat} (b : Base C.K C.T C.st C.g H' F') (hi : ∀ j, i = some j → σ[j]? = some (some (.ref a))) : Stt ⟨C.K, C.T, a, false, H', F'⟩ (suSlots n i) [] σ H' F' := by
  have b' : Base C.K C.T a false H' F' := ⟨b.sub, b.kind, b.tab, b.lam, fun z => absurd z Bool.false_ne_true⟩
  refine ⟨b', b', Grow.refl, fun j d e => ?_, fun j xs e => ?_, fun j k xs ys p e => ?_, fun p xs m => (by cases m), fun j ys p xs m => (by cases m), by simp, DcOk.no fun i ks xs e => by
    rcases slots_none e with z | ⟨z, _⟩ <;> cases z⟩
  · rcases slots_none e with z | ⟨z, hj⟩
    · cases z
    · cases z
      exact ⟨.ref a, hi j hj, .strm⟩
  · rcases slots_none e with z | ⟨z, _⟩ <;> cases z
  · rcases slots_none e with z | ⟨z, _⟩ <;> cases z
theorem su_ends {D2 : Ends} (b : Base C.K C.T C.st C.g H' F') (g : Grow C.st C.g C.H0 C.F0 H' F') (k : ROk C F E D') (hrt : D2.rt = D'.rt) : ROk ⟨C.K, C.T, a, false, H', F'⟩ F' { nx := fun _ => False, rt := fun r => r.noS = true ∧ E.rt r } D2 := by
  refine ⟨fun _ _ _ _ _ _ z => z.elim, fun v H2 F2 r fp b2 g2 rr ok ⟨hn, q⟩ => ?_, fun _ _ _ _ _ _ z => z.elim, fun _ _ _ _ _ _ z => z.elim⟩
  rw [hrt]
  obtain ⟨rr', hno⟩ := rr.reS (st := C.st) hn
  have keep : ∀ x o, H' x = some o → (∀ ps, o ≠ .tbl ps) → H2 x = some o := fun x o e h => g2.hh x o e h fun z => absurd z Bool.false_ne_true
  have b3 : Base C.K C.T C.st C.g H2 F2 := ⟨b2.sub, b2.kind, b2.tab, b2.lam, fun hg => by
    obtain ⟨h1, cs, c, kk, ns, h2, h3, h4⟩ := b.rng hg
    exact ⟨g2.nn _ h1 (by show H' C.st ≠ none; rw [h2]; exact fun z => by cases z), cs, c, kk, ns, keep _ _ h2 (fun ps z => by cases z), g2.ff _ _ h3, h4⟩⟩
  have g3 : Grow C.st C.g H' F' H2 F2 := ⟨g2.ff, fun x o e h1 _ => keep x o e h1, g2.nn, g2.al, fun hg q c kk e => ⟨c, kk, keep _ _ e fun ps z => by cases z⟩⟩
  refine k.rt v H2 F2 r fp b3 (g.trans g3) rr' ⟨fun p xs m => ?_, ok.2⟩ q
  obtain ⟨vs, h1, h2, h3, h4⟩ := ok.1 p xs m
  refine ⟨vs, h1, ?_, h3, h4.reS (hno p xs m)⟩
  cases e : C.H0 p with
  | none => rfl
  | some o => exact absurd h2 (g.al p (by rw [e]; exact fun z => by cases z))
end
section
variable {C : Cfg} {X : Cx} {S : SD} {body suite : List Stmt} {b₀ : Stmt} {pos pos' np : Pos}
theorem s_of_x {st : Stmt} {f : SS} (h : SndSX C X st f) : SndS C X st f := fun S E w σ H F s D' k =>
  h S E (fun _ => False) (WX_no.mpr w) σ H F s D' k (fun _ _ _ _ => False) (fun _ _ _ _ _ _ _ _ _ z => z) takes_none5
end
end Dm

namespace Dm
open PySem PySem.Spec PyProof.Rows L2
open GxR (TabB TabG Tabbed)

def endO : Out → T RD
  | .rt r => .ret r
  | _ => .fail
theorem su_of {C : Cfg} {X : Cx} {sts : List Stmt} {i : Option Nat} {fS : Exn → SS} (h : ∀ (x : Exn) (a : Addr) (oe : Obj) (cls : Value) (d : Option Addr) (pn : List (Addr × Obj)) (H' F' : Hp), Zc cls d oe → (∃ vs, oe.data = .fields vs) → XRep C.K X.mg C.st H' F' cls d x →
    SndSs ⟨C.K, C.T, a, false, H', F'⟩ (X.suite a ((a, oe) :: pn)) sts (fS x)) (hK : C.K = X.K := by rfl) : SuOk C X i sts (fun x => (fS x (suSlots X.N.length i)).bind endO) := fun x R w a oe cls d pn H' F' hz hf b xr =>
  h x a oe cls d pn H' F' hz hf (by rw [hK]; exact xr) _ _ (W_mono (W_bind.mp w) fun o q => by
    cases o with
    | rt r => exact q
    | nx S => exact q.elim
    | bk S => exact q.elim
    | ct S => exact q.elim)
def XsT (K : PySem.W.Frag) (mg : Str → Option Value) (xs : List Str) : Prop := ∀ n ∈ xs, ∀ a, mg n = some (.ref a) → XfC K a ∧ ∀ f ∈ xFields n, PySem.W.findIn K (.ref a) f = some none
def xField (x : Exn) (f : Str) : Option D := ((xFields x.cls).zip x.args).lookup f
def xfQ (xs : List Str) (x : Exn) (f : Str) (i : Nat) : SQ := fun S => match S[i]? with
  | some (.val .strm) => if x.cls ∈ xs then match xField x f with
    | some d => if d.noS = true then .ret (d, S) else .fail
    | none => .fail
    else .fail
  | _ => .fail
theorem look_mem {α : Type} {f : Str} {y : α} : ∀ {l : List (Str × α)}, l.lookup f = some y → (f, y) ∈ l
  | [], h => by cases h
  | (g, z) :: l, h => by
    rw [List.lookup_cons] at h
    by_cases e : f = g
    · subst e
      simp at h
      subst h
      exact List.mem_cons_self
    · have : (f == g) = false := by simpa using e
      rw [this] at h
      exact List.mem_cons_of_mem _ (look_mem h)
theorem zip_reps {K : PySem.W.Frag} {st : Addr} {F : Hp} {f : Str} {d : D} : ∀ {fs : List Str} {vs : List V} {ds : List D}, fs.Nodup → Reps K st F vs ds → (fs.zip ds).lookup f = some d → ∃ v, (fs.zip vs).lookup f = some v ∧ Rep K st F v d
  | [], _, _, _, _, h => by simp at h
  | g :: fs, _, _, _, .nil, h => by simp at h
  | g :: fs, _, _, hn, .cons (v := v) (x := x) hv t, h => by
    rw [List.zip_cons_cons, List.lookup_cons] at h ⊢
    by_cases e : f = g
    · subst e
      simp at h ⊢
      subst h
      exact hv
    · have : (f == g) = false := by simpa using e
      rw [this] at h ⊢
      exact zip_reps (List.nodup_cons.mp hn).2 t h
theorem look_none' {α : Type} {f : Str} : ∀ {l : List (Str × α)}, (∀ y, (f, y) ∉ l) → l.lookup f = none
  | [], _ => rfl
  | (g, z) :: l, h => by
    rw [List.lookup_cons]
    have : (f == g) = false := by
      by_cases e : f = g
      · subst e
        exact absurd List.mem_cons_self (h z)
      · simpa using e
    rw [this]
    exact look_none' fun y m => h y (List.mem_cons_of_mem _ m)
theorem look_rev {α : Type} {f : Str} : ∀ {fs : List Str} {vs : List α}, fs.Nodup → (fs.zip vs).reverse.lookup f = (fs.zip vs).lookup f
  | [], _, _ => rfl
  | _ :: _, [], _ => rfl
  | g :: fs, v :: vs, hn => by
    rw [List.zip_cons_cons, List.reverse_cons, List.lookup_append, look_rev (List.nodup_cons.mp hn).2]
    by_cases e : f = g
    · subst e
      have : (fs.zip vs).lookup f = none := look_none' fun y m => (List.nodup_cons.mp hn).1 (List.of_mem_zip m).1
      rw [this]
      simp [List.lookup]
    · have h2 : (f == g) = false := by simpa using e
      have r : List.lookup f ((g, v) :: fs.zip vs) = (fs.zip vs).lookup f := by rw [List.lookup_cons, h2]
      rw [r]
      cases (fs.zip vs).lookup f with
      | some y => rfl
      | none => simp [List.lookup, h2]
theorem xf_nodup (c : Str) : (xFields c).Nodup := by
  unfold xFields
  repeat' split
  all_goals decide
section
variable {C : Cfg} {X : Cx} {a : Addr} {oe : Obj} {cls : Value} {d : Option Addr} {pn : List (Addr × Obj)} {H' F' : Hp} {x : Exn}
theorem q_xf {xs : List Str} {e f : Str} {i : Nat} {p pos : Pos} (Xt : XsT X.K X.mg xs) (hz : Zc cls d oe) (hf : ∃ vs, oe.data = .fields vs) (xr : XRep C.K X.mg C.st H' F' cls d x) (hN : X.N[i]? = some e := by rfl) (hv : X.env.scope.names.lookup e = some .local := by rfl) (hK : C.K = X.K := by rfl)
    (hd : (e == ("__debug__" : Str)) = false := by decide) (hcd : (e == ("__classdict__" : Str)) = false := by decide) (hb : attributeBase (.Name e p) f X.env (eval (.Name e p) X.env) = eval (.Name e p) X.env := by rfl) :
    SndQ ⟨C.K, C.T, a, false, H', F'⟩ (X.suite a ((a, oe) :: pn)) (.Attribute (.Name e p) f pos) (xfQ xs x f i) := fun S Q w tmp σ H F s R k => by
  obtain ⟨Ca, dd, vs, e1, e2, e3, e4, e5, e6, e7⟩ := xr
  unfold xfQ at w
  cases hS : S[i]? with
  | none => rw [hS] at w; exact w.elim
  | some sl =>
    rw [hS] at w
    cases sl with
    | none => exact w.elim
    | own _ => exact w.elim
    | dct _ _ => exact w.elim
    | val z =>
      cases z <;> first | exact w.elim | skip
      have w : W (if x.cls ∈ xs then match xField x f with | some d => if d.noS = true then .ret (d, S) else .fail | none => .fail else .fail) (fun p => Q p.1 p.2) := w
      by_cases hm : x.cls ∈ xs
      · rw [if_pos hm] at w
        cases hx : xField x f with
        | none => rw [hx] at w; exact w.elim
        | some y =>
          rw [hx] at w
          have w : W (if y.noS = true then .ret (y, S) else .fail) (fun p => Q p.1 p.2) := w
          by_cases hn : y.noS = true
          · rw [if_pos hn] at w
            obtain ⟨T, hno⟩ := Xt _ hm Ca e2
            obtain ⟨v, hv1, hv2⟩ := zip_reps (xf_nodup _) e5 hx
            have hfm : f ∈ xFields x.cls := (List.of_mem_zip (look_mem hv1)).1
            obtain ⟨u, hu, ru⟩ := s.val i _ hS
            cases ru
            refine of_pe (pe_xf T (hno f hfm) hz hf (pe_var (i := i) hN (.inl hv) hd hcd) hb) ⟨.ref a, hu, rfl, e1, dd, _, v, e3, ?_, (look_rev (xf_nodup _)).trans hv1, k v H F y S s (Same.refl F) (hv2.mono s.grow.ff |>.reS hn) w⟩
            exact s.grow.hh dd _ e4 (fun ps z => by cases z) (fun z => absurd z Bool.false_ne_true)
          · rw [if_neg hn] at w
            exact w.elim
      · rw [if_neg hm] at w
        exact w.elim
end
end Dm

namespace Dm
open PySem PySem.Spec PyProof.Rows L2
open GxR (TabB TabG Tabbed)

def HdT (K : PySem.W.Frag) (mg : Str → Option Value) (xs : List Str) (c : Str) : Prop := ∃ cv, mg c = some cv ∧ XmOk K mg xs c cv
def suF (n : Nat) (i : Option Nat) (fS : Exn → SS) (x : Exn) : T RD := (fS x (suSlots n i)).bind endO
def asgXS (f : SR) (g : SG) : SS := fun S => (f S).bind fun p => (noX (g p.1 p.2)).bind fun S1 => .ret (.nx S1)
section
variable {C : Cfg} {X : Cx} {S : SD} {body suite : List Stmt} {b₀ : Stmt} {pos pos' np : Pos}
end
def clsBody : Stmt → List Stmt
  | .ClassDef _ _ _ body _ _ _ _ _ _ _ => body
  | _ => []
end Dm

namespace Dm
open PySem PySem.Spec PyProof.Rows L2

abbrev TsA := Addr → Value → Option Addr → L2.TS
def endsA (i : Nat) (D : Ends) : Ends := { nx := fun σ' H' => D.nx (σ'.set i none) H', rt := D.rt, bk := fun σ' H' => D.bk (σ'.set i none) H', ct := fun σ' H' => D.ct (σ'.set i none) H' }
def wManyA (K : PySem.W.Frag) (Wout : L2.WX) (D : Ends) : List (Value × Nat × TsA) → L2.WX
  | [] => Wout
  | (c, i, ts) :: r => fun cls d σ H => ∃ b, PySem.W.exmOne K cls c = some b ∧ (b = true → ∀ a, H a = none → ts a cls d (endsA i D) (σ.set i (some (.ref a))) H) ∧ (b = false → wManyA K Wout D r cls d σ H)
inductive HdsA (X : Cx) : List ExceptHandler → List (Value × Nat × TsA) → Prop
  | nil : HdsA X [] []
  | cons {x n : Str} {c : Value} {i : Nat} {ts : TsA} {b₀ : Stmt} {suite : List Stmt} {np pos' : Pos} {hds : List ExceptHandler} {l : List (Value × Nat × TsA)} (hc : Names X x c) (hN : X.N.Nodup) (hi : X.N[i]? = some n) (hln : X.env.kindOf n = some .local)
      (hsu : ∀ (a : Addr) (oe : Obj) (cls : Value) (d : Option Addr) (pn : List (Addr × Obj)), Zc cls d oe → (∃ vs, oe.data = .fields vs) → PSs (X.suite a ((a, oe) :: pn)) (b₀ :: suite) (ts a cls d)) (r : HdsA X hds l) :
      HdsA X (.ExceptHandler (some (.Name x np)) (some n) (b₀ :: suite) pos' :: hds) ((c, i, ts) :: l)
section
variable {X : Cx} {body : List Stmt} {h₀ : ExceptHandler} {hds : List ExceptHandler} {l : List (Value × Nat × TsA)} {pos : Pos} {tb : L2.WX → L2.TS} {Wout : L2.WX}
theorem ps_try_manyA (hs : X.stack = X.env :: X.outer) (hf : X.env.frame = some X.env.locals) (tk : Takes X Wout)
    (hb : ∀ (W : L2.WX) (pn : List (Addr × Obj)) (xe : Value → Shared → Prop), Takes (X.tr pn xe) W → PassesOwn (model X.prog X.w) X.A X.env xe → PSs (X.tr pn xe) body (tb W))
    (hh : HdsA X (h₀ :: hds) l) : PS X (.Try body (h₀ :: hds) [] [] pos) (fun D σ H => tb (wManyA X.K Wout D l) D σ H) := by
  refine ⟨fun pins s σ H D I h => ?_⟩
  have ok := I.ok
  have hfr : X.A.frames = some (X.env :: X.outer) := by rw [ok.frames, hs]
  refine wpAny_Try_except ?_
  refine wpAny_mono ((hb (wManyA X.K Wout D l) (X.pn ++ pins) (fun e s₁ => wpAny (model X.prog X.w) X.A (noteFrame e X.env) (fun _ s₂ => wpAny (model X.prog X.w) X.A (setFlight e none) (fun _ s₃ =>
    wpAny (model X.prog X.w) X.A (handleBy e X.env (h₀ :: hds)) (L2.SP X pins D) X.xe s₃) X.xe s₂) X.xe s₁) (fun u s' xx => ?_) PassesOwn.looking).run [] s σ H D (I.toTry _) h) (fun f s1 hsp => ?_) (fun e s1 he => he)
  · -- the catch
    obtain ⟨a, B, sI, pins', σ', H', cls, d, rfl, J', nb, up, sky, na, os, ag, w⟩ := xx
    have J : Inv X pins σ' H' sI := J'.ofTry ok
    have sky' : Sky B (X.env :: X.outer) a (Zc cls d) X.env.locals s'.heap := by rw [← hs]; exact sky
    show wpAny (model X.prog X.w) X.A (noteFrame (.ref a) X.env) _ _ _
    refine Sky.land Zc.steady hfr hf sky' fun h3 fl3 up3 => ?_
    have J3 : Inv X pins σ' H' { s' with heap := h3 } := J.landed nb fl3.1 (up.trans up3) os ag
    obtain ⟨oe3, vs3, he3, hz3, hd3⟩ := fl3.there
    have notFr : ∀ {h : Heap} {o : Obj} {vs : Array Value}, h.FunFrames B (X.env :: X.outer) → h.get? a = some o → o.data = .fields vs → a ∉ frs (X.env :: X.outer) := fun {h o vs} ff e dd hm => by
      obtain ⟨_, o', e', hnf⟩ := ff.mem hm
      rw [e] at e'; cases e'
      exact hnf _ dd
    have nfr := notFr fl3.2.2.1 he3 hd3
    have nL : a ≠ X.env.locals := fun z => nfr (List.mem_filterMap.mpr ⟨X.env, List.mem_cons_self, by rw [hf, z]⟩)
    have nF : a ∉ X.fs := fun hm => by
      obtain ⟨e, he, q⟩ := List.mem_filterMap.mp hm
      exact nfr (List.mem_filterMap.mpr ⟨e, List.mem_cons_of_mem _ he, q⟩)
    have S3 := J3.suite he3 hd3 na nL nF
    have go : ∀ {hds' : List ExceptHandler} {l' : List (Value × Nat × TsA)}, HdsA X hds' l' → wManyA X.K Wout D l' cls d σ' H' →
        wpAny (model X.prog X.w) X.A (handleBy (.ref a) X.env hds') (L2.SP X pins D) X.xe { s' with heap := h3 } := by
      intro hds' l' hk
      induction hk with
      | nil =>
        intro w
        refine wpAny_handleBy_nil ?_
        obtain ⟨k1, k2, k3, oe, vs, T, oT, ts', he, hz, hd, h1, hr⟩ := id fl3
        unfold PySem.passOn
        refine wpAny_bind (wpAny_field he hd h1 ?_)
        rw [if_neg (show ¬ ((Value.ref T == Value.none) = true) from by simp)]
        have fin : wpAny (model X.prog X.w) X.A (setFlight (.ref a) X.env.frame) (fun _ s4 => wpAny (model X.prog X.w) X.A (throw (.ref a) : Sem Flow) (L2.SP X pins D) X.xe s4) X.xe { s' with heap := h3 } := by
          rw [hf]
          refine HandSPX.setFlight_upZ fl3 fun h4 hh4 up4 => wpAny_throw (tk _ _ ?_)
          exact ⟨a, B, sI, pins, σ', H', cls, d, rfl, J, nb, (up.trans up3).trans up4, .inr (.inr (by rw [hs]; exact hh4)), na, os, ag, w⟩
        first
          | exact wpAny_bind (wpAny_pure (wpAny_bind fin))
          | exact wpAny_bind fin
      | @cons x n c i ts b₀ suite np pos' hds2 l2 hc hN hi hln hsu r ih =>
        intro w
        obtain ⟨b, hb1, hyes, hno⟩ := w
        have hloc : Loc X.env.scope n := .inl hln
        refine wpAny_handleBy_cons (codeAny_handlers_test ?_) (by intro q; cases q)
        have LT : PySem.W.Looks (model X.prog X.w) h3 (typeOf (.ref a)) cls := fun A Q E s k q => wpAny_typeOf_ref (k _ _ he3) (by rw [hz3.1]; exact q)
        have LM := PySem.W.exm_one (M := model X.prog X.w) (J3.kIn) LT hb1
        have test : ∀ {Q : Value → Shared → Prop} {E : Value → Shared → Prop}, Q c { s' with heap := h3 } → wpAny (model X.prog X.w) (X.A.mark (some (.ref a))) (eval (.Name x np) X.env) Q E { s' with heap := h3 } := fun {Q E} q => by
          obtain ⟨hg, hdbg, hm | ⟨hm, hv, hnn⟩⟩ := hc
          · exact ld_glob (X := X.suite a ((a, oe3) :: (X.pn ++ pins))) S3 hg hm q hdbg
          · exact ld_blt (X := X.suite a ((a, oe3) :: (X.pn ++ pins))) S3 hg hm hv q hnn hdbg
        refine test (LM.here ?_)
        cases b with
        | true =>
          refine codeAny_handlers_suite_as ?_
          refine HandSPX.lands_againZ fl3 fun h4 fl4 up4 => ?_
          have J4 : Inv X pins σ' H' { s' with heap := h4 } := J.landed nb fl4.1 ((up.trans up3).trans up4) os ag
          obtain ⟨oe4, vs4, he4, hz4, hd4⟩ := fl4.there
          have S4 := J4.suite he4 hd4 na nL nF
          refine store_ok (X := X.suite a ((a, oe4) :: (X.pn ++ pins))) (v := .ref a) S4 hN hi hloc rfl (fun s5 S5 => ?_) (.inr hln)
          refine wpAny_mono ((hsu a oe4 cls d (X.pn ++ pins) hz4 ⟨_, hd4⟩).run [] s5 _ H' _ S5 (hyes rfl a na)) (fun f s6 hsp => ?_) (fun _ _ z => False.elim z)
          have end_ : ∀ {σ6 : L2.St} {H6 : Hp} {Q : Shared → Prop}, Inv (X.suite a ((a, oe4) :: (X.pn ++ pins))) [] σ6 H6 s6 → (∀ s7, Inv X pins (σ6.set i none) H6 s7 → Q s7) →
              wpAny (model X.prog X.w) X.A (do bindName X.env n .none; unbindBehindTheSuite X.env n pos') (fun _ s7 => Q s7) X.xe s6 := fun {σ6 H6 Q} S6 hq => gone_ok (S6.unsuite ok) hN hi hln hq
          cases f with
          | next =>
            obtain ⟨σ6, H6, S6, q6⟩ := hsp
            exact end_ S6 fun s7 J7 => ⟨_, _, J7, q6⟩
          | brk =>
            obtain ⟨σ6, H6, S6, q6⟩ := hsp
            exact end_ S6 fun s7 J7 => ⟨_, _, J7, q6⟩
          | cont =>
            obtain ⟨σ6, H6, S6, q6⟩ := hsp
            exact end_ S6 fun s7 J7 => ⟨_, _, J7, q6⟩
          | ret u =>
            obtain ⟨v6, σ6, H6, S6, r6, q6⟩ := hsp
            exact end_ S6 fun s7 J7 => ⟨_, _, _, J7, r6, q6⟩
        | false =>
          show wpAny _ X.A (handleBy (.ref a) X.env hds2) _ _ _
          exact ih (hno rfl)
    exact go hh w
  · cases f with
    | next =>
      obtain ⟨σ', H', J', q⟩ := hsp
      exact wpAny_execs_nil ⟨σ', H', J'.ofTry ok, q⟩
    | brk =>
      obtain ⟨σ', H', J', q⟩ := hsp
      exact ⟨σ', H', J'.ofTry ok, q⟩
    | cont =>
      obtain ⟨σ', H', J', q⟩ := hsp
      exact ⟨σ', H', J'.ofTry ok, q⟩
    | ret u =>
      obtain ⟨v, σ', H', J', r, q⟩ := hsp
      exact ⟨v, σ', H', J'.ofTry ok, r, q⟩
end
end Dm

namespace Dm
open PySem PySem.Spec PyProof.Rows L2
open GxR (TabB TabG Tabbed)
def tsOf (X : Cx) (suite : List Stmt) : TsA := fun a cls d D σ H => ∀ (oe : Obj) (pn : List (Addr × Obj)), Zc cls d oe → (∃ vs, oe.data = .fields vs) → CanSs (X.suite a ((a, oe) :: pn)) suite D σ H
section
variable {C : Cfg} {X : Cx} {E : RE} {F : Hp} {D' : Ends} {ex : Exn → Prop} {Wx : L2.WX} {suite body : List Stmt} {b₀ b₁ : Stmt} {pos pos' pos2 np np2 : Pos}
theorem xok_pass (hw : XOk C X ex Wx) : XOk C X (fun x => WX (passX x) (OutP E) ex) (wManyA X.K Wx D' []) := hw
theorem xok_cons {xs : List Str} {c n : Str} {cv : Value} {i : Nat} {su : Exn → T RD} {more : Exn → T Out} {l : List (Value × Nat × TsA)} (k : ROk C F E D') (hsu : SuOk C X (some i) (b₀ :: suite) su) (hx : XmOk X.K X.mg xs c cv) (hi : X.N[i]? = some n)
    (hw : XOk C X (fun x => WX (more x) (OutP E) ex) (wManyA X.K Wx D' l)) : XOk C X (fun x => WX (hdl xs c su more x) (OutP E) ex) (wManyA X.K Wx D' ((cv, i, tsOf X (b₀ :: suite)) :: l)) := fun x cls d σ' H' F' b g xr hex => by
  have hex : WX (if x.cls ∈ xs then (if xSub x.cls c = true then suiteT su x else more x) else .fail) (OutP E) ex := hex
  by_cases hm : x.cls ∈ xs
  · rw [if_pos hm] at hex
    obtain ⟨Ca, dd, vs, e1, e2, e3, e4, e5, e6, e7⟩ := id xr
    refine ⟨xSub x.cls c, by rw [e1]; exact hx _ hm Ca e2, fun ht a ha oe pn' hz hfl => ⟨fun pins s0 I => ?_⟩, fun hF => ?_⟩
    · rw [if_pos ht] at hex
      have hil : i < σ'.length := by
        have := I.len
        rw [List.length_set] at this
        rw [this]
        exact (List.getElem?_eq_some_iff.mp hi).1
      have wz : W (su x) fun r => r.noS = true ∧ E.rt r := W_mono (WX_noX.mp (WX_bind.mp hex)) fun r q => by
        by_cases hr : r.noS = true
        · rw [if_pos hr] at q
          exact ⟨hr, q⟩
        · rw [if_neg hr] at q
          exact q.elim
      exact (hsu x E.rt wz a oe cls d pn' H' F' hz hfl b xr _ H' F' (su_stt b fun j hj => by cases hj; exact List.getElem?_set_self hil) _ (su_ends (D2 := endsA i D') b g k rfl)).run pins s0 I
    · rw [if_neg (by rw [hF]; exact Bool.false_ne_true)] at hex
      exact hw x cls d σ' H' F' b g xr hex
  · rw [if_neg hm] at hex
    exact hex.elim
theorem x_try2E {xs : List Str} {c c2 n n2 : Str} {i j : Nat} {f : SS} {su su2 : Exn → T RD} {suite2 : List Stmt} (hb : ∀ (pn : List (Addr × Obj)) (xe : Value → Shared → Prop), PassesOwn (model X.prog X.w) X.A X.env xe → SndSsX C (X.tr pn xe) body f)
    (hsu : SuOk C X (some i) (b₀ :: suite) su) (hsu2 : SuOk C X (some j) (b₁ :: suite2) su2) (h : HdT X.K X.mg xs c) (h2 : HdT X.K X.mg xs c2) (hN : X.N.Nodup) (hg : Gl X c := by rfl) (hd : (c == ("__debug__" : Str)) = false := by decide) (hg2 : Gl X c2 := by rfl) (hd2 : (c2 == ("__debug__" : Str)) = false := by decide)
    (hi : X.N[i]? = some n := by rfl) (hln : X.env.kindOf n = some .local := by rfl) (hj : X.N[j]? = some n2 := by rfl) (hln2 : X.env.kindOf n2 = some .local := by rfl) (hs : X.stack = X.env :: X.outer := by rfl) (hf : X.env.frame = some X.env.locals := by rfl) :
    SndSX C X (.Try body [.ExceptHandler (some (.Name c np)) (some n) (b₀ :: suite) pos', .ExceptHandler (some (.Name c2 np2)) (some n2) (b₁ :: suite2) pos2] [] [] pos) (tryS (hdl xs c su (hdl xs c2 su2 passX)) f) := fun S E ex w σ H F s D' k Wx hw tk => by
  obtain ⟨cv, hc, hx⟩ := h
  obtain ⟨cv2, hc2, hx2⟩ := h2
  refine of_ps (ps_try_manyA (tb := fun W D σ H => ∀ (pn : List (Addr × Obj)) (xe : Value → Shared → Prop), Takes (X.tr pn xe) W → PassesOwn (model X.prog X.w) X.A X.env xe → CanSs (X.tr pn xe) body D σ H)
    (l := [(cv, i, tsOf X (b₀ :: suite)), (cv2, j, tsOf X (b₁ :: suite2))]) hs hf tk
    (fun W pn xe tk' po => ⟨fun pins s σ H D I h => (h pn xe tk' po).run pins s I⟩)
    (.cons ⟨hg, hd, .inl hc⟩ hN hi hln (fun a oe cls d pn hz hfl => ⟨fun pins s σ H D I h => (h oe pn hz hfl).run pins s I⟩) (.cons ⟨hg2, hd2, .inl hc2⟩ hN hj hln2 (fun a oe cls d pn hz hfl => ⟨fun pins s σ H D I h => (h oe pn hz hfl).run pins s I⟩) .nil))) ?_
  intro pn xe tk' po
  exact hb pn xe po S E (fun x => WX (hdl xs c su (hdl xs c2 su2 passX) x) (OutP E) ex) (WX_try.mp w) σ H F s D' k _ (xok_cons k hsu hx hi (xok_cons k hsu2 hx2 hj (xok_pass hw))) tk'
end
end Dm

namespace Dm
open PySem PySem.Spec PySem.Calls PyProof.Rows
section
open PySem.W
variable {prog : Program} {w : World} {A : Around} {E : Value → Shared → Prop} {s : Shared} {K : PySem.W.Frag} {x Dc : Addr} {ox od : Obj}
end
end Dm

namespace Dm
open PySem PySem.Spec PyProof.Rows L2
open GxR (TabB TabG Tabbed)
def xisQ (xs : List Str) (x : Exn) (y : Str) (i : Nat) : SQ := fun S => match S[i]? with
  | some (.val .strm) => if x.cls ∈ xs then .ret (.bl (xSub x.cls y), S) else .fail
  | _ => .fail
section
variable {C : Cfg} {X : Cx} {a : Addr} {oe : Obj} {cls : Value} {d : Option Addr} {pn : List (Addr × Obj)} {H' F' : Hp} {x : Exn}
end
end Dm

namespace Dm
open PySem PySem.Spec PyProof.Rows L2
def rgOwn (f : SQ) : SR := fun S => (f S).bind fun p => match p.1 with
  | .int n => if -1000000 ≤ n ∧ n ≤ 1000000 then .ret (.own (rngD 0 n.toNat), p.2) else .fail
  | _ => .fail
section
variable {C : Cfg} {X : Cx} {a b : Expr} {p q pos pos2 : Pos} {f : SQ} {S : SD}
end
end Dm

namespace Dm
open PySem PySem.Spec PyProof.Rows L2
theorem mt_tcount {X : Cx} : MtR X "tuple.count" (fun x xs H Q => ∃ p, ∃ ns : List Int, ∃ k : Int, x = .ref p ∧ xs = [.int k] ∧ SqT X.K H p (ns.map V.int) ∧ Q (.int (ns.count k : Nat)) H) :=
  fun pins s σ H x xs v us Q I rx rs h => by
    obtain ⟨p, ns, k, rfl, rfl, hq, q⟩ := h
    cases rx
    obtain ⟨u, rfl, ru⟩ := rs.one
    obtain ⟨t, rfl⟩ := ru
    obtain ⟨its, rv, pl, hz⟩ := I.tuple hq
    obtain ⟨⟨cls, dd, dt, sl⟩, ho, hc, n, hd⟩ := pl
    simp only at hc hd
    subst hc
    subst hd
    have hI := ints_of_vals rv
    have em : ∀ y ∈ its.toArray, y ∈ its := fun y hy => by simpa using hy
    have ec : its.toArray.toList.countP (eqk k) = ns.count k := eqk_count hI
    exact call_meets PySem.F.slot_tuple_count ⟨_, ho, rfl⟩ PySem.F.entry_tuple_count (PySem.F.args_tuple_count_2 _ _) (SeqAt.tuple_countAt p its.toArray n dd sl (.int k t) (eqk k)) ⟨ho, fun y hy => (eqk_gives hI y (em y hy)).at _ _, ⟨.int (ns.count k : Nat), H, I.tok _, ⟨s.toks, by rw [ec]⟩, q⟩⟩
def cntT : D → D → T D
  | .tup xs, .int k => match intsO xs with
    | some ns => .ret (.int (ns.count k : Nat))
    | _ => .fail
  | _, _ => .fail
def joinOp (a : D) (xs : List D) : T D := match a with
  | .str sep => match strsO xs with
    | some ys => if (ys.map (·.length)).sum + ys.length * sep.length ≤ 16777216 then .ret (.str (Txt.join sep ys)) else .fail
    | _ => .fail
  | _ => .fail
def joinQ (f : SQ) (g : SP) : SQ := fun S => (f S).bind fun p => (g p.2).bind fun q => (seqO q.2 q.1).bind fun xs => (joinOp p.1 xs).bind fun z => .ret (z, q.2)
section
variable {C : Cfg} {X : Cx} {a b : Expr} {f g : SQ} {pf : SP}
theorem q_cntT {apos cpos : Pos} (ha : SndQ C X a f) (hb : SndQ C X b g)
    (hbase : attributeBase a "count" X.env (eval a X.env) = eval a X.env := by rfl)
    (hfew : ((backTo cpos (starEach [b] X.env)).all (fun x => !x.1) && (backToKw cpos (keywordEach [] X.env)).all (fun x => x.1.isSome)
      && decide (([b] : List Expr).length + ([] : List Keyword).length + (if ([] : List Keyword).isEmpty then 0 else 1) < 30)) = true := by rfl)
    (hline : (apos.endLine == cpos.line) = true := by rfl) (hs : starEach [b] X.env = (false, eval b X.env) :: starEach [] X.env := by rfl) (hplain : (backTo cpos (starEach [] X.env)).any (·.1) = false := by rfl) (hK : C.K = X.K := by rfl) :
    SndQ C X (.Call (.Attribute a "count" apos) [b] [] cpos) (bin2 cntT f g) := fun S Q w tmp σ H F s R k =>
  of_pe (Tx.pe_tm PySem.F.slot_tuple_count PySem.F.type_tuple_count mt_tcount pe_can (pa_cons pe_can pa_nil hs) hbase hfew hline hs hplain) (ha.u (W_bind.mp w) tmp σ H F s _ fun v H1 F1 x S1 s1 e1 r1 w1 => by
    have hx : ∃ xs, x = .tup xs := W_any (W_mono (W_bind.mp w1) fun q w2 => by
      have w3 : W (cntT x q.1) fun z => Q z q.2 := W_bind.mp w2
      cases x <;> first | exact ⟨_, rfl⟩ | exact False.elim w3)
    obtain ⟨xs, rfl⟩ := hx
    refine ⟨by rw [← hK]; exact rep_whole s1 r1, hb.u (W_bind.mp w1) tmp σ H1 F1 s1 _ fun u H2 F2 d2 S2 s2 e2 r2 w2 => ?_⟩
    have w3 : W (cntT (.tup xs) d2) fun z => Q z S2 := W_bind.mp w2
    cases d2 <;> first | exact False.elim w3 | skip
    rename_i z
    unfold cntT at w3
    dsimp only at w3
    cases hz : intsO xs with
    | none => rw [hz] at w3; exact w3.no
    | some ns =>
      rw [hz] at w3
      dsimp only at w3
      cases r2
      obtain ⟨p, vs, rfl, hq, rr⟩ := rep_tup s2 (r1.mono e2)
      rw [intsO_ok hz] at rr
      obtain rfl := reps_ints rr
      rw [← hK]
      exact ⟨p, ns, z, rfl, rfl, hq, k _ H2 F2 (.int _) S2 s2 (Same.trans e1 e2) (.int _) w3⟩)
end
end Dm

namespace Dm
open PySem PySem.Spec PyProof.Rows L2
def gtL (K : PySem.W.Frag) : V → V → Hp → VK → Prop := fun o i H Q => ∃ (p : Addr) (vs : List V) (k : Nat) (z : V), o = .ref p ∧ i = .int (k : Nat) ∧ k < 2 ^ 63 ∧ SqL K H p vs ∧ vs[k]? = some z ∧ Q z H
theorem pgt_list {X : Cx} : PGet X (gtL X.K) := fun pins s σ H o i ov iv Q I ro ri h => by
  obtain ⟨p, vs, k, z, rfl, rfl, hk, hq, he, q⟩ := h
  cases ro
  obtain ⟨t, rfl⟩ := ri
  obtain ⟨its, r, pl, hz⟩ := I.list hq
  obtain ⟨w, ew, rw'⟩ := r.get he
  exact wpAny_getItem_list pl.isList (by omega) (by omega) (by rw [Int.toNat_natCast]; simpa using ew) ⟨z, H, I, rw', q⟩
def ixAugS (i : Nat) (op : Int → Int → Int) (ix f : SQ) : SS := fun S => (match S[i]? with
  | some (.own _) => .ret ()
  | _ => .fail : T Unit).bind fun _ => (ix S).bind fun q => match q.1, q.2[i]? with
  | .int n, some (.own xs) => if 0 ≤ n ∧ n < 1000000 then (match xs[n.toNat]? with
    | some (.int u) => (f q.2).bind fun p => match p.1, p.2[i]? with
      | .int v, some (.own ys) => if n.toNat < ys.length then .ret (.nx (p.2.set i (.own (ys.set n.toNat (.int (op u v)))))) else .fail
      | _, _ => .fail
    | _ => .fail) else .fail
  | _, _ => .fail
section
variable {C : Cfg} {X : Cx} {e : Expr} {pos p : Pos} {f : SQ}
theorem s_ixAug {i : Nat} {x : Str} {ix : Expr} {op : Operator} {fo : Int → Int → Int} {tpos : Pos} {gi : SQ} (hp : PIp X op (ipI fo)) (k : SndQ C X ix gi) (h : SndQ C X e f) (hN : X.N[i]? = some x := by rfl)
    (hv : Vis X.env.scope x := by first | exact Or.inl rfl | exact Or.inr (Or.inl rfl) | exact Or.inr (Or.inr rfl)) (hd : (x == ("__debug__" : Str)) = false := by decide) (hcd : (x == ("__classdict__" : Str)) = false := by decide)
    (ha : ∀ ov iv new, augStore ix ov iv new = (do holding [new, ov, iv] (setItem ov iv new); release [new, ov, iv] []; pure .next) := by intros; rfl) :
    SndS C X (.AugAssign (.Subscript (.Name x p) ix tpos) op e pos) (ixAugS i fo gi f) := fun S E w σ H F s D' kk =>
  of_ps (ps_augS (pe_var hN hv hd hcd) pe_can pgt_list pe_can hp set_list ha) (by
    obtain ⟨xs0, hS0, w1⟩ := ownU_w (W_bind.mp w)
    obtain ⟨a0, vs0, g1, g2, g3, g4, g5⟩ := s.own i xs0 hS0
    refine ⟨V.ref a0, g1, k.u (W_bind.mp w1) [] σ H F s _ fun u H1 F1 d S1 s1 e1 r1 w2 => ?_⟩
    cases d <;> first | exact w2.no | skip
    rename_i n
    dsimp only at w2
    cases hS1 : S1[i]? with
    | none => rw [hS1] at w2; exact w2.no
    | some sl =>
      rw [hS1] at w2
      cases sl <;> first | exact w2.no | skip
      rename_i xs
      dsimp only at w2
      split at w2
      · rename_i hn
        cases r1
        obtain ⟨a', us, q1, q2, q3, q4, q5⟩ := s1.own i xs hS1
        rw [g1] at q1
        cases q1
        cases hx : xs[n.toNat]? with
        | none => rw [hx] at w2; exact w2.no
        | some d =>
          rw [hx] at w2
          cases d <;> first | exact w2.no | skip
          rename_i u0
          dsimp only at w2
          obtain ⟨v0, hv0, rv0⟩ := q5.get hx
          cases rv0
          refine ⟨a0, us, n.toNat, _, rfl, by rw [show ((n.toNat : Nat) : Int) = n by omega], by omega, .inl (.inl q4), hv0, ?_⟩
          refine h.u (W_bind.mp w2) [] σ H1 F1 s1 _ fun y H2 F2 d2 S2 s2 e2 r2 w3 => ?_
          cases d2 <;> first | exact w3.no | skip
          rename_i v1
          dsimp only at w3
          cases hS2 : S2[i]? with
          | none => rw [hS2] at w3; exact w3.no
          | some sl =>
            rw [hS2] at w3
            cases sl <;> first | exact w3.no | skip
            rename_i ys
            dsimp only at w3
            split at w3
            · rename_i hl
              cases r2
              obtain ⟨a2, ws, p1, p2, p3, p4, p5⟩ := s2.own i ys hS2
              rw [g1] at p1
              cases p1
              refine ⟨u0, v1, rfl, rfl, a0, ws, n, n.toNat, rfl, rfl, p4, ?_, ?_⟩
              · have := ixN_nat (n := ws.length) (m := n.toNat) (by rw [p5.length]; exact hl)
                rwa [show ((n.toNat : Nat) : Int) = n by omega] at this
              · exact kk.nx _ σ _ F2 (s2.write hS2 g1 (reps_set _ p5 (.int _))) (Same.trans e1 e2) w3
            · exact w3.no
      · exact w2.no)
end
end Dm

namespace Dm
open PySem PySem.Spec PyProof.Rows L2
def compT2 (vs vs1 : List Nat) (tg : SGW) (ifs : SC) (it1 : SI) (tg1 : SGW) (ifs1 : SC) (elt : SQ) : List D → List D → SD → T (List D × SD)
  | [], acc, S => .ret (acc, S)
  | x :: xs, acc, S => (tg x S).bind fun S1 => (ifs S1).bind fun p => if p.1 then (it1 p.2).bind fun q => (compT vs1 tg1 ifs1 elt q.1 acc (wipeS q.2 vs1)).bind fun r => compT2 vs vs1 tg ifs it1 tg1 ifs1 elt xs r.1 (wipeS r.2 vs) else compT2 vs vs1 tg ifs it1 tg1 ifs1 elt xs acc (wipeS p.2 vs)
def lcR2 (it : SI) (vs vs1 : List Nat) (tg : SGW) (ifs : SC) (it1 : SI) (tg1 : SGW) (ifs1 : SC) (elt : SQ) : SR := fun S => (it S).bind fun p => (compT2 vs vs1 tg ifs it1 tg1 ifs1 elt p.1 [] (wipeS p.2 vs)).bind fun q => .ret (.own q.1, q.2)
section
variable {C : Cfg} {X : Cx} {iter tg elt iter1 tg1 : Expr} {ifs ifs1 : List Expr} {pos : Pos} {it it1 : SI} {gw gw1 : SGW} {cf cf1 : SC} {ef : SQ} {scope : Scope} {vs vs1 : List Nat}
end
end Dm

namespace Dm
open PySem PySem.Spec PyProof.Rows L2
def leP (p q : Int × Int) : Bool := !SrtO.lexB q p
def pairI (p : Int × Int) : D := .tup [.int p.1, .int p.2]
def insP (x : Int × Int) : List (Int × Int) → List (Int × Int)
  | [] => [x]
  | y :: ys => if leP x y then x :: y :: ys else y :: insP x ys
def sortP : List (Int × Int) → List (Int × Int)
  | [] => []
  | x :: xs => insP x (sortP xs)
def pairsO : List D → Option (List (Int × Int))
  | [] => some []
  | .tup [.int i, .int j] :: ds => match pairsO ds with
    | some ns => some ((i, j) :: ns)
    | none => none
  | _ => none
def sortedPr (f : SP) : SR := fun S => (f S).bind fun p => if isTupP p.1 then .fail else (seqO p.2 p.1).bind fun xs => match pairsO xs with
  | some ns => .ret (.own ((sortP ns).map pairI), p.2)
  | none => .fail
section
variable {C : Cfg} {X : Cx} {e a b c tg iter : Expr} {p pos : Pos} {pf : SP} {S : SD}
end
end Dm

namespace Dm
open PySem PySem.Spec PyProof.Rows L2
def ixG (i : Nat) (ix : SQ) : SG := fun r S => match r with
  | .d d => ((match S[i]? with
    | some (.own _) => .ret ()
    | _ => .fail : T Unit).bind fun _ => (ix S).bind fun q => match q.1, q.2[i]? with
      | .int n, some (.own xs) => if 0 ≤ n ∧ n.toNat < xs.length then .ret (q.2.set i (.own (xs.set n.toNat d))) else .fail
      | _, _ => .fail)
  | _ => .fail
section
variable {C : Cfg} {X : Cx} {e a b c iter tg o : Expr} {es rest ts : List Expr} {pos p p2 : Pos} {f g h : SQ} {pf : SP} {cf : SC}
end
end Dm

namespace Dm
open PySem PySem.Spec PyProof.Rows L2
open CpPm (pmObj pm0 ix3 cy3 ix4 cy4)
end Dm

namespace Dm
open PySem PySem.Spec PyProof.Rows L2
open CpPm (pmObj pm0 ix3 cy3 ix4 cy4)
def permD (xs : List D) : List D := match xs.length with
  | 3 => (List.range 6).map fun i => .tup ((ix3 i).map fun k => xs.getD k .non)
  | 4 => (List.range 24).map fun i => .tup ((ix4 i).map fun k => xs.getD k .non)
  | _ => []
def iPerm (f : SQ) : SI := fun S => (f S).bind fun p => match p.1 with
  | .lst xs => if xs.length = 3 ∨ xs.length = 4 then .ret (permD xs, p.2) else .fail
  | _ => .fail
section
variable {C : Cfg} {X : Cx} {S : SD} {tmp : Tmp} {σ : L2.St} {H F : Hp} {iter tg a : Expr} {p pos : Pos} {f : SQ}
end
end Dm

namespace Dm
open PySem PySem.Spec PyProof.Rows L2
section
variable {C : Cfg} {X : Cx} {a b : Expr} {f g : SQ}
end
end Dm

namespace Dm
open PySem PySem.Spec PyProof.Rows L2
open CpCb (cbObj CbOk)
end Dm

namespace Dm
open PySem PySem.Spec PyProof.Rows L2
open CpCb (cbObj CbOk)
def combO (r n : Nat) : Option (List (List Nat)) := if r = 2 ∧ n ≤ 20 then some (CpCb.cb2 n) else if r = 3 ∧ n ≤ 12 then some (CpCb.cb3 n) else none
def combD (L : List (List Nat)) (xs : List D) : List D := L.map fun ks => .tup (ks.map fun k => xs.getD k .non)
def iComb (r : Nat) (f : SQ) : SI := fun S => (f S).bind fun p => match seqD p.1 with
  | some xs => match combO r xs.length with
    | some L => .ret (combD L xs, p.2)
    | none => .fail
  | none => .fail
def iCombR (r : Nat) (f : SQ) : SI := fun S => (f S).bind fun p => match p.1 with
  | .int n => if 0 ≤ n then match combO r n.toNat with
    | some L => .ret (combD L (rngD 0 n.toNat), p.2)
    | none => .fail else .fail
  | _ => .fail
section
variable {C : Cfg} {X : Cx} {S : SD} {tmp : Tmp} {σ : L2.St} {H F : Hp} {iter tg a : Expr} {p p2 p3 pos : Pos} {f : SQ} {j : Nat}
end
end Dm

namespace Dm
open PySem PySem.Spec PyProof.Rows L2
def cntD : D → D → T D
  | .tup xs, d => if okN 8 d && okN 8 (.tup xs) then .ret (.int ((xs.countP fun y => eqD y d : Nat) : Int)) else .fail
  | _, _ => .fail
section
variable {C : Cfg} {X : Cx} {a b : Expr} {f g : SQ}
end
end Dm

namespace Dm
open PySem PySem.Spec PyProof.Rows L2
open GxR (TabB TabG Tabbed)
section
variable {C : Cfg} {X : Cx} {e a b c iter tg o : Expr} {es rest ts : List Expr} {pos p p2 : Pos} {f g h : SQ} {pf : SP} {cf : SC} {S : SD} {tmp : Tmp} {σ : L2.St} {H F : Hp}
end
end Dm

namespace Dm
open PySem PySem.Spec PyProof.Rows L2
open GxR (TabB TabG Tabbed)
section
variable {prog : Program} {w : World} {A : Around} {E Q : Value → Shared → Prop} {s : Shared}
end

section
variable {X : Cx} {pins : List (Addr × Obj)} {σ : L2.St} {H : Hp} {s : Shared}
end
section
variable {C : Cfg} {S : SD} {tmp : Tmp} {σ : L2.St} {H F : Hp}
end

section
variable {C : Cfg} {X : Cx} {a : Expr} {pf : SP} {pos : Pos}
end
end Dm

namespace Dm
open PySem PySem.Spec PyProof.Rows L2
open GxR (TabB TabG Tabbed)
section
variable {X : Cx}
end
section
variable {C : Cfg} {X : Cx} {a b : Expr} {pf : SP} {g : SQ} {pos p : Pos}
end
end Dm

namespace Dm
open PySem PySem.Spec PyProof.Rows L2
open GxR (TabB TabG Tabbed)
section
variable {P : Program} {w : World} {K : PySem.W.Frag} {mg : Str → Option Value} {base : Heap} {Tb : Tbs}
end
end Dm

namespace Tx
open PySem PySem.Spec PyProof.Rows L2
theorem mul_same (l : Addr) (items : Array Value) (n : Nat) (dd : Option Addr) (sl : Array (Option Value)) (x : Int) (u : Tok) (w1 : (decide (x < -(2 ^ 63)) || decide (x ≥ 2 ^ 63)) = false) (w2 : (items.isEmpty || x == 1) = true) :
    Meets (Builtin.«tuple.__mul__» ⟨[.ref l, .int x u], []⟩) (fun _ R s => s.heap.get? l = some { cls := .type "tuple", dict := dd, data := .seq items n, slots := sl } ∧ R (.ok (.ret (Value.ref l))) { s with heap := s.heap, toks := s.toks }) :=
  .of_wp fun prog w A R s h => by
    obtain ⟨hp, g, d, tk, os⟩ := s
    obtain ⟨hl, h⟩ := h
    have f1 := AutoSeq1.idx_int
    wp_walk using wpAny_loadPart' hl
    repeat (first
      | (refine wpAny_ite_false (decide_eq_false (by rw [w1]; exact Bool.false_ne_true)) ?_; wp_walk using wpAny_loadPart' hl)
      | (refine wpAny_ite_true (decide_eq_true (by rw [w2])) ?_; wp_walk using wpAny_loadPart' hl))
    exact ⟨_, rfl, h⟩
theorem mul_none (l : Addr) (items : Array Value) (n : Nat) (dd : Option Addr) (sl : Array (Option Value)) (x : Int) (u : Tok) (w1 : (decide (x < -(2 ^ 63)) || decide (x ≥ 2 ^ 63)) = false) (w2 : (items.isEmpty || x == 1) = false) (w3 : (decide (x ≤ 0) || items.isEmpty) = true) :
    Meets (Builtin.«tuple.__mul__» ⟨[.ref l, .int x u], []⟩) (fun _ R s => s.heap.get? l = some { cls := .type "tuple", dict := dd, data := .seq items n, slots := sl } ∧ R (.ok (.ret (Value.ref s.heap.objs.size))) { s with heap := s.heap.push { cls := Value.type "tuple", data := Data.seq #[] }, toks := s.toks }) :=
  .of_wp fun prog w A R s h => by
    obtain ⟨hp, g, d, tk, os⟩ := s
    obtain ⟨hl, h⟩ := h
    have f1 := AutoSeq1.idx_int
    wp_walk using wpAny_loadPart' hl
    repeat (first
      | (refine wpAny_ite_false (decide_eq_false (by rw [w1]; exact Bool.false_ne_true)) ?_; wp_walk using wpAny_loadPart' hl)
      | (refine wpAny_ite_false (decide_eq_false (by rw [w2]; exact Bool.false_ne_true)) ?_; wp_walk using wpAny_loadPart' hl)
      | (refine wpAny_ite_true (decide_eq_true (by rw [w3])) ?_; wp_walk using wpAny_loadPart' hl))
    exact ⟨_, rfl, h⟩
def rRep2 (K : PySem.W.Frag) : R2 := fun x y H Q => ∃ l k xs, x = .ref l ∧ y = .int k ∧ SqT K H l xs ∧ -1000 ≤ k ∧ k ≤ 1000 ∧ xs.length ≤ 1000 ∧ ((xs = [] ∨ k = 1) → Q (.ref l) H) ∧ (¬ (xs = [] ∨ k = 1) → New H Q (List.replicate k.toNat xs).flatten)
section
variable {X : Cx}
theorem op_times2 : OpR X (binaryOp .Mult) (rRep2 X.K) := by
  intro pins s σ H x y v u Q I rx ry h
  obtain ⟨l, k, xs, rfl, rfl, isT, low, most, short, q1, q2⟩ := h
  obtain ⟨tk, rfl⟩ := ry
  cases rx
  obtain ⟨its, r, ⟨⟨c, d, dat, sl⟩, at_l, c_is, n, d_is⟩, _⟩ := I.tuple isT
  simp only at c_is d_is
  subst c_is d_is
  have same : its.length = xs.length := r.length.symm
  have cnt : its.toArray.size = xs.length := by rw [List.size_toArray, same]
  have em : its.toArray.isEmpty = decide (xs = []) := by
    rw [Bool.eq_iff_iff, decide_eq_true_eq]
    cases its with
    | nil => exact ⟨fun _ => List.eq_nil_of_length_eq_zero same.symm, fun _ => rfl⟩
    | cons a b => exact ⟨(fun h => by cases h), (fun h => by rw [h] at same; cases same)⟩
  have w1 : (decide (k < -(2 ^ 63)) || decide (k ≥ 2 ^ 63)) = false := by rw [decide_eq_false (by omega), decide_eq_false (by omega)]; rfl
  refine wpAny_binaryOp_repeat_ref (T := "tuple") (U := "int") (by decide) ⟨_, at_l, rfl⟩ (fun s' => typeIs_int s' k tk) noFill_tuple_mul F.fills_int_mul F.slot_int_rmul repeat_tuple F.slot_int_index.lookup
    (call_meets F.slot_int_rmul (typeIs_int s k tk) F.entry_int_rmul (F.args_int_rmul_2 _ _) (int_rmul_tuple k tk l its.toArray n d sl)
      ⟨at_l, rfl, ⟨_, at_l, rfl⟩, ?_⟩)
  by_cases sm : xs = [] ∨ k = 1
  · have w2 : (its.toArray.isEmpty || k == 1) = true := by
      rw [em, Bool.or_eq_true, decide_eq_true_eq, beq_iff_eq]
      exact sm
    exact call_meets F.slot_tuple_mul ⟨_, at_l, rfl⟩ F.entry_tuple_mul (F.args_tuple_mul_2 _ _) (mul_same l its.toArray n d sl k tk w1 w2) ⟨at_l, .ref l, H, I, rfl, q1 sm⟩
  · have some' : xs ≠ [] := fun e => sm (.inl e)
    have one' : k ≠ 1 := fun e => sm (.inr e)
    have full : its.toArray.isEmpty = false := by rw [em]; exact decide_eq_false some'
    have w2 : (its.toArray.isEmpty || k == 1) = false := by
      rw [full, Bool.false_or]
      exact beq_eq_false_iff_ne.mpr one'
    by_cases z : k ≤ 0
    · have w3 : (decide (k ≤ 0) || its.toArray.isEmpty) = true := by rw [decide_eq_true z]; rfl
      refine call_meets F.slot_tuple_mul ⟨_, at_l, rfl⟩ F.entry_tuple_mul (F.args_tuple_mul_2 _ _) (mul_none l its.toArray n d sl k tk w1 w2 w3) ⟨at_l, ?_⟩
      have e : (List.replicate k.toNat xs).flatten = [] := by rw [show k.toNat = 0 by omega]; rfl
      have q2 := q2 sm
      rw [e] at q2
      exact put I .nil (by rw [List.length_nil]; exact Nat.zero_le _) q2 (t := s.toks)
    · have two : 2 ≤ k := by omega
      have much : k.toNat * xs.length ≤ 1000000 := Nat.le_trans (Nat.mul_le_mul (show k.toNat ≤ 1000 by omega) short) (by decide)
      have line : (1000000 : Nat) ≤ sizeLine := by rw [sizeLine_eq]; decide
      have prod : ((its.toArray.size : Nat) : Int) * k ≤ 1000000 := by
        have e : ((its.toArray.size : Nat) : Int) * k = ((k.toNat * xs.length : Nat) : Int) := by
          rw [cnt, Int.natCast_mul, Int.mul_comm]
          congr 1
          omega
        rw [e]
        generalize k.toNat * xs.length = m at much ⊢
        omega
      have w3 : (decide (k ≤ 0) || its.toArray.isEmpty) = false := by
        rw [full, Bool.or_false]
        exact decide_eq_false (by omega)
      have w4 : Builtin.Tuple.tupleTooMany (((its.toArray.size : Nat) : Int) * k) = false := by
        unfold Builtin.Tuple.tupleTooMany
        rw [sizeLine_eq]
        exact decide_eq_false (by omega)
      have len1 : (List.replicate k.toNat its).flatten.length ≤ sizeLine := by
        rw [PyProof.Rows.lm_len_rep_flat, same]
        exact Nat.le_trans much line
      have len2 : (List.replicate k.toNat xs).flatten.length ≤ sizeLine := by
        rw [PyProof.Rows.lm_len_rep_flat]
        exact Nat.le_trans much line
      refine call_meets F.slot_tuple_mul ⟨_, at_l, rfl⟩ F.entry_tuple_mul (F.args_tuple_mul_2 _ _) (tuple_mulW l its.toArray n d sl k tk w1 w2 w3 (by omega) w4 (by rw [size_rep, List.size_toArray]; exact len1)) ⟨at_l, ?_⟩
      rw [size_rep]
      exact put I (r.rep k.toNat) len2 (q2 sm) (t := s.toks)
end
end Tx
namespace Dm
open PySem PySem.Spec PyProof.Rows L2
section
variable {C : Cfg} {X : Cx} {a b : Expr} {f g : SQ} {pos : Pos} {S : SD} {Q : D → SD → Prop}
theorem rep_flat1 {α : Type} (xs : List α) : (List.replicate (Int.toNat 1) xs).flatten = xs := by
  show (List.replicate 1 xs).flatten = xs
  simp
theorem ev_mulT2 {pos : Pos} (h : EvQ C X a S fun x S1 => EvQ C X b S1 fun y S2 => ∃ xs k, x = .tup xs ∧ y = .int k ∧ -1000 ≤ k ∧ k ≤ 1000 ∧ xs.length ≤ 1000 ∧ Q (.tup (List.replicate k.toNat xs).flatten) S2) (hK : C.K = X.K := by rfl) : EvQ C X (.BinOp a .Mult b pos) S Q :=
  ev_bin Tx.op_times2 (ev_mono h fun x S1 h1 => ev_mono h1 fun y S2 ⟨xs, k, e1, e2, h2, h3, h4, q⟩ => fun S tmp σ H F v u s r1 r2 R w => by
    subst e1; subst e2
    obtain ⟨p, vs, rfl, q1, rr1⟩ := rep_tup s r1
    cases r2
    rw [← hK]
    have l1 := rr1.length
    refine ⟨p, k, vs, rfl, rfl, q1, h2, h3, by rw [l1]; exact h4, fun sm => ?_, fun _ p3 o hp ho => ?_⟩
    · have e : (List.replicate k.toNat xs).flatten = xs := by
        rcases sm with sm | sm
        · rw [sm] at l1
          rw [List.eq_nil_of_length_eq_zero l1.symm]
          simp
        · rw [sm]; exact rep_flat1 xs
      rw [e] at q
      exact w _ _ _ _ s (Same.refl _) r1 q
    · obtain ⟨s3, e3, r3⟩ := s.newT hp ho (rr1.flat k.toNat)
      exact w _ _ _ _ s3 e3 r3 q)
def mulT2 : D → D → T D
  | .tup xs, .int k => if -1000 ≤ k ∧ k ≤ 1000 ∧ xs.length ≤ 1000 then .ret (.tup (List.replicate k.toNat xs).flatten) else .fail
  | _, _ => .fail
theorem q_mulT2 (ha : SndQ C X a f) (hb : SndQ C X b g) (hK : C.K = X.K := by rfl) : SndQ C X (.BinOp a .Mult b pos) (bin2 mulT2 f g) := fun S Q w => ev_mulT2 (snd2 ha hb w fun x y S2 w => by
  cases x <;> first | (cases y <;> first | exact False.elim w | skip) | exact False.elim w
  unfold mulT2 at w
  dsimp only at w
  split at w
  · rename_i h
    exact ⟨_, _, rfl, rfl, h.1, h.2.1, h.2.2, w⟩
  · exact False.elim w) hK
end
section
variable {C : Cfg} {X : Cx} {a b c : Expr} {pf : SP} {pos p : Pos}
end
end Dm

namespace Dm
open PySem PySem.Spec PyProof.Rows L2
section
variable {C : Cfg} {X : Cx} {a b : Expr} {pf : SP} {g : SQ}
end
end Dm

namespace Dm
open PySem PySem.Spec PyProof.Rows L2
section
variable {C : Cfg} {X : Cx} {a b : Expr} {f g : SQ} {pos : Pos} {S : SD}
end
section
variable {C : Cfg} {X : Cx} {a : Expr} {pf : SP} {pos p : Pos}
end
end Dm

namespace Dm
open PySem PySem.Spec PyProof.Rows L2
open PySem.W (EachIs)
section
variable {C : Cfg} {X : Cx} {a : Expr} {pf : SP} {pos p : Pos}
end
end Dm

namespace Dm
open PySem PySem.Spec PyProof.Rows L2
section
variable {prog : Program} {w : World} {A : Around} {E : Value → Shared → Prop} {s : Shared}
end
section
variable {X : Cx} {a b : Expr}
end
section
variable {C : Cfg} {X : Cx} {a b : Expr} {f g : SQ} {p p2 pos pos2 : Pos}
end
end Dm

namespace Dm
open PySem PySem.Spec PyProof.Rows L2
section
variable {C : Cfg} {X : Cx} {iter : Expr} {f : SQ} {pos spos : Pos}
end
end Dm

namespace Dm
open PySem PySem.Spec PyProof.Rows L2
section
variable {C : Cfg} {X : Cx} {a : Expr} {pf : SP} {pos : Pos}
end
end Dm

namespace Dm
open PySem PySem.Spec PyProof.Rows L2
section
variable {C : Cfg} {X : Cx} {a b : Expr} {f : SR} {g : SQ} {pos : Pos} {tg iter : Expr} {QL Qi : List D → SD → Prop} {S : SD}
end
section
variable {C : Cfg} {X : Cx} {f : SR} {elt tg iter : Expr} {ifs : List Expr} {scope : Scope} {own : List (Str × Nat)} {gw : SGW} {cf : SC} {ef : SQ}
end
end Dm

namespace Dm
open PySem PySem.Spec PyProof.Rows L2
section
variable {C : Cfg} {S S1 : SD} {tmp : Tmp} {σ : L2.St} {H F F1 : Hp}
end
section
variable {C : Cfg} {X : Cx} {e1 e2 : Expr}
end
end Dm

namespace Dm
open PySem PySem.Spec PyProof.Rows L2
section
variable {X : Cx} {o b : Expr} {p pos apos mpos kpos : Pos} {td tb : TE}
end
section
variable {C : Cfg} {X : Cx} {o b : Expr} {f g : SQ} {p pos apos mpos kpos : Pos}
end
end Dm

namespace CpCb
open PySem PySem.Spec
open Sem (wp)
section
variable {prog : Program} {w : World} {A : Around} {E : Value → Shared → Prop} {s : Shared}
end
end CpCb
namespace Dm
open PySem PySem.Spec PyProof.Rows L2
open GxR (TabB TabG Tabbed)
section
variable {prog : Program} {w : World} {A : Around} {E Q : Value → Shared → Prop} {s : Shared}
end
section
variable {prog : Program} {w : World} {A : Around} {E Q : Value → Shared → Prop} {s : Shared}
end
section
variable {X : Cx} {pins : List (Addr × Obj)} {σ : L2.St} {H : Hp} {s : Shared}
end
section
variable {C : Cfg} {X : Cx} {a : Expr} {f : SQ} {pos p : Pos}
end
end Dm

namespace Dm
open PySem PySem.Spec PyProof.Rows L2
section
variable {C : Cfg} {X : Cx} {a b : Expr} {f g : SQ} {pos : Pos} {S : SD}
end
end Dm

namespace Dm
open PySem PySem.Spec PyProof.Rows L2
section
variable {C : Cfg} {X : Cx} {a b : Expr} {f g : SQ} {p : Pos}
end
end Dm

namespace Dm
open PySem PySem.Spec PyProof.Rows L2
section
variable {prog : Program} {w : World} {A : Around} {E : Value → Shared → Prop} {s : Shared}
end
section
variable {X : Cx} {e : Expr} {te : L2.St → Hp → (Int → Int → Hp → Prop) → Prop}
end
section
variable {C : Cfg} {X : Cx} {a b : Expr} {p q pos pos2 p3 pos3 : Pos} {f g : SQ}
end
end Dm

namespace Dm
open PySem PySem.Spec PyProof.Rows L2
section
variable {C : Cfg} {X : Cx} {a b : Expr} {pf : SP} {g : SQ}
end
end Dm

namespace Dm
open PySem PySem.Spec PyProof.Rows L2
section
variable {C : Cfg} {X : Cx} {a : Expr} {lo hi : Option Expr} {pf : SP} {lf hf : SO} {p2 pos : Pos}
end
end Dm

namespace Dm
open PySem PySem.Spec PyProof.Rows L2
open GxR (TabB TabG Tabbed)
def Cfg.wH (C : Cfg) (H0 : Hp) : Cfg := ⟨C.K, C.T, C.st, C.g, H0, C.F0⟩
def addH (H0 H : Hp) (A : List Addr) : Hp := fun b => if b ∈ A then H b else H0 b
structure Frm (C : Cfg) (S : SD) (σ : L2.St) (H F : Hp) (A : List Addr) : Prop where
  fn : ∀ a ∈ A, F a = none
  hn : ∀ a ∈ A, C.H0 a = none
  ls : ∀ a ∈ A, ∃ vs, H a = some (HO.lst vs)
  no : ∀ a ∈ A, ∀ (i : Nat) (xs : List D), S[i]? = some (Slot.own xs) → σ[i]? ≠ some (some (V.ref a))
section
variable {C : Cfg} {S S' : SD} {σ σ' : L2.St} {H F H' F' : Hp} {A : List Addr}
theorem addH_in {H0 H : Hp} {A : List Addr} {b : Addr} (h : b ∈ A) : addH H0 H A b = H b := by
  unfold addH
  exact if_pos h
theorem addH_out {H0 H : Hp} {A : List Addr} {b : Addr} (h : b ∉ A) : addH H0 H A b = H0 b := by
  unfold addH
  exact if_neg h
theorem Frm.st (f : Frm C S σ H F A) (s : Stt C S [] σ H F) (g : C.g = true) : C.st ∉ A := fun h => s.nst (f.hn _ h) g rfl
theorem Stt.frame (s : Stt C S [] σ H F) (f : Frm C S σ H F A) : Stt (C.wH (addH C.H0 H A)) S [] σ H F where
  b0 := s.b0.grow fun b o e => by
    show addH C.H0 H A b = some o
    rw [addH_out (fun h => by rw [f.hn b h] at e; cases e)]
    exact e
  base := s.base
  grow := ⟨s.grow.ff, fun b o e n1 n2 => by
    by_cases hb : b ∈ A
    · have e : addH C.H0 H A b = some o := e
      rw [addH_in hb] at e; exact e
    · have e : addH C.H0 H A b = some o := e
      rw [addH_out hb] at e; exact s.grow.hh b o e n1 n2, fun b e h => by
    by_cases hb : b ∈ A
    · exact f.fn b hb
    · have h : addH C.H0 H A b ≠ none := h
      rw [addH_out hb] at h; exact s.grow.nn b e h, fun b h => by
    by_cases hb : b ∈ A
    · have h : addH C.H0 H A b ≠ none := h
      rw [addH_in hb] at h; exact h
    · have h : addH C.H0 H A b ≠ none := h
      rw [addH_out hb] at h; exact s.grow.al b h, fun g q c k e => by
    have e : addH C.H0 H A C.st = some (.lst [.ref q, .int c, .int k]) := e
    rw [addH_out (f.st s g)] at e
    exact s.grow.cs g q c k e⟩
  val := s.val
  own := fun i xs h => by
    obtain ⟨a, vs, h1, h2, h3, h4, h5⟩ := s.own i xs h
    refine ⟨a, vs, h1, h2, ?_, h4, h5⟩
    show addH C.H0 H A a = none
    rw [addH_out (fun z => f.no a z i xs h h1)]
    exact h3
  dis := s.dis
  tm := fun a xs h => by cases h
  tdis := fun i ys a xs h => by cases h
  tnd := s.tnd
  dc := ⟨fun i ks xs h => by
    obtain ⟨a, kvs, h1, h2, h3, h4, h5, h6⟩ := s.dc.at' i ks xs h
    refine ⟨a, kvs, h1, h2, ?_, h4, h5, h6⟩
    show addH C.H0 H A a = none
    rw [addH_out (fun z => by obtain ⟨vs, e⟩ := f.ls a z; rw [h4] at e; cases e)]
    exact h3, s.dc.dis⟩
theorem Stt.unframe {tmp : Tmp} (s : Stt C S [] σ H F) (f : Frm C S σ H F A) (s' : Stt (C.wH (addH C.H0 H A)) S' tmp σ' H' F') : Stt C S' tmp σ' H' F' ∧ (∀ a ∈ A, H' a = H a) ∧ Frm C S' σ' H' F' A := by
  have n0 : ∀ b, addH C.H0 H A b = none → b ∉ A ∧ C.H0 b = none := fun b e => by
    by_cases hb : b ∈ A
    · rw [addH_in hb] at e
      obtain ⟨vs, z⟩ := f.ls b hb
      rw [z] at e; cases e
    · rw [addH_out hb] at e
      exact ⟨hb, e⟩
  have same : ∀ a ∈ A, H' a = H a := fun a ha => by
    obtain ⟨vs, e⟩ := f.ls a ha
    rw [e]
    refine s'.grow.hh a _ ?_ (fun ps z => by cases z) fun g z => f.st s g (by
      have z : a = C.st := z
      rw [← z]; exact ha)
    show addH C.H0 H A a = _
    rw [addH_in ha, e]
  refine ⟨⟨s.b0, s'.base, ⟨s'.grow.ff, fun b o e n1 n2 => s'.grow.hh b o ?_ n1 n2, fun b e h => s'.grow.nn b e ?_, fun b h => s'.grow.al b ?_, fun g q c k e => s'.grow.cs g q c k ?_⟩, s'.val, fun i xs h => ?_, s'.dis, fun a xs h => ?_, s'.tdis, s'.tnd, ⟨fun i ks xs h => ?_, s'.dc.dis⟩⟩, same, ⟨fun a ha => ?_, f.hn, fun a ha => ?_, fun a ha i xs h z => ?_⟩⟩
  · show addH C.H0 H A b = some o
    rw [addH_out (fun h => by rw [f.hn b h] at e; cases e)]; exact e
  · show addH C.H0 H A b ≠ none
    rw [addH_out (fun z => h (f.hn b z))]; exact h
  · show addH C.H0 H A b ≠ none
    rw [addH_out (fun z => h (f.hn b z))]; exact h
  · show addH C.H0 H A C.st = _
    rw [addH_out (f.st s g)]; exact e
  · obtain ⟨a, vs, h1, h2, h3, h4, h5⟩ := s'.own i xs h
    exact ⟨a, vs, h1, h2, (n0 a h3).2, h4, h5⟩
  · obtain ⟨vs, h2, h3, h4, h5⟩ := s'.tm a xs h
    exact ⟨vs, h2, (n0 a h3).2, h4, h5⟩
  · obtain ⟨a, kvs, h1, h2, h3, h4, h5, h6⟩ := s'.dc.at' i ks xs h
    exact ⟨a, kvs, h1, h2, (n0 a h3).2, h4, h5, h6⟩
  · obtain ⟨vs, e⟩ := f.ls a ha
    refine s'.grow.nn a ?_ ?_
    · show C.F0 a = none
      cases q : C.F0 a with
      | none => rfl
      | some o =>
        have := s.grow.ff a o q
        rw [f.fn a ha] at this
        cases this
    · show addH C.H0 H A a ≠ none
      rw [addH_in ha, e]
      exact fun z => by cases z
  · rw [same a ha]; exact f.ls a ha
  · obtain ⟨a', vs, h1, h2, h3, h4, h5⟩ := s'.own i xs h
    rw [z] at h1
    cases h1
    exact (n0 a h3).1 ha
theorem Stt.apart (s : Stt C S [] σ H F) {a : Addr} {vs : List V} (h2 : F a = none) (h3 : C.H0 a = none) (h4 : H a = some (HO.lst vs)) (no : ∀ (i : Nat) (xs : List D), S[i]? = some (Slot.own xs) → σ[i]? ≠ some (some (V.ref a))) (us : List V) : Stt C S [] σ (upd H a (.lst us)) F := by
  have nF : ∀ b o, F b = some o → b ≠ a := fun b o e z => by rw [z, h2] at e; cases e
  refine ⟨s.b0, ⟨fun b o e => ?_, s.base.kind, fun P hP => ?_, fun p hp => tabS_keep (s.base.lam p hp) fun b o e h => by rw [upd_ne (lamNe e h h4 (fun _ z => by cases z) (fun _ z => by cases z))]; exact e, fun g => ?_⟩, ⟨s.grow.ff, fun b o e n1 n2 => ?_, s.grow.nn, fun b e => ?_, fun g q c k e => by
    obtain ⟨c1, k1, e1⟩ := s.grow.cs g q c k e
    exact ⟨c1, k1, by rw [upd_ne (Ne.symm (s.nst h3 g))]; exact e1⟩⟩, s.val, fun j zs h => ?_, s.dis, fun b zs h => (by cases h), fun j zs b ws h => (by cases h), s.tnd, s.dc.mono (H' := upd H a (.lst us)) (fun b kvs e _ h => ⟨by rw [upd_ne (ne_of e h4 (fun z => by cases z))]; exact e, h⟩) (Same.refl _)⟩
  · rw [upd_ne (nF b o e)]
    exact s.base.sub b o e
  · obtain ⟨ps, q1, q2⟩ := s.base.tab P hP
    exact ⟨ps, by rw [upd_ne (ne_of q1 h4 (fun z => by cases z))]; exact q1, q2⟩
  · obtain ⟨q1, cs, c, k, ns, q2, q3⟩ := s.base.rng g
    exact ⟨q1, cs, c, k, ns, by rw [upd_ne (Ne.symm (s.nst h3 g))]; exact q2, q3⟩
  · rw [upd_ne (fun z => by rw [z, h3] at e; cases e)]
    exact s.grow.hh b o e n1 n2
  · by_cases z : b = a
    · rw [z, upd_same]
      exact fun z => by cases z
    · rw [upd_ne z]
      exact s.grow.al b e
  · obtain ⟨b, ws, g1, g2, g3, g4, g5⟩ := s.own j zs h
    refine ⟨b, ws, g1, g2, g3, ?_, g5⟩
    rw [upd_ne (fun z => no j zs h (by rw [← z]; exact g1))]
    exact g4
end

theorem nd_one {α : Type} (x : α) : [x].Nodup := List.nodup_cons.mpr ⟨by simp, List.nodup_nil⟩
theorem nd_inj {α : Type} {l : List α} {i j : Nat} {x : α} (h : l.Nodup) (h1 : l[i]? = some x) (h2 : l[j]? = some x) : i = j := by
  obtain ⟨a1, a2⟩ := List.getElem?_eq_some_iff.mp h1
  obtain ⟨b1, b2⟩ := List.getElem?_eq_some_iff.mp h2
  rcases Nat.lt_trichotomy i j with z | z | z
  · exact absurd (a2.trans b2.symm) (List.pairwise_iff_getElem.mp h i j a1 b1 z)
  · exact z
  · exact absurd (b2.trans a2.symm) (List.pairwise_iff_getElem.mp h j i b1 a1 z)
structure RwAt (C : Cfg) (H F : Hp) (as : List Addr) (rows : List (List D)) : Prop where
  len : as.length = rows.length
  at' : ∀ (k : Nat) (a : Addr) (xs : List D), as[k]? = some a → rows[k]? = some xs → ∃ vs, H a = some (HO.lst vs) ∧ Reps C.K C.st F vs xs
structure NSt (C : Cfg) (S : SD) (i : Option Nat) (rows : List (List D)) (p : Addr) (as : List Addr) (σ : L2.St) (H F : Hp) : Prop where
  s : Stt C S [] σ H F
  hσ : ∀ j, i = some j → σ[j]? = some (some (V.ref p))
  hp : H p = some (HO.lst (as.map V.ref))
  fr : Frm C S σ H F (p :: as)
  nd : (p :: as).Nodup
  rw : RwAt C H F as rows
section
variable {C : Cfg} {X : Cx} {S S' : SD} {i : Option Nat} {rows : List (List D)} {p : Addr} {as : List Addr} {σ σ' : L2.St} {H F H' F' : Hp} {e c b : Expr}
theorem NSt.after (n : NSt C S i rows p as σ H F) (s' : Stt (C.wH (addH C.H0 H (p :: as))) S' [] σ' H' F') (eF : Same F F') (hσ : ∀ j, i = some j → σ'[j]? = σ[j]?) : NSt C S' i rows p as σ' H' F' := by
  obtain ⟨s1, same, f1⟩ := n.s.unframe n.fr s'
  refine ⟨s1, fun j hj => by rw [hσ j hj]; exact n.hσ j hj, by rw [same p List.mem_cons_self]; exact n.hp, f1, n.nd, n.rw.len, fun k a xs h1 h2 => ?_⟩
  obtain ⟨vs, g1, g2⟩ := n.rw.at' k a xs h1 h2
  exact ⟨vs, by rw [same a (List.mem_cons_of_mem _ (List.mem_of_getElem? h1))]; exact g1, g2.mono eF⟩
theorem NSt.q {f : SQ} {P : D × SD → Prop} (n : NSt C S i rows p as σ H F) (h : ∀ H0, SndQ (C.wH H0) X e f) (w : W (f S) P) (R : VK) (k : ∀ v H' F' d S', NSt C S' i rows p as σ H' F' → Same F F' → Rep C.K C.st F' v d → P (d, S') → R v H') : CanE X e σ H R :=
  (h _).u w [] σ H F (n.s.frame n.fr) R fun v H' F' d S' s' e' r q => k v H' F' d S' (n.after s' e' fun _ _ => rfl) e' r q
theorem NSt.ct {f : SC} {P : Bool × SD → Prop} (n : NSt C S i rows p as σ H F) (h : ∀ H0, SndC (C.wH H0) X e f) (w : W (f S) P) (R : Bool → Hp → Prop) (k : ∀ v H' F' S', NSt C S' i rows p as σ H' F' → Same F F' → P (v, S') → R v H') : CanT X e σ H R :=
  (h _).u w [] σ H F (n.s.frame n.fr) R fun v H' F' S' s' e' q => k v H' F' S' (n.after s' e' fun _ _ => rfl) e' q
theorem NSt.push (n : NSt C S i rows p as σ H F) {k : Nat} {a : Addr} {xs : List D} {v : V} {d : D} (h1 : as[k]? = some a) (h2 : rows[k]? = some xs) (r : Rep C.K C.st F v d) : ∃ us, H a = some (HO.lst us) ∧ us.length = xs.length ∧ NSt C S i (rows.set k (xs ++ [d])) p as σ (upd H a (.lst (us ++ [v]))) F := by
  obtain ⟨us, g1, g2⟩ := n.rw.at' k a xs h1 h2
  have ha : a ∈ p :: as := List.mem_cons_of_mem _ (List.mem_of_getElem? h1)
  have hpa : p ≠ a := fun z => (List.nodup_cons.mp n.nd).1 (by rw [z]; exact List.mem_of_getElem? h1)
  refine ⟨us, g1, g2.length, n.s.apart (n.fr.fn a ha) (n.fr.hn a ha) g1 (n.fr.no a ha) _, n.hσ, by rw [upd_ne hpa]; exact n.hp, ⟨n.fr.fn, n.fr.hn, fun b hb => ?_, n.fr.no⟩, n.nd, by rw [List.length_set]; exact n.rw.len, fun j b ys q1 q2 => ?_⟩
  · by_cases z : b = a
    · exact ⟨_, by rw [z, upd_same]⟩
    · rw [upd_ne z]; exact n.fr.ls b hb
  · by_cases z : k = j
    · subst z
      rw [h1] at q1
      cases q1
      rw [List.getElem?_set_self (List.getElem?_eq_some_iff.mp h2).1] at q2
      cases q2
      exact ⟨_, upd_same, g2.snoc r⟩
    · rw [List.getElem?_set_ne z] at q2
      obtain ⟨vs, g3, g4⟩ := n.rw.at' j b ys q1 q2
      refine ⟨vs, ?_, g4⟩
      rw [upd_ne (fun e => z ?_)]
      · exact g3
      · subst e
        exact nd_inj (List.nodup_cons.mp n.nd).2 h1 q1
theorem NSt.snoc (n : NSt C S i rows p as σ H F) {a : Addr} {us : List V} {xs : List D} (h1 : F a = none) (h2 : C.H0 a = none) (h3 : H a = some (HO.lst us)) (h4 : Reps C.K C.st F us xs) (h5 : ∀ (i : Nat) (ys : List D), S[i]? = some (Slot.own ys) → σ[i]? ≠ some (some (V.ref a))) (h6 : a ∉ p :: as) : NSt C S i (rows ++ [xs]) p (as ++ [a]) σ (upd H p (.lst (as.map V.ref ++ [V.ref a]))) F := by
  have hp : p ∈ p :: as := List.mem_cons_self
  have nd := List.nodup_cons.mp n.nd
  have hap : a ≠ p := fun z => h6 (by rw [z]; exact hp)
  have mem : ∀ {b}, b ∈ p :: (as ++ [a]) → b ∈ p :: as ∨ b = a := fun {b} h => by
    rcases List.mem_cons.mp h with z | z
    · exact .inl (by rw [z]; exact hp)
    · rcases List.mem_append.mp z with z | z
      · exact .inl (List.mem_cons_of_mem _ z)
      · exact .inr (List.mem_singleton.mp z)
  refine ⟨n.s.apart (n.fr.fn p hp) (n.fr.hn p hp) n.hp (n.fr.no p hp) _, n.hσ, by rw [upd_same, List.map_append]; rfl, ⟨fun b hb => ?_, fun b hb => ?_, fun b hb => ?_, fun b hb => ?_⟩, ?_, by rw [List.length_append, List.length_append, n.rw.len]; rfl, fun j b ys q1 q2 => ?_⟩
  · rcases mem hb with z | z
    · exact n.fr.fn b z
    · rw [z]; exact h1
  · rcases mem hb with z | z
    · exact n.fr.hn b z
    · rw [z]; exact h2
  · by_cases e : b = p
    · exact ⟨_, by rw [e, upd_same]⟩
    · rw [upd_ne e]
      rcases mem hb with z | z
      · exact n.fr.ls b z
      · rw [z]; exact ⟨_, h3⟩
  · rcases mem hb with z | z
    · exact n.fr.no b z
    · rw [z]; exact h5
  · refine List.nodup_cons.mpr ⟨fun z => ?_, List.nodup_append.mpr ⟨nd.2, nd_one _, fun x hx y hy e => ?_⟩⟩
    · rcases List.mem_append.mp z with z | z
      · exact nd.1 z
      · exact hap (List.mem_singleton.mp z).symm
    · rw [List.mem_singleton.mp hy] at e
      exact h6 (List.mem_cons_of_mem _ (by rw [← e]; exact hx))
  · rcases Nat.lt_or_ge j as.length with z | z
    · rw [List.getElem?_append_left z] at q1
      rw [List.getElem?_append_left (by rw [← n.rw.len]; exact z)] at q2
      obtain ⟨vs, g3, g4⟩ := n.rw.at' j b ys q1 q2
      refine ⟨vs, ?_, g4⟩
      rw [upd_ne (fun e => nd.1 (by rw [← e]; exact List.mem_of_getElem? q1))]
      exact g3
    · rw [List.getElem?_append_right z] at q1
      rw [List.getElem?_append_right (by rw [← n.rw.len]; exact z)] at q2
      have z0 : j - as.length = 0 := by
        have := (List.getElem?_eq_some_iff.mp q1).1
        rw [List.length_singleton] at this
        omega
      rw [z0] at q1
      rw [← n.rw.len, z0] at q2
      cases q1
      cases q2
      exact ⟨us, by rw [upd_ne hap]; exact h3, h4⟩
theorem frzRows : ∀ {as : List Addr} {rows : List (List D)} {F : Hp}, Stt C S [] σ H F → Frm C S σ H F as → as.Nodup → RwAt C H F as rows → ∃ F', Stt C S [] σ H F' ∧ Same F F' ∧ Reps C.K C.st F' (as.map V.ref) (rows.map D.lst) ∧ ∀ b, b ∉ as → F' b = F b
  | [], rows, F, s, f, nd, r => by
    have : rows = [] := List.length_eq_zero_iff.mp (by rw [← r.len]; rfl)
    subst this
    exact ⟨F, s, Same.refl F, .nil, fun b _ => rfl⟩
  | a :: as, [], F, s, f, nd, r => by
    have := r.len
    cases this
  | a :: as, xs :: rows, F, s, f, nd, r => by
    have ha : a ∈ a :: as := List.mem_cons_self
    obtain ⟨vs, g1, g2⟩ := r.at' 0 a xs rfl rfl
    have nd := List.nodup_cons.mp nd
    have hF := f.fn a ha
    have s1 := s.still g1 rfl hF (f.hn a ha) (f.no a ha) (by simp)
    have e1 : Same F (upd F a (HO.lst vs)) := sameF hF
    obtain ⟨F', s2, e2, r2, q⟩ := frzRows s1 (as := as) (rows := rows) ⟨fun b hb => by
      rw [upd_ne (fun z => nd.1 (by rw [← z]; exact hb))]
      exact f.fn b (List.mem_cons_of_mem _ hb), fun b hb => f.hn b (List.mem_cons_of_mem _ hb), fun b hb => f.ls b (List.mem_cons_of_mem _ hb), fun b hb => f.no b (List.mem_cons_of_mem _ hb)⟩ nd.2 ⟨Nat.succ.inj r.len, fun k b ys q1 q2 => by
      obtain ⟨us, m1, m2⟩ := r.at' (k + 1) b ys q1 q2
      exact ⟨us, m1, m2.mono e1⟩⟩
    refine ⟨F', s2, Same.trans e1 e2, .cons (.lst (e2 _ _ upd_same) ((g2.mono e1).mono e2)) r2, fun b hb => ?_⟩
    rw [q b fun z => hb (List.mem_cons_of_mem _ z), upd_ne fun z => hb (by rw [z]; exact ha)]
theorem NSt.fin {i : Nat} (n : NSt C S (some i) rows p as σ H F) : ∃ F', Stt C (S.set i (Slot.val (.lst (rows.map D.lst)))) [] σ H F' ∧ Same F F' := by
  have nd := List.nodup_cons.mp n.nd
  have hp : p ∈ p :: as := List.mem_cons_self
  obtain ⟨F1, s1, e1, r1, q1⟩ := frzRows n.s (as := as) (rows := rows) ⟨fun b hb => n.fr.fn b (List.mem_cons_of_mem _ hb), fun b hb => n.fr.hn b (List.mem_cons_of_mem _ hb), fun b hb => n.fr.ls b (List.mem_cons_of_mem _ hb), fun b hb => n.fr.no b (List.mem_cons_of_mem _ hb)⟩ nd.2 n.rw
  have hF : F1 p = none := by rw [q1 p nd.1]; exact n.fr.fn p hp
  have s2 := s1.still n.hp rfl hF (n.fr.hn p hp) (n.fr.no p hp) (by simp)
  have r : Rep C.K C.st (upd F1 p (HO.lst (as.map V.ref))) (.ref p) (.lst (rows.map D.lst)) := .lst upd_same (r1.mono (sameF hF))
  have s3 := s2.set (i := i) (List.getElem?_eq_some_iff.mp (n.hσ i rfl)).1 r
  rw [upd_self (n.hσ i rfl)] at s3
  exact ⟨_, s3, Same.trans e1 (sameF hF)⟩
end
end Dm

namespace Dm
open PySem PySem.Spec PyProof.Rows L2
open GxR (TabB TabG Tabbed)
theorem ixN_lt {n k : Nat} {i : Int} (h : ixN n i = some k) : k < n := by
  unfold ixN at h
  split at h
  · split at h <;> first | (cases h; omega) | cases h
  · split at h <;> first | (cases h; omega) | cases h
abbrev SN := SD → List (List D) → T (SD × List (List D))
def SndN (C : Cfg) (X : Cx) (st : Stmt) (i : Nat) (n : SN) : Prop := ∀ (S : SD) (rows : List (List D)) (P : SD × List (List D) → Prop), W (n S rows) P → ∀ (p : Addr) (as : List Addr) (σ : L2.St) (H F : Hp), NSt C S (some i) rows p as σ H F → ∀ D' : Ends,
  (∀ S' rows' as' H' F', NSt C S' (some i) rows' p as' σ H' F' → Same F F' → P (S', rows') → D'.nx σ H') → CanS X st D' σ H
def SndNs (C : Cfg) (X : Cx) (sts : List Stmt) (i : Nat) (n : SN) : Prop := ∀ (S : SD) (rows : List (List D)) (P : SD × List (List D) → Prop), W (n S rows) P → ∀ (p : Addr) (as : List Addr) (σ : L2.St) (H F : Hp), NSt C S (some i) rows p as σ H F → ∀ D' : Ends,
  (∀ S' rows' as' H' F', NSt C S' (some i) rows' p as' σ H' F' → Same F F' → P (S', rows') → D'.nx σ H') → CanSs X sts D' σ H
def loopN (g : SG) (n : SN) : List D → SN
  | [], S, rows => .ret (S, rows)
  | x :: xs, S, rows => (g (.d x) S).bind fun S1 => (n S1 rows).bind fun q => loopN g n xs q.1 q.2
section
variable {C : Cfg} {X : Cx} {i : Nat} {e a b c iter tg : Expr} {st : Stmt} {sa sb body : List Stmt} {pos : Pos}
theorem ns_one {n : SN} (h : SndN C X st i n) : SndNs C X [st] i n := fun S rows P w p as σ H F s D' k =>
  of_pss (pss_cons ps_can pss_can) (h S rows P w p as σ H F s { D' with nx := CanSs X [] D' } fun S' rows' as' H' F' n' e' q => of_pss pss_nil (k S' rows' as' H' F' n' e' q))
def KeepG (C : Cfg) (X : Cx) (tg : Expr) (i : Nat) (g : SG) : Prop := ∀ (d : D) (S : SD) (Q : SD → Prop), W (g (.d d) S) Q → ∀ (σ : L2.St) (H F : Hp) (v : V), Stt C S [] σ H F → Rep C.K C.st F v d → ∀ R : L2.St → Hp → Prop,
  (∀ σ' H' F' S', Stt C S' [] σ' H' F' → Same F F' → σ'[i]? = σ[i]? → Q S' → R σ' H') → CanG X tg v σ H R
theorem kg_name {j : Nat} {x : Str} (hN : X.N.Nodup) (hi : X.N[j]? = some x := by rfl) (hx : Loc X.env.scope x := by first | exact Or.inl rfl | exact Or.inr rfl)
    (hf : X.fn x = true ∨ X.env.scope.names.lookup x = some .local := by first | exact .inl rfl | exact .inr rfl | assumption) (hj : j ≠ i := by decide) : KeepG C X (.Name x pos) i (nameG j) := fun d S Q w σ H F v s r R k => ⟨fun pins s0 u I ru => by
  have hl : j < σ.length := by rw [I.len]; exact (List.getElem?_eq_some_iff.mp hi).1
  exact (of_pg (pg_name hN hi hx hf) (k _ H F _ (s.set hl r) (Same.refl F) (List.getElem?_set_ne hj) w)).run pins s0 u I ru⟩
def ItN (C : Cfg) (X : Cx) (tg iter : Expr) (S : SD) (Q : List D → SD → Prop) : Prop := ∀ (σ : L2.St) (H F : Hp), Stt C S [] σ H F → ∀ R : It → Hp → Prop,
  (∀ J H' F' xs S', Stt C S' [] σ H' F' → Same F F' → (∀ H0, ItSem (C.wH H0) J F' xs) → Q xs S' → R J H') → CanI X tg iter σ H R
def SndIN (C : Cfg) (X : Cx) (tg e : Expr) (f : SI) : Prop := ∀ (S : SD) (Q : List D → SD → Prop), W (f S) (fun p => Q p.1 p.2) → ItN C X tg e S Q
theorem in_seq {f : SQ} (h : SndQ C X iter f) (hK : C.K = X.K := by rfl) : SndIN C X tg iter (iSeq f) := fun S Q w σ H F s R r =>
  of_pi (pi_seq pe_can) (h.u (W_bind.mp w) [] σ H F s _ fun v H1 F1 d S1 s1 e1 r1 w1 => by
    cases d <;> first | exact w1.no | skip
    · cases r1 with
      | tup hq rr =>
        rename_i p vs
        rw [← hK]
        exact ⟨p, rfl, .inr ⟨⟨vs, Same.tup s1.base.sub hq.1⟩, r _ H1 F1 _ S1 s1 e1 (fun H0 => sem_tup (C := C.wH H0) hq.1 rr) w1⟩⟩
    · cases r1 with
      | lst hq rr =>
        rename_i p vs
        rw [← hK]
        exact ⟨p, rfl, .inl ⟨⟨vs, .inl (.inl (s1.base.sub _ _ hq))⟩, r _ H1 F1 _ S1 s1 e1 (fun H0 => sem_lst (C := C.wH H0) hq rr) w1⟩⟩)

theorem rows_for {g : SG} {n : SN} {S : SD} {xs : List D} {rows : List (List D)} {P : SD × List (List D) → Prop} {p : Addr} {as : List Addr} {σ : L2.St} {H F : Hp}
    (hg : ∀ H0, KeepG (C.wH H0) X tg i g) (hb : SndNs C X body i n) (w : W (loopN g n xs S rows) P) (s : NSt C S (some i) rows p as σ H F) (J : It) (sem : ∀ H0, ItSem (C.wH H0) J F xs) (D' : Ends)
    (k : ∀ S' rows' as' σ' H' F', NSt C S' (some i) rows' p as' σ' H' F' → Same F F' → P (S', rows') → D'.nx σ' H') :
    ∃ I : Nat → Nat → L2.St → Hp → Prop, (∃ m, I 0 m σ H) ∧ ∀ i0 m σ' H', I i0 m σ' H' → (J.stop i0 H' ∧ D'.nx σ' H') ∨
      (J.go i0 H' ∧ ∃ N : L2.St → Hp → Prop, (∀ σ2 H2, N σ2 H2 → ∃ m', m' < m ∧ I (i0 + 1) m' σ2 H2) ∧ ∀ v H2, J.yld i0 H' v H2 → CanG X tg v σ' H2 fun σ3 H3 => CanSs X body { nx := N, rt := D'.rt, bk := D'.nx, ct := N } σ3 H3) := by
  refine ⟨fun i0 m σ' H' => m = xs.length - i0 ∧ i0 ≤ xs.length ∧ ∃ S' F' rows' as', NSt C S' (some i) rows' p as' σ' H' F' ∧ Same F F' ∧ W (loopN g n (xs.drop i0) S' rows') P, ⟨xs.length, by omega, Nat.zero_le _, S, F, rows, as, s, Same.refl F, w⟩, ?_⟩
  rintro i0 m σ' H' ⟨rfl, hi, S', F', rows', as', s', e', iv⟩
  by_cases hlt : i0 < xs.length
  · have sm := (sem _ i0 S' [] σ' H' F' (s'.s.frame s'.fr) e').1 xs[i0] (List.getElem?_eq_getElem hlt)
    refine .inr ⟨sm.1, fun σ2 H2 => ∃ S2 F2 rows2 as2, NSt C S2 (some i) rows2 p as2 σ2 H2 F2 ∧ Same F F2 ∧ W (loopN g n (xs.drop (i0 + 1)) S2 rows2) P, fun σ2 H2 ⟨S2, F2, rows2, as2, s2, e2, iv2⟩ => ⟨xs.length - (i0 + 1), by omega, rfl, hlt, S2, F2, rows2, as2, s2, e2, iv2⟩, fun v H2 hy => ?_⟩
    obtain ⟨F2, s2, e2, r2⟩ := sm.2 v H2 hy
    have n2 := s'.after s2 e2 fun _ _ => rfl
    rw [List.drop_eq_getElem_cons hlt] at iv
    have iv : W ((g (.d xs[i0]) S').bind fun S1 => (n S1 rows').bind fun q => loopN g n (xs.drop (i0 + 1)) q.1 q.2) P := iv
    refine hg _ xs[i0] S' _ (W_bind.mp iv) σ' H2 F2 v (n2.s.frame n2.fr) r2 _ fun σ3 H3 F3 S3 s3 e3 k3 w3 => ?_
    have n3 := n2.after s3 e3 fun j hj => by cases hj; exact k3
    exact hb S3 rows' _ (W_bind.mp w3) p as' σ3 H3 F3 n3 _ fun S4 rows4 as4 H4 F4 n4 e4 q4 => ⟨S4, F4, rows4, as4, n4, Same.trans e' (Same.trans e2 (Same.trans e3 e4)), q4⟩
  · have hi' : i0 = xs.length := by omega
    subst hi'
    rw [List.drop_length] at iv
    exact .inl ⟨(sem _ _ S' [] σ' H' F' (s'.s.frame s'.fr) e').2 (Nat.le_refl _), k S' rows' as' σ' H' F' s' e' iv⟩
end
end Dm

namespace Dm
open PySem PySem.Spec PyProof.Rows L2
open GxR (TabB TabG Tabbed)
section
variable {C : Cfg} {X : Cx} {S : SD} {i : Nat} {rows : List (List D)} {p : Addr} {as : List Addr} {σ : L2.St} {H F : Hp} {e a b c iter tg elt : Expr} {st : Stmt} {sts body : List Stmt} {pos : Pos} {it : SI} {scope : Scope}
theorem Stt.blank {tmp : Tmp} (s : Stt C S tmp σ H F) (i : Nat) (v : Option V) : Stt C (S.set i Slot.none) tmp (σ.set i v) H F := by
  have g : ∀ {j : Nat} {sl : Slot}, sl ≠ Slot.none → (S.set i Slot.none)[j]? = some sl → S[j]? = some sl ∧ (σ.set i v)[j]? = σ[j]? := fun {j sl} n h => by
    rcases getset h with ⟨_, q⟩ | ⟨m, q⟩
    · exact absurd q n
    · exact ⟨q, List.getElem?_set_ne m⟩
  refine ⟨s.b0, s.base, s.grow, fun j d h => ?_, fun j xs h => ?_, fun j k xs ys a h1 h2 h3 h4 => ?_, s.tm, fun j ys a xs h h1 => ?_, s.tnd, s.dc.slots fun j ks xs h => g (fun z => by cases z) h⟩
  · obtain ⟨g1, g2⟩ := g (fun z => by cases z) h
    rw [g2]; exact s.val j d g1
  · obtain ⟨g1, g2⟩ := g (fun z => by cases z) h
    rw [g2]; exact s.own j xs g1
  · obtain ⟨g1, g2⟩ := g (fun z => by cases z) h1
    obtain ⟨g3, g4⟩ := g (fun z => by cases z) h2
    rw [g2] at h3; rw [g4] at h4
    exact s.dis j k xs ys a g1 g3 h3 h4
  · obtain ⟨g1, g2⟩ := g (fun z => by cases z) h1
    rw [g2]; exact s.tdis j ys a xs h g1
theorem NSt.named (n : NSt C S none rows p as σ H F) (hi : i < σ.length) : NSt C (S.set i Slot.none) (some i) rows p as (σ.set i (some (V.ref p))) H F :=
  ⟨n.s.blank i _, fun j hj => by cases hj; exact List.getElem?_set_self hi, n.hp, ⟨n.fr.fn, n.fr.hn, n.fr.ls, fun b hb j xs h => by
    rcases getset h with ⟨rfl, q⟩ | ⟨m, q⟩
    · cases q
    · rw [List.getElem?_set_ne m]
      exact n.fr.no b hb j xs q⟩, n.nd, n.rw⟩
end
end Dm

namespace Dm
open PySem PySem.Spec PyProof.Rows L2
open GxR (TabB TabG Tabbed)
section
variable {C : Cfg} {X : Cx} {e a b c iter tg o elt : Expr} {es rest ts : List Expr} {pos p p2 : Pos} {f g h : SQ} {pf : SP} {cf : SC}
end
section
variable {C : Cfg} {X : Cx} {S : SD} {i : Nat} {rows : List (List D)} {p : Addr} {as : List Addr} {σ : L2.St} {H F : Hp} {e a b c iter tg elt : Expr} {st : Stmt} {sts body : List Stmt} {pos : Pos} {it : SI} {scope : Scope}
end
end Dm

namespace Dm
open PySem PySem.Spec PyProof.Rows L2
open GxR (TabB TabG Tabbed)
mutual
def D.noDc : D → Bool
  | .tup xs => D.noDcs xs
  | .lst xs => D.noDcs xs
  | .wt xs => D.noDcs xs
  | .dct _ _ => false
  | _ => true
def D.noDcs : List D → Bool
  | [] => true
  | x :: xs => D.noDc x && D.noDcs xs
end
def CutD (F F' : Hp) : Prop := ∀ a o, F a = some o → (∀ od kvs, o ≠ HO.frz od (HO.dK kvs)) → F' a = some o
section
variable {K : PySem.W.Frag} {st : Addr} {F F' : Hp}
theorem CutD.tx (e : CutD F F') {a : Addr} {vs : List V} (h : TX K F a vs) : TX K F' a vs := by
  refine ⟨?_, ?_⟩
  · rcases h.1 with (z | ⟨o, z⟩) | z
    · exact .inl (.inl (e _ _ z (fun _ _ q => by cases q)))
    · exact .inl (.inr ⟨o, e _ _ z (fun _ _ q => by cases q)⟩)
    · exact .inr z
  · rcases h.2 with ⟨o, h1, h2⟩ | z
    · exact .inl ⟨o, e _ _ h1 (fun _ _ q => by cases q), h2⟩
    · exact .inr z
mutual
theorem Rep.cutD (e : CutD F F') : ∀ {v : V} {d : D}, Rep K st F v d → d.noDc = true → Rep K st F' v d
  | _, _, .non, _ => .non
  | _, _, .bl b, _ => .bl b
  | _, _, .int i, _ => .int i
  | _, _, .str z, _ => .str z
  | _, _, .tup h r, q => .tup (CutD.tx e h) (Reps.cutD e r (by simpa [D.noDc] using q))
  | _, _, .lst h r, q => .lst (e _ _ h (fun _ _ z => by cases z)) (Reps.cutD e r (by simpa [D.noDc] using q))
  | _, _, .strm, _ => .strm
  | _, _, .wt h r, q => .wt (e _ _ h (fun _ _ z => by cases z)) (Reps.cutD e r (by simpa [D.noDc] using q))
  | _, _, .dct h hk r, q => by simp [D.noDc] at q
theorem Reps.cutD (e : CutD F F') : ∀ {vs : List V} {xs : List D}, Reps K st F vs xs → D.noDcs xs = true → Reps K st F' vs xs
  | _, _, .nil, _ => .nil
  | _, _, .cons h t, q => by
    simp only [D.noDcs, Bool.and_eq_true] at q
    exact .cons (Rep.cutD e h q.1) (Reps.cutD e t q.2)
end
end
section
variable {C : Cfg} {S S1 : SD} {σ : L2.St} {H F H1 F1 : Hp}
end
section
variable {C : Cfg} {X : Cx} {e a b c iter tg elt : Expr} {es rest ts ifs : List Expr} {pos p : Pos} {ef : SQ} {cf : SC} {it : SI} {scope : Scope} {own : List (Str × Nat)} {gw : SGW}
end
end Dm

namespace Gx
open PySem PySem.Spec PyProof.Rows L2 GenW
open GxR (TabB TabG Tabbed)
section
variable {X : Cx} {s4 : Shared} {H4 : Hp} {cenv : Env} {A : Around} {fp fp1 : List Addr} {a : Addr} {go : Obj} {it it1 : Addr} {J J1 : It} {tn1 : Nat → Heap → Prop} {elt tg iter tg1 iter1 : Expr} {ifs ifs1 : List Expr} {scope : Scope} {pos : Pos} {g1 : TG} {tt1 : TT} {te : TE}
  {vs1 : List Nat} {σ2 : L2.St} {Wi : Nat → Nat → List V → Hp → Prop} {Wo : Nat → List V → Hp → Prop} {R : GenEnd} {Yd : List V → V → Hp → Prop → Prop} {Cs : Cons} {lim : Nat} {fs : List Frame} {Sto : Heap → Prop}
end
end Gx

namespace Gx
open PySem PySem.Spec PyProof.Rows L2 GenW
open GxR (TabB TabG Tabbed)
section
variable {X : Cx} {s4 : Shared} {H4 : Hp} {cenv : Env} {A : Around} {fp : List Addr} {a : Addr} {go : Obj} {it : Addr} {J : It} {tn : Nat → Heap → Prop} {elt tg iter tg1 iter1 : Expr} {ifs ifs1 : List Expr} {scope : Scope} {pos : Pos} {g g1 : TG} {tt tt1 : TT} {wi1 : TI} {te : TE}
  {vs vs1 : List Nat} {σ : L2.St} {W : Nat → Nat → List V → Hp → Prop} {Fin : List V → Hp → Prop} {Yd : List V → V → Hp → Prop → Prop} {Cs : Cons} {lim : Nat}
end
end Gx

namespace Gx
open PySem PySem.Spec PyProof.Rows L2 GenW
open GxR (TabB TabG Tabbed)
section
variable {M : Model} {A : Around} {E : Value → Shared → Prop} {s : Shared}
end
section
variable {X : Cx} {pins : List (Addr × Obj)} {σ : L2.St} {H : Hp} {s : Shared}
end
end Gx

namespace Gx
open PySem PySem.Spec PyProof.Rows L2 GenW
open GxR (TabB TabG Tabbed)
section
variable {X : Cx} {s4 : Shared} {H4 : Hp} {cenv : Env} {A : Around} {fp : List Addr} {a : Addr} {go : Obj} {it : Addr} {J : It} {tn : Nat → Heap → Prop} {elt tg iter tg1 iter1 : Expr} {ifs ifs1 : List Expr} {scope : Scope} {pos : Pos} {g g1 : TG} {tt tt1 : TT} {wi1 : TI} {te : TE}
  {vs vs1 : List Nat} {σ : L2.St} {W : Nat → Nat → List V → Hp → Prop} {Fin : List V → Hp → Prop} {Yd : List V → V → Hp → Prop → Prop} {Cs : Cons} {lim : Nat}
end
section
variable {X : Cx} {pins : List (Addr × Obj)} {σ : L2.St} {H : Hp} {s : Shared}
end
end Gx

namespace Dm
open PySem PySem.Spec PyProof.Rows L2
open GxR (TabB TabG Tabbed)
section
variable {C : Cfg} {X : Cx} {iter tg elt iter1 tg1 : Expr} {ifs ifs1 : List Expr} {p pos gpos : Pos} {it it1 : SI} {gw gw1 : SGW} {cf cf1 : SC} {ef : SQ} {scope : Scope} {vs1 : List Nat} {own : List (Str × Nat)}
end
end Dm

namespace Dm
open PySem PySem.Spec PyProof.Rows L2
open GxR (TabB TabG Tabbed)
section
variable {P : Program} {w : World} {K : PySem.W.Frag} {mg : Str → Option Value} {base : Heap} {T : Tbs}
end
section
variable {P : Program} {w : World} {K : PySem.W.Frag} {mg : Str → Option Value} {base : Heap} {T : Tbs}
end
end Dm

namespace Dm
open PySem PySem.Spec PyProof.Rows L2
section
variable {C : Cfg} {X : Cx} {a : Expr} {f : SQ} {p p2 p3 pos : Pos}
end
end Dm

namespace Dm
open PySem PySem.Spec PyProof.Rows L2
open GxR (TabB TabG Tabbed)
def b_is_integer : SS := retS (rq (andQ (un1 (isiT "int") (vQ 0)) (nQ (un1 (isiT "bool") (vQ 0)))))
def sm_is_integer (ds : List D) : Dm.T RD := arity 1 (defT 1 b_is_integer) ds
theorem e_is_integer (a0 : D) : sm_is_integer [a0] = (b_is_integer [Slot.val a0]).bnd endT := rfl
def b_is_integer_within : SS := retS (rq (andQ (qr (callR sm_is_integer [vP 0])) (cmpQ (leleC (vQ 1) (vQ 0) (vQ 2)))))
def sm_is_integer_within (ds : List D) : Dm.T RD := arity 3 (defT 3 b_is_integer_within) ds
theorem e_is_integer_within (a0 a1 a2 : D) : sm_is_integer_within [a0, a1, a2] = (b_is_integer_within [Slot.val a0, Slot.val a1, Slot.val a2]).bnd endT := rfl
def b_is_strength : SS := retS (callR sm_is_integer_within [vP 0, pq (cQ (.int 1)), pq (cQ (.int 3))])
def sm_is_strength (ds : List D) : Dm.T RD := arity 1 (defT 1 b_is_strength) ds
theorem e_is_strength (a0 : D) : sm_is_strength [a0] = (b_is_strength [Slot.val a0]).bnd endT := rfl
def b_is_letter : SS := seqS (ifS (orC (notC (truC (un1 (isiT "str") (vQ 0)))) (notC (leleC (cQ (.int 1)) (un1 lenS (vQ 0)) (cQ (.int 12))))) (retS (rq (cQ (.bl false)))) (nxS)) (retS (rq (andQ (cmpQ (cmp2 sgnT (bin2 ixS (vQ 0) (cQ (.int 0))) (cQ (.str "abcdefghijklmnopqrstuvwxyz")))) (allGQ (iStr (vQ 0)) [1] (nameW 1) (yesC) (cmpQ (cmp2 sgnT (vQ 1) (cQ (.str "abcdefghijklmnopqrstuvwxyz0123456789"))))))))
def sm_is_letter (ds : List D) : Dm.T RD := arity 1 (defT 2 b_is_letter) ds
theorem e_is_letter (a0 : D) : sm_is_letter [a0] = (b_is_letter [Slot.val a0, Slot.none]).bnd endT := rfl
def b_l_equal (rec : List D → Dm.T RD) : SS := seqS (ifS (isNC (vQ 1)) (retS (rq (cmpQ (isNC (vQ 0))))) (nxS)) (seqS (ifS (truC (un1 (isiT "bool") (vQ 1))) (retS (rq (andQ (un1 (isiT "bool") (vQ 0)) (cmpQ (cmp2 eqT (vQ 0) (vQ 1)))))) (nxS)) (seqS (ifS (truC (un1 (isiT "int") (vQ 1))) (retS (rq (andQ (qr (callR sm_is_integer [vP 0])) (cmpQ (cmp2 eqT (vQ 0) (vQ 1)))))) (nxS)) (seqS (ifS (truC (un1 (isiT "str") (vQ 1))) (retS (rq (andQ (un1 (isiT "str") (vQ 0)) (cmpQ (cmp2 eqT (vQ 0) (vQ 1)))))) (nxS)) (seqS (ifS (andC (truC (un1 (isiT "tuple") (vQ 1))) (notC (truC (un1 (isiT "tuple") (vQ 0))))) (retS (rq (cQ (.bl false)))) (nxS)) (seqS (ifS (andC (truC (un1 (isiT "list") (vQ 1))) (notC (truC (un1 (isiT "list") (vQ 0))))) (retS (rq (cQ (.bl false)))) (nxS)) (seqS (ifS (cmp2 neT (un1P lenOp (vP 0)) (un1P lenOp (vP 1))) (retS (rq (cQ (.bl false)))) (nxS)) (retS (rq (allL (pq (qr (lcR (iRng (un1P lenOp (vP 1))) [2] (nameW 2) (yesC) (qr (callR rec [pq (bin2P ixOp (vP 0) (vQ 2)), pq (bin2P ixOp (vP 1) (vQ 2))]))))))))))))))
def sm_l_equal : Nat → List D → Dm.T RD
  | 0 => fun _ => .fail
  | n + 1 => fun ds => arity 2 (defT 3 (b_l_equal (sm_l_equal n))) ds
theorem e_l_equal (n : Nat) (a0 a1 : D) : sm_l_equal (n + 1) [a0, a1] = (b_l_equal (sm_l_equal n) [Slot.val a0, Slot.val a1, Slot.none]).bnd endT := rfl
def b_is_rule : SS := seqS (ifS (orC (notC (truC (un1 (isiT "tuple") (vQ 0)))) (cmp2 neT (un1P lenOp (vP 0)) (cQ (.int 4)))) (retS (rq (cQ (.bl false)))) (nxS)) (seqS (asgS (rq (vQ 0)) (tupG [nameG 1, nameG 2, nameG 3, nameG 4])) (seqS (ifS (orC (notC (truC (un1 (isiT "str") (vQ 1)))) (notC (inC inOp (vQ 1) (pq (qr (tupR [rq (cQ (.str "after")), rq (cQ (.str "before"))])))))) (retS (rq (cQ (.bl false)))) (nxS)) (seqS (ifS (orC (notC (truC (qr (callR sm_is_letter [vP 2])))) (orC (notC (truC (qr (callR sm_is_letter [vP 4])))) (cmp2 eqT (vQ 2) (vQ 4)))) (retS (rq (cQ (.bl false)))) (nxS)) (retS (callR sm_is_strength [vP 3])))))
def sm_is_rule (ds : List D) : Dm.T RD := arity 1 (defT 5 b_is_rule) ds
theorem e_is_rule (a0 : D) : sm_is_rule [a0] = (b_is_rule [Slot.val a0, Slot.none, Slot.none, Slot.none, Slot.none]).bnd endT := rfl
def b_is_rule_list : SS := seqS (ifS (orC (notC (truC (un1 (isiT "tuple") (vQ 0)))) (cmp2 (iCmp fun i j => decide (j < i)) (un1P lenOp (vP 0)) (cQ (.int 20)))) (retS (rq (cQ (.bl false)))) (nxS)) (retS (rq (allGQ (iTup (vQ 0)) [1] (nameW 1) (yesC) (qr (callR sm_is_rule [vP 1])))))
def sm_is_rule_list (ds : List D) : Dm.T RD := arity 1 (defT 2 b_is_rule_list) ds
theorem e_is_rule_list (a0 : D) : sm_is_rule_list [a0] = (b_is_rule_list [Slot.val a0, Slot.none]).bnd endT := rfl
def b_check_rules : SS := ifS (notC (truC (qr (callR sm_is_rule_list [vP 0])))) (failS) (nxS)
def sm_check_rules (ds : List D) : Dm.T RD := arity 2 (defT 2 b_check_rules) ds
theorem e_check_rules (a0 a1 : D) : sm_check_rules [a0, a1] = (b_check_rules [Slot.val a0, Slot.val a1]).bnd endT := rfl
def bx_check_rules_2 : SS := ifXS (notC (truC (qr (callR sm_is_rule_list [vP 0])))) (raiseS "BadValue" [vP 1]) (nxS)
def sx_check_rules_2 (ds : List D) : Dm.T RD := arity 2 (defT 2 bx_check_rules_2) ds
def b_are_exchangeable : SS := seqS (ifS (cmp2 eqT (vQ 0) (vQ 1)) (retS (rq (cQ (.bl true)))) (nxS)) (seqS (asgS (rq (vQ 0)) (tupG [nameG 2, nameG 3, nameG 4, nameG 5])) (seqS (ifS (orC (inC inOp (vQ 5) (pq (qr (tupR [rq (bin2P ixOp (vP 1) (cQ (.int 1))), rq (bin2P ixOp (vP 1) (cQ (.int 3)))])))) (cmp2 eqT (vQ 3) (bin2P ixOp (vP 1) (cQ (.int 3))))) (retS (rq (cQ (.bl false)))) (nxS)) (seqS (ifS (orC (cmp2 neT (vQ 2) (bin2P ixOp (vP 1) (cQ (.int 0)))) (cmp2 neT (vQ 4) (bin2P ixOp (vP 1) (cQ (.int 2))))) (retS (rq (cQ (.bl true)))) (nxS)) (retS (rq (andQ (cmpQ (cmp2 eqT (vQ 4) (cQ (.int 3)))) (cmpQ (cmp2 neT (vQ 3) (bin2P ixOp (vP 1) (cQ (.int 1)))))))))))
def sm_are_exchangeable (ds : List D) : Dm.T RD := arity 2 (defT 6 b_are_exchangeable) ds
def b_l_is_free : SS := seqS (ifS (cmp2 eqT (vQ 0) (vQ 1)) (retS (rq (cQ (.bl true)))) (nxS)) (seqS (ifS (orC (cmp2 eqT (bin2P ixOp (vP 0) (cQ (.int 3))) (bin2P ixOp (vP 1) (cQ (.int 3)))) (orC (cmp2 eqT (bin2P ixOp (vP 0) (cQ (.int 1))) (bin2P ixOp (vP 1) (cQ (.int 3)))) (cmp2 eqT (bin2P ixOp (vP 0) (cQ (.int 3))) (bin2P ixOp (vP 1) (cQ (.int 1)))))) (retS (rq (cQ (.bl false)))) (nxS)) (retS (rq (orQ (cmpQ (cmp2 neT (bin2P ixOp (vP 0) (cQ (.int 0))) (bin2P ixOp (vP 1) (cQ (.int 0))))) (orQ (cmpQ (cmp2 neT (bin2P ixOp (vP 0) (cQ (.int 2))) (bin2P ixOp (vP 1) (cQ (.int 2))))) (andQ (cmpQ (cmp2 neT (bin2P ixOp (vP 0) (cQ (.int 1))) (bin2P ixOp (vP 1) (cQ (.int 1))))) (cmpQ (cmp2 eqT (bin2P ixOp (vP 0) (cQ (.int 2))) (cQ (.int 3))))))))))
def sm_l_is_free (ds : List D) : Dm.T RD := arity 2 (defT 2 b_l_is_free) ds
def b_l_pairs : SS := seqS (setS 1 (cR [])) (seqS (forS (iRng (un1P lenOp (vP 0))) (nameG 2) (setS 1 (bin2R addL (vQ 1) (qr (lcR (iRng2 (bin2 (iOp (· + ·)) (vQ 2) (cQ (.int 1))) (un1P lenOp (vP 0))) [3] (nameW 3) (notC (truC (qr (callR sm_l_is_free [pq (bin2P ixOp (vP 0) (vQ 2)), pq (bin2P ixOp (vP 0) (vQ 3))])))) (qr (tupR [rq (vQ 2), rq (vQ 3)]))))))) (retS (vM 1)))
def sm_l_pairs (ds : List D) : Dm.T RD := arity 1 (defT 4 b_l_pairs) ds
def b_place_of_match : SS := seqS (setS 3 (rq (bin2P ixOp (vP 0) (vQ 1)))) (seqS (setS 4 (lcR (iEnum (vQ 2)) [5, 6] (tupW [nameW 5, nameW 6]) (cmp2 eqT (vQ 6) (vQ 3)) (vQ 5))) (seqS (setS 7 (rq (bin2 cntD (slQ slTup (vQ 0) (oN) (oS (vQ 1))) (vQ 3)))) (seqS (ifS (cmp2 (iCmp fun i j => decide (j ≤ i)) (vQ 7) (un1P lenOp (vP 4))) (retS (rq (cQ .non))) (nxS)) (retS (rq (bin2P ixOp (vP 4) (vQ 7)))))))
def sm_place_of_match (ds : List D) : Dm.T RD := arity 3 (defT 8 b_place_of_match) ds
def b_is_turned_round : SS := seqS (setS 4 (callR sm_place_of_match [vP 0, vP 2, vP 1])) (seqS (setS 5 (callR sm_place_of_match [vP 0, vP 3, vP 1])) (retS (rq (andQ (cmpQ (notC (isNC (vQ 4)))) (andQ (cmpQ (notC (isNC (vQ 5)))) (cmpQ (cmp2 (iCmp fun i j => decide (j < i)) (vQ 4) (vQ 5))))))))
def sm_is_turned_round (ds : List D) : Dm.T RD := arity 4 (defT 6 b_is_turned_round) ds
def b_check_two_lists : SS := seqS (exprS (qr (callR sm_check_rules [vP 0, pq (cQ (.str "rules"))]))) (exprS (qr (callR sm_check_rules [vP 1, pq (cQ (.str "other"))])))
def sm_check_two_lists (ds : List D) : Dm.T RD := arity 2 (defT 2 b_check_two_lists) ds
def b_is_pair_evidence : SS := seqS (setS 4 (rq (bin2 (iOp (· - ·)) (un1P lenOp (vP 0)) (cQ (.int 1))))) (seqS (ifS (orC (notC (truC (qr (callR sm_is_integer_within [vP 2, pq (cQ (.int 0)), vP 4])))) (notC (truC (qr (callR sm_is_integer_within [vP 3, pq (bin2 (iOp (· + ·)) (vQ 2) (cQ (.int 1))), vP 4]))))) (retS (rq (cQ (.bl false)))) (nxS)) (retS (rq (andQ (nQ (qr (callR sm_are_exchangeable [pq (bin2P ixOp (vP 0) (vQ 2)), pq (bin2P ixOp (vP 0) (vQ 3))]))) (qr (callR sm_is_turned_round [vP 0, vP 1, vP 2, vP 3]))))))
def sm_is_pair_evidence (ds : List D) : Dm.T RD := arity 4 (defT 5 b_is_pair_evidence) ds
def b_accepts_unlike : SS := seqS (exprS (qr (callR sm_check_two_lists [vP 0, vP 1]))) (seqS (ifS (orC (notC (truC (un1 (isiT "tuple") (vQ 2)))) (notC (inC inOp (un1P lenOp (vP 2)) (pq (cQ (.tup [(.int 2), (.int 3)])))))) (retS (rq (cQ (.bl false)))) (nxS)) (seqS (ifS (cmp2 eqT (un1P lenOp (vP 2)) (cQ (.int 2))) (seqS (setS 3 (rq (bin2P ixOp (vP 2) (cQ (.int 1))))) (retS (rq (andQ (cmpQ (cmp2 eqT (bin2P ixOp (vP 2) (cQ (.int 0))) (cQ (.str "count")))) (andQ (qr (callR sm_is_rule [vP 3])) (cmpQ (cmp2 neT (bin2 cntD (vQ 0) (vQ 3)) (bin2 cntD (vQ 1) (vQ 3))))))))) (nxS)) (retS (rq (andQ (cmpQ (cmp2 eqT (bin2P ixOp (vP 2) (cQ (.int 0))) (cQ (.str "pair")))) (qr (callR sm_is_pair_evidence [vP 0, vP 1, pq (bin2P ixOp (vP 2) (cQ (.int 1))), pq (bin2P ixOp (vP 2) (cQ (.int 2)))])))))))
def sm_accepts_unlike (ds : List D) : Dm.T RD := arity 3 (defT 4 b_accepts_unlike) ds
def b_l_place_2 : SS := seqS (setS 3 (rq (bin2 cntD (slQ slTup (vQ 0) (oN) (oS (vQ 2))) (bin2P ixOp (vP 0) (vQ 2))))) (seqS (setS 4 (lcR (iRng (un1P lenOp (vP 1))) [5] (nameW 5) (cmp2 eqT (bin2P ixOp (vP 1) (vQ 5)) (bin2P ixOp (vP 0) (vQ 2))) (vQ 5))) (retS (rq (ifQ (cmp2 (iCmp fun i j => decide (i < j)) (vQ 3) (un1P lenOp (vP 4))) (bin2P ixOp (vP 4) (vQ 3)) (cQ (.int (-1)))))))
def sm_l_place_2 (ds : List D) : Dm.T RD := arity 3 (defT 6 b_l_place_2) ds
def b_l_is_right : SS := seqS (ifS (orC (notC (truC (un1 (isiT "tuple") (vQ 2)))) (notC (inC inOp (un1P lenOp (vP 2)) (pq (cQ (.lst [(.int 2), (.int 3)])))))) (retS (rq (cQ (.bl false)))) (nxS)) (seqS (ifS (cmp2 eqT (un1P lenOp (vP 2)) (cQ (.int 2))) (retS (rq (andQ (cmpQ (cmp2 eqT (bin2P ixOp (vP 2) (cQ (.int 0))) (cQ (.str "count")))) (cmpQ (cmp2 neT (bin2 cntD (vQ 0) (bin2P ixOp (vP 2) (cQ (.int 1)))) (bin2 cntD (vQ 1) (bin2P ixOp (vP 2) (cQ (.int 1))))))))) (nxS)) (seqS (ifS (orC (cmp2 neT (bin2P ixOp (vP 2) (cQ (.int 0))) (cQ (.str "pair"))) (notC (truC (allL (pq (qr (lcR (iTup (slQ slTup (vQ 2) (oS (cQ (.int 1))) (oN))) [3] (nameW 3) (yesC) (qr (callR sm_is_integer [vP 3]))))))))) (retS (rq (cQ (.bl false)))) (nxS)) (seqS (ifS (notC (inCD (qr (tupR [rq (bin2P ixOp (vP 2) (cQ (.int 1))), rq (bin2P ixOp (vP 2) (cQ (.int 2)))])) (pq (qr (callR sm_l_pairs [vP 0]))))) (retS (rq (cQ (.bl false)))) (nxS)) (seqS (setS 4 (callR sm_l_place_2 [vP 0, vP 1, pq (bin2P ixOp (vP 2) (cQ (.int 1)))])) (seqS (setS 5 (callR sm_l_place_2 [vP 0, vP 1, pq (bin2P ixOp (vP 2) (cQ (.int 2)))])) (retS (rq (andQ (cmpQ (cmp2 (iCmp fun i j => decide (j ≤ i)) (vQ 4) (cQ (.int 0)))) (andQ (cmpQ (cmp2 (iCmp fun i j => decide (j ≤ i)) (vQ 5) (cQ (.int 0)))) (cmpQ (cmp2 (iCmp fun i j => decide (j < i)) (vQ 4) (vQ 5))))))))))))
def sm_l_is_right (ds : List D) : Dm.T RD := arity 3 (defT 6 b_l_is_right) ds
def b_check_one_and_other : SS := seqS (exprS (qr (callR sm_check_rules [vP 0, pq (cQ (.str "one"))]))) (exprS (qr (callR sm_check_rules [vP 1, pq (cQ (.str "other"))])))
def sm_check_one_and_other (ds : List D) : Dm.T RD := arity 2 (defT 2 b_check_one_and_other) ds
theorem e_check_one_and_other (a0 a1 : D) : sm_check_one_and_other [a0, a1] = (b_check_one_and_other [Slot.val a0, Slot.val a1]).bnd endT := rfl
def b_l_rule_4 : SS := seqS (setS 3 (rq (bin2P ixOp (vP 1) (qr (callR sm_l_next [vP 0, pq (un1P lenOp (vP 1))]))))) (seqS (setS 4 (lcR (iLst (qr (bin2R addL (vQ 1) (vQ 2)))) [5] (nameW 5) (cmp2 neT (vQ 5) (vQ 3)) (vQ 5))) (seqS (setS 6 (rq (bin2P ixOp (pq (cQ (.lst [(.str "after"), (.str "before")]))) (qr (callR sm_l_next [vP 0, pq (cQ (.int 2))]))))) (retS (tupR [vM 6, vM 3, rq (bin2P ixOp (pq (cQ (.lst [(.int 1), (.int 2), (.int 3), (.int 3)]))) (qr (callR sm_l_next [vP 0, pq (cQ (.int 4))]))), rq (bin2P ixOp (vP 4) (qr (callR sm_l_next [vP 0, pq (un1P lenOp (vP 4))])))]))))
def sm_l_rule_4 (ds : List D) : Dm.T RD := arity 3 (defT 7 b_l_rule_4) ds
theorem e_l_rule_4 (a0 a1 a2 : D) : sm_l_rule_4 [a0, a1, a2] = (b_l_rule_4 [Slot.val a0, Slot.val a1, Slot.val a2, Slot.none, Slot.none, Slot.none, Slot.none]).bnd endT := rfl
def b_l_rules_2 : SS := retS (rq (un1P tupOp (pq (qr (lcR (iRng (qr (callR sm_l_next [vP 0, pq (bin2 (iOp (· + ·)) (vQ 3) (cQ (.int 1)))]))) [4] (nameW 4) (yesC) (qr (callR sm_l_rule_4 [vP 0, vP 1, vP 2])))))))
def sm_l_rules_2 (ds : List D) : Dm.T RD := arity 4 (defT 5 b_l_rules_2) ds
theorem e_l_rules_2 (a0 a1 a2 a3 : D) : sm_l_rules_2 [a0, a1, a2, a3] = (b_l_rules_2 [Slot.val a0, Slot.val a1, Slot.val a2, Slot.val a3, Slot.none]).bnd endT := rfl
def b_are_marks : SS := seqS (ifS (orC (notC (truC (un1 (isiT "tuple") (vQ 2)))) (notC (truC (allGQ (iTup (vQ 2)) [3] (nameW 3) (yesC) (qr (callR sm_is_integer_within [vP 3, pq (cQ (.int 0)), pq (cQ (.int 1))])))))) (retS (rq (cQ (.bl false)))) (nxS)) (retS (rq (andQ (cmpQ (cmp2 eqT (bin2 cntT (vQ 2) (cQ (.int 0))) (un1P lenOp (vP 0)))) (cmpQ (cmp2 eqT (bin2 cntT (vQ 2) (cQ (.int 1))) (un1P lenOp (vP 1)))))))
def sm_are_marks (ds : List D) : Dm.T RD := arity 3 (defT 4 b_are_marks) ds
theorem e_are_marks (a0 a1 a2 : D) : sm_are_marks [a0, a1, a2] = (b_are_marks [Slot.val a0, Slot.val a1, Slot.val a2, Slot.none]).bnd endT := rfl
def b_within_bound : SS := seqS (ifS (cmp2 (iCmp fun i j => decide (j < i)) (un1P lenOp (vP 0)) (cQ (.int 20))) (failS) (nxS)) (retS (vM 0))
def sm_within_bound (ds : List D) : Dm.T RD := arity 1 (defT 1 b_within_bound) ds
theorem e_within_bound (a0 : D) : sm_within_bound [a0] = (b_within_bound [Slot.val a0]).bnd endT := rfl
def b_interleaved : SS := seqS (exprS (qr (callR sm_check_one_and_other [vP 0, vP 1]))) (seqS (ifS (notC (truC (qr (callR sm_are_marks [vP 0, vP 1, vP 2])))) (failS) (nxS)) (seqS (setS 3 (tupR [rq (vQ 0), rq (vQ 1)])) (seqS (setS 4 (cR [(.int 0), (.int 0)])) (seqS (setS 5 (cR [])) (seqS (forS (iTup (vQ 2)) (nameG 6) (seqS (exprS (appQ 5 (bin2P ixOp (pq (bin2P ixOp (vP 3) (vQ 6))) (bin2P ixOp (vP 4) (vQ 6))))) (ixAugS 4 (· + ·) (vQ 6) (cQ (.int 1))))) (retS (callR sm_within_bound [pq (un1P tupOp (vP 5))])))))))
def sm_interleaved (ds : List D) : Dm.T RD := arity 3 (defT 7 b_interleaved) ds
theorem e_interleaved (a0 a1 a2 : D) : sm_interleaved [a0, a1, a2] = (b_interleaved [Slot.val a0, Slot.val a1, Slot.val a2, Slot.none, Slot.none, Slot.none, Slot.none]).bnd endT := rfl
def bx_check_one_and_other_2 : SS := seqS (dropS (callXR sx_check_rules_2 [vP 0, pq (cQ (.str "one"))])) (dropS (callXR sx_check_rules_2 [vP 1, pq (cQ (.str "other"))]))
def sx_check_one_and_other_2 (ds : List D) : Dm.T RD := arity 2 (defT 2 bx_check_one_and_other_2) ds
def bx_within_bound_2 : SS := seqS (ifXS (cmp2 (iCmp fun i j => decide (j < i)) (un1P lenOp (vP 0)) (cQ (.int 20))) (raiseS "TooLarge" [pq (cQ (.str "rules"))]) (nxS)) (leafS (retS (vM 0)))
def sx_within_bound_2 (ds : List D) : Dm.T RD := arity 1 (defT 1 bx_within_bound_2) ds
theorem ex_within_bound_2 (a0 : D) : sx_within_bound_2 [a0] = (bx_within_bound_2 [Slot.val a0]).bnd endT := rfl
def bx_interleaved_2 : SS := seqS (dropS (callXR sx_check_one_and_other_2 [vP 0, vP 1])) (seqS (ifXS (notC (truC (qr (callR sm_are_marks [vP 0, vP 1, vP 2])))) (raiseS "BadValue" [pq (cQ (.str "marks"))]) (nxS)) (seqS (leafS (setS 3 (tupR [rq (vQ 0), rq (vQ 1)]))) (seqS (leafS (setS 4 (cR [(.int 0), (.int 0)]))) (seqS (leafS (setS 5 (cR []))) (seqS (leafS (forS (iTup (vQ 2)) (nameG 6) (seqS (exprS (appQ 5 (bin2P ixOp (pq (bin2P ixOp (vP 3) (vQ 6))) (bin2P ixOp (vP 4) (vQ 6))))) (ixAugS 4 (· + ·) (vQ 6) (cQ (.int 1)))))) (retS (callXR sx_within_bound_2 [pq (un1P tupOp (vP 5))])))))))
def sx_interleaved_2 (ds : List D) : Dm.T RD := arity 3 (defT 7 bx_interleaved_2) ds
theorem ex_interleaved_2 (a0 a1 a2 : D) : sx_interleaved_2 [a0, a1, a2] = (bx_interleaved_2 [Slot.val a0, Slot.val a1, Slot.val a2, Slot.none, Slot.none, Slot.none, Slot.none]).bnd endT := rfl
def b_l_count : SS := seqS (setS 2 (lcR (iRng (bin2 (iOp (· + ·)) (vQ 1) (cQ (.int 1)))) [3] (nameW 3) (yesC) (cQ (.int 1)))) (seqS (forS (iRng (vQ 0)) (nameG 4) (forS (iRng2 (cQ (.int 1)) (bin2 (iOp (· + ·)) (vQ 1) (cQ (.int 1)))) (nameG 3) (ixSetS 2 (vQ 3) (bin2 (iOp (· + ·)) (bin2P ixOp (vP 2) (vQ 3)) (bin2P ixOp (vP 2) (bin2 (iOp (· - ·)) (vQ 3) (cQ (.int 1)))))))) (retS (rq (bin2P ixOp (vP 2) (vQ 1)))))
def sm_l_count (ds : List D) : Dm.T RD := arity 2 (defT 5 b_l_count) ds
theorem e_l_count (a0 a1 : D) : sm_l_count [a0, a1] = (b_l_count [Slot.val a0, Slot.val a1, Slot.none, Slot.none, Slot.none]).bnd endT := rfl
def b_l_told_10 : SS := tryS (hdl ["BadValue", "TooLarge"] "BadValue" (suF 4 (some 3) fun x => retS (lstR [rq (xfQ ["BadValue", "TooLarge"] x "name" 3)])) (hdl ["BadValue", "TooLarge"] "TooLarge" (suF 4 (some 3) fun x => retS (lstR [rq (xfQ ["BadValue", "TooLarge"] x "what" 3)])) passX)) (retS (callXR sx_interleaved_2 [vP 0, vP 1, vP 2]))
def sm_l_told_10 (ds : List D) : Dm.T RD := arity 3 (defT 4 b_l_told_10) ds
theorem e_l_told_10 (a0 a1 a2 : D) : sm_l_told_10 [a0, a1, a2] = (b_l_told_10 [Slot.val a0, Slot.val a1, Slot.val a2, Slot.none]).bnd endT := rfl
def LawW (b : SS) (S : SD) : Prop := W (b S) (OutP { nx := fun _ => False, rt := fun r => r.fz = .bl true })
end Dm

namespace Dm
open PySem PySem.Spec PyProof.Rows L2
def b_l_rule_4_p3 : SS := retS (tupR [vM 6, vM 3, rq (bin2P ixOp (pq (cQ (.lst [(.int 1), (.int 2), (.int 3), (.int 3)]))) (qr (callR sm_l_next [vP 0, pq (cQ (.int 4))]))), rq (bin2P ixOp (vP 4) (qr (callR sm_l_next [vP 0, pq (un1P lenOp (vP 4))])))])
def b_l_rule_4_p2 : SS := seqS (setS 6 (rq (bin2P ixOp (pq (cQ (.lst [(.str "after"), (.str "before")]))) (qr (callR sm_l_next [vP 0, pq (cQ (.int 2))]))))) (b_l_rule_4_p3)
def b_l_rule_4_p1 : SS := seqS (setS 4 (lcR (iLst (qr (bin2R addL (vQ 1) (vQ 2)))) [5] (nameW 5) (cmp2 neT (vQ 5) (vQ 3)) (vQ 5))) (b_l_rule_4_p2)
theorem b_l_rule_4_e : b_l_rule_4 = seqS (setS 3 (rq (bin2P ixOp (vP 1) (qr (callR sm_l_next [vP 0, pq (un1P lenOp (vP 1))]))))) (b_l_rule_4_p1) := rfl
theorem b_l_rule_4_p1_e : b_l_rule_4_p1 = seqS (setS 4 (lcR (iLst (qr (bin2R addL (vQ 1) (vQ 2)))) [5] (nameW 5) (cmp2 neT (vQ 5) (vQ 3)) (vQ 5))) (b_l_rule_4_p2) := rfl
theorem b_l_rule_4_p2_e : b_l_rule_4_p2 = seqS (setS 6 (rq (bin2P ixOp (pq (cQ (.lst [(.str "after"), (.str "before")]))) (qr (callR sm_l_next [vP 0, pq (cQ (.int 2))]))))) (b_l_rule_4_p3) := rfl
theorem b_l_rule_4_p3_e : b_l_rule_4_p3 = retS (tupR [vM 6, vM 3, rq (bin2P ixOp (pq (cQ (.lst [(.int 1), (.int 2), (.int 3), (.int 3)]))) (qr (callR sm_l_next [vP 0, pq (cQ (.int 4))]))), rq (bin2P ixOp (vP 4) (qr (callR sm_l_next [vP 0, pq (un1P lenOp (vP 4))])))]) := rfl
def b_interleaved_p6 : SS := retS (callR sm_within_bound [pq (un1P tupOp (vP 5))])
def b_interleaved_p5 : SS := seqS (forS (iTup (vQ 2)) (nameG 6) (seqS (exprS (appQ 5 (bin2P ixOp (pq (bin2P ixOp (vP 3) (vQ 6))) (bin2P ixOp (vP 4) (vQ 6))))) (ixAugS 4 (· + ·) (vQ 6) (cQ (.int 1))))) (b_interleaved_p6)
def b_interleaved_p4 : SS := seqS (setS 5 (cR [])) (b_interleaved_p5)
def b_interleaved_p3 : SS := seqS (setS 4 (cR [(.int 0), (.int 0)])) (b_interleaved_p4)
def b_interleaved_p2 : SS := seqS (setS 3 (tupR [rq (vQ 0), rq (vQ 1)])) (b_interleaved_p3)
def b_interleaved_p1 : SS := seqS (ifS (notC (truC (qr (callR sm_are_marks [vP 0, vP 1, vP 2])))) (failS) (nxS)) (b_interleaved_p2)
theorem b_interleaved_e : b_interleaved = seqS (exprS (qr (callR sm_check_one_and_other [vP 0, vP 1]))) (b_interleaved_p1) := rfl
theorem b_interleaved_p1_e : b_interleaved_p1 = seqS (ifS (notC (truC (qr (callR sm_are_marks [vP 0, vP 1, vP 2])))) (failS) (nxS)) (b_interleaved_p2) := rfl
theorem b_interleaved_p2_e : b_interleaved_p2 = seqS (setS 3 (tupR [rq (vQ 0), rq (vQ 1)])) (b_interleaved_p3) := rfl
theorem b_interleaved_p3_e : b_interleaved_p3 = seqS (setS 4 (cR [(.int 0), (.int 0)])) (b_interleaved_p4) := rfl
theorem b_interleaved_p4_e : b_interleaved_p4 = seqS (setS 5 (cR [])) (b_interleaved_p5) := rfl
theorem b_interleaved_p5_e : b_interleaved_p5 = seqS (forS (iTup (vQ 2)) (nameG 6) (seqS (exprS (appQ 5 (bin2P ixOp (pq (bin2P ixOp (vP 3) (vQ 6))) (bin2P ixOp (vP 4) (vQ 6))))) (ixAugS 4 (· + ·) (vQ 6) (cQ (.int 1))))) (b_interleaved_p6) := rfl
theorem b_interleaved_p6_e : b_interleaved_p6 = retS (callR sm_within_bound [pq (un1P tupOp (vP 5))]) := rfl
end Dm

namespace Dm
open PySem PySem.Spec PyProof.Rows L2
section
variable (i j n : Nat) (S : SD) (f g h : SQ) (r r2 : SR) (p : SP) (c d : SC) (s t : SS) (it : SI)
theorem x_vQ : vQ i S = (match S[i]? with | some (.val d) => .ret (d, S) | some (.own xs) => .ret (.lst xs, S.set i (.val (.lst xs))) | some (.dct ks xs) => .ret (.dct ks xs, S.set i (.val (.dct ks xs))) | _ => .fail) := (rfl)
theorem x_vP : vP i S = (match S[i]? with | some (.val d) => .ret (.d d, S) | some (.own _) => .ret (.own i, S) | some (.dct ks xs) => .ret (.d (.dct ks xs), S.set i (.val (.dct ks xs))) | _ => .fail) := (rfl)
theorem x_vM : vM i S = (match S[i]? with | some (.val d) => .ret (.d d, S) | some (.own xs) => .ret (.own xs, S.set i .none) | some (.dct ks xs) => .ret (.d (.dct ks xs), S.set i (.val (.dct ks xs))) | _ => .fail) := (rfl)
theorem x_cQ (d : D) : cQ d S = .ret (d, S) := (rfl)
theorem x_cR (xs : List D) : cR xs S = .ret (.own xs, S) := (rfl)
theorem x_rq : rq f S = (f S).bnd fun p => .ret (.d p.1, p.2) := (rfl)
theorem x_qr : qr r S = (r S).bnd fun p => .ret (p.1.fz, p.2) := (rfl)
theorem x_pq : pq f S = (f S).bnd fun p => .ret (.d p.1, p.2) := (rfl)
theorem x_un1 (op) : un1 op f S = (f S).bnd fun p => (op p.1).bnd fun z => .ret (z, p.2) := (rfl)
theorem x_bin2 (op) : bin2 op f g S = (f S).bnd fun p => (g p.2).bnd fun q => (op p.1 q.1).bnd fun z => .ret (z, q.2) := (rfl)
theorem x_bin2R (op) : bin2R op f g S = (f S).bnd fun p => (g p.2).bnd fun q => (op p.1 q.1).bnd fun z => .ret (z, q.2) := (rfl)
theorem x_un1P (op) : un1P op p S = (p S).bnd fun p => (seqO p.2 p.1).bnd fun xs => (op xs).bnd fun z => .ret (z, p.2) := (rfl)
theorem x_un1PR (op) : un1PR op p S = (p S).bnd fun p => (seqO p.2 p.1).bnd fun xs => (op xs).bnd fun z => .ret (z, p.2) := (rfl)
theorem x_bin2P (op) : bin2P op p g S = (p S).bnd fun p => (g p.2).bnd fun q => (seqO q.2 p.1).bnd fun xs => (op xs q.1).bnd fun z => .ret (z, q.2) := (rfl)
theorem x_bin2L (op) : bin2L op p g S = (p S).bnd fun p => if isLstP p.1 then (g p.2).bnd fun q => (seqO q.2 p.1).bnd fun xs => (op xs q.1).bnd fun z => .ret (z, q.2) else .fail := (rfl)
theorem x_tupR (fs) : tupR fs S = (argsR fs S).bnd fun q => (lenT q.1).bnd fun _ => .ret (.tup q.1, q.2) := (rfl)
theorem x_lstR (fs) : lstR fs S = (argsR fs S).bnd fun q => (lenT q.1).bnd fun _ => .ret (.own (RD.fzs q.1), q.2) := (rfl)
theorem x_callR (G fs) : callR G fs S = (argsP fs S).bnd fun q => (match PD.ats q.2 q.1 with | some ds => (G ds).bnd fun r => .ret (r, behind q.1 q.2 r) | _ => .fail) := (rfl)
theorem x_ifR : ifR c r r2 S = (c S).bnd fun p => if p.1 then r p.2 else r2 p.2 := (rfl)
theorem x_ifQ : ifQ c f g S = (c S).bnd fun p => if p.1 then f p.2 else g p.2 := (rfl)
theorem x_truC : truC f S = (f S).bnd fun p => (match truD p.1 with | some k => .ret (k, p.2) | _ => .fail) := (rfl)
theorem x_notC : notC c S = (c S).bnd fun p => .ret (!p.1, p.2) := (rfl)
theorem x_andC : andC c d S = (c S).bnd fun p => if p.1 then d p.2 else .ret (false, p.2) := (rfl)
theorem x_orC : orC c d S = (c S).bnd fun p => if p.1 then .ret (true, p.2) else d p.2 := (rfl)
theorem x_andQ : andQ f g S = (f S).bnd fun p => (boolT p.1).bnd fun b => if b then g p.2 else .ret (.bl false, p.2) := (rfl)
theorem x_orQ : orQ f g S = (f S).bnd fun p => (boolT p.1).bnd fun b => if b then .ret (.bl true, p.2) else g p.2 := (rfl)
theorem x_nQ : nQ f S = (f S).bnd fun p => (boolT p.1).bnd fun b => .ret (.bl (!b), p.2) := (rfl)
theorem x_cmp2 (op) : cmp2 op f g S = (f S).bnd fun p => (g p.2).bnd fun q => (op p.1 q.1).bnd fun z => .ret (z, q.2) := (rfl)
theorem x_cmpQ : cmpQ c S = (c S).bnd fun p => .ret (.bl p.1, p.2) := (rfl)
theorem x_leleC : leleC f g h S = (f S).bnd fun p => (g p.2).bnd fun q => (iCmp (fun i j => decide (i ≤ j)) p.1 q.1).bnd fun k => if k then (h q.2).bnd fun r => (iCmp (fun i j => decide (i ≤ j)) q.1 r.1).bnd fun k => .ret (k, r.2) else .ret (false, q.2) := (rfl)
theorem x_isNC : isNC f S = (f S).bnd fun p => .ret (isNon p.1, p.2) := (rfl)
theorem x_inC (op) : inC op f p S = (f S).bnd fun a => (p a.2).bnd fun q => (seqO q.2 q.1).bnd fun ys => (op a.1 ys).bnd fun k => .ret (k, q.2) := (rfl)
theorem x_inCD : inCD f p S = (f S).bnd fun a => (p a.2).bnd fun q => if isTupP q.1 then .fail else (seqO q.2 q.1).bnd fun ys => (inOpD a.1 ys).bnd fun k => .ret (k, q.2) := (rfl)
theorem x_nxS : nxS S = .ret (.nx S) := (rfl)
theorem x_seqS : seqS s t S = (s S).bnd fun o => (match o with | .nx S1 => t S1 | o => .ret o) := (rfl)
theorem x_retS : retS r S = (r S).bnd fun p => .ret (.rt p.1) := (rfl)
theorem x_failS : failS S = .fail := (rfl)
theorem x_ifS : ifS c s t S = (c S).bnd fun p => if p.1 then s p.2 else t p.2 := (rfl)
theorem x_setS : setS i r S = (r S).bnd fun p => .ret (.nx (putS i p.1 p.2)) := (rfl)
theorem x_exprS : exprS f S = (f S).bnd fun p => .ret (.nx p.2) := (rfl)
theorem x_asgS (G) : asgS r G S = (r S).bnd fun p => (G p.1 p.2).bnd fun S1 => .ret (.nx S1) := (rfl)
theorem x_par2S : par2S i j r r2 S = (r S).bnd fun p => (r2 p.2).bnd fun q => .ret (.nx (putS j q.1 (putS i p.1 q.2))) := (rfl)
theorem x_nameG (x : RD) : nameG i x S = .ret (putS i x S) := (rfl)
theorem x_tupG (gs) (x : RD) : tupG gs x S = (match x.parts with | some rs => tgsG gs rs S | _ => .fail) := (rfl)
theorem x_forS (G) : forS it G s S = (it S).bnd fun p => loopT G s p.1 p.2 := (rfl)
theorem x_whileS : whileS c s S = whileT c s 10000 S := (rfl)
theorem x_augS (F) : augS i F f S = (match S[i]? with | some (.val (.int u)) => (f S).bnd fun p => (match p.1 with | .int v => .ret (.nx (p.2.set i (.val (.int (F u v))))) | _ => .fail) | _ => .fail) := (rfl)
theorem x_oN : oN S = .ret (none, S) := (rfl)
theorem x_oS : oS f S = (f S).bnd fun p => (intT p.1).bnd fun i => .ret (some i, p.2) := (rfl)
theorem x_slQ (op lo hi) : slQ op f lo hi S = (f S).bnd fun p => (lo p.2).bnd fun q => (hi q.2).bnd fun r => (op p.1 q.1 r.1).bnd fun z => .ret (z, r.2) := (rfl)
theorem x_slL (lo hi) : slL f lo hi S = (f S).bnd fun p => (lo p.2).bnd fun q => (hi q.2).bnd fun r => (match p.1 with | .lst xs => .ret (.own (Dm.cutD xs q.1 r.1), r.2) | _ => .fail) := (rfl)
theorem x_iTup : iTup f S = (f S).bnd fun p => (match p.1 with | .tup xs => .ret (xs, p.2) | _ => .fail) := (rfl)
theorem x_iLst : iLst f S = (f S).bnd fun p => (match p.1 with | .lst xs => .ret (xs, p.2) | _ => .fail) := (rfl)
theorem x_iStr : iStr f S = (f S).bnd fun p => (match p.1 with | .str z => .ret (signsD z, p.2) | _ => .fail) := (rfl)
theorem x_iRng : iRng f S = (f S).bnd fun p => (match p.1 with | .int n => if -1000000 ≤ n ∧ n ≤ 1000000 then .ret (rngD 0 n.toNat, p.2) else .fail | _ => .fail) := (rfl)
theorem x_iRng2 : iRng2 f g S = (f S).bnd fun p => (g p.2).bnd fun q => (match p.1, q.1 with | .int l, .int n => if -1000000 ≤ l ∧ l ≤ 1000000 ∧ -1000000 ≤ n ∧ n ≤ 1000000 then .ret (rngD l (n - l).toNat, q.2) else .fail | _, _ => .fail) := (rfl)
theorem x_iZip : iZip f g S = (f S).bnd fun p => (g p.2).bnd fun q => (match p.1, q.1 with | .tup xs, .tup ys => .ret (zipD xs ys, q.2) | .lst xs, .lst ys => .ret (zipD xs ys, q.2) | _, _ => .fail) := (rfl)
theorem x_iEnum : iEnum f S = (f S).bnd fun p => (match p.1 with | .tup xs => .ret (enumD xs, p.2) | .lst xs => .ret (enumD xs, p.2) | _ => .fail) := (rfl)
theorem x_compI (vs tg ifs elt) : compI it vs tg ifs elt S = (it S).bnd fun p => compT vs tg ifs elt p.1 [] (wipeS p.2 vs) := (rfl)
theorem x_lcR (vs tg ifs elt) : lcR it vs tg ifs elt S = (compI it vs tg ifs elt S).bnd fun q => .ret (.own q.1, q.2) := (rfl)
theorem x_tupGQ (vs tg ifs elt) : tupGQ it vs tg ifs elt S = (compI it vs tg ifs elt S).bnd fun q => (lenT q.1).bnd fun _ => .ret (.tup q.1, q.2) := (rfl)
theorem x_allGQ (vs tg ifs elt) : allGQ it vs tg ifs elt S = (it S).bnd fun p => allT vs tg ifs elt p.1 (wipeS p.2 vs) := (rfl)
theorem x_allL : allL p S = (p S).bnd fun p => if isTupP p.1 then .fail else (seqO p.2 p.1).bnd fun xs => (match bools xs with | some bs => .ret (.bl (bs.all id), p.2) | _ => .fail) := (rfl)
theorem x_anyL : anyL p S = (p S).bnd fun p => if isTupP p.1 then .fail else (seqO p.2 p.1).bnd fun xs => (match bools xs with | some bs => .ret (.bl (bs.any id), p.2) | _ => .fail) := (rfl)
theorem x_sortedI : sortedI p S = (p S).bnd fun p => if isTupP p.1 then .fail else (seqO p.2 p.1).bnd fun xs => (match intsO xs with | some ns => if ns.length < 64 then .ret (.own ((sortI ns).map D.int), p.2) else .fail | _ => .fail) := (rfl)
theorem x_appQ : appQ i f S = (match S[i]? with | some (.own _) => (f S).bnd fun p => (match p.2[i]? with | some (.own xs) => if xs.length ≤ 100000 then .ret (.non, p.2.set i (.own (xs ++ [p.1]))) else .fail | _ => .fail) | _ => .fail) := (rfl)
theorem x_popQ : popQ i f S = (match S[i]? with | some (.own _) => (f S).bnd fun p => (match p.1, p.2[i]? with | .int n, some (.own xs) => if 0 ≤ n ∧ xs.length ≤ 100000 then (match xs[n.toNat]? with | some y => .ret (y, p.2.set i (.own (xs.eraseIdx n.toNat))) | _ => .fail) else .fail | _, _ => .fail) | _ => .fail) := (rfl)
theorem x_insQ : insQ i f g S = (match S[i]? with | some (.own _) => (f S).bnd fun p => (g p.2).bnd fun q => (match p.1, q.2[i]? with | .int n, some (.own xs) => if 0 ≤ n ∧ n < 100000 ∧ xs.length < 100000 then .ret (.non, q.2.set i (.own (xs.take n.toNat ++ [q.1] ++ xs.drop n.toNat))) else .fail | _, _ => .fail) | _ => .fail) := (rfl)
theorem x_extQ : extQ i f S = (match S[i]? with | some (.own _) => (f S).bnd fun p => (match p.1, p.2[i]? with | .lst ys, some (.own xs) => if xs.length + ys.length ≤ 100000 then .ret (.non, p.2.set i (.own (xs ++ ys))) else .fail | _, _ => .fail) | _ => .fail) := (rfl)
theorem x_nameW (d : D) : nameW i d S = .ret (S.set i (Slot.val d)) := (rfl)
theorem x_yesC : yesC S = .ret (true, S) := (rfl)
end
theorem x_endN (S : SD) : endT (.nx S) = .ret (.d .non) := (rfl)
theorem x_endR (r : RD) : endT (.rt r) = .ret r := (rfl)
def isI : D → Bool
  | .int _ => true
  | .bl _ => true
  | _ => false
def isB : D → Bool
  | .bl _ => true
  | _ => false
def isS : D → Bool
  | .str _ => true
  | _ => false
def isTu : D → Bool
  | .tup _ => true
  | _ => false
def isLi : D → Bool
  | .lst _ => true
  | _ => false
section
variable {d : D} (h : plain d = true)
include h
end
@[simp] theorem pl_non : plain .non = true := rfl
@[simp] theorem pl_bl (b : Bool) : plain (.bl b) = true := rfl
@[simp] theorem pl_int (b : Int) : plain (.int b) = true := rfl
@[simp] theorem pl_str (b : Str) : plain (.str b) = true := rfl
@[simp] theorem pl_tup (b : List D) : plain (.tup b) = true := rfl
@[simp] theorem pl_lst (b : List D) : plain (.lst b) = true := rfl
theorem y_int_non : isiT "int" .non = .ret (.bl false) := (rfl)
theorem y_int_bl (b : Bool) : isiT "int" (.bl b) = .ret (.bl true) := (rfl)
theorem y_int_int (i : Int) : isiT "int" (.int i) = .ret (.bl true) := (rfl)
theorem y_int_str (z : Str) : isiT "int" (.str z) = .ret (.bl false) := (rfl)
theorem y_int_tup (xs : List D) : isiT "int" (.tup xs) = .ret (.bl false) := (rfl)
theorem y_int_lst (xs : List D) : isiT "int" (.lst xs) = .ret (.bl false) := (rfl)
theorem y_bool_non : isiT "bool" .non = .ret (.bl false) := (rfl)
theorem y_bool_bl (b : Bool) : isiT "bool" (.bl b) = .ret (.bl true) := (rfl)
theorem y_bool_int (i : Int) : isiT "bool" (.int i) = .ret (.bl false) := (rfl)
theorem y_bool_str (z : Str) : isiT "bool" (.str z) = .ret (.bl false) := (rfl)
theorem y_bool_tup (xs : List D) : isiT "bool" (.tup xs) = .ret (.bl false) := (rfl)
theorem y_bool_lst (xs : List D) : isiT "bool" (.lst xs) = .ret (.bl false) := (rfl)
theorem y_str_non : isiT "str" .non = .ret (.bl false) := (rfl)
theorem y_str_bl (b : Bool) : isiT "str" (.bl b) = .ret (.bl false) := (rfl)
theorem y_str_int (i : Int) : isiT "str" (.int i) = .ret (.bl false) := (rfl)
theorem y_str_str (z : Str) : isiT "str" (.str z) = .ret (.bl true) := (rfl)
theorem y_str_tup (xs : List D) : isiT "str" (.tup xs) = .ret (.bl false) := (rfl)
theorem y_str_lst (xs : List D) : isiT "str" (.lst xs) = .ret (.bl false) := (rfl)
theorem y_tuple_non : isiT "tuple" .non = .ret (.bl false) := (rfl)
theorem y_tuple_bl (b : Bool) : isiT "tuple" (.bl b) = .ret (.bl false) := (rfl)
theorem y_tuple_int (i : Int) : isiT "tuple" (.int i) = .ret (.bl false) := (rfl)
theorem y_tuple_str (z : Str) : isiT "tuple" (.str z) = .ret (.bl false) := (rfl)
theorem y_tuple_tup (xs : List D) : isiT "tuple" (.tup xs) = .ret (.bl true) := (rfl)
theorem y_tuple_lst (xs : List D) : isiT "tuple" (.lst xs) = .ret (.bl false) := (rfl)
theorem y_list_non : isiT "list" .non = .ret (.bl false) := (rfl)
theorem y_list_bl (b : Bool) : isiT "list" (.bl b) = .ret (.bl false) := (rfl)
theorem y_list_int (i : Int) : isiT "list" (.int i) = .ret (.bl false) := (rfl)
theorem y_list_str (z : Str) : isiT "list" (.str z) = .ret (.bl false) := (rfl)
theorem y_list_tup (xs : List D) : isiT "list" (.tup xs) = .ret (.bl false) := (rfl)
theorem y_list_lst (xs : List D) : isiT "list" (.lst xs) = .ret (.bl true) := (rfl)
theorem allT_eq {vs : List Nat} {tg : SGW} {ifs : SC} {elt : SQ} {S : SD} (F : D → Bool) : ∀ {xs : List D}, (∀ x ∈ xs, ∃ S1 S2, tg x S = .ret S1 ∧ ifs S1 = .ret (true, S1) ∧ elt S1 = .ret (.bl (F x), S2) ∧ wipeS S2 vs = S) → allT vs tg ifs elt xs S = .ret (.bl (xs.all F), S)
  | [], _ => rfl
  | x :: xs, h => by
    obtain ⟨S1, S2, h1, h2, h3, h4⟩ := h x List.mem_cons_self
    rw [allT, h1, T.ret_bind, h2, T.ret_bind]
    simp only [if_true]
    rw [h3, T.ret_bind]
    simp only [boolT, T.ret_bind, h4]
    cases hF : F x with
    | true =>
      rw [if_pos rfl, allT_eq F fun y hy => h y (List.mem_cons_of_mem _ hy)]
      simp [hF]
    | false =>
      rw [if_neg Bool.false_ne_true]
      simp [hF]
theorem compT_eq {vs : List Nat} {tg : SGW} {ifs : SC} {elt : SQ} {S : SD} (F : D → Bool) (G : D → D) : ∀ {xs acc : List D}, acc.length + xs.length ≤ 100000 → (∀ x ∈ xs, ∃ S1, tg x S = .ret S1 ∧ ifs S1 = .ret (F x, S1) ∧ wipeS S1 vs = S ∧ (F x = true → ∃ S2, elt S1 = .ret (G x, S2) ∧ wipeS S2 vs = S)) → compT vs tg ifs elt xs acc S = .ret (acc ++ (xs.filter F).map G, S)
  | [], acc, _, _ => by simp [compT]
  | x :: xs, acc, hl, h => by
    obtain ⟨S1, h1, h2, h3, h4⟩ := h x List.mem_cons_self
    rw [List.length_cons] at hl
    rw [compT, h1, T.ret_bind, h2, T.ret_bind]
    cases hF : F x with
    | true =>
      obtain ⟨S2, h5, h6⟩ := h4 hF
      rw [if_pos rfl, h5, T.ret_bind]
      simp only [lenT]
      rw [if_pos (by omega), T.ret_bind, h6, compT_eq F G (by rw [List.length_append, List.length_singleton]; omega) fun y hy => h y (List.mem_cons_of_mem _ hy)]
      simp [hF]
    | false =>
      rw [if_neg Bool.false_ne_true, h3, compT_eq F G (by omega) fun y hy => h y (List.mem_cons_of_mem _ hy)]
      simp [hF]
theorem compT_map {vs : List Nat} {tg : SGW} {elt : SQ} {S : SD} (G : D → D) {xs acc : List D} (hl : acc.length + xs.length ≤ 100000) (h : ∀ x ∈ xs, ∃ S1 S2, tg x S = .ret S1 ∧ elt S1 = .ret (G x, S2) ∧ wipeS S1 vs = S ∧ wipeS S2 vs = S) : compT vs tg yesC elt xs acc S = .ret (acc ++ xs.map G, S) := by
  rw [compT_eq (fun _ => true) G hl fun x hx => by
    obtain ⟨S1, S2, h1, h2, h3, h4⟩ := h x hx
    exact ⟨S1, h1, rfl, h3, fun _ => ⟨S2, h2, h4⟩⟩]
  simp [List.filter_eq_self.mpr]
theorem lenT0 {α : Type} : lenT ([] : List α) = .ret () := (rfl)
theorem lenT1 {α : Type} (a : α) : lenT [a] = .ret () := (rfl)
theorem lenT2 {α : Type} (a b : α) : lenT [a, b] = .ret () := (rfl)
theorem lenT3 {α : Type} (a b c : α) : lenT [a, b, c] = .ret () := (rfl)
theorem lenT4 {α : Type} (a b c d : α) : lenT [a, b, c, d] = .ret () := (rfl)
theorem lenT5 {α : Type} (a b c d e : α) : lenT [a, b, c, d, e] = .ret () := (rfl)
theorem lenT6 {α : Type} (a b c d e f : α) : lenT [a, b, c, d, e, f] = .ret () := (rfl)
theorem noL_strs : ∀ zs : List Str, D.noLs (zs.map D.str) = true
  | [] => rfl
  | z :: zs => by rw [List.map_cons, D.noLs, noL_strs zs]; rfl
theorem noL_ints : ∀ zs : List Int, D.noLs (zs.map D.int) = true
  | [] => rfl
  | z :: zs => by rw [List.map_cons, D.noLs, noL_ints zs]; rfl
theorem lenT_ok {α : Type} {xs : List α} (h : xs.length ≤ 100000) : lenT xs = .ret () := if_pos h
theorem x_argsP0 (S : SD) : argsP [] S = .ret ([], S) := (rfl)
theorem x_argsP1 (f : SP) (fs) (S : SD) : argsP (f :: fs) S = (f S).bnd fun p => (argsP fs p.2).bnd fun q => .ret (p.1 :: q.1, q.2) := (rfl)
theorem x_argsR0 (S : SD) : argsR [] S = .ret ([], S) := (rfl)
theorem x_argsR1 (f : SR) (fs) (S : SD) : argsR (f :: fs) S = (f S).bnd fun p => (argsR fs p.2).bnd fun q => .ret (p.1 :: q.1, q.2) := (rfl)
theorem x_tgsG0 (S : SD) : tgsG [] [] S = .ret S := (rfl)
theorem x_tgsG1 (g : SG) (gs : List SG) (r : RD) (rs : List RD) (S : SD) : tgsG (g :: gs) (r :: rs) S = (g r S).bnd fun S1 => tgsG gs rs S1 := (rfl)
theorem x_tgsG2 (r : RD) (rs : List RD) (S : SD) : tgsG [] (r :: rs) S = .fail := (rfl)
theorem x_tgsG3 (g : SG) (gs : List SG) (S : SD) : tgsG (g :: gs) [] S = .fail := (rfl)
theorem x_tgsW0 (S : SD) : tgsW [] [] S = .ret S := (rfl)
theorem x_tgsW1 (g : SGW) (gs : List SGW) (r : D) (rs : List D) (S : SD) : tgsW (g :: gs) (r :: rs) S = (g r S).bnd fun S1 => tgsW gs rs S1 := (rfl)
end Dm

namespace Dm
open PySem PySem.Spec PyProof.Rows L2
section
variable {S : SD} {f g h : SQ} {r r2 : SR} {i j : Nat} {it : SI}
theorem x_ixSetS : ixSetS i g f S = (f S).bnd fun p => (match p.2[i]? with | some (.own _) => (g p.2).bnd fun q => (match q.1, q.2[i]? with | .int n, some (.own xs) => if 0 ≤ n ∧ n.toNat < xs.length then .ret (.nx (q.2.set i (.own (xs.set n.toNat p.1)))) else .fail | _, _ => .fail) | _ => .fail) := by
  unfold ixSetS
  show (f S).bind _ = (f S).bind _
  congr 1
  funext p
  cases p.2[i]? with
  | none => rfl
  | some s => cases s <;> rfl
theorem x_iComb (r : Nat) : iComb r f S = (f S).bnd fun p => (match seqD p.1 with | some xs => (match combO r xs.length with | some L => .ret (combD L xs, p.2) | none => .fail) | none => .fail) := (rfl)
theorem x_iCombR (r : Nat) : iCombR r f S = (f S).bnd fun p => (match p.1 with | .int n => if 0 ≤ n then (match combO r n.toNat with | some L => .ret (combD L (rngD 0 n.toNat), p.2) | none => .fail) else .fail | _ => .fail) := (rfl)
theorem x_iPerm : iPerm f S = (f S).bnd fun p => (match p.1 with | .lst xs => if xs.length = 3 ∨ xs.length = 4 then .ret (permD xs, p.2) else .fail | _ => .fail) := (rfl)
theorem x_sortedPr {p : SP} : sortedPr p S = (p S).bnd fun p => if isTupP p.1 then .fail else (seqO p.2 p.1).bnd fun xs => (match pairsO xs with | some ns => .ret (.own ((sortP ns).map pairI), p.2) | _ => .fail) := by
  unfold sortedPr
  show (p S).bind _ = (p S).bind _
  congr 1
  funext q
  split
  · rfl
  · show (seqO _ _).bind _ = (seqO _ _).bind _
    congr 1
    funext xs
    cases pairsO xs <;> rfl
theorem x_ixG {d : D} : ixG i g (.d d) S = (match S[i]? with | some (.own _) => (g S).bnd fun q => (match q.1, q.2[i]? with | .int n, some (.own xs) => if 0 ≤ n ∧ n.toNat < xs.length then .ret (q.2.set i (.own (xs.set n.toNat d))) else .fail | _, _ => .fail) | _ => .fail) := by
  unfold ixG
  cases S[i]? with
  | none => rfl
  | some s => cases s <;> rfl
theorem x_lcR2 (vs vs1 tg ifs it1 tg1 ifs1 elt) : lcR2 it vs vs1 tg ifs it1 tg1 ifs1 elt S = (it S).bnd fun p => (compT2 vs vs1 tg ifs it1 tg1 ifs1 elt p.1 [] (wipeS p.2 vs)).bnd fun q => .ret (.own q.1, q.2) := (rfl)
theorem x_joinQ {pf : SP} : joinQ f pf S = (f S).bnd fun p => (pf p.2).bnd fun q => (seqO q.2 q.1).bnd fun xs => (joinOp p.1 xs).bnd fun z => .ret (z, q.2) := (rfl)
theorem x_ixAugS {op : Int → Int → Int} : ixAugS i op g f S = (match S[i]? with | some (.own _) => (g S).bnd fun q => (match q.1, q.2[i]? with | .int n, some (.own xs) => if 0 ≤ n ∧ n < 1000000 then (match xs[n.toNat]? with | some (.int u) => (f q.2).bnd fun p => (match p.1, p.2[i]? with | .int v, some (.own ys) => if n.toNat < ys.length then .ret (.nx (p.2.set i (.own (ys.set n.toNat (.int (op u v)))))) else .fail | _, _ => .fail) | _ => .fail) else .fail | _, _ => .fail) | _ => .fail) := by
  unfold ixAugS
  cases S[i]? with
  | none => rfl
  | some s => cases s <;> rfl
theorem x_iSeq : iSeq f S = (f S).bnd fun p => (match seqD p.1 with | some xs => .ret (xs, p.2) | _ => .fail) := (rfl)
theorem x_iRev : iRev f S = (f S).bnd fun p => (match seqD p.1 with | some xs => .ret (xs.reverse, p.2) | _ => .fail) := (rfl)
theorem x_iRevR : iRevR f S = (f S).bnd fun p => (match p.1 with | .int n => if small n then .ret (dwnD (n - 1) n.toNat, p.2) else .fail | _ => .fail) := (rfl)
theorem x_iRevR2 : iRevR2 f g S = (f S).bnd fun p => (g p.2).bnd fun q => (match p.1, q.1 with | .int l, .int n => if small l && small n then .ret (dwnD (n - 1) (n - l).toNat, q.2) else .fail | _, _ => .fail) := (rfl)
theorem x_iRngD : iRngD f g S = (f S).bnd fun p => (g p.2).bnd fun q => (match p.1, q.1 with | .int l, .int n => if small l && small n then .ret (dwnD l (l - n).toNat, q.2) else .fail | _, _ => .fail) := (rfl)
theorem x_rgOwn : rgOwn f S = (f S).bnd fun p => (match p.1 with | .int n => if -1000000 ≤ n ∧ n ≤ 1000000 then .ret (.own (rngD 0 n.toNat), p.2) else .fail | _ => .fail) := (rfl)
variable {pf : SP} {c : SC}
theorem x_truP : truP pf S = (pf S).bnd fun p => (match p.1 with | .d x => (match truD x with | some k => .ret (k, p.2) | _ => .fail) | .own i => (match p.2[i]? with | some (.own xs) => .ret (!xs.isEmpty, p.2) | _ => .fail)) := (rfl)
theorem x_anyGQ (vs tg ifs elt) : anyGQ it vs tg ifs elt S = (it S).bnd fun p => anyT vs tg ifs elt p.1 (wipeS p.2 vs) := (rfl)
theorem x_sortedS' : sortedS' pf S = (pf S).bnd fun p => (seqO p.2 p.1).bnd fun xs => (match strsO xs with | some zs => if zs.length < 64 then .ret (.own ((sortStr zs).map D.str), p.2) else .fail | _ => .fail) := (rfl)
theorem x_leltC : leltC f g h S = (f S).bnd fun p => (g p.2).bnd fun q => (iCmp (fun i j => decide (i ≤ j)) p.1 q.1).bnd fun k => if k then (h q.2).bnd fun r => (iCmp (fun i j => decide (i < j)) q.1 r.1).bnd fun k => .ret (k, r.2) else .ret (false, q.2) := (rfl)
theorem x_ltltC : ltltC f g h S = (f S).bnd fun p => (g p.2).bnd fun q => (iCmp (fun i j => decide (i < j)) p.1 q.1).bnd fun k => if k then (h q.2).bnd fun r => (iCmp (fun i j => decide (i < j)) q.1 r.1).bnd fun k => .ret (k, r.2) else .ret (false, q.2) := (rfl)
theorem x_ltleC : ltleC f g h S = (f S).bnd fun p => (g p.2).bnd fun q => (iCmp (fun i j => decide (i < j)) p.1 q.1).bnd fun k => if k then (h q.2).bnd fun r => (iCmp (fun i j => decide (i ≤ j)) q.1 r.1).bnd fun k => .ret (k, r.2) else .ret (false, q.2) := (rfl)
end
end Dm

namespace Dm
open PySem PySem.Spec PyProof.Rows L2
theorem noX_ret {α : Type} (a : α) : noX (T.ret a) = .ret a := (rfl)
theorem noX_fail {α : Type} : noX (T.fail : T α) = .fail := (rfl)
theorem T.exc_bnd {α β : Type} (x : Exn) (f : α → T β) (t : Tag f) : (T.exc x : T α).bnd f t = .exc x := (rfl)
theorem tryT_ret (h : Exn → T Out) (o : Out) : tryT h (.ret o) = .ret o := (rfl)
theorem tryT_fail (h : Exn → T Out) : tryT h .fail = .fail := (rfl)
theorem tryT_exc (h : Exn → T Out) (x : Exn) : tryT h (.exc x) = h x := (rfl)
section
variable {S : SD} {f g : SS} {r : SR} {c : SC}
theorem x_leafS : leafS f S = noX (f S) := (rfl)
theorem x_leafR : leafR r S = noX (r S) := (rfl)
theorem x_dropS : dropS r S = (r S).bnd fun p => .ret (.nx p.2) := (rfl)
theorem x_callXR (G fs) : callXR G fs S = (noX (argsP fs S)).bnd fun q => (match PD.ats q.2 q.1 with | some ds => (G ds).bnd fun r => .ret (r, behind q.1 q.2 r) | _ => .fail) := (rfl)
theorem x_raiseS (n fs) : raiseS n fs S = (noX (argsP fs S)).bnd fun q => (match PD.ats q.2 q.1 with | some ds => if xOk n ds = true then .exc (.mk n ds) else .fail | _ => .fail) := (rfl)
theorem x_ifXS : ifXS c f g S = (noX (c S)).bnd fun p => if p.1 then f p.2 else g p.2 := (rfl)
theorem x_tryS (h) : tryS h f S = tryT h (f S) := (rfl)
theorem x_asgXS (G) : asgXS r G S = (r S).bnd fun p => (noX (G p.1 p.2)).bnd fun S1 => .ret (.nx S1) := (rfl)
theorem x_hdl (xs c su more x) : hdl xs c su more x = if x.cls ∈ xs then (if xSub x.cls c = true then suiteT su x else more x) else .fail := (rfl)
theorem x_passX (x) : passX x = .exc x := (rfl)
theorem x_suiteT (su x) : suiteT su x = (noX (su x)).bnd fun r => if r.noS = true then .ret (.rt r) else .fail := (rfl)
theorem x_suF (n i fS x) : suF n i fS x = (fS x (suSlots n i)).bnd endO := (rfl)
theorem endO_rt (r : RD) : endO (.rt r) = .ret r := (rfl)
theorem x_xfQ (xs x n i) : xfQ xs x n i S = (match S[i]? with | some (.val .strm) => if x.cls ∈ xs then (match xField x n with | some d => if d.noS = true then .ret (d, S) else .fail | none => .fail) else .fail | _ => .fail) := (rfl)
theorem x_xisQ (xs x n i) : xisQ xs x n i S = (match S[i]? with | some (.val .strm) => if x.cls ∈ xs then .ret (.bl (xSub x.cls n), S) else .fail | _ => .fail) := (rfl)
end
def semK := And.intro (And.intro (And.intro (And.intro (And.intro (And.intro (And.intro (@x_iComb) (@x_iCombR)) (And.intro (@x_iPerm) (@x_sortedPr))) (And.intro (And.intro (@x_ixG) (@x_rgOwn)) (And.intro (@x_joinQ) (And.intro (@x_ixAugS) (@x_lcR2))))) (And.intro (And.intro (And.intro (@x_truP) (@x_anyGQ)) (And.intro (@x_sortedS') (And.intro (@x_leltC) (@x_ltltC)))) (And.intro (And.intro (@x_ltleC) (@x_ixSetS)) (And.intro (@x_iSeq) (And.intro (@x_iRev) (@x_iRevR)))))) (And.intro (And.intro (And.intro (And.intro (@x_iRevR2) (@x_iRngD)) (And.intro (@pl_non) (@pl_bl))) (And.intro (And.intro (@pl_int) (@pl_str)) (And.intro (@pl_tup) (And.intro (@pl_lst) (@x_endN))))) (And.intro (And.intro (And.intro (@x_endR) (@T.ret_bnd)) (And.intro (@T.fail_bnd) (And.intro (@x_vQ) (@x_vP)))) (And.intro (And.intro (@x_vM) (@x_cQ)) (And.intro (@x_cR) (And.intro (@x_rq) (@x_qr))))))) (And.intro (And.intro (And.intro (And.intro (And.intro (@x_pq) (@x_un1)) (And.intro (@x_bin2) (@x_bin2R))) (And.intro (And.intro (@x_un1P) (@x_un1PR)) (And.intro (@x_bin2P) (And.intro (@x_bin2L) (@x_tupR))))) (And.intro (And.intro (And.intro (@x_lstR) (@x_callR)) (And.intro (@x_ifR) (And.intro (@x_ifQ) (@x_truC)))) (And.intro (And.intro (@x_notC) (@x_andC)) (And.intro (@x_orC) (And.intro (@x_andQ) (@x_orQ)))))) (And.intro (And.intro (And.intro (And.intro (@x_nQ) (@x_cmp2)) (And.intro (@x_cmpQ) (@x_leleC))) (And.intro (And.intro (@x_isNC) (@x_inC)) (And.intro (@x_inCD) (And.intro (@x_nxS) (@x_seqS))))) (And.intro (And.intro (And.intro (@x_retS) (@x_failS)) (And.intro (@x_ifS) (And.intro (@x_setS) (@x_exprS)))) (And.intro (And.intro (@x_asgS) (@x_par2S)) (And.intro (@x_nameG) (And.intro (@x_tupG) (@x_forS)))))))) (And.intro (And.intro (And.intro (And.intro (And.intro (And.intro (@x_whileS) (@x_augS)) (And.intro (@x_oN) (@x_oS))) (And.intro (And.intro (@x_slQ) (@x_slL)) (And.intro (@x_iTup) (And.intro (@x_iLst) (@x_iStr))))) (And.intro (And.intro (And.intro (@x_iRng) (@x_iRng2)) (And.intro (@x_iZip) (And.intro (@x_iEnum) (@x_lcR)))) (And.intro (And.intro (@x_tupGQ) (@x_allGQ)) (And.intro (@x_compI) (And.intro (@x_allL) (@x_anyL)))))) (And.intro (And.intro (And.intro (And.intro (@x_sortedI) (@x_appQ)) (And.intro (@x_popQ) (@x_insQ))) (And.intro (And.intro (@x_extQ) (@x_nameW)) (And.intro (@x_yesC) (And.intro (@x_argsP0) (@x_argsP1))))) (And.intro (And.intro (And.intro (@x_argsR0) (@x_argsR1)) (And.intro (@x_tgsG0) (And.intro (@x_tgsG1) (@x_tgsG2)))) (And.intro (And.intro (@x_tgsG3) (@x_tgsW0)) (And.intro (@x_tgsW1) (And.intro (@y_int_non) (@y_int_bl))))))) (And.intro (And.intro (And.intro (And.intro (And.intro (@y_int_int) (@y_int_str)) (And.intro (@y_int_tup) (@y_int_lst))) (And.intro (And.intro (@y_bool_non) (@y_bool_bl)) (And.intro (@y_bool_int) (And.intro (@y_bool_str) (@y_bool_tup))))) (And.intro (And.intro (And.intro (@y_bool_lst) (@y_str_non)) (And.intro (@y_str_bl) (And.intro (@y_str_int) (@y_str_str)))) (And.intro (And.intro (@y_str_tup) (@y_str_lst)) (And.intro (@y_tuple_non) (And.intro (@y_tuple_bl) (@y_tuple_int)))))) (And.intro (And.intro (And.intro (And.intro (@y_tuple_str) (@y_tuple_tup)) (And.intro (@y_tuple_lst) (And.intro (@y_list_non) (@y_list_bl)))) (And.intro (And.intro (@y_list_int) (@y_list_str)) (And.intro (@y_list_tup) (And.intro (@y_list_lst) (@lenT0))))) (And.intro (And.intro (And.intro (@lenT1) (@lenT2)) (And.intro (@lenT3) (And.intro (@lenT4) (@lenT5)))) (And.intro (And.intro (@lenT6) (@noL_strs)) (And.intro (@noL_ints) (And.intro (@WB_bnd) (@WB_ret))))))))
end Dm

namespace Dm
open PySem PySem.Spec PyProof.Rows L2
def isIntD : D → Bool
  | .int _ => true
  | _ => false
def inR (a b : Int) : D → Bool
  | .int i => decide (a ≤ i) && decide (i ≤ b)
  | _ => false
def FIRSTs : Str := "abcdefghijklmnopqrstuvwxyz"
def CHARs : Str := "abcdefghijklmnopqrstuvwxyz0123456789"
def letterZ (z : Str) : Bool := decide (1 ≤ z.length) && decide (z.length ≤ 12) && (match z.cps.toList with | n :: _ => decide (n ∈ FIRSTs.cps.toList) | [] => false) && z.cps.toList.all fun n => decide (n ∈ CHARs.cps.toList)
def signIn : D → Bool
  | .str ⟨#[n]⟩ => decide (n ∈ CHARs.cps.toList)
  | _ => false
theorem signsD_get {z : Str} {i : Nat} {y : D} (h : (signsD z)[i]? = some y) : ∃ n, y = .str ⟨#[n]⟩ := by
  unfold signsD at h
  rw [List.getElem?_map] at h
  cases e : z.cps.toList[i]? with
  | none => rw [e] at h; cases h
  | some n => rw [e] at h; cases h; exact ⟨n, rfl⟩
theorem signs_all {z : Str} : (signsD z).all signIn = z.cps.toList.all fun n => decide (n ∈ CHARs.cps.toList) := by
  unfold signsD
  rw [List.all_map]
  rfl
def isLetterD : D → Bool
  | .str z => letterZ z
  | _ => false
def strsD (xs : List D) : List Str := xs.filterMap strOf
theorem strsD_map (zs : List Str) : strsD (zs.map D.str) = zs := by
  unfold strsD
  rw [List.filterMap_map]
  exact List.filterMap_some
def isLettersD : D → Bool
  | .tup xs => decide (xs.length ≤ 12) && xs.all isLetterD && decide (strsD xs).Nodup
  | _ => false
def isOrderD : D → Bool
  | .tup [.tup xs, .tup ys] => isLettersD (.tup xs) && decide ((ys.length : Int) = max ((xs.length : Int) - 1) 0) && ys.all (inR 1 3)
  | _ => false
def betw (ws : List Int) (i j : Nat) : Int := leastOr 4 ((ws.drop (min i j)).take (max i j - min i j))
structure OrdZ (zs : List Str) (ws : List Int) : Prop where
  most : zs.length ≤ 12
  nod : zs.Nodup
  let' : ∀ z ∈ zs, letterZ z = true
  len : ws.length = zs.length - 1
  str : ∀ w ∈ ws, 1 ≤ w ∧ w ≤ 3
abbrev ordT (zs : List Str) (ws : List Int) : D := .tup [.tup (zs.map D.str), .tup (ws.map D.int)]
theorem letter_len {z : Str} (h : letterZ z = true) : 1 ≤ z.length ∧ z.length ≤ 12 := by
  simp only [letterZ, Bool.and_eq_true, decide_eq_true_eq] at h
  exact ⟨h.1.1.1, h.1.1.2⟩
theorem OrdZ.good {zs : List Str} {ws : List Int} (o : OrdZ zs ws) : Dm.good (ordT zs ws) = true := by
  have l1 := o.most
  have l2 := o.len
  refine g_tup rfl (g_cons (good_tup.mpr ⟨by rw [List.length_map]; omega, goods_iff.mpr fun x hx => ?_⟩) (g_cons (good_tup.mpr ⟨by rw [List.length_map]; omega, goods_iff.mpr fun x hx => ?_⟩) rfl))
  · obtain ⟨z, hz, rfl⟩ := List.mem_map.mp hx
    exact g_str (by have := letter_len (o.let' z hz); omega)
  · obtain ⟨z, hz, rfl⟩ := List.mem_map.mp hx
    rfl
theorem OrdZ.is {zs : List Str} {ws : List Int} (o : OrdZ zs ws) : isOrderD (ordT zs ws) = true := by
  have l1 := o.most
  have l2 := o.len
  have a1 : (zs.map D.str).all isLetterD = true := List.all_eq_true.mpr fun x hx => by
    obtain ⟨z, hz, rfl⟩ := List.mem_map.mp hx
    exact o.let' z hz
  have a2 : (ws.map D.int).all (inR 1 3) = true := List.all_eq_true.mpr fun x hx => by
    obtain ⟨w, hw, rfl⟩ := List.mem_map.mp hx
    have := o.str w hw
    simp [inR, this.1, this.2]
  have a3 : (((ws.map D.int).length : Nat) : Int) = max ((((zs.map D.str).length : Nat) : Int) - 1) 0 := by
    rw [List.length_map, List.length_map, l2]
    omega
  simp only [isOrderD, isLettersD, a1, a2, strsD_map, decide_eq_true o.nod, decide_eq_true a3, Bool.and_true]
  rw [List.length_map, decide_eq_true l1]
def m4 (L : List Int) : Int := L.foldl min 4
theorem fold_min (L : List Int) : ∀ a : Int, a ≤ 4 → L.foldl min a = min a (m4 L) := by
  unfold m4
  induction L with
  | nil => intro a h; simp; omega
  | cons x L ih =>
    intro a h
    rw [List.foldl_cons, List.foldl_cons, ih (min a x) (by omega), ih (min 4 x) (by omega)]
    omega
theorem m4_app (A B : List Int) : m4 (A ++ B) = min (m4 A) (m4 B) := by
  have h : m4 A ≤ 4 := by
    have := fold_min A 4 (Int.le_refl _)
    have e : m4 A = min 4 (m4 A) := this
    omega
  show (A ++ B).foldl min 4 = _
  rw [List.foldl_append]
  exact fold_min B (m4 A) h
theorem least_m4 {L : List Int} (h : ∀ w ∈ L, w ≤ 4) : leastOr 4 L = m4 L := by
  cases L with
  | nil => rfl
  | cons y ys =>
    have := h y List.mem_cons_self
    show ys.foldl min y = ys.foldl min (min 4 y)
    rw [show min 4 y = y by omega]
theorem betw_m4 {zs : List Str} {ws : List Int} (o : OrdZ zs ws) (i j : Nat) : betw ws i j = m4 ((ws.drop (min i j)).take (max i j - min i j)) :=
  least_m4 fun w hw => by
    have := o.str w (List.mem_of_mem_drop (List.mem_of_mem_take hw))
    omega
theorem betw_comm (ws : List Int) (i j : Nat) : betw ws i j = betw ws j i := by
  unfold betw
  rw [Nat.min_comm, Nat.max_comm]
theorem betw_three {zs : List Str} {ws : List Int} (o : OrdZ zs ws) {i j k : Nat} (h1 : i ≤ j) (h2 : j ≤ k) : betw ws i k = min (betw ws i j) (betw ws j k) := by
  rw [betw_m4 o, betw_m4 o, betw_m4 o, ← m4_app]
  congr 1
  rw [Nat.min_eq_left (by omega), Nat.max_eq_right (by omega), Nat.min_eq_left h1, Nat.max_eq_right h1, Nat.min_eq_left h2, Nat.max_eq_right h2]
  have e : ws.drop j = (ws.drop i).drop (j - i) := by rw [List.drop_drop]; congr 1; omega
  rw [e, ← List.take_add]
  congr 1
  omega
theorem atN {α : Type} {xs : List α} {k : Nat} (h : k < xs.length) : L2.atI xs (k : Nat) = some xs[k] := by
  unfold L2.atI L2.ixN
  simp [h]
def dl (zs : List Str) (ws : List Int) (a b : Str) : Int := betw ws (zs.idxOf a) (zs.idxOf b)
def adj (f : Str → Str → Int) : List Str → List Int
  | [] => []
  | [_] => []
  | a :: b :: r => f a b :: adj f (b :: r)
theorem adj_len (f : Str → Str → Int) : ∀ l : List Str, (adj f l).length = l.length - 1
  | [] => rfl
  | [_] => rfl
  | a :: b :: r => by
    show (adj f (b :: r)).length + 1 = _
    rw [adj_len f (b :: r)]
    simp
theorem adj_get (f : Str → Str → Int) : ∀ (l : List Str) (i : Nat) (h : i + 1 < l.length), (adj f l)[i]? = some (f l[i] l[i + 1])
  | [], _, h => by simp at h
  | [_], _, h => by simp at h
  | a :: b :: r, 0, _ => rfl
  | a :: b :: r, i + 1, h => by
    have := adj_get f (b :: r) i (by simpa using h)
    exact this
theorem adj_ext {f : Str → Str → Int} {l : List Str} {ws : List Int} (hl : ws.length = l.length - 1) (h : ∀ (i : Nat) (h1 : i + 1 < l.length), ws[i]? = some (f l[i] l[i + 1])) : ws = adj f l := by
  apply List.ext_getElem?
  intro i
  by_cases hi : i + 1 < l.length
  · rw [h i hi, adj_get f l i hi]
  · rw [List.getElem?_eq_none (by omega), List.getElem?_eq_none (by rw [adj_len]; omega)]
theorem adj_congr {f g : Str → Str → Int} : ∀ {l : List Str}, (∀ a ∈ l, ∀ b ∈ l, f a b = g a b) → adj f l = adj g l
  | [], _ => rfl
  | [_], _ => rfl
  | a :: b :: r, h => by
    show f a b :: adj f (b :: r) = g a b :: adj g (b :: r)
    rw [h a (by simp) b (by simp), adj_congr fun x hx y hy => h x (List.mem_cons_of_mem _ hx) y (List.mem_cons_of_mem _ hy)]
theorem adj_rev {f : Str → Str → Int} (hs : ∀ a b, f a b = f b a) (l : List Str) : (adj f l).reverse = adj f l.reverse := by
  refine adj_ext (by rw [List.length_reverse, List.length_reverse, adj_len]) fun i h => ?_
  rw [List.length_reverse] at h
  rw [List.getElem?_reverse (by rw [adj_len]; omega), adj_len]
  have e : l.length - 1 - 1 - i = l.length - 2 - i := by omega
  rw [e, adj_get f l (l.length - 2 - i) (by omega), List.getElem_reverse, List.getElem_reverse, hs]
  congr 2
  · congr 1; omega
  · congr 1; omega
structure Chain (f : Str → Str → Int) (l : List Str) : Prop where
  sym : ∀ a b, f a b = f b a
  rfl' : ∀ a, f a a = 4
  tp : ∀ (i j k : Nat) (hi : i ≤ j) (hj : j ≤ k) (hk : k < l.length), f l[i] l[k] = min (f l[i] l[j]) (f l[j] l[k])
theorem Chain.le {f : Str → Str → Int} {l : List Str} (c : Chain f l) {i j : Nat} (hi : i < l.length) (hj : j < l.length) : f l[i] l[j] ≤ 4 := by
  by_cases h : i ≤ j
  · have := c.tp i i j (Nat.le_refl _) h hj
    rw [c.rfl'] at this
    omega
  · have := c.tp j j i (Nat.le_refl _) (by omega) hi
    rw [c.rfl'] at this
    rw [c.sym]
    omega
theorem Chain.run {f : Str → Str → Int} {l : List Str} (c : Chain f l) (i : Nat) : ∀ (t : Nat) (h : i + t < l.length), m4 (((adj f l).drop i).take t) = f l[i] l[i + t]
  | 0, h => by
    rw [List.take_zero]
    show (4 : Int) = _
    exact (c.rfl' _).symm
  | t + 1, h => by
    have ih := c.run i t (by omega)
    rw [List.take_add_one, List.getElem?_drop, adj_get f l (i + t) (by omega), m4_app, ih]
    have hle := c.le (i := i + t) (j := i + t + 1) (by omega) (by omega)
    have e : m4 (some (f l[i + t] l[i + t + 1])).toList = f l[i + t] l[i + t + 1] := by
      show min 4 (f l[i + t] l[i + t + 1]) = _
      omega
    rw [e]
    exact (c.tp i (i + t) (i + t + 1) (by omega) (by omega) (by omega)).symm
theorem Chain.adj4 {f : Str → Str → Int} {l : List Str} (c : Chain f l) : ∀ w ∈ adj f l, w ≤ 4 := fun w hw => by
  obtain ⟨i, hi⟩ := List.mem_iff_getElem?.mp hw
  have h1 : i < (adj f l).length := (List.getElem?_eq_some_iff.mp hi).1
  rw [adj_len] at h1
  rw [adj_get f l i (by omega)] at hi
  cases hi
  exact c.le (by omega) (by omega)
theorem Chain.betw {f : Str → Str → Int} {l : List Str} (c : Chain f l) {i j : Nat} (hi : i < l.length) (hj : j < l.length) : betw (adj f l) i j = f l[i] l[j] := by
  have go : ∀ {i j : Nat} (hij : i ≤ j) (hj : j < l.length), Dm.betw (adj f l) i j = f l[i] l[j] := fun {i j} hij hj => by
    unfold Dm.betw
    rw [least_m4 fun w hw => c.adj4 w (List.mem_of_mem_drop (List.mem_of_mem_take hw)), Nat.min_eq_left hij, Nat.max_eq_right hij, c.run i (j - i) (by omega)]
    congr 2
    omega
  by_cases h : i ≤ j
  · exact go h hj
  · rw [betw_comm, go (by omega) hi, c.sym]
theorem Chain.dl {f : Str → Str → Int} {l : List Str} (c : Chain f l) {a b : Str} (ha : a ∈ l) (hb : b ∈ l) : dl l (adj f l) a b = f a b := by
  unfold Dm.dl
  rw [c.betw (List.idxOf_lt_length_iff.mpr ha) (List.idxOf_lt_length_iff.mpr hb), List.getElem_idxOf, List.getElem_idxOf]
theorem dl_sym (zs : List Str) (ws : List Int) (a b : Str) : dl zs ws a b = dl zs ws b a := betw_comm _ _ _
theorem dl_rfl (zs : List Str) (ws : List Int) (a : Str) : dl zs ws a a = 4 := by
  unfold dl betw
  rw [Nat.min_self, Nat.max_self, Nat.sub_self, List.take_zero]
  rfl
theorem chain_up {zs : List Str} {ws : List Int} (o : OrdZ zs ws) {l : List Str} (h : l.Pairwise fun a b => zs.idxOf a < zs.idxOf b) : Chain (dl zs ws) l := by
  refine ⟨dl_sym zs ws, dl_rfl zs ws, fun i j k hi hj hk => ?_⟩
  have le : ∀ {a b : Nat} (hab : a ≤ b) (hb : b < l.length), zs.idxOf l[a] ≤ zs.idxOf l[b] := fun {a b} hab hb => by
    by_cases e : a = b
    · subst e; exact Nat.le_refl _
    · exact Nat.le_of_lt (List.pairwise_iff_getElem.mp h a b (by omega) hb (by omega))
  exact betw_three o (le hi (by omega)) (le hj hk)
theorem chain_down {zs : List Str} {ws : List Int} (o : OrdZ zs ws) {l : List Str} (h : l.Pairwise fun a b => zs.idxOf b < zs.idxOf a) : Chain (dl zs ws) l := by
  refine ⟨dl_sym zs ws, dl_rfl zs ws, fun i j k hi hj hk => ?_⟩
  have le : ∀ {a b : Nat} (hab : a ≤ b) (hb : b < l.length), zs.idxOf l[b] ≤ zs.idxOf l[a] := fun {a b} hab hb => by
    by_cases e : a = b
    · subst e; exact Nat.le_refl _
    · exact Nat.le_of_lt (List.pairwise_iff_getElem.mp h a b (by omega) hb (by omega))
  have := betw_three o (le hj hk) (le hi (by omega))
  rw [dl_sym zs ws l[i] l[k], dl_sym zs ws l[i] l[j], dl_sym zs ws l[j] l[k], Int.min_comm]
  exact this
theorem idx_pair {zs : List Str} (h : zs.Nodup) : zs.Pairwise fun a b => zs.idxOf a < zs.idxOf b :=
  List.pairwise_iff_getElem.mpr fun i j hi hj hij => by rw [h.idxOf_getElem i hi, h.idxOf_getElem j hj]; exact hij
theorem betw_in {zs : List Str} {ws : List Int} (o : OrdZ zs ws) {i j : Nat} (hi : i < zs.length) (hj : j < zs.length) (h : i ≠ j) : 1 ≤ betw ws i j ∧ betw ws i j ≤ 3 := by
  have go : ∀ {i j : Nat}, i < j → j < zs.length → 1 ≤ betw ws i j ∧ betw ws i j ≤ 3 := fun {i j} hij hj => by
    have hl := o.len
    rw [betw_m4 o, Nat.min_eq_left (by omega), Nat.max_eq_right (by omega)]
    obtain ⟨t, ht⟩ : ∃ t, j - i = t + 1 := ⟨j - i - 1, by omega⟩
    rw [ht]
    have hin : i < ws.length := by omega
    rw [List.drop_eq_getElem_cons hin, List.take_succ_cons]
    have all1 : ∀ w ∈ (ws.drop (i + 1)).take t, 1 ≤ w ∧ w ≤ 3 := fun w hw => o.str w (List.mem_of_mem_drop (List.mem_of_mem_take hw))
    have h1 := o.str ws[i] (List.getElem_mem hin)
    generalize (ws.drop (i + 1)).take t = L at all1
    have low : ∀ L : List Int, (∀ w ∈ L, 1 ≤ w ∧ w ≤ 3) → 1 ≤ m4 L := by
      intro L
      induction L with
      | nil => intro _; decide
      | cons x L ih =>
        intro hL
        have e : m4 (x :: L) = min (m4 [x]) (m4 L) := m4_app [x] L
        have e2 : m4 [x] = min 4 x := rfl
        have h1 := hL x (by simp)
        have h2 := ih fun w hw => hL w (List.mem_cons_of_mem _ hw)
        omega
    have e : m4 (ws[i] :: L) = min (m4 [ws[i]]) (m4 L) := m4_app [ws[i]] L
    have e2 : m4 [ws[i]] = min 4 ws[i] := rfl
    have := low L all1
    omega
  by_cases hlt : i < j
  · exact go hlt hj
  · rw [betw_comm]; exact go (by omega) hi
theorem dl_in {zs : List Str} {ws : List Int} (o : OrdZ zs ws) {a b : Str} (ha : a ∈ zs) (hb : b ∈ zs) (h : a ≠ b) : 1 ≤ dl zs ws a b ∧ dl zs ws a b ≤ 3 :=
  betw_in o (List.idxOf_lt_length_iff.mpr ha) (List.idxOf_lt_length_iff.mpr hb) fun e => h (by
    have h1 := List.getElem_idxOf (List.idxOf_lt_length_iff.mpr ha)
    have h2 := List.getElem_idxOf (List.idxOf_lt_length_iff.mpr hb)
    rw [← h1, ← h2]
    simp only [e])
theorem adj_ord {zs : List Str} {ws : List Int} (o : OrdZ zs ws) {l : List Str} (hl : l.length ≤ 12) (hn : l.Nodup) (hs : ∀ z ∈ l, z ∈ zs) : OrdZ l (adj (dl zs ws) l) := by
  refine ⟨hl, hn, fun z hz => o.let' z (hs z hz), adj_len _ _, fun w hw => ?_⟩
  obtain ⟨i, hi⟩ := List.mem_iff_getElem?.mp hw
  have h1 : i < (adj (dl zs ws) l).length := (List.getElem?_eq_some_iff.mp hi).1
  rw [adj_len] at h1
  rw [adj_get _ l i (by omega)] at hi
  cases hi
  refine dl_in o (hs _ (List.getElem_mem _)) (hs _ (List.getElem_mem _)) fun e => ?_
  have := List.pairwise_iff_getElem.mp hn i (i + 1) (by omega) (by omega) (by omega)
  exact this e
theorem adj_self {zs : List Str} {ws : List Int} (o : OrdZ zs ws) : adj (dl zs ws) zs = ws := by
  symm
  refine adj_ext o.len fun i h => ?_
  have hl := o.len
  have hi : i < ws.length := by omega
  unfold dl
  rw [o.nod.idxOf_getElem i (by omega), o.nod.idxOf_getElem (i + 1) (by omega), betw_m4 o, Nat.min_eq_left (by omega), Nat.max_eq_right (by omega), List.getElem?_eq_getElem hi]
  have e : i + 1 - i = 1 := by omega
  rw [e, List.drop_eq_getElem_cons hi, List.take_succ_cons, List.take_zero]
  have := o.str ws[i] (List.getElem_mem hi)
  show some ws[i] = some (min 4 ws[i])
  rw [show min 4 ws[i] = ws[i] by omega]
theorem nodup_filter {zs : List Str} (p : Str → Bool) (h : zs.Nodup) : (zs.filter p).Nodup := List.Pairwise.filter p h
abbrev outZ (zs : List Str) (p : Str → Bool) : List Str := zs.filter p
abbrev outW (zs : List Str) (ws : List Int) (p : Str → Bool) : List Int := adj (dl zs ws) (zs.filter p)
theorem out_ord {zs : List Str} {ws : List Int} (o : OrdZ zs ws) (p : Str → Bool) : OrdZ (outZ zs p) (outW zs ws p) :=
  adj_ord o (Nat.le_trans (List.length_filter_le ..) o.most) (nodup_filter p o.nod) fun z hz => (List.mem_filter.mp hz).1
theorem out_dl {zs : List Str} {ws : List Int} (o : OrdZ zs ws) (p : Str → Bool) {a b : Str} (ha : a ∈ outZ zs p) (hb : b ∈ outZ zs p) : dl (outZ zs p) (outW zs ws p) a b = dl zs ws a b :=
  (chain_up o (List.Pairwise.filter p (idx_pair o.nod))).dl ha hb
theorem rev_pair {zs : List Str} (h : zs.Nodup) : zs.reverse.Pairwise fun a b => zs.idxOf b < zs.idxOf a := List.pairwise_reverse.mpr (idx_pair h)
theorem nodup_rev {zs : List Str} (h : zs.Nodup) : zs.reverse.Nodup := List.pairwise_reverse.mpr (h.imp fun h => Ne.symm h)
theorem rev_w {zs : List Str} {ws : List Int} (o : OrdZ zs ws) : ws.reverse = adj (dl zs ws) zs.reverse := by
  have := adj_rev (dl_sym zs ws) zs
  rw [adj_self o] at this
  exact this
theorem rev_ord {zs : List Str} {ws : List Int} (o : OrdZ zs ws) : OrdZ zs.reverse ws.reverse := by
  rw [rev_w o]
  exact adj_ord o (by rw [List.length_reverse]; exact o.most) (nodup_rev o.nod) fun z hz => List.mem_reverse.mp hz
theorem rev_dl {zs : List Str} {ws : List Int} (o : OrdZ zs ws) {a b : Str} (ha : a ∈ zs) (hb : b ∈ zs) : dl zs.reverse ws.reverse a b = dl zs ws a b := by
  rw [rev_w o]
  exact (chain_down o (rev_pair o.nod)).dl (List.mem_reverse.mpr ha) (List.mem_reverse.mpr hb)
structure OutZ (out : List Str) : Prop where
  most : out.length ≤ 12
  nod : out.Nodup
  let' : ∀ z ∈ out, letterZ z = true
theorem OutZ.good {out : List Str} (o : OutZ out) : Dm.good (.tup (out.map D.str)) = true := by
  have := o.most
  refine good_tup.mpr ⟨by rw [List.length_map]; omega, goods_iff.mpr fun x hx => ?_⟩
  obtain ⟨z, hz, rfl⟩ := List.mem_map.mp hx
  exact g_str (by have := letter_len (o.let' z hz); omega)
theorem OutZ.is {out : List Str} (o : OutZ out) : isLettersD (.tup (out.map D.str)) = true := by
  have l1 := o.most
  have a1 : (out.map D.str).all isLetterD = true := List.all_eq_true.mpr fun x hx => by
    obtain ⟨z, hz, rfl⟩ := List.mem_map.mp hx
    exact o.let' z hz
  simp only [isLettersD, a1, strsD_map, decide_eq_true o.nod, Bool.and_true]
  rw [List.length_map, decide_eq_true l1]
theorem cut_tail (xs : List D) : Dm.cutD xs (some 1) none = xs.drop 1 := by
  unfold Dm.cutD
  have e : HT.sIx xs.length 0 (some 1) = min 1 xs.length := HT.sIx_nat xs.length 0 1
  rw [e, HT.sIx_none]
  cases xs with
  | nil => rfl
  | cons x xs =>
    have : min 1 (x :: xs).length = 1 := by rw [List.length_cons]; omega
    rw [this, List.take_of_length_le (by rw [List.length_drop]; omega)]
end Dm

namespace Dm
open PySem PySem.Spec PyProof.Rows L2
theorem s_is_integer {d : D} (h : plain d = true) : sm_is_integer [d] = .ret (.d (.bl (isIntD d))) := by
  cases d <;> first | (cases h; done) | simp only [e_is_integer, b_is_integer, isIntD, semK, seqD, isI, isB, isS, isTu, isLi, seqO, PD.ats, PD.at, PD.seq, behind, frzS, RD.fz, RD.fzs, RD.noL, RD.noLs, D.noL, D.noLs, RD.parts, putS, wipeS, boolT, intT, isTupP, isLstP, truD, isNon, iOp, iOpC, iMod, iDiv, iMul, iNeg, iAbs, iId, iCmp, bCmp, lenOp, tupOp, ownOp, slTup, revTup, ite_self, if_true, if_false, ite_true, ite_false, Bool.not_true, Bool.not_false, Bool.false_eq_true, List.getElem?_cons_zero, List.getElem?_cons_succ, List.set_cons_zero, List.set_cons_succ, List.map_cons, List.map_nil, decide_true, decide_false, Bool.true_and, Bool.and_true, Bool.false_and, Bool.and_false, Bool.true_or, Bool.or_true, Bool.false_or, Bool.or_false, Bool.and_self, Bool.or_self, reduceIte, reduceCtorEq]
theorem s_within {d : D} {l m : Int} (h : plain d = true) : sm_is_integer_within [d, .int l, .int m] = .ret (.d (.bl (inR l m d))) := by
  cases d <;> first | (cases h; done) | simp only [e_is_integer_within, b_is_integer_within, s_is_integer h, isIntD, inR, semK, seqD, isI, isB, isS, isTu, isLi, seqO, PD.ats, PD.at, PD.seq, behind, frzS, RD.fz, RD.fzs, RD.noL, RD.noLs, D.noL, D.noLs, RD.parts, putS, wipeS, boolT, intT, isTupP, isLstP, truD, isNon, iOp, iOpC, iMod, iDiv, iMul, iNeg, iAbs, iId, iCmp, bCmp, lenOp, tupOp, ownOp, slTup, revTup, ite_self, if_true, if_false, ite_true, ite_false, Bool.not_true, Bool.not_false, Bool.false_eq_true, List.getElem?_cons_zero, List.getElem?_cons_succ, List.set_cons_zero, List.set_cons_succ, List.map_cons, List.map_nil, decide_true, decide_false, Bool.true_and, Bool.and_true, Bool.false_and, Bool.and_false, Bool.true_or, Bool.or_true, Bool.false_or, Bool.or_false, Bool.and_self, Bool.or_self, reduceIte, reduceCtorEq]
  rename_i i
  by_cases h1 : l ≤ i <;> simp only [h1, semK, seqD, isI, isB, isS, isTu, isLi, seqO, PD.ats, PD.at, PD.seq, behind, frzS, RD.fz, RD.fzs, RD.noL, RD.noLs, D.noL, D.noLs, RD.parts, putS, wipeS, boolT, intT, isTupP, isLstP, truD, isNon, iOp, iOpC, iMod, iDiv, iMul, iNeg, iAbs, iId, iCmp, bCmp, lenOp, tupOp, ownOp, slTup, revTup, ite_self, if_true, if_false, ite_true, ite_false, Bool.not_true, Bool.not_false, Bool.false_eq_true, List.getElem?_cons_zero, List.getElem?_cons_succ, List.set_cons_zero, List.set_cons_succ, List.map_cons, List.map_nil, decide_true, decide_false, Bool.true_and, Bool.and_true, Bool.false_and, Bool.and_false, Bool.true_or, Bool.or_true, Bool.false_or, Bool.or_false, Bool.and_self, Bool.or_self, reduceIte, reduceCtorEq]
theorem s_is_strength {d : D} (h : plain d = true) : sm_is_strength [d] = .ret (.d (.bl (inR 1 3 d))) := by
  simp only [e_is_strength, b_is_strength, s_within h, semK, seqD, isI, isB, isS, isTu, isLi, seqO, PD.ats, PD.at, PD.seq, behind, frzS, RD.fz, RD.fzs, RD.noL, RD.noLs, D.noL, D.noLs, RD.parts, putS, wipeS, boolT, intT, isTupP, isLstP, truD, isNon, iOp, iOpC, iMod, iDiv, iMul, iNeg, iAbs, iId, iCmp, bCmp, lenOp, tupOp, ownOp, slTup, revTup, ite_self, if_true, if_false, ite_true, ite_false, Bool.not_true, Bool.not_false, Bool.false_eq_true, List.getElem?_cons_zero, List.getElem?_cons_succ, List.set_cons_zero, List.set_cons_succ, List.map_cons, List.map_nil, decide_true, decide_false, Bool.true_and, Bool.and_true, Bool.false_and, Bool.and_false, Bool.true_or, Bool.or_true, Bool.false_or, Bool.or_false, Bool.and_self, Bool.or_self, reduceIte, reduceCtorEq]
theorem letter_cps {z : Str} (h : 1 ≤ z.length) : ∃ n r, z.cps.toList = n :: r := by
  cases e : z.cps.toList with
  | nil =>
    have : z.length = z.cps.toList.length := by simp [Str.length]
    rw [e] at this
    simp at this
    omega
  | cons n r => exact ⟨n, r, rfl⟩
theorem sgn1 (n : Nat) (z : Str) : sgnT (.str ⟨#[n]⟩) (.str z) = .ret (decide (n ∈ z.cps.toList)) := rfl
theorem s_is_letter {d : D} (h : good d = true) : sm_is_letter [d] = .ret (.d (.bl (isLetterD d))) := by
  have hp := good_plain h
  cases d <;> first | (cases hp; done) | simp only [e_is_letter, b_is_letter, isLetterD, semK, seqD, isI, isB, isS, isTu, isLi, seqO, PD.ats, PD.at, PD.seq, behind, frzS, RD.fz, RD.fzs, RD.noL, RD.noLs, D.noL, D.noLs, RD.parts, putS, wipeS, boolT, intT, isTupP, isLstP, truD, isNon, iOp, iOpC, iMod, iDiv, iMul, iNeg, iAbs, iId, iCmp, bCmp, lenOp, tupOp, ownOp, slTup, revTup, ite_self, if_true, if_false, ite_true, ite_false, Bool.not_true, Bool.not_false, Bool.false_eq_true, List.getElem?_cons_zero, List.getElem?_cons_succ, List.set_cons_zero, List.set_cons_succ, List.map_cons, List.map_nil, decide_true, decide_false, Bool.true_and, Bool.and_true, Bool.false_and, Bool.and_false, Bool.true_or, Bool.or_true, Bool.false_or, Bool.or_false, Bool.and_self, Bool.or_self, reduceIte, reduceCtorEq]
  rename_i z
  have hz : z.length ≤ 100000 := by have := good_str.mp h; omega
  simp only [lenS, hz, semK, seqD, isI, isB, isS, isTu, isLi, seqO, PD.ats, PD.at, PD.seq, behind, frzS, RD.fz, RD.fzs, RD.noL, RD.noLs, D.noL, D.noLs, RD.parts, putS, wipeS, boolT, intT, isTupP, isLstP, truD, isNon, iOp, iOpC, iMod, iDiv, iMul, iNeg, iAbs, iId, iCmp, bCmp, lenOp, tupOp, ownOp, slTup, revTup, ite_self, if_true, if_false, ite_true, ite_false, Bool.not_true, Bool.not_false, Bool.false_eq_true, List.getElem?_cons_zero, List.getElem?_cons_succ, List.set_cons_zero, List.set_cons_succ, List.map_cons, List.map_nil, decide_true, decide_false, Bool.true_and, Bool.and_true, Bool.false_and, Bool.and_false, Bool.true_or, Bool.or_true, Bool.false_or, Bool.or_false, Bool.and_self, Bool.or_self, reduceIte, reduceCtorEq]
  by_cases h1 : 1 ≤ (z.length : Int)
  · by_cases h2 : (z.length : Int) ≤ 12
    · obtain ⟨n, r, e⟩ := letter_cps (z := z) (by omega)
      have e0 : L2.atI z.cps.toList 0 = some n := by rw [e]; simp [L2.atI, L2.ixN]
      simp only [h1, h2, ixS, hz, e0, sgn1, semK, seqD, isI, isB, isS, isTu, isLi, seqO, PD.ats, PD.at, PD.seq, behind, frzS, RD.fz, RD.fzs, RD.noL, RD.noLs, D.noL, D.noLs, RD.parts, putS, wipeS, boolT, intT, isTupP, isLstP, truD, isNon, iOp, iOpC, iMod, iDiv, iMul, iNeg, iAbs, iId, iCmp, bCmp, lenOp, tupOp, ownOp, slTup, revTup, ite_self, if_true, if_false, ite_true, ite_false, Bool.not_true, Bool.not_false, Bool.false_eq_true, List.getElem?_cons_zero, List.getElem?_cons_succ, List.set_cons_zero, List.set_cons_succ, List.map_cons, List.map_nil, decide_true, decide_false, Bool.true_and, Bool.and_true, Bool.false_and, Bool.and_false, Bool.true_or, Bool.or_true, Bool.false_or, Bool.or_false, Bool.and_self, Bool.or_self, reduceIte, reduceCtorEq]
      have ha : allT [1] (nameW 1) yesC (cmpQ (cmp2 sgnT (vQ 1) (cQ (.str CHARs)))) (signsD z) [Slot.val (.str z), Slot.none] = .ret (.bl ((signsD z).all signIn), [Slot.val (.str z), Slot.none]) :=
        allT_eq signIn fun x hx => by
          obtain ⟨i, hi⟩ := List.getElem?_of_mem hx
          obtain ⟨m, rfl⟩ := signsD_get hi
          exact ⟨_, _, rfl, rfl, rfl, rfl⟩
      have hL : letterZ z = (decide (n ∈ FIRSTs.cps.toList) && (signsD z).all signIn) := by
        rw [signs_all]
        simp only [letterZ, e]
        have q1 : 1 ≤ z.length := by omega
        have q2 : z.length ≤ 12 := by omega
        simp [q1, q2]
      rw [hL]
      simp only [FIRSTs]
      simp only [CHARs] at ha
      by_cases hm : n ∈ (Str.ofString "abcdefghijklmnopqrstuvwxyz").cps.toList
      · simp only [hm, ha, semK, seqD, isI, isB, isS, isTu, isLi, seqO, PD.ats, PD.at, PD.seq, behind, frzS, RD.fz, RD.fzs, RD.noL, RD.noLs, D.noL, D.noLs, RD.parts, putS, wipeS, boolT, intT, isTupP, isLstP, truD, isNon, iOp, iOpC, iMod, iDiv, iMul, iNeg, iAbs, iId, iCmp, bCmp, lenOp, tupOp, ownOp, slTup, revTup, ite_self, if_true, if_false, ite_true, ite_false, Bool.not_true, Bool.not_false, Bool.false_eq_true, List.getElem?_cons_zero, List.getElem?_cons_succ, List.set_cons_zero, List.set_cons_succ, List.map_cons, List.map_nil, decide_true, decide_false, Bool.true_and, Bool.and_true, Bool.false_and, Bool.and_false, Bool.true_or, Bool.or_true, Bool.false_or, Bool.or_false, Bool.and_self, Bool.or_self, reduceIte, reduceCtorEq]
      · simp only [hm, semK, seqD, isI, isB, isS, isTu, isLi, seqO, PD.ats, PD.at, PD.seq, behind, frzS, RD.fz, RD.fzs, RD.noL, RD.noLs, D.noL, D.noLs, RD.parts, putS, wipeS, boolT, intT, isTupP, isLstP, truD, isNon, iOp, iOpC, iMod, iDiv, iMul, iNeg, iAbs, iId, iCmp, bCmp, lenOp, tupOp, ownOp, slTup, revTup, ite_self, if_true, if_false, ite_true, ite_false, Bool.not_true, Bool.not_false, Bool.false_eq_true, List.getElem?_cons_zero, List.getElem?_cons_succ, List.set_cons_zero, List.set_cons_succ, List.map_cons, List.map_nil, decide_true, decide_false, Bool.true_and, Bool.and_true, Bool.false_and, Bool.and_false, Bool.true_or, Bool.or_true, Bool.false_or, Bool.or_false, Bool.and_self, Bool.or_self, reduceIte, reduceCtorEq]
    · have : letterZ z = false := by simp [letterZ]; omega
      simp only [h1, h2, this, semK, seqD, isI, isB, isS, isTu, isLi, seqO, PD.ats, PD.at, PD.seq, behind, frzS, RD.fz, RD.fzs, RD.noL, RD.noLs, D.noL, D.noLs, RD.parts, putS, wipeS, boolT, intT, isTupP, isLstP, truD, isNon, iOp, iOpC, iMod, iDiv, iMul, iNeg, iAbs, iId, iCmp, bCmp, lenOp, tupOp, ownOp, slTup, revTup, ite_self, if_true, if_false, ite_true, ite_false, Bool.not_true, Bool.not_false, Bool.false_eq_true, List.getElem?_cons_zero, List.getElem?_cons_succ, List.set_cons_zero, List.set_cons_succ, List.map_cons, List.map_nil, decide_true, decide_false, Bool.true_and, Bool.and_true, Bool.false_and, Bool.and_false, Bool.true_or, Bool.or_true, Bool.false_or, Bool.or_false, Bool.and_self, Bool.or_self, reduceIte, reduceCtorEq]
  · have : letterZ z = false := by simp [letterZ]; omega
    simp only [h1, this, semK, seqD, isI, isB, isS, isTu, isLi, seqO, PD.ats, PD.at, PD.seq, behind, frzS, RD.fz, RD.fzs, RD.noL, RD.noLs, D.noL, D.noLs, RD.parts, putS, wipeS, boolT, intT, isTupP, isLstP, truD, isNon, iOp, iOpC, iMod, iDiv, iMul, iNeg, iAbs, iId, iCmp, bCmp, lenOp, tupOp, ownOp, slTup, revTup, ite_self, if_true, if_false, ite_true, ite_false, Bool.not_true, Bool.not_false, Bool.false_eq_true, List.getElem?_cons_zero, List.getElem?_cons_succ, List.set_cons_zero, List.set_cons_succ, List.map_cons, List.map_nil, decide_true, decide_false, Bool.true_and, Bool.and_true, Bool.false_and, Bool.and_false, Bool.true_or, Bool.or_true, Bool.false_or, Bool.or_false, Bool.and_self, Bool.or_self, reduceIte, reduceCtorEq]
theorem eqT_int (i j : Int) : eqT (.int i) (.int j) = .ret (decide (i = j)) := by
  unfold eqT
  simp [okN, eqD, pyD, PyData.eqv]
  rfl
theorem neT_int (i j : Int) : neT (.int i) (.int j) = .ret (!decide (i = j)) := by
  unfold neT
  simp [okN, eqD, pyD, PyData.eqv]
  rfl
end Dm

namespace Dm
open PySem PySem.Spec PyProof.Rows L2
theorem eqD_str {a b : Str} : eqD (.str a) (.str b) = decide (a = b) := by
  by_cases h : a = b
  · subst h; simp [eqD_self]
  · rw [eqD_ne (n := 0) (m := 0) rfl rfl fun e => h (by cases e; rfl)]; simp [h]
theorem flat_strs (zs : List Str) : (zs.map D.str).all flatD = true := by simp [flatD]
theorem inOp_strs {a : Str} {zs : List Str} : inOp (.str a) (zs.map D.str) = .ret (decide (a ∈ zs)) := by
  unfold inOp
  rw [flat_strs]
  simp only [flatD, Bool.and_self, if_true, List.any_map]
  congr 1
  rw [Bool.eq_iff_iff]
  simp only [List.any_eq_true, decide_eq_true_eq, Function.comp_apply, eqD_str]
  constructor
  · rintro ⟨x, h, e⟩; exact e ▸ h
  · intro h; exact ⟨a, h, rfl⟩
theorem ix0 {a : D} {r : List D} : ixOp (a :: r) (.int 0) = .ret a := by simp [ixOp, L2.atI, L2.ixN]
theorem ix1 {a b : D} {r : List D} : ixOp (a :: b :: r) (.int 1) = .ret b := by
  have : (1 : Int) < (r.length : Int) + 1 + 1 := by omega
  simp [ixOp, L2.atI, L2.ixN, this]
end Dm

namespace Dm
open PySem PySem.Spec PyProof.Rows L2
theorem ixN {xs : List D} {d : Nat} (h : d < xs.length) : ixOp xs (.int (d : Nat)) = .ret xs[d] := by
  simp only [ixOp, atN h]
def Step (vs : List Nat) (tg : SGW) (elt : SQ) (S : List D → SD) : Prop := ∀ (x : D) (rest : List D) (K : D × SD → Prop), 1 ≤ rest.length → rest.length ≤ 1000 → (∀ (d : Nat) (h : d < rest.length), K (rest[d], S (rest.eraseIdx d))) → WB ((tg x (S rest)).bnd fun S1 => (elt S1).bnd fun q => .ret (q.1, wipeS q.2 vs)) K
theorem comp_step {vs : List Nat} {tg : SGW} {elt : SQ} {x : D} {xs acc : List D} {S : SD} {K : List D × SD → Prop} (hl : acc.length ≤ 100000) (h : WB ((tg x S).bnd fun S1 => (elt S1).bnd fun q => .ret (q.1, wipeS q.2 vs)) fun p => WB (compT vs tg yesC elt xs (acc ++ [p.1]) p.2) K) : WB ((tg x S).bind fun S1 => (yesC S1).bind fun p => if p.1 then (elt p.2).bind fun q => (lenT acc).bind fun _ => compT vs tg yesC elt xs (acc ++ [q.1]) (wipeS q.2 vs) else compT vs tg yesC elt xs acc (wipeS p.2 vs)) K := by
  simp only [WB_bnd, WB_ret] at h
  refine WB_iff.mpr (W_bind.mpr (W_mono (WB_iff.mp h) fun S1 h2 => ?_))
  simp only [WB_bnd, WB_ret] at h2
  show W ((elt S1).bind fun q => (lenT acc).bind fun _ => compT vs tg yesC elt xs (acc ++ [q.1]) (wipeS q.2 vs)) K
  refine W_bind.mpr (W_mono (WB_iff.mp h2) fun q h3 => ?_)
  rw [lenT_ok hl]
  simp only [WB_ret] at h3
  exact WB_iff.mp h3
def lettersIn (base : List Str) : Prop := base.Nodup ∧ ∀ z ∈ base, letterZ z = true
theorem rng_nat {n : Nat} (h : n ≤ 1000) : (-1000000 ≤ (n : Int) ∧ (n : Int) ≤ 1000000) = True := by simp; omega
def StepW (vs : List Nat) (tg : SGW) (elt : SQ) (S : SD) (P : D → Prop) : Prop := ∀ (x : D) (K : D × SD → Prop), (∀ y, P y → K (y, S)) → WB ((tg x S).bnd fun S1 => (elt S1).bnd fun q => .ret (q.1, wipeS q.2 vs)) K
theorem w_drawn {vs : List Nat} {tg : SGW} {elt : SQ} {S : SD} {P : D → Prop} (st : StepW vs tg elt S P) {K : List D × SD → Prop} : ∀ (xs acc : List D), acc.length + xs.length ≤ 1000 → (∀ ys : List D, ys.length = xs.length → (∀ y ∈ ys, P y) → K (acc ++ ys, S)) → WB (compT vs tg yesC elt xs acc S) K
  | [], acc, _, k => by
    have := k [] rfl (by simp)
    rw [List.append_nil] at this
    exact WB_iff.mpr this
  | x :: xs, acc, hl, k => by
    rw [List.length_cons] at hl
    have := st x (fun p => WB (compT vs tg yesC elt xs (acc ++ [p.1]) p.2) K) fun y hy => by
      refine w_drawn st xs _ (by rw [List.length_append, List.length_singleton]; omega) fun ys h1 h2 => ?_
      have := k (y :: ys) (by rw [List.length_cons, List.length_cons, h1]) fun z hz => by
        rcases List.mem_cons.mp hz with rfl | hz
        · exact hy
        · exact h2 z hz
      rwa [List.append_assoc]
    rw [compT]
    exact comp_step (by omega) this
end Dm

namespace Dm
open PySem PySem.Spec PyProof.Rows L2
theorem rngD0 (n : Nat) : rngD 0 n = (List.range n).map fun i => D.int ((i : Nat) : Int) := by
  unfold rngD
  refine List.map_congr_left fun i _ => ?_
  simp
def kept (zs : List Str) (p : Str → Bool) : List Nat := (List.range zs.length).filter fun i => (zs[i]?).any p
theorem idx_of {zs : List Str} (hn : zs.Nodup) {i : Nat} {z : Str} (h : zs[i]? = some z) : zs.idxOf z = i := by
  obtain ⟨h1, rfl⟩ := List.getElem?_eq_some_iff.mp h
  exact hn.idxOf_getElem i h1
end Dm

namespace Dm
open PySem PySem.Spec PyProof.Rows L2
theorem bools_true : ∀ l : List D, bools (l.map fun _ => D.bl true) = some (l.map fun _ => true)
  | [] => rfl
  | x :: l => by rw [List.map_cons, bools, bools_true l]; rfl
theorem all_true : ∀ l : List D, (l.map fun _ => true).all id = true
  | [] => rfl
  | x :: l => by rw [List.map_cons, List.all_cons, all_true l]; rfl
theorem eqT_self {d : D} (h : okN 8 d = true) : eqT d d = .ret true := by
  unfold eqT
  rw [h, eqD_self]; rfl
theorem neT_self {d : D} (h : okN 8 d = true) : neT d d = .ret false := by
  unfold neT
  rw [h, eqD_self]; rfl
theorem okN_str8 {n : Nat} {z : Str} (h : okN n (.str z) = true) : okN 8 (.str z) = true := by cases n <;> exact h
section
variable (rec : List D → Dm.T RD)
theorem eqs_non : (b_l_equal rec [Slot.val .non, Slot.val .non, Slot.none]).bnd endT = .ret (.d (.bl true)) := by simp only [b_l_equal, semK, seqD, isI, isB, isS, isTu, isLi, seqO, PD.ats, PD.at, PD.seq, behind, frzS, RD.fz, RD.fzs, RD.noL, RD.noLs, D.noL, D.noLs, RD.parts, putS, wipeS, boolT, intT, isTupP, isLstP, truD, isNon, iOp, iOpC, iMod, iDiv, iMul, iNeg, iAbs, iId, iCmp, bCmp, lenOp, tupOp, ownOp, slTup, revTup, ite_self, if_true, if_false, ite_true, ite_false, Bool.not_true, Bool.not_false, Bool.false_eq_true, List.getElem?_cons_zero, List.getElem?_cons_succ, List.set_cons_zero, List.set_cons_succ, List.map_cons, List.map_nil, decide_true, decide_false, Bool.true_and, Bool.and_true, Bool.false_and, Bool.and_false, Bool.true_or, Bool.or_true, Bool.false_or, Bool.or_false, Bool.and_self, Bool.or_self, reduceIte, reduceCtorEq]
theorem eqs_bl (b : Bool) : (b_l_equal rec [Slot.val (.bl b), Slot.val (.bl b), Slot.none]).bnd endT = .ret (.d (.bl true)) := by
  have := eqT_self (d := .bl b) rfl
  simp only [b_l_equal, this, semK, seqD, isI, isB, isS, isTu, isLi, seqO, PD.ats, PD.at, PD.seq, behind, frzS, RD.fz, RD.fzs, RD.noL, RD.noLs, D.noL, D.noLs, RD.parts, putS, wipeS, boolT, intT, isTupP, isLstP, truD, isNon, iOp, iOpC, iMod, iDiv, iMul, iNeg, iAbs, iId, iCmp, bCmp, lenOp, tupOp, ownOp, slTup, revTup, ite_self, if_true, if_false, ite_true, ite_false, Bool.not_true, Bool.not_false, Bool.false_eq_true, List.getElem?_cons_zero, List.getElem?_cons_succ, List.set_cons_zero, List.set_cons_succ, List.map_cons, List.map_nil, decide_true, decide_false, Bool.true_and, Bool.and_true, Bool.false_and, Bool.and_false, Bool.true_or, Bool.or_true, Bool.false_or, Bool.or_false, Bool.and_self, Bool.or_self, reduceIte, reduceCtorEq]
theorem eqs_int (i : Int) : (b_l_equal rec [Slot.val (.int i), Slot.val (.int i), Slot.none]).bnd endT = .ret (.d (.bl true)) := by
  have := eqT_self (d := .int i) rfl
  simp only [b_l_equal, s_is_integer (d := .int i) rfl, isIntD, this, semK, seqD, isI, isB, isS, isTu, isLi, seqO, PD.ats, PD.at, PD.seq, behind, frzS, RD.fz, RD.fzs, RD.noL, RD.noLs, D.noL, D.noLs, RD.parts, putS, wipeS, boolT, intT, isTupP, isLstP, truD, isNon, iOp, iOpC, iMod, iDiv, iMul, iNeg, iAbs, iId, iCmp, bCmp, lenOp, tupOp, ownOp, slTup, revTup, ite_self, if_true, if_false, ite_true, ite_false, Bool.not_true, Bool.not_false, Bool.false_eq_true, List.getElem?_cons_zero, List.getElem?_cons_succ, List.set_cons_zero, List.set_cons_succ, List.map_cons, List.map_nil, decide_true, decide_false, Bool.true_and, Bool.and_true, Bool.false_and, Bool.and_false, Bool.true_or, Bool.or_true, Bool.false_or, Bool.or_false, Bool.and_self, Bool.or_self, reduceIte, reduceCtorEq]
theorem eqs_str (z : Str) (h : okN 8 (.str z) = true) : (b_l_equal rec [Slot.val (.str z), Slot.val (.str z), Slot.none]).bnd endT = .ret (.d (.bl true)) := by
  have := eqT_self h
  simp only [b_l_equal, this, semK, seqD, isI, isB, isS, isTu, isLi, seqO, PD.ats, PD.at, PD.seq, behind, frzS, RD.fz, RD.fzs, RD.noL, RD.noLs, D.noL, D.noLs, RD.parts, putS, wipeS, boolT, intT, isTupP, isLstP, truD, isNon, iOp, iOpC, iMod, iDiv, iMul, iNeg, iAbs, iId, iCmp, bCmp, lenOp, tupOp, ownOp, slTup, revTup, ite_self, if_true, if_false, ite_true, ite_false, Bool.not_true, Bool.not_false, Bool.false_eq_true, List.getElem?_cons_zero, List.getElem?_cons_succ, List.set_cons_zero, List.set_cons_succ, List.map_cons, List.map_nil, decide_true, decide_false, Bool.true_and, Bool.and_true, Bool.false_and, Bool.and_false, Bool.true_or, Bool.or_true, Bool.false_or, Bool.or_false, Bool.and_self, Bool.or_self, reduceIte, reduceCtorEq]
variable {rec}
theorem eqs_tup {xs : List D} (hl : xs.length ≤ 1000) (h : ∀ x ∈ xs, rec [x, x] = .ret (.d (.bl true))) : (b_l_equal rec [Slot.val (.tup xs), Slot.val (.tup xs), Slot.none]).bnd endT = .ret (.d (.bl true)) := by
  have c1 : compT [2] (nameW 2) yesC (qr (callR rec [pq (bin2P ixOp (vP 0) (vQ 2)), pq (bin2P ixOp (vP 1) (vQ 2))])) (rngD 0 xs.length) [] [Slot.val (.tup xs), Slot.val (.tup xs), Slot.none] = .ret ((rngD 0 xs.length).map fun _ => .bl true, [Slot.val (.tup xs), Slot.val (.tup xs), Slot.none]) := by
    rw [compT_map (fun _ => .bl true) (by simp [rngD_len]; omega) fun x hx => by
      rw [rngD0] at hx
      obtain ⟨i, hi, rfl⟩ := List.mem_map.mp hx
      have hi := List.mem_range.mp hi
      refine ⟨[Slot.val (.tup xs), Slot.val (.tup xs), Slot.val (.int (i : Nat))], [Slot.val (.tup xs), Slot.val (.tup xs), Slot.val (.int (i : Nat))], rfl, ?_, rfl, rfl⟩
      have := h xs[i] (List.getElem_mem _)
      simp only [ixN hi, this, semK, seqD, isI, isB, isS, isTu, isLi, seqO, PD.ats, PD.at, PD.seq, behind, frzS, RD.fz, RD.fzs, RD.noL, RD.noLs, D.noL, D.noLs, RD.parts, putS, wipeS, boolT, intT, isTupP, isLstP, truD, isNon, iOp, iOpC, iMod, iDiv, iMul, iNeg, iAbs, iId, iCmp, bCmp, lenOp, tupOp, ownOp, slTup, revTup, ite_self, if_true, if_false, ite_true, ite_false, Bool.not_true, Bool.not_false, Bool.false_eq_true, List.getElem?_cons_zero, List.getElem?_cons_succ, List.set_cons_zero, List.set_cons_succ, List.map_cons, List.map_nil, decide_true, decide_false, Bool.true_and, Bool.and_true, Bool.false_and, Bool.and_false, Bool.true_or, Bool.or_true, Bool.false_or, Bool.or_false, Bool.and_self, Bool.or_self, reduceIte, reduceCtorEq]]
    rw [List.nil_append]
  have hr : (-1000000 ≤ (xs.length : Int) ∧ (xs.length : Int) ≤ 1000000) = True := eq_true ⟨by omega, by omega⟩
  simp only [b_l_equal, neT_int, hr, Int.toNat_natCast, c1, bools_true, all_true, semK, seqD, isI, isB, isS, isTu, isLi, seqO, PD.ats, PD.at, PD.seq, behind, frzS, RD.fz, RD.fzs, RD.noL, RD.noLs, D.noL, D.noLs, RD.parts, putS, wipeS, boolT, intT, isTupP, isLstP, truD, isNon, iOp, iOpC, iMod, iDiv, iMul, iNeg, iAbs, iId, iCmp, bCmp, lenOp, tupOp, ownOp, slTup, revTup, ite_self, if_true, if_false, ite_true, ite_false, Bool.not_true, Bool.not_false, Bool.false_eq_true, List.getElem?_cons_zero, List.getElem?_cons_succ, List.set_cons_zero, List.set_cons_succ, List.map_cons, List.map_nil, decide_true, decide_false, Bool.true_and, Bool.and_true, Bool.false_and, Bool.and_false, Bool.true_or, Bool.or_true, Bool.false_or, Bool.or_false, Bool.and_self, Bool.or_self, reduceIte, reduceCtorEq]
theorem eqs_lst {xs : List D} (hl : xs.length ≤ 1000) (h : ∀ x ∈ xs, rec [x, x] = .ret (.d (.bl true))) : (b_l_equal rec [Slot.val (.lst xs), Slot.val (.lst xs), Slot.none]).bnd endT = .ret (.d (.bl true)) := by
  have c1 : compT [2] (nameW 2) yesC (qr (callR rec [pq (bin2P ixOp (vP 0) (vQ 2)), pq (bin2P ixOp (vP 1) (vQ 2))])) (rngD 0 xs.length) [] [Slot.val (.lst xs), Slot.val (.lst xs), Slot.none] = .ret ((rngD 0 xs.length).map fun _ => .bl true, [Slot.val (.lst xs), Slot.val (.lst xs), Slot.none]) := by
    rw [compT_map (fun _ => .bl true) (by simp [rngD_len]; omega) fun x hx => by
      rw [rngD0] at hx
      obtain ⟨i, hi, rfl⟩ := List.mem_map.mp hx
      have hi := List.mem_range.mp hi
      refine ⟨[Slot.val (.lst xs), Slot.val (.lst xs), Slot.val (.int (i : Nat))], [Slot.val (.lst xs), Slot.val (.lst xs), Slot.val (.int (i : Nat))], rfl, ?_, rfl, rfl⟩
      have := h xs[i] (List.getElem_mem _)
      simp only [ixN hi, this, semK, seqD, isI, isB, isS, isTu, isLi, seqO, PD.ats, PD.at, PD.seq, behind, frzS, RD.fz, RD.fzs, RD.noL, RD.noLs, D.noL, D.noLs, RD.parts, putS, wipeS, boolT, intT, isTupP, isLstP, truD, isNon, iOp, iOpC, iMod, iDiv, iMul, iNeg, iAbs, iId, iCmp, bCmp, lenOp, tupOp, ownOp, slTup, revTup, ite_self, if_true, if_false, ite_true, ite_false, Bool.not_true, Bool.not_false, Bool.false_eq_true, List.getElem?_cons_zero, List.getElem?_cons_succ, List.set_cons_zero, List.set_cons_succ, List.map_cons, List.map_nil, decide_true, decide_false, Bool.true_and, Bool.and_true, Bool.false_and, Bool.and_false, Bool.true_or, Bool.or_true, Bool.false_or, Bool.or_false, Bool.and_self, Bool.or_self, reduceIte, reduceCtorEq]]
    rw [List.nil_append]
  have hr : (-1000000 ≤ (xs.length : Int) ∧ (xs.length : Int) ≤ 1000000) = True := eq_true ⟨by omega, by omega⟩
  simp only [b_l_equal, neT_int, hr, Int.toNat_natCast, c1, bools_true, all_true, semK, seqD, isI, isB, isS, isTu, isLi, seqO, PD.ats, PD.at, PD.seq, behind, frzS, RD.fz, RD.fzs, RD.noL, RD.noLs, D.noL, D.noLs, RD.parts, putS, wipeS, boolT, intT, isTupP, isLstP, truD, isNon, iOp, iOpC, iMod, iDiv, iMul, iNeg, iAbs, iId, iCmp, bCmp, lenOp, tupOp, ownOp, slTup, revTup, ite_self, if_true, if_false, ite_true, ite_false, Bool.not_true, Bool.not_false, Bool.false_eq_true, List.getElem?_cons_zero, List.getElem?_cons_succ, List.set_cons_zero, List.set_cons_succ, List.map_cons, List.map_nil, decide_true, decide_false, Bool.true_and, Bool.and_true, Bool.false_and, Bool.and_false, Bool.true_or, Bool.or_true, Bool.false_or, Bool.or_false, Bool.and_self, Bool.or_self, reduceIte, reduceCtorEq]
end
theorem s_equal_self (n : Nat) : ∀ d : D, okN n d = true → good d = true → sm_l_equal (n + 1) [d, d] = .ret (.d (.bl true)) := by
  induction n with
  | zero =>
    intro d h g
    rw [e_l_equal]
    cases d with
    | non => exact eqs_non _
    | bl b => exact eqs_bl _ b
    | int i => exact eqs_int _ i
    | str z => exact eqs_str _ z (okN_str8 h)
    | tup xs => cases h
    | lst xs => cases h
    | strm => cases h
    | wt xs => cases h
    | dct ks xs => cases h
  | succ n ih =>
    intro d h g
    rw [e_l_equal]
    cases d with
    | non => exact eqs_non _
    | bl b => exact eqs_bl _ b
    | int i => exact eqs_int _ i
    | str z => exact eqs_str _ z (okN_str8 h)
    | tup xs =>
      have ho : ∀ x ∈ xs, okN n x = true := by simpa [okN] using h
      exact eqs_tup (good_tup.mp g).1 fun x hx => ih x (ho x hx) (goods_iff.mp (good_tup.mp g).2 x hx)
    | lst xs =>
      have ho : ∀ x ∈ xs, okN n x = true := by simpa [okN] using h
      exact eqs_lst (good_lst.mp g).1 fun x hx => ih x (ho x hx) (goods_iff.mp (good_lst.mp g).2 x hx)
    | strm => cases h
    | wt xs => cases h
    | dct ks xs => cases h
theorem eq8 {d : D} (h : okN 7 d = true) (g : good d = true) : sm_l_equal 8 [d, d] = .ret (.d (.bl true)) := s_equal_self 7 d h g
theorem chars_small : ∀ n ∈ CHARs.cps.toList, (n : Nat) < 0x110000 := by decide
theorem letter_strOk {z : Str} (h : letterZ z = true) : PyData.strOk z = true := by
  simp only [letterZ, Bool.and_eq_true] at h
  unfold PyData.strOk
  rw [← Array.all_toList, List.all_eq_true]
  intro n hn
  have := List.all_eq_true.mp h.2 n hn
  simp only [decide_eq_true_eq] at this ⊢
  exact chars_small n this
theorem okN_strs {n : Nat} {zs : List Str} (h : ∀ z ∈ zs, letterZ z = true) : (zs.map D.str).all (okN n) = true := by
  rw [List.all_eq_true]
  intro x hx
  obtain ⟨z, hz, rfl⟩ := List.mem_map.mp hx
  have := letter_strOk (h z hz)
  cases n <;> exact this
theorem okN_ints {n : Nat} (ws : List Int) : (ws.map D.int).all (okN n) = true := by
  rw [List.all_eq_true]
  intro x hx
  obtain ⟨z, hz, rfl⟩ := List.mem_map.mp hx
  cases n <;> rfl
theorem OrdZ.ok {zs : List Str} {ws : List Int} (o : OrdZ zs ws) (n : Nat) : okN (n + 2) (ordT zs ws) = true := by
  show ([_, _] : List D).all (okN (n + 1)) = true
  simp only [List.all_cons, List.all_nil, okN, okN_strs o.let', okN_ints, Bool.and_self]
def outP (out : List Str) : Str → Bool := fun a => !decide (a ∈ out)
theorem OutZ.one {out : List Str} (q : OutZ out) {x : Str} (h : x ∈ out) : OutZ [x] := ⟨by simp, by simp, fun z hz => by
  rw [List.mem_singleton] at hz
  exact hz ▸ q.let' x h⟩
end Dm

namespace Dm
open PySem PySem.Spec PyProof.Rows L2
theorem loop_step {tg : SG} {body : SS} {x : D} {xs : List D} {S0 : SD} {K : Out → Prop} (h : WB ((tg (.d x) S0).bnd fun S1 => body S1) fun o => ∃ S1, o = .nx S1 ∧ WB (loopT tg body xs S1) K) : WB (loopT tg body (x :: xs) S0) K := by
  rw [WB_bnd] at h
  refine WB_iff.mpr ?_
  rw [loopT]
  refine W_bind.mpr (W_mono (WB_iff.mp h) fun S1 h2 => ?_)
  refine W_bind.mpr (W_mono (WB_iff.mp h2) fun o h3 => ?_)
  obtain ⟨S2, rfl, h4⟩ := h3
  exact WB_iff.mp h4
def namesD : List Str := ["ae", "a1", "cat", "d2", "ee", "f", "gull", "h9", "oe", "abcdefghijkl", "q", "z"]
abbrev ruleT (side : Str) (a : Str) (s : Int) (l : Str) : D := .tup [.str side, .str a, .int s, .str l]
structure RuleZ (side a : Str) (s : Int) (l : Str) : Prop where
  side' : side = "after" ∨ side = "before"
  anc : letterZ a = true
  let' : letterZ l = true
  ne : a ≠ l
  lo : 1 ≤ s
  hi : s ≤ 3
theorem ab_ne : ("before" : Str) ≠ "after" := by decide
theorem eqT_str {a b : Str} (ha : PyData.strOk a = true) (hb : PyData.strOk b = true) : eqT (.str a) (.str b) = .ret (decide (a = b)) := by
  unfold eqT
  have h1 : okN 8 (.str a) = true := ha
  have h2 : okN 8 (.str b) = true := hb
  rw [h1, h2, eqD_str]
  rfl
theorem neT_str {a b : Str} (ha : PyData.strOk a = true) (hb : PyData.strOk b = true) : neT (.str a) (.str b) = .ret (!decide (a = b)) := by
  unfold neT
  have h1 : okN 8 (.str a) = true := ha
  have h2 : okN 8 (.str b) = true := hb
  rw [h1, h2, eqD_str]
  rfl
theorem letter_good {z : Str} (h : letterZ z = true) : good (.str z) = true := g_str (by have := letter_len h; omega)
theorem after_l : letterZ "after" = true := by decide
theorem before_l : letterZ "before" = true := by decide
theorem side_ok : PyData.strOk "after" = true ∧ PyData.strOk "before" = true := ⟨letter_strOk after_l, letter_strOk before_l⟩
theorem s_is_rule {side a l : Str} {s : Int} (r : RuleZ side a s l) : sm_is_rule [ruleT side a s l] = .ret (.d (.bl true)) := by
  have h4 : ([.str side, .str a, .int s, .str l] : List D).length = 4 := rfl
  have h5 : ((4 : Nat) : Int) = 4 := rfl
  have hi : inOp (.str side) [.str "after", .str "before"] = .ret true := by
    have : inOp (.str side) (([("after" : Str), "before"]).map D.str) = _ := inOp_strs
    rw [show decide (side ∈ ([("after" : Str), "before"] : List Str)) = true from decide_eq_true (by
      rcases r.side' with h | h <;> simp [h])] at this
    exact this
  have he := eqT_str (letter_strOk r.anc) (letter_strOk r.let')
  have hn : (a = l) = False := eq_false r.ne
  have hs : inR 1 3 (.int s) = true := by simp [inR, r.lo, r.hi]
  simp only [e_is_rule, b_is_rule, h4, h5, neT_int, hi, s_is_letter (letter_good r.anc), s_is_letter (letter_good r.let'), isLetterD, r.anc, r.let', he, hn, s_is_strength (d := .int s) rfl, hs, semK, seqD, isI, isB, isS, isTu, isLi, seqO, PD.ats, PD.at, PD.seq, behind, frzS, RD.fz, RD.fzs, RD.noL, RD.noLs, D.noL, D.noLs, RD.parts, putS, wipeS, boolT, intT, isTupP, isLstP, truD, isNon, iOp, iOpC, iMod, iDiv, iMul, iNeg, iAbs, iId, iCmp, bCmp, lenOp, tupOp, ownOp, slTup, revTup, ite_self, if_true, if_false, ite_true, ite_false, Bool.not_true, Bool.not_false, Bool.false_eq_true, List.getElem?_cons_zero, List.getElem?_cons_succ, List.set_cons_zero, List.set_cons_succ, List.map_cons, List.map_nil, decide_true, decide_false, Bool.true_and, Bool.and_true, Bool.false_and, Bool.and_false, Bool.true_or, Bool.or_true, Bool.false_or, Bool.or_false, Bool.and_self, Bool.or_self, reduceIte, reduceCtorEq]
theorem ix2 {a b c : D} {r : List D} : ixOp (a :: b :: c :: r) (.int 2) = .ret c := by
  have : (2 : Int) < (r.length : Int) + 1 + 1 + 1 := by omega
  simp [ixOp, L2.atI, L2.ixN, this]
theorem ix3 {a b c d : D} {r : List D} : ixOp (a :: b :: c :: d :: r) (.int 3) = .ret d := by
  have : (3 : Int) < (r.length : Int) + 1 + 1 + 1 + 1 := by omega
  simp [ixOp, L2.atI, L2.ixN, this]
def whyD (zs : List Str) (a l : Str) : D := if a ∈ zs then (if zs.length = 12 ∧ l ∉ zs then .str "full" else .non) else .str "anchor"
def canD (zs : List Str) (a l : Str) : Bool := decide (a ∈ zs) && (decide (zs.length < 12) || decide (l ∈ zs))
end Dm

namespace Dm
open PySem PySem.Spec PyProof.Rows L2
theorem xo_BadValue {n : Str} (hn : n.length ≤ 1000) : xOk "BadValue" [.str n] = true := by
  unfold xOk xFields xArg
  simp [hn]
end Dm

namespace Dm
open PySem PySem.Spec PyProof.Rows L2
section
variable {d r : D} (h : good d = true) (hd : isOrderD d = false)
include h hd
end
end Dm

namespace Dm
open PySem PySem.Spec PyProof.Rows L2
theorem bind_ret {α β : Type} {t : T α} {f : α → T β} {y : β} (h : t.bind f = .ret y) : ∃ x, t = .ret x ∧ f x = .ret y := by
  cases t with
  | ret a => exact ⟨a, rfl, h⟩
  | fail => cases h
  | exc x => cases h
  | draw n k => cases h
def RefF (f g : List D → T RD) : Prop := ∀ ds R, f ds = .ret R → g ds = .ret R
def RefR (f g : SR) : Prop := ∀ S p, f S = .ret p → g S = .ret p
def RefS (f g : SS) : Prop := ∀ S o, f S = .ret o → g S = .ret o
theorem ref_leaf {f : SS} : RefS f (leafS f) := fun S o h => by unfold leafS; rw [h]; rfl
theorem ref_rfl {f : SS} : RefS f f := fun S o h => h
theorem ref_fail {g : SS} : RefS failS g := fun S o h => by cases h
theorem ref_seq {f f' g g' : SS} (h1 : RefS f f') (h2 : RefS g g') : RefS (seqS f g) (seqS f' g') := fun S o h => by
  unfold seqS at h ⊢
  obtain ⟨o1, e1, e2⟩ := bind_ret h
  rw [h1 _ _ e1, T.ret_bind]
  cases o1 with
  | nx S1 => exact h2 _ _ e2
  | rt r => exact e2
  | bk S1 => exact e2
  | ct S1 => exact e2
theorem ref_drop {a b : SR} (h1 : RefR a b) : RefS (exprS (qr a)) (dropS b) := fun S o h => by
  unfold exprS qr at h
  obtain ⟨p, e1, e2⟩ := bind_ret h
  obtain ⟨q, e3, e4⟩ := bind_ret e1
  unfold dropS
  rw [h1 _ _ e3, T.ret_bind]
  cases e4
  exact e2
theorem ref_ret {a b : SR} (h1 : RefR a b) : RefS (retS a) (retS b) := fun S o h => by
  unfold retS at h ⊢
  obtain ⟨p, e1, e2⟩ := bind_ret h
  rw [h1 _ _ e1, T.ret_bind]
  exact e2
theorem ref_call {F G : List D → T RD} {fs : List SP} (h1 : RefF F G) : RefR (callR F fs) (callXR G fs) := fun S o h => by
  unfold callR at h
  unfold callXR
  obtain ⟨p, e1, e2⟩ := bind_ret h
  rw [e1, noX_ret, T.ret_bind]
  cases hp : PD.ats p.2 p.1 with
  | none => rw [hp] at e2; cases e2
  | some ds =>
    rw [hp] at e2
    obtain ⟨R, e3, e4⟩ := bind_ret e2
    show ((G ds).bind fun r => .ret (r, behind p.1 p.2 r)) = _
    rw [h1 _ _ e3]
    exact e4
theorem ref_if {c : SC} {f f' g g' : SS} (h1 : RefS f f') (h2 : RefS g g') : RefS (ifS c f g) (ifXS c f' g') := fun S o h => by
  unfold ifS at h
  unfold ifXS
  obtain ⟨p, e1, e2⟩ := bind_ret h
  rw [e1, noX_ret, T.ret_bind]
  cases hp : p.1 with
  | true => rw [hp] at e2; exact h1 _ _ e2
  | false => rw [hp] at e2; exact h2 _ _ e2
theorem ref_def {k n : Nat} {b b' : SS} (h1 : RefS b b') : RefF (fun ds => arity k (defT n b) ds) (fun ds => arity k (defT n b') ds) := fun ds R h => by
  have h : arity k (defT n b) ds = .ret R := h
  show arity k (defT n b') ds = .ret R
  unfold arity at h ⊢
  split at h
  · rename_i hl
    rw [if_pos hl]
    unfold defT at h ⊢
    obtain ⟨o, e1, e2⟩ := bind_ret h
    rw [h1 _ _ e1]
    exact e2
  · cases h
theorem r_check_rules : RefF sm_check_rules sx_check_rules_2 := ref_def (b := b_check_rules) (b' := bx_check_rules_2) (ref_if ref_fail ref_rfl)
end Dm

namespace Dm
open PySem PySem.Spec PyProof.Rows L2
theorem first_no {P : Nat → Bool} (k : Nat) : ∀ b : Nat, P (k + b) = false → ∃ m, m ≤ b ∧ (∀ i, i < m → P (k + i) = true) ∧ P (k + m) = false
  | 0, h => ⟨0, Nat.le_refl _, fun i hi => by omega, h⟩
  | b + 1, h => by
    cases h0 : P k with
    | false => exact ⟨0, by omega, fun i hi => by omega, h0⟩
    | true =>
      obtain ⟨m, h1, h2, h3⟩ := first_no (P := fun n => P (n + 1)) k b (by rw [show k + b + 1 = k + (b + 1) by omega]; exact h)
      refine ⟨m + 1, by omega, fun i hi => ?_, by rw [show k + (m + 1) = k + m + 1 by omega]; exact h3⟩
      match i with
      | 0 => exact h0
      | i + 1 => rw [show k + (i + 1) = k + i + 1 by omega]; exact h2 i (by omega)
def rest1 (zs : List Str) (i : Nat) : List Str := zs.take i ++ zs.drop (i + 1)
theorem outZ_rest {zs : List Str} (hn : zs.Nodup) {l : Str} (hl : l ∈ zs) : outZ zs (outP [l]) = rest1 zs (zs.idxOf l) := by
  have hi := List.idxOf_lt_length_iff.mpr hl
  have e : zs = zs.take (zs.idxOf l) ++ l :: zs.drop (zs.idxOf l + 1) := by
    have h1 := (List.take_append_drop (zs.idxOf l) zs).symm
    rw [List.drop_eq_getElem_cons hi, List.getElem_idxOf] at h1
    exact h1
  have nd := hn
  rw [e] at nd
  have keep : ∀ L : List Str, l ∉ L → L.filter (outP [l]) = L := fun L h => List.filter_eq_self.mpr fun a ha => by
    have : a ≠ l := fun q => h (q ▸ ha)
    simp [outP, this]
  have h1 := List.nodup_append.mp nd
  have n1 : l ∉ zs.take (zs.idxOf l) := fun h => h1.2.2 l h l (by simp) rfl
  have n2 : l ∉ zs.drop (zs.idxOf l + 1) := (List.nodup_cons.mp h1.2.1).1
  unfold outZ rest1
  conv => lhs; rw [e]
  rw [List.filter_append, List.filter_cons, keep _ n1, keep _ n2]
  simp [outP]
theorem rest1_get {zs : List Str} {i j : Nat} (h : j < (rest1 zs i).length) (hi : i < zs.length) : (rest1 zs i)[j] = if h2 : j < i then zs[j]'(by omega) else zs[j + 1]'(by
    unfold rest1 at h; rw [List.length_append, List.length_take, List.length_drop] at h; omega) := by
  have hm : min i zs.length = i := by omega
  show (zs.take i ++ zs.drop (i + 1))[j]'h = _
  by_cases h2 : j < i
  · rw [dif_pos h2]
    have h3 : j < (zs.take i).length := by rw [List.length_take]; omega
    exact (List.getElem_append_left h3).trans (List.getElem_take ..)
  · rw [dif_neg h2]
    have h3 : (zs.take i).length ≤ j := by rw [List.length_take]; omega
    refine (List.getElem_append_right h3).trans ((List.getElem_drop ..).trans ?_)
    congr 1
    rw [List.length_take]
    omega
theorem rest1_len {zs : List Str} {i : Nat} (hi : i < zs.length) : (rest1 zs i).length = zs.length - 1 := by
  unfold rest1
  rw [List.length_append, List.length_take, List.length_drop]
  omega
theorem dl_at {zs : List Str} {ws : List Int} (o : OrdZ zs ws) {i j : Nat} (hi : i < zs.length) (hj : j < zs.length) : dl zs ws zs[i] zs[j] = betw ws i j := by
  unfold dl
  rw [o.nod.idxOf_getElem i hi, o.nod.idxOf_getElem j hj]
theorem betw_next {zs : List Str} {ws : List Int} (o : OrdZ zs ws) {i : Nat} (hi : i < ws.length) : betw ws i (i + 1) = ws[i] := by
  have h := adj_self o
  have hl := o.len
  have := adj_get (dl zs ws) zs i (by omega)
  rw [h, List.getElem?_eq_getElem hi, dl_at o] at this
  exact (Option.some.inj this).symm
theorem betw_two {zs : List Str} {ws : List Int} (o : OrdZ zs ws) {i : Nat} (hi : i + 1 < ws.length) : betw ws i (i + 2) = min ws[i] ws[i + 1] := by
  rw [betw_three o (i := i) (j := i + 1) (k := i + 2) (by omega) (by omega), betw_next o (by omega), betw_next o (i := i + 1) hi]
def lessW (ws : List Int) (i n : Nat) : List Int := if i = 0 then ws.drop 1 else if i = n then ws.take (ws.length - 1) else ws.take (i - 1) ++ [min ((ws[i - 1]?).getD 0) ((ws[i]?).getD 0)] ++ ws.drop (i + 1)
theorem rest1_dl {zs : List Str} {ws : List Int} (o : OrdZ zs ws) {i j : Nat} (hi : i < zs.length) (h : j + 1 < (rest1 zs i).length) : dl zs ws (rest1 zs i)[j] (rest1 zs i)[j + 1] = if j + 1 < i then (ws[j]?).getD 0 else if j < i then min ((ws[j]?).getD 0) ((ws[j + 1]?).getD 0) else (ws[j + 1]?).getD 0 := by
  have hl := o.len
  have hr := rest1_len hi
  rw [rest1_get (by omega) hi, rest1_get h hi]
  by_cases h1 : j + 1 < i
  · have hj : j < ws.length := by omega
    rw [dif_pos (by omega), dif_pos h1, if_pos h1, dl_at o, betw_next o hj, List.getElem?_eq_getElem hj]
    rfl
  · rw [dif_neg h1, if_neg h1]
    have hj : j + 1 < ws.length := by omega
    by_cases h2 : j < i
    · rw [dif_pos h2, if_pos h2, dl_at o, betw_two o hj, List.getElem?_eq_getElem hj, List.getElem?_eq_getElem (show j < ws.length by omega)]
      rfl
    · rw [dif_neg h2, if_neg h2, dl_at o, betw_next o hj, List.getElem?_eq_getElem hj]
      rfl
theorem outW_rest {zs : List Str} {ws : List Int} (o : OrdZ zs ws) {l : Str} (hl : l ∈ zs) : outW zs ws (outP [l]) = lessW ws (zs.idxOf l) (zs.length - 1) := by
  have hi := List.idxOf_lt_length_iff.mpr hl
  have ho : zs.filter (outP [l]) = rest1 zs (zs.idxOf l) := outZ_rest o.nod hl
  unfold outW
  rw [ho]
  generalize zs.idxOf l = i at hi ho ⊢
  have hw := o.len
  have hr := rest1_len hi
  symm
  unfold lessW
  by_cases h0 : i = 0
  · subst h0
    rw [if_pos rfl]
    refine adj_ext (by rw [List.length_drop]; omega) fun j hj => ?_
    rw [rest1_dl o hi hj, if_neg (by omega), if_neg (by omega), List.getElem?_drop, List.getElem?_eq_getElem (show 1 + j < ws.length by omega), List.getElem?_eq_getElem (show j + 1 < ws.length by omega)]
    simp [Nat.add_comm]
  · rw [if_neg h0]
    by_cases h1 : i = zs.length - 1
    · rw [if_pos h1]
      refine adj_ext (by rw [List.length_take]; omega) fun j hj => ?_
      rw [rest1_dl o hi hj, if_pos (by omega), List.getElem?_take_of_lt (by omega), List.getElem?_eq_getElem (show j < ws.length by omega)]
      rfl
    · rw [if_neg h1]
      have ht : (ws.take (i - 1)).length = i - 1 := by rw [List.length_take]; omega
      refine adj_ext (by rw [List.length_append, List.length_append, List.length_drop, ht, List.length_singleton]; omega) fun j hj => ?_
      rw [rest1_dl o hi hj]
      by_cases h2 : j + 1 < i
      · rw [if_pos h2, List.append_assoc, List.getElem?_append_left (by omega), List.getElem?_take_of_lt (by omega), List.getElem?_eq_getElem (show j < ws.length by omega)]
        rfl
      · rw [if_neg h2, List.append_assoc, List.getElem?_append_right (by omega), ht]
        by_cases h3 : j < i
        · rw [if_pos h3]
          have e1 : j - (i - 1) = 0 := by omega
          have e2 : i - 1 = j := by omega
          have e3 : i = j + 1 := by omega
          rw [e1, e2, ← e3]
          rfl
        · rw [if_neg h3]
          have e1 : j - (i - 1) = (j - i) + 1 := by omega
          rw [e1, List.singleton_append, List.getElem?_cons_succ, List.getElem?_drop, show i + 1 + (j - i) = j + 1 by omega, List.getElem?_eq_getElem (show j + 1 < ws.length by omega)]
          rfl
theorem cut_last (xs : List D) (h : 1 ≤ xs.length) : Dm.cutD xs none (some (-1)) = xs.take (xs.length - 1) := by
  unfold Dm.cutD
  have e1 : HT.sIx xs.length 0 none = 0 := HT.sIx_none _ _
  have e2 : HT.sIx xs.length xs.length (some (-1)) = xs.length - 1 := by
    unfold HT.sIx
    simp
    omega
  rw [e1, e2, List.drop_zero, Nat.sub_zero]
end Dm

namespace Dm
open PySem PySem.Spec PyProof.Rows L2
def goA (zs : List Str) (ws : List Int) (s : Int) (i t : Nat) : Bool := decide (i + 1 + t < zs.length) && decide (s < (ws[i + t]?).getD 0)
def goB (ws : List Int) (s : Int) (i t : Nat) : Bool := decide (t < i) && decide (s < (ws[i - t - 1]?).getD 0)
structure Stops (P : Nat → Bool) (m : Nat) : Prop where
  on : ∀ t, t < m → P t = true
  off : P m = false
theorem stops {P : Nat → Bool} (b : Nat) (h : P b = false) : ∃ m, m ≤ b ∧ Stops P m := by
  obtain ⟨m, h1, h2, h3⟩ := first_no (P := P) 0 b (by rw [Nat.zero_add]; exact h)
  refine ⟨m, h1, fun t ht => ?_, ?_⟩
  · have := h2 t ht; rwa [Nat.zero_add] at this
  · rwa [Nat.zero_add] at h3
theorem stopA {zs : List Str} {ws : List Int} {s : Int} {i : Nat} (hl : zs.length ≤ 12) : ∃ m, m ≤ 12 ∧ Stops (goA zs ws s i) m := stops 12 (by
  unfold goA
  have : ¬ i + 1 + 12 < zs.length := by omega
  simp [this])
theorem stopB {zs : List Str} {ws : List Int} {s : Int} {i : Nat} (hl : zs.length ≤ 12) (hi : i < zs.length) : ∃ m, m ≤ i ∧ Stops (goB ws s i) m := stops i (by
  unfold goB
  simp)
end Dm

namespace Dm
open PySem PySem.Spec PyProof.Rows L2
def putAt {α : Type} (xs : List α) (k : Nat) (x : α) : List α := xs.take k ++ [x] ++ xs.drop k
inductive Put (zs : List Str) (ws : List Int) (a : Str) (s : Int) : Str → Nat → Nat → Prop
  | after (m : Nat) : m ≤ 12 → Stops (goA zs ws s (zs.idxOf a)) m → Put zs ws a s "after" (zs.idxOf a + 1 + m) (zs.idxOf a + m)
  | before (m : Nat) : m ≤ zs.idxOf a → Stops (goB ws s (zs.idxOf a)) m → Put zs ws a s "before" (zs.idxOf a - m) (zs.idxOf a - m)
theorem Put.ex {zs : List Str} {ws : List Int} {a l side : Str} {s : Int} (r : RuleZ side a s l) (hl : zs.length ≤ 12) (ha : a ∈ zs) : ∃ k j, Put zs ws a s side k j := by
  rcases r.side' with rfl | rfl
  · obtain ⟨m, h1, h2⟩ := stopA (zs := zs) (ws := ws) (s := s) (i := zs.idxOf a) hl
    exact ⟨_, _, .after m h1 h2⟩
  · obtain ⟨m, h1, h2⟩ := stopB (zs := zs) (ws := ws) (s := s) (i := zs.idxOf a) hl (List.idxOf_lt_length_iff.mpr ha)
    exact ⟨_, _, .before m h1 h2⟩
theorem goA_lt {zs : List Str} {ws : List Int} {s : Int} {i m : Nat} (hi : i < zs.length) (st : Stops (goA zs ws s i) m) : i + 1 + m ≤ zs.length := by
  by_cases h : i + 1 + m ≤ zs.length
  · exact h
  · have := st.on (m - 1) (by omega)
    unfold goA at this
    simp only [Bool.and_eq_true, decide_eq_true_eq] at this
    omega
theorem Put.le {zs : List Str} {ws : List Int} {a side : Str} {s : Int} {k j : Nat} (p : Put zs ws a s side k j) (ha : a ∈ zs) (hw : ws.length = zs.length - 1) : k ≤ zs.length ∧ j ≤ ws.length := by
  have hi := List.idxOf_lt_length_iff.mpr ha
  cases p with
  | after m h1 h2 => have := goA_lt hi h2; omega
  | before m h1 h2 => omega
end Dm

namespace Dm
open PySem PySem.Spec PyProof.Rows L2
theorem why_can {zs : List Str} {a l : Str} (hm : zs.length ≤ 12) (h : canD zs a l = true) : whyD zs a l = .non ∧ a ∈ zs := by
  unfold canD at h
  simp only [Bool.and_eq_true, Bool.or_eq_true, decide_eq_true_eq] at h
  unfold whyD
  rw [if_pos h.1, if_neg (fun q => by
    rcases h.2 with h2 | h2
    · omega
    · exact q.2 h2)]
  exact ⟨rfl, h.1⟩
def goA' (zs : List Str) (ws : List Int) (s : Int) (i t : Nat) : Bool := decide (i + 1 + t < zs.length) && decide (s < betw ws i (i + 1 + t))
def goB' (ws : List Int) (s : Int) (i t : Nat) : Bool := decide (t < i) && decide (s < betw ws i (i - t - 1))
theorem stopA_same {zs : List Str} {ws : List Int} (o : OrdZ zs ws) {s : Int} {i m : Nat} (st : Stops (goA zs ws s i) m) : Stops (goA' zs ws s i) m := by
  have hw := o.len
  have step : ∀ t, i + 1 + t < zs.length → betw ws i (i + 1 + t) = if t = 0 then (ws[i]?).getD 0 else min (betw ws i (i + t)) ((ws[i + t]?).getD 0) := fun t ht => by
    split
    · rename_i h; subst h
      rw [Nat.add_zero, betw_next o (by omega), List.getElem?_eq_getElem (by omega)]; rfl
    · rw [betw_three o (i := i) (j := i + t) (k := i + 1 + t) (by omega) (by omega), show i + 1 + t = i + t + 1 by omega, betw_next o (by omega), List.getElem?_eq_getElem (by omega)]; rfl
  have on : ∀ t, t < m → goA' zs ws s i t = true := by
    intro t
    induction t with
    | zero =>
      intro h
      have := st.on 0 h
      unfold goA at this
      unfold goA'
      simp only [Bool.and_eq_true, decide_eq_true_eq] at this ⊢
      refine ⟨this.1, ?_⟩
      rw [step 0 this.1, if_pos rfl]
      simpa using this.2
    | succ t ih =>
      intro h
      have h1 := ih (by omega)
      have := st.on (t + 1) h
      unfold goA at this
      unfold goA' at h1 ⊢
      simp only [Bool.and_eq_true, decide_eq_true_eq] at this h1 ⊢
      refine ⟨this.1, ?_⟩
      rw [step (t + 1) this.1, if_neg (by omega)]
      have h2 := h1.2
      rw [show i + 1 + t = i + (t + 1) by omega] at h2
      have h3 := this.2
      omega
  refine ⟨on, ?_⟩
  have off := st.off
  unfold goA at off
  unfold goA'
  cases hb : decide (i + 1 + m < zs.length) with
  | false => rfl
  | true =>
    rw [hb, Bool.true_and, decide_eq_false_iff_not] at off
    rw [Bool.true_and, decide_eq_false_iff_not, step m (of_decide_eq_true hb)]
    split
    · rename_i h; subst h; exact off
    · omega
theorem stopB_same {zs : List Str} {ws : List Int} (o : OrdZ zs ws) {s : Int} {i m : Nat} (hi : i < zs.length) (st : Stops (goB ws s i) m) : Stops (goB' ws s i) m := by
  have hw := o.len
  have step : ∀ t, t < i → betw ws i (i - t - 1) = if t = 0 then (ws[i - 1]?).getD 0 else min ((ws[i - t - 1]?).getD 0) (betw ws i (i - t)) := fun t ht => by
    rw [betw_comm]
    split
    · rename_i h; subst h
      have := betw_next o (i := i - 1) (by omega)
      rw [show i - 1 + 1 = i by omega] at this
      rw [Nat.sub_zero, this, List.getElem?_eq_getElem (by omega)]; rfl
    · have := betw_next o (i := i - t - 1) (by omega)
      rw [betw_three o (i := i - t - 1) (j := i - t) (k := i) (by omega) (by omega), betw_comm ws i (i - t)]
      rw [show i - t - 1 + 1 = i - t by omega] at this
      rw [this, List.getElem?_eq_getElem (by omega)]; rfl
  have on : ∀ t, t < m → goB' ws s i t = true := by
    intro t
    induction t with
    | zero =>
      intro h
      have := st.on 0 h
      unfold goB at this
      unfold goB'
      simp only [Bool.and_eq_true, decide_eq_true_eq] at this ⊢
      refine ⟨this.1, ?_⟩
      rw [step 0 this.1, if_pos rfl]
      simpa using this.2
    | succ t ih =>
      intro h
      have h1 := ih (by omega)
      have := st.on (t + 1) h
      unfold goB at this
      unfold goB' at h1 ⊢
      simp only [Bool.and_eq_true, decide_eq_true_eq] at this h1 ⊢
      refine ⟨this.1, ?_⟩
      rw [step (t + 1) this.1, if_neg (by omega)]
      have h2 := h1.2
      rw [show i - t - 1 = i - (t + 1) by omega] at h2
      have h3 := this.2
      omega
  refine ⟨on, ?_⟩
  have off := st.off
  unfold goB at off
  unfold goB'
  cases hb : decide (m < i) with
  | false => rfl
  | true =>
    rw [hb, Bool.true_and, decide_eq_false_iff_not] at off
    rw [Bool.true_and, decide_eq_false_iff_not, step m (of_decide_eq_true hb)]
    split
    · rename_i h; subst h; simpa using off
    · omega
end Dm

namespace Dm
open PySem PySem.Spec PyProof.Rows L2
end Dm

namespace Dm
open PySem PySem.Spec PyProof.Rows L2
theorem newD : ∀ b ∈ namesD, ∀ z ∈ (["new", "nobody"] : List Str), z ≠ b := by decide
end Dm

namespace Dm
open PySem PySem.Spec PyProof.Rows L2
theorem putAt_len {α : Type} {xs : List α} {k : Nat} (h : k ≤ xs.length) (x : α) : (putAt xs k x).length = xs.length + 1 := by
  unfold putAt
  rw [List.length_append, List.length_append, List.length_take, List.length_drop, List.length_singleton]
  omega
theorem putAt_perm {α : Type} (xs : List α) (k : Nat) (x : α) : (putAt xs k x).Perm (x :: xs) := by
  unfold putAt
  rw [List.append_assoc]
  refine List.perm_middle.trans ?_
  show (x :: (xs.take k ++ xs.drop k)).Perm _
  rw [List.take_append_drop]
theorem put_ord {zs : List Str} {ws : List Int} (o : OrdZ zs ws) {side a l : Str} {s : Int} (r : RuleZ side a s l) (ha : a ∈ zs) (hl : l ∉ zs) (hm : zs.length < 12) {k j : Nat} (p : Put zs ws a s side k j) : OrdZ (putAt zs k l) (putAt ws j s) := by
  have hle := p.le ha o.len
  have hz : 1 ≤ zs.length := List.length_pos_of_mem ha
  have hw := o.len
  refine ⟨by rw [putAt_len hle.1]; omega, (putAt_perm zs k l).nodup_iff.mpr (List.nodup_cons.mpr ⟨hl, o.nod⟩), fun z h => ?_, by rw [putAt_len hle.1, putAt_len hle.2]; omega, fun w h => ?_⟩
  · rcases List.mem_cons.mp ((putAt_perm zs k l).mem_iff.mp h) with rfl | h
    · exact r.let'
    · exact o.let' z h
  · rcases List.mem_cons.mp ((putAt_perm ws j s).mem_iff.mp h) with rfl | h
    · exact ⟨r.lo, r.hi⟩
    · exact o.str w h
theorem idx_put {zs : List Str} {l : Str} (hl : l ∉ zs) {k : Nat} (h : k ≤ zs.length) : (putAt zs k l).idxOf l = k := by
  unfold putAt
  have h1 : l ∉ zs.take k := fun q => hl (List.mem_of_mem_take q)
  rw [List.append_assoc, List.idxOf_append, if_neg h1, List.length_take, List.singleton_append, List.idxOf_cons_self]
  omega
theorem rest_put {zs : List Str} {l : Str} {k : Nat} (h : k ≤ zs.length) : rest1 (putAt zs k l) k = zs := by
  unfold rest1 putAt
  have ht : (zs.take k).length = k := by rw [List.length_take]; omega
  rw [List.append_assoc, List.take_append_of_le_length (by omega), List.take_of_length_le (by omega), List.drop_append, List.drop_eq_nil_of_le (by omega), ht]
  have : k + 1 - k = 1 := by omega
  rw [this, List.nil_append, List.singleton_append, List.drop_succ_cons, List.drop_zero, List.take_append_drop]
theorem Put.stop {zs : List Str} {ws : List Int} {a side : Str} {s : Int} {k j : Nat} (p : Put zs ws a s side k j) (ha : a ∈ zs) (h1 : 1 ≤ k) (h2 : k < zs.length) : (ws[k - 1]?).getD 0 ≤ s ∧ (j = k ∨ j + 1 = k) := by
  cases p with
  | after m hm st =>
    have := st.off
    unfold goA at this
    rw [decide_eq_true h2, Bool.true_and, decide_eq_false_iff_not] at this
    refine ⟨?_, .inr (by omega)⟩
    rw [show zs.idxOf a + 1 + m - 1 = zs.idxOf a + m by omega]
    omega
  | before m hm st =>
    have := st.off
    unfold goB at this
    rw [decide_eq_true (show m < zs.idxOf a by omega), Bool.true_and, decide_eq_false_iff_not] at this
    exact ⟨by omega, .inl rfl⟩
theorem Put.ends {zs : List Str} {ws : List Int} {a side : Str} {s : Int} {k j : Nat} (p : Put zs ws a s side k j) (ha : a ∈ zs) : (k = 0 → j = 0) ∧ (k = zs.length → j + 1 = k) := by
  have hi := List.idxOf_lt_length_iff.mpr ha
  cases p with
  | after m hm st => exact ⟨fun h => by omega, fun h => by omega⟩
  | before m hm st => exact ⟨fun h => by omega, fun h => by omega⟩
theorem less_put {zs : List Str} {ws : List Int} (o : OrdZ zs ws) {a side : Str} {s : Int} (ha : a ∈ zs) {k j : Nat} (p : Put zs ws a s side k j) : lessW (putAt ws j s) k zs.length = ws := by
  have hle := p.le ha o.len
  have he := p.ends ha
  have hz : 1 ≤ zs.length := List.length_pos_of_mem ha
  have hw := o.len
  unfold lessW
  by_cases h0 : k = 0
  · rw [if_pos h0, he.1 h0]
    rfl
  · rw [if_neg h0]
    by_cases h1 : k = zs.length
    · have hj := he.2 h1
      rw [if_pos h1, putAt_len hle.2, Nat.add_sub_cancel]
      unfold putAt
      have ht : (ws.take j).length = ws.length := by rw [List.length_take]; omega
      rw [List.append_assoc, List.take_append_of_le_length (by omega), List.take_of_length_le (by omega), List.take_of_length_le (by omega)]
    · rw [if_neg h1]
      obtain ⟨hs, hj⟩ := p.stop ha (by omega) (by omega)
      have hk : k - 1 < ws.length := by omega
      rw [List.getElem?_eq_getElem hk, Option.getD_some] at hs
      apply List.ext_getElem?
      intro t
      have ht : ((putAt ws j s).take (k - 1)).length = k - 1 := by rw [List.length_take, putAt_len hle.2]; omega
      have get : ∀ u, (putAt ws j s)[u]? = if u < j then ws[u]? else if u = j then some s else ws[u - 1]? := fun u => by
        unfold putAt
        have hj' : (ws.take j).length = j := by rw [List.length_take]; omega
        split
        · rename_i h
          rw [List.append_assoc, List.getElem?_append_left (by omega), List.getElem?_take_of_lt h]
        · rename_i h
          rw [List.append_assoc, List.getElem?_append_right (by omega), hj']
          split
          · rename_i h2; subst h2; simp
          · rename_i h2
            rw [show u - j = (u - j - 1) + 1 by omega, List.singleton_append, List.getElem?_cons_succ, List.getElem?_drop]
            congr 1
            omega
      by_cases q1 : t < k - 1
      · rw [List.append_assoc, List.getElem?_append_left (by omega), List.getElem?_take_of_lt q1, get, if_pos (by omega)]
      · rw [List.append_assoc, List.getElem?_append_right (by omega), ht]
        by_cases q2 : t = k - 1
        · subst q2
          rw [Nat.sub_self, List.singleton_append, List.getElem?_cons_zero, get, get, List.getElem?_eq_getElem hk]
          rcases hj with hj | hj
          · rw [if_pos (by omega), if_neg (by omega), if_pos (by omega), Option.getD_some, Option.getD_some]
            congr 1
            omega
          · rw [if_neg (by omega), if_pos (by omega), if_neg (by omega), if_neg (by omega), Option.getD_some, Option.getD_some]
            congr 1
            omega
        · rw [show t - (k - 1) = (t - k) + 1 by omega, List.singleton_append, List.getElem?_cons_succ, List.getElem?_drop, get, if_neg (by omega), if_neg (by omega)]
          congr 1
          omega
theorem out_put {zs : List Str} {ws : List Int} (o : OrdZ zs ws) {side a l : Str} {s : Int} (r : RuleZ side a s l) (ha : a ∈ zs) (hl : l ∉ zs) (hm : zs.length < 12) {k j : Nat} (p : Put zs ws a s side k j) : outZ (putAt zs k l) (outP [l]) = zs ∧ outW (putAt zs k l) (putAt ws j s) (outP [l]) = ws := by
  have hle := p.le ha o.len
  have oo := put_ord o r ha hl hm p
  have hin : l ∈ putAt zs k l := (putAt_perm zs k l).mem_iff.mpr (by simp)
  refine ⟨?_, ?_⟩
  · rw [outZ_rest oo.nod hin, idx_put hl hle.1, rest_put hle.1]
  · rw [outW_rest oo hin, idx_put hl hle.1, putAt_len hle.1, Nat.add_sub_cancel, less_put o ha p]
end Dm

namespace Dm
open PySem PySem.Spec PyProof.Rows L2
abbrev newZ (zs : List Str) (l : Str) (k : Nat) : List Str := putAt (outZ zs (outP [l])) k l
abbrev newW (zs : List Str) (ws : List Int) (l : Str) (j : Nat) (s : Int) : List Int := putAt (outW zs ws (outP [l])) j s
theorem out_not (zs : List Str) (l : Str) : l ∉ outZ zs (outP [l]) := fun h => by
  have := (List.mem_filter.mp h).2
  simp [outP] at this
theorem out_lt {zs : List Str} {a l : Str} (hm : zs.length ≤ 12) (hn : zs.Nodup) (hc : canD zs a l = true) : (outZ zs (outP [l])).length < 12 := by
  by_cases hl : l ∈ zs
  · rw [outZ_rest hn hl, rest1_len (List.idxOf_lt_length_iff.mpr hl)]
    have := List.length_pos_of_mem hl
    omega
  · unfold canD at hc
    simp only [Bool.and_eq_true, Bool.or_eq_true, decide_eq_true_eq] at hc
    have := List.length_filter_le (outP [l]) zs
    show (zs.filter (outP [l])).length < 12
    rcases hc.2 with h | h
    · omega
    · exact absurd h hl
theorem in_out {zs : List Str} {a l : Str} (ha : a ∈ zs) (hne : a ≠ l) : a ∈ outZ zs (outP [l]) := List.mem_filter.mpr ⟨ha, by simp [outP, hne]⟩
theorem appl_ord {zs : List Str} {ws : List Int} (o : OrdZ zs ws) {side a l : Str} {s : Int} (r : RuleZ side a s l) (hc : canD zs a l = true) {k j : Nat} (p : Put (outZ zs (outP [l])) (outW zs ws (outP [l])) a s side k j) : OrdZ (newZ zs l k) (newW zs ws l j s) :=
  put_ord (out_ord o (outP [l])) r (in_out (why_can o.most hc).2 r.ne) (out_not zs l) (out_lt o.most o.nod hc) p
end Dm

namespace Dm
open PySem PySem.Spec PyProof.Rows L2
structure Rul where
  side : Str
  a : Str
  s : Int
  l : Str
abbrev Rul.d (r : Rul) : D := ruleT r.side r.a r.s r.l
abbrev Rul.ok (r : Rul) : Prop := RuleZ r.side r.a r.s r.l
structure Odr where
  zs : List Str
  ws : List Int
abbrev Odr.d (o : Odr) : D := ordT o.zs o.ws
abbrev Odr.ok (o : Odr) : Prop := OrdZ o.zs o.ws
def PutsTo (o : Odr) (r : Rul) (o' : Odr) : Prop := ∃ k j, Put (outZ o.zs (outP [r.l])) (outW o.zs o.ws (outP [r.l])) r.a r.s r.side k j ∧ o' = ⟨newZ o.zs r.l k, newW o.zs o.ws r.l j r.s⟩
theorem PutsTo.ex {o : Odr} {r : Rul} (ho : o.ok) (hr : r.ok) (ha : r.a ∈ o.zs) : ∃ o', PutsTo o r o' := by
  obtain ⟨k, j, p⟩ := Put.ex (ws := outW o.zs o.ws (outP [r.l])) hr (out_ord ho (outP [r.l])).most (in_out ha hr.ne)
  exact ⟨_, k, j, p, rfl⟩
open Classical in
noncomputable def resO (o : Odr) (r : Rul) : Odr := if h : ∃ o', PutsTo o r o' then h.choose else o
theorem resO_puts {o : Odr} {r : Rul} (ho : o.ok) (hr : r.ok) (ha : r.a ∈ o.zs) : PutsTo o r (resO o r) := by
  have h := PutsTo.ex ho hr ha
  unfold resO
  rw [dif_pos h]
  exact h.choose_spec
def whyR (o : Odr) (r : Rul) : Option Str := if r.a ∈ o.zs then (if o.zs.length = 12 ∧ r.l ∉ o.zs then some "full" else none) else some "anchor"
theorem why_none {o : Odr} {r : Rul} (ho : o.ok) (h : whyR o r = none) : r.a ∈ o.zs ∧ canD o.zs r.a r.l = true := by
  unfold whyR at h
  split at h
  · rename_i h1
    split at h
    · cases h
    · rename_i h2
      refine ⟨h1, ?_⟩
      unfold canD
      rw [decide_eq_true h1, Bool.true_and, Bool.or_eq_true, decide_eq_true_eq, decide_eq_true_eq]
      by_cases hl : r.l ∈ o.zs
      · exact .inr hl
      · refine .inl ?_
        have := ho.most
        have : ¬ o.zs.length = 12 := fun e => h2 ⟨e, hl⟩
        omega
  · cases h
theorem why_no {o : Odr} {r : Rul} (h1 : r.a ∈ o.zs) (h2 : o.zs.length < 12 ∨ r.l ∈ o.zs) : whyR o r = none := by
  unfold whyR
  rw [if_pos h1, if_neg (fun q => by
    rcases h2 with h | h
    · omega
    · exact q.2 h)]
theorem res_ok {o : Odr} {r : Rul} (ho : o.ok) (hr : r.ok) (h : whyR o r = none) : (resO o r).ok := by
  obtain ⟨h1, h2⟩ := why_none ho h
  obtain ⟨k, j, p, e⟩ := resO_puts ho hr h1
  rw [e]
  exact appl_ord ho hr h2 p
theorem res_mem {o : Odr} {r : Rul} (ho : o.ok) (hr : r.ok) (h : r.a ∈ o.zs) (z : Str) : z ∈ (resO o r).zs ↔ z ∈ o.zs ∨ z = r.l := by
  obtain ⟨k, j, p, e⟩ := resO_puts ho hr h
  rw [e]
  show z ∈ putAt (outZ o.zs (outP [r.l])) k r.l ↔ _
  rw [(putAt_perm _ k r.l).mem_iff, List.mem_cons]
  constructor
  · rintro (h | h)
    · exact .inr h
    · exact .inl (List.mem_filter.mp h).1
  · rintro (h | h)
    · by_cases hz : z = r.l
      · exact .inl hz
      · exact .inr (in_out h hz)
    · exact .inl h
noncomputable def runO : List Rul → Odr → Nat → Odr ⊕ (Nat × Str)
  | [], o, _ => .inl o
  | r :: rs, o, i => match whyR o r with
    | some y => .inr (i, y)
    | none => runO rs (resO o r) (i + 1)
theorem s_rule_list {xs : List D} {P : D → Bool} (h : ∀ x ∈ xs, sm_is_rule [x] = .ret (.d (.bl (P x)))) (hl : xs.length ≤ 1000) : sm_is_rule_list [.tup xs] = .ret (.d (.bl (!decide ((20 : Int) < (xs.length : Nat)) && xs.all P))) := by
  have ha : allT [1] (nameW 1) yesC (qr (callR sm_is_rule [vP 1])) xs [Slot.val (.tup xs), Slot.none] = .ret (.bl (xs.all P), [Slot.val (.tup xs), Slot.none]) :=
    allT_eq P fun x hx => by
      refine ⟨[Slot.val (.tup xs), Slot.val x], [Slot.val (.tup xs), Slot.val x], rfl, rfl, ?_, rfl⟩
      simp only [h x hx, semK, seqD, isI, isB, isS, isTu, isLi, seqO, PD.ats, PD.at, PD.seq, behind, frzS, RD.fz, RD.fzs, RD.noL, RD.noLs, D.noL, D.noLs, RD.parts, putS, wipeS, boolT, intT, isTupP, isLstP, truD, isNon, iOp, iOpC, iMod, iDiv, iMul, iNeg, iAbs, iId, iCmp, bCmp, lenOp, tupOp, ownOp, slTup, revTup, ite_self, if_true, if_false, ite_true, ite_false, Bool.not_true, Bool.not_false, Bool.false_eq_true, List.getElem?_cons_zero, List.getElem?_cons_succ, List.set_cons_zero, List.set_cons_succ, List.map_cons, List.map_nil, decide_true, decide_false, Bool.true_and, Bool.and_true, Bool.false_and, Bool.and_false, Bool.true_or, Bool.or_true, Bool.false_or, Bool.or_false, Bool.and_self, Bool.or_self, reduceIte, reduceCtorEq]
  cases hd : decide ((20 : Int) < (xs.length : Nat)) with
  | true => simp only [e_is_rule_list, b_is_rule_list, hd, semK, seqD, isI, isB, isS, isTu, isLi, seqO, PD.ats, PD.at, PD.seq, behind, frzS, RD.fz, RD.fzs, RD.noL, RD.noLs, D.noL, D.noLs, RD.parts, putS, wipeS, boolT, intT, isTupP, isLstP, truD, isNon, iOp, iOpC, iMod, iDiv, iMul, iNeg, iAbs, iId, iCmp, bCmp, lenOp, tupOp, ownOp, slTup, revTup, ite_self, if_true, if_false, ite_true, ite_false, Bool.not_true, Bool.not_false, Bool.false_eq_true, List.getElem?_cons_zero, List.getElem?_cons_succ, List.set_cons_zero, List.set_cons_succ, List.map_cons, List.map_nil, decide_true, decide_false, Bool.true_and, Bool.and_true, Bool.false_and, Bool.and_false, Bool.true_or, Bool.or_true, Bool.false_or, Bool.or_false, Bool.and_self, Bool.or_self, reduceIte, reduceCtorEq]
  | false => simp only [e_is_rule_list, b_is_rule_list, hd, ha, semK, seqD, isI, isB, isS, isTu, isLi, seqO, PD.ats, PD.at, PD.seq, behind, frzS, RD.fz, RD.fzs, RD.noL, RD.noLs, D.noL, D.noLs, RD.parts, putS, wipeS, boolT, intT, isTupP, isLstP, truD, isNon, iOp, iOpC, iMod, iDiv, iMul, iNeg, iAbs, iId, iCmp, bCmp, lenOp, tupOp, ownOp, slTup, revTup, ite_self, if_true, if_false, ite_true, ite_false, Bool.not_true, Bool.not_false, Bool.false_eq_true, List.getElem?_cons_zero, List.getElem?_cons_succ, List.set_cons_zero, List.set_cons_succ, List.map_cons, List.map_nil, decide_true, decide_false, Bool.true_and, Bool.and_true, Bool.false_and, Bool.and_false, Bool.true_or, Bool.or_true, Bool.false_or, Bool.or_false, Bool.and_self, Bool.or_self, reduceIte, reduceCtorEq]
theorem s_rule_list_ok {rs : List Rul} (hr : ∀ r ∈ rs, r.ok) (hl : rs.length ≤ 20) : sm_is_rule_list [.tup (rs.map Rul.d)] = .ret (.d (.bl true)) := by
  rw [s_rule_list (P := fun _ => true) (fun x hx => by
    obtain ⟨r, hm, rfl⟩ := List.mem_map.mp hx
    exact s_is_rule (hr r hm)) (by rw [List.length_map]; omega), List.length_map, decide_eq_false (by omega), List.all_eq_true.mpr (fun _ _ => rfl)]
  rfl
section
variable {o : Odr} {r : D} (ho : o.ok) (h : sm_is_rule [r] = .ret (.d (.bl false)))
include ho h
end
section
variable {o : Odr} {r : Rul} (ho : o.ok) (hr : r.ok) {y : Str} (hy : whyR o r = some y)
include ho hr hy
end
end Dm

namespace Dm
open PySem PySem.Spec PyProof.Rows L2
theorem putAt_rev {α : Type} (xs : List α) (k : Nat) (x : α) (h : k ≤ xs.length) : (putAt xs k x).reverse = putAt xs.reverse (xs.length - k) x := by
  unfold putAt
  rw [List.reverse_append, List.reverse_append, List.reverse_singleton, List.reverse_drop, List.reverse_take]
  rw [List.append_assoc]
theorem idx_rev {zs : List Str} (hn : zs.Nodup) {a : Str} (ha : a ∈ zs) : zs.reverse.idxOf a = zs.length - 1 - zs.idxOf a := by
  have hi := List.idxOf_lt_length_iff.mpr ha
  refine idx_of (nodup_rev hn) ?_
  rw [List.getElem?_reverse (by omega), show zs.length - 1 - (zs.length - 1 - zs.idxOf a) = zs.idxOf a by omega, List.getElem?_eq_getElem hi, List.getElem_idxOf]
theorem ws_rev {ws : List Int} {i : Nat} (h : i < ws.length) : ws.reverse[i]? = ws[ws.length - 1 - i]? := List.getElem?_reverse h
theorem goA_rev {zs : List Str} {ws : List Int} (hw : ws.length = zs.length - 1) {s : Int} {i : Nat} (hi : i < zs.length) (t : Nat) : goB ws.reverse s (zs.length - 1 - i) t = goA zs ws s i t := by
  unfold goA goB
  by_cases h : i + 1 + t < zs.length
  · rw [decide_eq_true h, decide_eq_true (show t < zs.length - 1 - i by omega), ws_rev (by omega), show ws.length - 1 - (zs.length - 1 - i - t - 1) = i + t by omega]
  · rw [decide_eq_false h, decide_eq_false (show ¬ t < zs.length - 1 - i by omega)]
    rfl
theorem goB_rev {zs : List Str} {ws : List Int} (hw : ws.length = zs.length - 1) {s : Int} {i : Nat} (hi : i < zs.length) (t : Nat) : goA zs.reverse ws.reverse s (zs.length - 1 - i) t = goB ws s i t := by
  unfold goA goB
  rw [List.length_reverse]
  by_cases h : t < i
  · rw [decide_eq_true h, decide_eq_true (show zs.length - 1 - i + 1 + t < zs.length by omega), ws_rev (by omega), show ws.length - 1 - (zs.length - 1 - i + t) = i - t - 1 by omega]
  · rw [decide_eq_false h, decide_eq_false (show ¬ zs.length - 1 - i + 1 + t < zs.length by omega)]
    rfl
def otherSide (side : Str) : Str := if side = "after" then "before" else "after"
theorem Put.rev {zs : List Str} {ws : List Int} (o : OrdZ zs ws) {a side : Str} {s : Int} (ha : a ∈ zs) {k j : Nat} (p : Put zs ws a s side k j) : Put zs.reverse ws.reverse a s (otherSide side) (zs.length - k) (ws.length - j) := by
  have hi := List.idxOf_lt_length_iff.mpr ha
  have hr := idx_rev o.nod ha
  have hw := o.len
  have hm := o.most
  cases p with
  | after m h1 h2 =>
    have hle := goA_lt hi h2
    have e : otherSide "after" = "before" := if_pos rfl
    have st : Stops (goB ws.reverse s (zs.reverse.idxOf a)) m := by
      rw [hr]
      exact ⟨fun t ht => by rw [goA_rev hw hi]; exact h2.on t ht, by rw [goA_rev hw hi]; exact h2.off⟩
    have := Put.before (zs := zs.reverse) (ws := ws.reverse) (a := a) (s := s) m (by rw [hr]; omega) st
    rw [hr, show zs.length - 1 - zs.idxOf a - m = zs.length - (zs.idxOf a + 1 + m) by omega] at this
    rw [e]
    have e2 : ws.length - (zs.idxOf a + m) = zs.length - (zs.idxOf a + 1 + m) := by omega
    rw [e2]
    exact this
  | before m h1 h2 =>
    have e : otherSide "before" = "after" := if_neg ab_ne
    have st : Stops (goA zs.reverse ws.reverse s (zs.reverse.idxOf a)) m := by
      rw [hr]
      exact ⟨fun t ht => by rw [goB_rev hw hi]; exact h2.on t ht, by rw [goB_rev hw hi]; exact h2.off⟩
    have := Put.after (zs := zs.reverse) (ws := ws.reverse) (a := a) (s := s) m (by omega) st
    rw [hr] at this
    rw [e]
    have e1 : zs.length - (zs.idxOf a - m) = zs.length - 1 - zs.idxOf a + 1 + m := by omega
    have e2 : ws.length - (zs.idxOf a - m) = zs.length - 1 - zs.idxOf a + m := by omega
    rw [e1, e2]
    exact this
end Dm

namespace Dm
open PySem PySem.Spec PyProof.Rows L2
theorem put_old {zs : List Str} {ws : List Int} (o : OrdZ zs ws) {side a l : Str} {s : Int} (r : RuleZ side a s l) (ha : a ∈ zs) (hl : l ∉ zs) (hm : zs.length < 12) {k j : Nat} (p : Put zs ws a s side k j) {x y : Str} (hx : x ∈ zs) (hy : y ∈ zs) : dl (putAt zs k l) (putAt ws j s) x y = dl zs ws x y := by
  have op := out_put o r ha hl hm p
  have oo := put_ord o r ha hl hm p
  have h1 := out_dl oo (outP [l]) (a := x) (b := y) (by rw [op.1]; exact hx) (by rw [op.1]; exact hy)
  rw [op.1, op.2] at h1
  exact h1.symm
theorem dl_ultra {zs : List Str} {ws : List Int} (o : OrdZ zs ws) {a b x : Str} (ha : a ∈ zs) (hb : b ∈ zs) (hx : x ∈ zs) : min (dl zs ws a b) (dl zs ws b x) ≤ dl zs ws a x := by
  have key : ∀ i j k : Nat, min (betw ws i j) (betw ws j k) ≤ betw ws i k := fun i j k => by
    rcases Nat.le_total i j with h1 | h1 <;> rcases Nat.le_total j k with h2 | h2
    · rw [← betw_three o h1 h2]; exact Int.le_refl _
    · rcases Nat.le_total i k with h3 | h3
      · have := betw_three o h3 h2; rw [this, betw_comm ws j k]; omega
      · have := betw_three o h3 h1; rw [betw_comm ws j k, betw_comm ws i k]; have e := betw_three o h3 h1; omega
    · rcases Nat.le_total i k with h3 | h3
      · have := betw_three o h1 h3; rw [betw_comm ws i j]; omega
      · have := betw_three o h2 h3; rw [betw_comm ws i j, betw_comm ws i k]; omega
    · have := betw_three o h2 h1; rw [betw_comm ws i j, betw_comm ws j k, betw_comm ws i k]; omega
  exact key _ _ _
end Dm

namespace Dm
open PySem PySem.Spec PyProof.Rows L2
theorem putAt_get {α : Type} {xs : List α} {k : Nat} (h : k ≤ xs.length) (x : α) (u : Nat) : (putAt xs k x)[u]? = if u < k then xs[u]? else if u = k then some x else xs[u - 1]? := by
  unfold putAt
  have hj' : (xs.take k).length = k := by rw [List.length_take]; omega
  split
  · rename_i h
    rw [List.append_assoc, List.getElem?_append_left (by omega), List.getElem?_take_of_lt h]
  · rename_i h
    rw [List.append_assoc, List.getElem?_append_right (by omega), hj']
    split
    · rename_i h2; subst h2; simp
    · rename_i h2
      rw [show u - k = (u - k - 1) + 1 by omega, List.singleton_append, List.getElem?_cons_succ, List.getElem?_drop]
      congr 1
      omega
theorem idx_old {zs : List Str} (hn : zs.Nodup) {l x : Str} (hl : l ∉ zs) (hx : x ∈ zs) {k : Nat} (h : k ≤ zs.length) : (putAt zs k l).idxOf x = if zs.idxOf x < k then zs.idxOf x else zs.idxOf x + 1 := by
  have hi := List.idxOf_lt_length_iff.mpr hx
  have nd : (putAt zs k l).Nodup := (putAt_perm zs k l).nodup_iff.mpr (List.nodup_cons.mpr ⟨hl, hn⟩)
  refine idx_of nd ?_
  rw [putAt_get h]
  split
  · rename_i h2
    first | rw [if_pos h2, List.getElem?_eq_getElem hi, List.getElem_idxOf] | (rw [List.getElem?_eq_getElem hi, List.getElem_idxOf])
  · rename_i h2
    first | rw [if_neg (by omega), if_neg (by omega), Nat.add_sub_cancel, List.getElem?_eq_getElem hi, List.getElem_idxOf] | rw [if_neg (by omega), Nat.add_sub_cancel, List.getElem?_eq_getElem hi, List.getElem_idxOf]
theorem dl_three {zs : List Str} {ws : List Int} (o : OrdZ zs ws) {a b c : Str} (h1 : zs.idxOf a ≤ zs.idxOf b) (h2 : zs.idxOf b ≤ zs.idxOf c) : dl zs ws a c = min (dl zs ws a b) (dl zs ws b c) := betw_three o h1 h2
theorem put_newA {zs : List Str} {ws : List Int} (o : OrdZ zs ws) {a l : Str} {s : Int} (r : RuleZ "after" a s l) (ha : a ∈ zs) (hl : l ∉ zs) (hm : zs.length < 12) {m : Nat} (h1 : m ≤ 12) (h2 : Stops (goA zs ws s (zs.idxOf a)) m) {x : Str} (hx : x ∈ zs) :
    dl (putAt zs (zs.idxOf a + 1 + m) l) (putAt ws (zs.idxOf a + m) s) l x = min s (dl zs ws a x) := by
  have p : Put zs ws a s "after" (zs.idxOf a + 1 + m) (zs.idxOf a + m) := .after m h1 h2
  have hle := p.le ha o.len
  have oo := put_ord o r ha hl hm p
  have hi := List.idxOf_lt_length_iff.mpr ha
  have hlt : zs.idxOf a + m < zs.length := by omega
  have hw := o.len
  obtain ⟨y, hy, hyz, hyi⟩ : ∃ y, y ∈ zs ∧ zs[zs.idxOf a + m]? = some y ∧ zs.idxOf y = zs.idxOf a + m := ⟨zs[zs.idxOf a + m], List.getElem_mem _, List.getElem?_eq_getElem hlt, o.nod.idxOf_getElem _ hlt⟩
  have il : (putAt zs (zs.idxOf a + 1 + m) l).idxOf l = zs.idxOf a + 1 + m := idx_put hl hle.1
  have iy : (putAt zs (zs.idxOf a + 1 + m) l).idxOf y = zs.idxOf a + m := by rw [idx_old o.nod hl hy hle.1, hyi, if_pos (by omega)]
  have ix := idx_old o.nod hl hx hle.1
  have hyl : dl (putAt zs (zs.idxOf a + 1 + m) l) (putAt ws (zs.idxOf a + m) s) y l = s := by
    unfold dl
    rw [iy, il]
    have hj : zs.idxOf a + m < (putAt ws (zs.idxOf a + m) s).length := by rw [putAt_len hle.2]; omega
    have e := betw_next oo hj
    rw [show zs.idxOf a + m + 1 = zs.idxOf a + 1 + m by omega] at e
    rw [e]
    have g := putAt_get hle.2 s (zs.idxOf a + m)
    rw [if_neg (by omega), if_pos rfl, List.getElem?_eq_getElem hj] at g
    exact Option.some.inj g
  -- the anchor and y
  have hay : s < dl zs ws a y := by
    have st := stopA_same o h2
    by_cases h0 : m = 0
    · have : y = a := by
        subst h0
        rw [Nat.add_zero, List.getElem?_eq_getElem hi, List.getElem_idxOf] at hyz
        exact (Option.some.inj hyz).symm
      rw [this, dl_rfl]
      have := r.hi
      omega
    · have := st.on (m - 1) (by omega)
      unfold goA' at this
      simp only [Bool.and_eq_true, decide_eq_true_eq] at this
      unfold dl
      rw [hyi, show zs.idxOf a + m = zs.idxOf a + 1 + (m - 1) by omega]
      exact this.2
  have u1 := dl_ultra o ha hy hx
  have u2 := dl_ultra o hy ha hx
  rw [dl_sym zs ws y a] at u2
  have old := put_old o r ha hl hm p hy hx
  rw [dl_sym (putAt zs (zs.idxOf a + 1 + m) l)]
  by_cases hc : zs.idxOf x < zs.idxOf a + 1 + m
  · rw [if_pos hc] at ix
    have t := dl_three oo (a := x) (b := y) (c := l) (by omega) (by omega)
    rw [hyl, dl_sym (putAt zs (zs.idxOf a + 1 + m) l) _ x y, old] at t
    rw [t]
    omega
  · rw [if_neg hc] at ix
    have t := dl_three oo (a := y) (b := l) (c := x) (by omega) (by omega)
    rw [hyl, old] at t
    -- behind the letter stands what stood there
    have hk : zs.idxOf a + 1 + m < zs.length := by have := List.idxOf_lt_length_iff.mpr hx; omega
    obtain ⟨hs, _⟩ := p.stop ha (by omega) hk
    rw [show zs.idxOf a + 1 + m - 1 = zs.idxOf a + m by omega, List.getElem?_eq_getElem (by omega), Option.getD_some] at hs
    have hz : dl zs ws y x ≤ s := by
      have e := betw_next o (i := zs.idxOf a + m) (by omega)
      have t2 : dl zs ws y x = min (betw ws (zs.idxOf a + m) (zs.idxOf a + m + 1)) (betw ws (zs.idxOf a + m + 1) (zs.idxOf x)) := by
        unfold dl
        rw [hyi]
        exact betw_three o (by omega) (by omega)
      rw [e] at t2
      omega
    have hlx : dl (putAt zs (zs.idxOf a + 1 + m) l) (putAt ws (zs.idxOf a + m) s) l x ≤ s := by
      have hj : zs.idxOf a + 1 + m < (putAt ws (zs.idxOf a + m) s).length := by rw [putAt_len hle.2]; omega
      have e := betw_next oo hj
      have t2 : dl (putAt zs (zs.idxOf a + 1 + m) l) (putAt ws (zs.idxOf a + m) s) l x = min (betw (putAt ws (zs.idxOf a + m) s) (zs.idxOf a + 1 + m) (zs.idxOf a + 1 + m + 1)) (betw (putAt ws (zs.idxOf a + m) s) (zs.idxOf a + 1 + m + 1) (zs.idxOf x + 1)) := by
        unfold dl
        rw [il, ix]
        exact betw_three oo (by omega) (by omega)
      have g := putAt_get hle.2 s (zs.idxOf a + 1 + m)
      rw [if_neg (by omega), if_neg (by omega), List.getElem?_eq_getElem hj, show zs.idxOf a + 1 + m - 1 = zs.idxOf a + m by omega, List.getElem?_eq_getElem (by omega)] at g
      have g := Option.some.inj g
      rw [e, g] at t2
      omega
    rw [dl_sym (putAt zs (zs.idxOf a + 1 + m) l)]
    omega
theorem other_ok {side : Str} (h : side = "after" ∨ side = "before") : otherSide side = "after" ∨ otherSide side = "before" := by
  rcases h with rfl | rfl
  · exact .inr (if_pos rfl)
  · exact .inl (if_neg ab_ne)
theorem RuleZ.other {side a l : Str} {s : Int} (r : RuleZ side a s l) : RuleZ (otherSide side) a s l := ⟨other_ok r.side', r.anc, r.let', r.ne, r.lo, r.hi⟩
theorem put_new {zs : List Str} {ws : List Int} (o : OrdZ zs ws) {side a l : Str} {s : Int} (r : RuleZ side a s l) (ha : a ∈ zs) (hl : l ∉ zs) (hm : zs.length < 12) {k j : Nat} (p : Put zs ws a s side k j) {x : Str} (hx : x ∈ zs) :
    dl (putAt zs k l) (putAt ws j s) l x = min s (dl zs ws a x) := by
  have hle := p.le ha o.len
  have oo := put_ord o r ha hl hm p
  rcases r.side' with rfl | rfl
  · cases p with
    | after m h1 h2 => exact put_newA o r ha hl hm h1 h2 hx
  · have pr := p.rev o ha
    have e : otherSide "before" = "after" := if_neg ab_ne
    have rr := r.other
    rw [e] at pr rr
    have ro := rev_ord o
    have ham : a ∈ zs.reverse := List.mem_reverse.mpr ha
    have hlm : l ∉ zs.reverse := fun h => hl (List.mem_reverse.mp h)
    have e1 := putAt_rev zs k l hle.1
    have e2 := putAt_rev ws j s hle.2
    have hin : l ∈ putAt zs k l := (putAt_perm zs k l).mem_iff.mpr (by simp)
    have hxi : x ∈ putAt zs k l := (putAt_perm zs k l).mem_iff.mpr (List.mem_cons_of_mem _ hx)
    have rd := rev_dl oo hin hxi
    rw [e1, e2] at rd
    rw [← rd, ← rev_dl o ha hx]
    generalize zs.length - k = k' at pr
    generalize ws.length - j = j' at pr
    cases pr with
    | after m h1 h2 => exact put_newA ro rr ham hlm (by rw [List.length_reverse]; exact hm) h1 h2 (List.mem_reverse.mpr hx)
def nearA (zs : List Str) (ws : List Int) (a : Str) (s : Int) (side x : Str) : Bool := if side = "after" then decide (zs.idxOf x ≤ zs.idxOf a) || decide (s < dl zs ws a x) else decide (zs.idxOf x < zs.idxOf a) && decide (dl zs ws a x ≤ s)
theorem take_filter {zs : List Str} (hn : zs.Nodup) {k : Nat} (hk : k ≤ zs.length) {P : Str → Bool} (h : ∀ x ∈ zs, (P x = true ↔ zs.idxOf x < k)) : zs.take k = zs.filter P ∧ zs.drop k = zs.filter fun x => !P x := by
  have e := List.take_append_drop k zs
  have h1 : ∀ x ∈ zs.take k, P x = true := fun x hx => by
    obtain ⟨i, hi, rfl⟩ := List.mem_iff_getElem.mp hx
    rw [List.length_take] at hi
    rw [List.getElem_take]
    refine (h _ (List.getElem_mem _)).mpr ?_
    rw [hn.idxOf_getElem i (by omega)]
    omega
  have h2 : ∀ x ∈ zs.drop k, P x = false := fun x hx => by
    obtain ⟨i, hi, rfl⟩ := List.mem_iff_getElem.mp hx
    rw [List.length_drop] at hi
    rw [List.getElem_drop]
    cases q : P (zs[k + i]'(by omega)) with
    | false => rfl
    | true =>
      have := (h _ (List.getElem_mem _)).mp q
      rw [hn.idxOf_getElem (k + i) (by omega)] at this
      omega
  constructor
  · conv => rhs; rw [← e]
    rw [List.filter_append, List.filter_eq_self.mpr h1, List.filter_eq_nil_iff.mpr fun x hx => by rw [h2 x hx]; exact Bool.false_ne_true, List.append_nil]
  · conv => rhs; rw [← e]
    rw [List.filter_append, List.filter_eq_nil_iff.mpr fun x hx => by rw [h1 x hx]; simp, List.filter_eq_self.mpr fun x hx => by rw [h2 x hx]; rfl, List.nil_append]
theorem Put.near {zs : List Str} {ws : List Int} (o : OrdZ zs ws) {side a : Str} {s : Int} (ha : a ∈ zs) {k j : Nat} (p : Put zs ws a s side k j) : zs.take k = zs.filter (nearA zs ws a s side) ∧ zs.drop k = zs.filter fun x => !nearA zs ws a s side x := by
  have hle := p.le ha o.len
  have hi := List.idxOf_lt_length_iff.mpr ha
  refine take_filter o.nod hle.1 fun x hx => ?_
  have hxi := List.idxOf_lt_length_iff.mpr hx
  cases p with
  | after m h1 h2 =>
    have st := stopA_same o h2
    unfold nearA
    rw [if_pos rfl]
    simp only [Bool.or_eq_true, decide_eq_true_eq]
    by_cases c : zs.idxOf x < zs.idxOf a + 1 + m
    · refine ⟨fun _ => c, fun _ => ?_⟩
      by_cases c2 : zs.idxOf x ≤ zs.idxOf a
      · exact .inl c2
      · refine .inr ?_
        have := st.on (zs.idxOf x - zs.idxOf a - 1) (by omega)
        unfold goA' at this
        simp only [Bool.and_eq_true, decide_eq_true_eq] at this
        unfold dl
        have e : zs.idxOf a + 1 + (zs.idxOf x - zs.idxOf a - 1) = zs.idxOf x := by omega
        rw [e] at this
        exact this.2
    · refine ⟨fun q => ?_, fun q => absurd q c⟩
      rcases q with q | q
      · omega
      · exfalso
        have off := st.off
        unfold goA' at off
        rw [decide_eq_true (show zs.idxOf a + 1 + m < zs.length by omega), Bool.true_and, decide_eq_false_iff_not] at off
        have t : dl zs ws a x = min (betw ws (zs.idxOf a) (zs.idxOf a + 1 + m)) (betw ws (zs.idxOf a + 1 + m) (zs.idxOf x)) := betw_three o (by omega) (by omega)
        omega
  | before m h1 h2 =>
    have st := stopB_same o hi h2
    unfold nearA
    rw [if_neg ab_ne]
    simp only [Bool.and_eq_true, decide_eq_true_eq]
    by_cases c : zs.idxOf x < zs.idxOf a - m
    · refine ⟨fun _ => c, fun _ => ⟨by omega, ?_⟩⟩
      have off := st.off
      unfold goB' at off
      rw [decide_eq_true (show m < zs.idxOf a by omega), Bool.true_and, decide_eq_false_iff_not] at off
      have t : dl zs ws x a = min (betw ws (zs.idxOf x) (zs.idxOf a - m - 1)) (betw ws (zs.idxOf a - m - 1) (zs.idxOf a)) := betw_three o (by omega) (by omega)
      rw [betw_comm ws (zs.idxOf a - m - 1)] at t
      rw [dl_sym]
      omega
    · refine ⟨fun q => ?_, fun q => absurd q c⟩
      exfalso
      have := st.on (zs.idxOf a - zs.idxOf x - 1) (by omega)
      unfold goB' at this
      simp only [Bool.and_eq_true, decide_eq_true_eq] at this
      have e : zs.idxOf a - (zs.idxOf a - zs.idxOf x - 1) - 1 = zs.idxOf x := by omega
      rw [e] at this
      have q2 := q.2
      unfold dl at q2
      omega
theorem idx_filter {zs : List Str} (hn : zs.Nodup) (P : Str → Bool) {x y : Str} (hx : x ∈ zs.filter P) (hy : y ∈ zs.filter P) : (zs.filter P).idxOf x < (zs.filter P).idxOf y ↔ zs.idxOf x < zs.idxOf y := by
  have pw := List.Pairwise.filter P (idx_pair hn)
  have h1 := List.idxOf_lt_length_iff.mpr hx
  have h2 := List.idxOf_lt_length_iff.mpr hy
  have key : ∀ {i j : Nat} (hi : i < (zs.filter P).length) (hj : j < (zs.filter P).length), i < j → zs.idxOf (zs.filter P)[i] < zs.idxOf (zs.filter P)[j] := fun {i j} hi hj hij => List.pairwise_iff_getElem.mp pw i j hi hj hij
  have ex : (zs.filter P)[(zs.filter P).idxOf x] = x := List.getElem_idxOf h1
  have ey : (zs.filter P)[(zs.filter P).idxOf y] = y := List.getElem_idxOf h2
  constructor
  · intro h
    have := key h1 h2 h
    rwa [ex, ey] at this
  · intro h
    rcases Nat.lt_trichotomy ((zs.filter P).idxOf x) ((zs.filter P).idxOf y) with q | q | q
    · exact q
    · have : x = y := by rw [← ex, ← ey]; simp only [q]
      rw [this] at h
      exact absurd h (Nat.lt_irrefl _)
    · have := key h2 h1 q
      rw [ex, ey] at this
      omega
theorem near_out {zs : List Str} {ws : List Int} (o : OrdZ zs ws) (P : Str → Bool) {a : Str} (ha : a ∈ outZ zs P) {s : Int} {side x : Str} (hx : x ∈ outZ zs P) : nearA (outZ zs P) (outW zs ws P) a s side x = nearA zs ws a s side x := by
  have hd := out_dl o P ha hx
  have i1 := idx_filter o.nod P hx ha
  have i2 := idx_filter o.nod P ha hx
  unfold nearA
  rw [hd]
  have e1 : decide ((outZ zs P).idxOf x ≤ (outZ zs P).idxOf a) = decide (zs.idxOf x ≤ zs.idxOf a) := decide_eq_decide.mpr (by
    have : (outZ zs P).idxOf a < (outZ zs P).idxOf x ↔ zs.idxOf a < zs.idxOf x := i2
    omega)
  have e2 : decide ((outZ zs P).idxOf x < (outZ zs P).idxOf a) = decide (zs.idxOf x < zs.idxOf a) := decide_eq_decide.mpr i1
  rw [e1, e2]
end Dm

namespace Dm
open PySem PySem.Spec PyProof.Rows L2
theorem res_dl {o : Odr} {r : Rul} (ho : o.ok) (hr : r.ok) (hn : whyR o r = none) {x y : Str} (hx : x ∈ o.zs) (hy : y ∈ o.zs) (hxl : x ≠ r.l) (hyl : y ≠ r.l) : dl (resO o r).zs (resO o r).ws x y = dl o.zs o.ws x y := by
  obtain ⟨ha, hc⟩ := why_none ho hn
  obtain ⟨k, j, p, e⟩ := resO_puts ho hr ha
  rw [e]
  have oo := out_ord ho (outP [r.l])
  have hx' := in_out hx hxl
  have hy' := in_out hy hyl
  show dl (putAt (outZ o.zs (outP [r.l])) k r.l) (putAt (outW o.zs o.ws (outP [r.l])) j r.s) x y = _
  rw [put_old oo hr (in_out ha hr.ne) (out_not _ _) (out_lt ho.most ho.nod hc) p hx' hy']
  exact out_dl ho (outP [r.l]) hx' hy'
end Dm

namespace Dm
open PySem PySem.Spec PyProof.Rows L2
def lt (o : Odr) (x y : Str) : Prop := o.zs.idxOf x < o.zs.idxOf y
def df (o : Odr) (x y : Str) : Int := dl o.zs o.ws x y
instance (o : Odr) (x y : Str) : Decidable (lt o x y) := inferInstanceAs (Decidable (_ < _))
theorem lt_asym {o : Odr} {x y : Str} (h : lt o x y) : ¬ lt o y x := Nat.lt_asymm h
theorem lt_irr {o : Odr} {x : Str} : ¬ lt o x x := Nat.lt_irrefl _
theorem lt_tri {o : Odr} {x y : Str} (hx : x ∈ o.zs) (hy : y ∈ o.zs) (h : x ≠ y) : lt o x y ∨ lt o y x := by
  unfold lt
  rcases Nat.lt_trichotomy (o.zs.idxOf x) (o.zs.idxOf y) with q | q | q
  · exact .inl q
  · refine absurd ?_ h
    have e1 := List.getElem_idxOf (List.idxOf_lt_length_iff.mpr hx)
    have e2 := List.getElem_idxOf (List.idxOf_lt_length_iff.mpr hy)
    rw [← e1, ← e2]
    simp only [q]
  · exact .inr q
theorem df_sym (o : Odr) (x y : Str) : df o x y = df o y x := dl_sym _ _ _ _
theorem df_self (o : Odr) (x : Str) : df o x x = 4 := dl_rfl _ _ _
theorem df_in {o : Odr} (ho : o.ok) {x y : Str} (hx : x ∈ o.zs) (hy : y ∈ o.zs) (h : x ≠ y) : 1 ≤ df o x y ∧ df o x y ≤ 3 := dl_in ho hx hy h
def Near (o : Odr) (r : Rul) (x : Str) : Prop := if r.side = "after" then (¬ lt o r.a x ∨ r.s < df o r.a x) else (lt o x r.a ∧ df o r.a x ≤ r.s)
structure IsRes (o : Odr) (r : Rul) (p : Odr) : Prop where
  ok : p.ok
  mem : ∀ z, z ∈ p.zs ↔ z ∈ o.zs ∨ z = r.l
  old : ∀ x y, x ∈ o.zs → y ∈ o.zs → x ≠ r.l → y ≠ r.l → (lt p x y ↔ lt o x y)
  oldD : ∀ x y, x ∈ o.zs → y ∈ o.zs → x ≠ r.l → y ≠ r.l → df p x y = df o x y
  newD : ∀ x, x ∈ o.zs → x ≠ r.l → df p r.l x = min r.s (df o r.a x)
  at' : ∀ x, x ∈ o.zs → x ≠ r.l → (lt p x r.l ↔ Near o r x)
theorem nearA_iff (o : Odr) (r : Rul) (x : Str) : nearA o.zs o.ws r.a r.s r.side x = true ↔ Near o r x := by
  unfold nearA Near lt df
  split
  · rw [Bool.or_eq_true, decide_eq_true_eq, decide_eq_true_eq, Nat.not_lt]
  · rw [Bool.and_eq_true, decide_eq_true_eq, decide_eq_true_eq]
theorem isRes {o : Odr} {r : Rul} (ho : o.ok) (hr : r.ok) (hn : whyR o r = none) : IsRes o r (resO o r) := by
  obtain ⟨ha, hc⟩ := why_none ho hn
  obtain ⟨k, j, p, e⟩ := resO_puts ho hr ha
  have oo := out_ord ho (outP [r.l])
  have ha1 := in_out ha hr.ne
  have hl1 := out_not o.zs r.l
  have hm1 := out_lt ho.most ho.nod hc
  have hle := p.le ha1 oo.len
  have inn : ∀ x, x ∈ o.zs → x ≠ r.l → x ∈ outZ o.zs (outP [r.l]) := fun x hx hne => in_out hx hne
  have ez : (resO o r).zs = putAt (outZ o.zs (outP [r.l])) k r.l := by rw [e]
  have ew : (resO o r).ws = putAt (outW o.zs o.ws (outP [r.l])) j r.s := by rw [e]
  have idx : ∀ x y, x ∈ outZ o.zs (outP [r.l]) → y ∈ outZ o.zs (outP [r.l]) → ((outZ o.zs (outP [r.l])).idxOf x < (outZ o.zs (outP [r.l])).idxOf y ↔ o.zs.idxOf x < o.zs.idxOf y) := fun x y hx hy => idx_filter ho.nod (outP [r.l]) hx hy
  refine ⟨res_ok ho hr hn, fun z => res_mem ho hr ha z, fun x y hx hy hxl hyl => ?_, fun x y hx hy hxl hyl => ?_, fun x hx hxl => ?_, fun x hx hxl => ?_⟩
  · unfold lt
    rw [ez, idx_old oo.nod hl1 (inn x hx hxl) hle.1, idx_old oo.nod hl1 (inn y hy hyl) hle.1, ← idx x y (inn x hx hxl) (inn y hy hyl)]
    split <;> split <;> omega
  · exact res_dl ho hr hn hx hy hxl hyl
  · unfold df
    rw [ez, ew, put_new oo hr ha1 hl1 hm1 p (inn x hx hxl), out_dl ho (outP [r.l]) ha1 (inn x hx hxl)]
  · rw [← nearA_iff, ← near_out ho (outP [r.l]) ha1 (inn x hx hxl)]
    unfold lt
    rw [ez, idx_put hl1 hle.1, idx_old oo.nod hl1 (inn x hx hxl) hle.1]
    have nr := (p.near oo ha1).1
    have hx1 := inn x hx hxl
    have hxi := List.idxOf_lt_length_iff.mpr hx1
    have key : (outZ o.zs (outP [r.l])).idxOf x < k ↔ x ∈ (outZ o.zs (outP [r.l])).take k := by
      constructor
      · intro h
        have : (outZ o.zs (outP [r.l]))[(outZ o.zs (outP [r.l])).idxOf x] = x := List.getElem_idxOf hxi
        rw [← this]
        exact List.mem_take_iff_getElem.mpr ⟨_, by omega, rfl⟩
      · intro h
        obtain ⟨i, hi, hix⟩ := List.mem_take_iff_getElem.mp h
        have hil : i < (outZ o.zs (outP [r.l])).length := by omega
        have h3 : (outZ o.zs (outP [r.l]))[i]? = some x := by rw [List.getElem?_eq_getElem hil, hix]
        have h4 : (outZ o.zs (outP [r.l])).idxOf x = i := idx_of oo.nod h3
        omega
    rw [nr, List.mem_filter] at key
    have key2 : (outZ o.zs (outP [r.l])).idxOf x < k ↔ nearA (outZ o.zs (outP [r.l])) (outW o.zs o.ws (outP [r.l])) r.a r.s r.side x = true := ⟨fun h => (key.mp h).2, fun h => key.mpr ⟨hx1, h⟩⟩
    rw [← key2]
    split <;> omega
theorem odr_ext {p q : Odr} (hp : p.ok) (hq : q.ok) (hm : ∀ z, z ∈ p.zs ↔ z ∈ q.zs) (hl : ∀ x y, x ∈ p.zs → y ∈ p.zs → x ≠ y → (lt p x y ↔ lt q x y)) (hd : ∀ x y, x ∈ p.zs → y ∈ p.zs → x ≠ y → df p x y = df q x y) : p = q := by
  have hperm : p.zs.Perm q.zs := (List.perm_ext_iff_of_nodup hp.nod hq.nod).mpr hm
  have h1 : p.zs.Pairwise fun a b => p.zs.idxOf a < p.zs.idxOf b := idx_pair hp.nod
  have h2 : q.zs.Pairwise fun a b => q.zs.idxOf a < q.zs.idxOf b := idx_pair hq.nod
  have h2' : q.zs.Pairwise fun a b => p.zs.idxOf a < p.zs.idxOf b := by
    refine List.Pairwise.imp_of_mem (fun {a b} ha hb h => ?_) h2
    have hne : a ≠ b := fun e => by rw [e] at h; exact Nat.lt_irrefl _ h
    exact (hl a b ((hm a).mpr ha) ((hm b).mpr hb) hne).mpr h
  have ez : p.zs = q.zs := List.Perm.eq_of_pairwise (fun a b _ _ h h' => absurd h' (Nat.lt_asymm h)) h1 h2' hperm
  have ew : p.ws = q.ws := by
    rw [← adj_self hp, ← adj_self hq, ez]
    refine adj_congr fun a ha b hb => ?_
    rw [← ez] at ha hb
    by_cases hab : a = b
    · subst hab
      rw [dl_rfl, dl_rfl]
    · have := hd a b ha hb hab
      unfold df at this
      rw [ez] at this
      exact this
  cases p; cases q
  cases ez; cases ew
  rfl
end Dm

namespace Dm
open PySem PySem.Spec PyProof.Rows L2
structure Free (r t : Rul) : Prop where
  ll : r.l ≠ t.l
  al : r.a ≠ t.l
  la : t.a ≠ r.l
  free : r.side ≠ t.side ∨ r.s ≠ t.s ∨ (r.a ≠ t.a ∧ r.s = 3)
theorem Free.symm {r t : Rul} (f : Free r t) : Free t r := ⟨f.ll.symm, f.la, f.al, by
  rcases f.free with h | h | ⟨h1, h2⟩
  · exact .inl h.symm
  · exact .inr (.inl h.symm)
  · by_cases h : t.s = 3
    · exact .inr (.inr ⟨h1.symm, h⟩)
    · exact .inr (.inl (by omega))⟩
theorem near_old {o p : Odr} {r t : Rul} (h : IsRes o r p) (f : Free r t) {x : Str} (hta : t.a ∈ o.zs) (hx : x ∈ o.zs) (hxl : x ≠ r.l) : Near p t x ↔ Near o t x := by
  unfold Near
  rw [h.old t.a x hta hx f.la hxl, h.old x t.a hx hta hxl f.la, h.oldD t.a x hta hx f.la hxl]
theorem cross_pure {P1 P2 E : Prop} {d s1 s2 : Int} (lo1 : 1 ≤ s1) (hi1 : s1 ≤ 3) (lo2 : 1 ≤ s2) (hi2 : s2 ≤ 3)
    (h : (P1 ∧ ¬ P2 ∧ 1 ≤ d ∧ d ≤ 3 ∧ ¬ E) ∨ (P2 ∧ ¬ P1 ∧ 1 ≤ d ∧ d ≤ 3 ∧ ¬ E) ∨ (¬ P1 ∧ ¬ P2 ∧ d = 4 ∧ E)) :
    ((s1 ≠ s2 ∨ (¬ E ∧ s1 = 3)) → ((¬ (¬ P1 ∨ s1 < d) ∨ s2 < min s1 d) ↔ ¬ (¬ (¬ P2 ∨ s2 < d) ∨ s1 < min s2 d))) ∧
    ((¬ (¬ P1 ∨ s1 < d) ∧ min s1 d ≤ s2) ↔ ¬ (¬ (P1 ∧ d ≤ s2) ∨ s1 < min s2 d)) ∧
    ((¬ (P2 ∧ d ≤ s1) ∨ s2 < min s1 d) ↔ ¬ (¬ (¬ P2 ∨ s2 < d) ∧ min s2 d ≤ s1)) ∧
    ((s1 ≠ s2 ∨ (¬ E ∧ s1 = 3)) → ((¬ (P2 ∧ d ≤ s1) ∧ min s1 d ≤ s2) ↔ ¬ (¬ (P1 ∧ d ≤ s2) ∧ min s2 d ≤ s1))) := by
  rcases h with ⟨q1, q2, q3, q4, q5⟩ | ⟨q1, q2, q3, q4, q5⟩ | ⟨q1, q2, q3, q5⟩ <;> simp only [q1, q2, q5, not_true_eq_false, not_false_eq_true, false_or, true_or, true_and, false_and, or_false, or_true, and_true, and_false] <;> (repeat' apply And.intro) <;> intros <;> omega
theorem near_cross {o p p' : Odr} {r t : Rul} (ho : o.ok) (hr : r.ok) (ht : t.ok) (h1 : IsRes o r p) (h3 : IsRes o t p') (f : Free r t) (hra : r.a ∈ o.zs) (hta : t.a ∈ o.zs) : Near p t r.l ↔ ¬ Near p' r t.l := by
  have b1 : lt p t.a r.l ↔ Near o r t.a := h1.at' t.a hta f.la
  have b2 : lt p' r.a t.l ↔ Near o t r.a := h3.at' r.a hra f.al
  have c1 : lt p r.l t.a ↔ ¬ Near o r t.a := by
    rw [← b1]
    have m1 : r.l ∈ p.zs := (h1.mem _).mpr (.inr rfl)
    have m2 : t.a ∈ p.zs := (h1.mem _).mpr (.inl hta)
    exact ⟨lt_asym, fun h => (lt_tri m1 m2 f.la.symm).resolve_right h⟩
  have c2 : lt p' t.l r.a ↔ ¬ Near o t r.a := by
    rw [← b2]
    have m1 : t.l ∈ p'.zs := (h3.mem _).mpr (.inr rfl)
    have m2 : r.a ∈ p'.zs := (h3.mem _).mpr (.inl hra)
    exact ⟨lt_asym, fun h => (lt_tri m1 m2 f.al.symm).resolve_right h⟩
  have d1 : df p t.a r.l = min r.s (df o r.a t.a) := by rw [df_sym]; exact h1.newD t.a hta f.la
  have d2 : df p' r.a t.l = min t.s (df o r.a t.a) := by rw [df_sym, h3.newD r.a hra f.al, df_sym o]
  have lo1 := hr.lo
  have hi1 := hr.hi
  have lo2 := ht.lo
  have hi2 := ht.hi
  have fr := f.free
  -- what stands between the anchors
  have cases3 : (lt o r.a t.a ∧ ¬ lt o t.a r.a ∧ 1 ≤ df o r.a t.a ∧ df o r.a t.a ≤ 3 ∧ r.a ≠ t.a) ∨ (lt o t.a r.a ∧ ¬ lt o r.a t.a ∧ 1 ≤ df o r.a t.a ∧ df o r.a t.a ≤ 3 ∧ r.a ≠ t.a) ∨ (¬ lt o r.a t.a ∧ ¬ lt o t.a r.a ∧ df o r.a t.a = 4 ∧ r.a = t.a) := by
    by_cases e : r.a = t.a
    · refine .inr (.inr ⟨?_, ?_, ?_, e⟩)
      · rw [e]; exact lt_irr
      · rw [e]; exact lt_irr
      · rw [e]; exact df_self _ _
    · have hd := df_in ho hra hta e
      rcases lt_tri hra hta e with h | h
      · exact .inl ⟨h, lt_asym h, hd.1, hd.2, e⟩
      · exact .inr (.inl ⟨h, lt_asym h, hd.1, hd.2, e⟩)
  have sd1 := hr.side'
  have sd2 := ht.side'
  have e1 : df o t.a r.a = df o r.a t.a := df_sym _ _ _
  have key := fun (P1 P2 E : Prop) (d : Int) => cross_pure (P1 := P1) (P2 := P2) (E := E) (d := d) lo1 hi1 lo2 hi2
  unfold Near at b1 b2 c1 c2 ⊢
  rw [d1, d2, b1, b2, c1, c2, e1]
  rcases sd1 with s1e | s1e <;> rcases sd2 with s2e | s2e <;> rw [s1e, s2e] at fr <;> simp only [s1e, s2e, if_true, if_neg ab_ne]
  · exact (key _ _ _ _ cases3).1 (fr.resolve_left fun h => h rfl)
  · exact (key _ _ _ _ cases3).2.1
  · exact (key _ _ _ _ cases3).2.2.1
  · exact (key _ _ _ _ cases3).2.2.2 (fr.resolve_left fun h => h rfl)
theorem commute {o p q p' q' : Odr} {r t : Rul} (ho : o.ok) (hr : r.ok) (ht : t.ok) (hra : r.a ∈ o.zs) (hta : t.a ∈ o.zs) (f : Free r t) (h1 : IsRes o r p) (h2 : IsRes p t q) (h3 : IsRes o t p') (h4 : IsRes p' r q') : q = q' := by
  have mem : ∀ z, z ∈ q.zs ↔ z ∈ o.zs ∨ z = r.l ∨ z = t.l := fun z => by rw [h2.mem, h1.mem, or_assoc]
  have mem' : ∀ z, z ∈ q'.zs ↔ z ∈ o.zs ∨ z = r.l ∨ z = t.l := fun z => by
    rw [h4.mem, h3.mem, or_assoc, Or.comm (a := z = t.l)]
  have inp : ∀ z, z ∈ o.zs → z ∈ p.zs := fun z h => (h1.mem z).mpr (.inl h)
  have inp' : ∀ z, z ∈ o.zs → z ∈ p'.zs := fun z h => (h3.mem z).mpr (.inl h)
  have rlp : r.l ∈ p.zs := (h1.mem _).mpr (.inr rfl)
  have tlp : t.l ∈ p'.zs := (h3.mem _).mpr (.inr rfl)
  have three : ∀ z, z ∈ q.zs → z = r.l ∨ z = t.l ∨ (z ∈ o.zs ∧ z ≠ r.l ∧ z ≠ t.l) := fun z hz => by
    by_cases e1 : z = r.l
    · exact .inl e1
    · by_cases e2 : z = t.l
      · exact .inr (.inl e2)
      · refine .inr (.inr ⟨?_, e1, e2⟩)
        rcases (mem z).mp hz with h | h | h
        · exact h
        · exact absurd h e1
        · exact absurd h e2
  -- plain letters with the two that are put
  have xr : ∀ x, x ∈ o.zs → x ≠ r.l → x ≠ t.l → (lt q x r.l ↔ lt q' x r.l) := fun x hx n1 n2 => by
    rw [h2.old x r.l (inp x hx) rlp n2 f.ll, h1.at' x hx n1, h4.at' x (inp' x hx) n1, near_old h3 f.symm hra hx n2]
  have xt : ∀ x, x ∈ o.zs → x ≠ r.l → x ≠ t.l → (lt q x t.l ↔ lt q' x t.l) := fun x hx n1 n2 => by
    rw [h2.at' x (inp x hx) n2, near_old h1 f hta hx n1, h4.old x t.l (inp' x hx) tlp n1 f.ll.symm, h3.at' x hx n2]
  have rt : lt q r.l t.l ↔ lt q' r.l t.l := by
    rw [h2.at' r.l rlp f.ll, near_cross ho hr ht h1 h3 f hra hta, ← h4.at' t.l tlp f.ll.symm]
    have m1 : r.l ∈ q'.zs := (mem' _).mpr (.inr (.inl rfl))
    have m2 : t.l ∈ q'.zs := (mem' _).mpr (.inr (.inr rfl))
    exact ⟨fun h => (lt_tri m1 m2 f.ll).resolve_right h, lt_asym⟩
  have flip : ∀ x y, x ∈ q.zs → y ∈ q.zs → x ≠ y → (lt q x y ↔ lt q' x y) → (lt q y x ↔ lt q' y x) := fun x y hx hy hne h => by
    have hx' : x ∈ q'.zs := (mem' x).mpr ((mem x).mp hx)
    have hy' : y ∈ q'.zs := (mem' y).mpr ((mem y).mp hy)
    constructor
    · intro k
      exact (lt_tri hx' hy' hne).resolve_left fun k' => lt_asym k (h.mpr k')
    · intro k
      exact (lt_tri hx hy hne).resolve_left fun k' => lt_asym k (h.mp k')
  have dxr : ∀ x, x ∈ o.zs → x ≠ r.l → x ≠ t.l → df q x r.l = df q' x r.l := fun x hx n1 n2 => by
    rw [h2.oldD x r.l (inp x hx) rlp n2 f.ll, df_sym, h1.newD x hx n1, df_sym q', h4.newD x (inp' x hx) n1, h3.oldD r.a x hra hx f.al n2]
  have dxt : ∀ x, x ∈ o.zs → x ≠ r.l → x ≠ t.l → df q x t.l = df q' x t.l := fun x hx n1 n2 => by
    rw [df_sym, h2.newD x (inp x hx) n2, h1.oldD t.a x hta hx f.la n1, h4.oldD x t.l (inp' x hx) tlp n1 f.ll.symm, df_sym p' x t.l, h3.newD x hx n2]
  have drt : df q r.l t.l = df q' r.l t.l := by
    rw [df_sym, h2.newD r.l rlp f.ll, df_sym p, h1.newD t.a hta f.la, h4.newD t.l tlp f.ll.symm, df_sym p', h3.newD r.a hra f.al, df_sym o]
    omega
  refine odr_ext h2.ok h4.ok (fun z => by rw [mem, mem']) (fun x y hx hy hne => ?_) (fun x y hx hy hne => ?_)
  · rcases three x hx with ex | ex | ⟨x1, x2, x3⟩ <;> rcases three y hy with ey | ey | ⟨y1, y2, y3⟩
    · exact absurd (ex.trans ey.symm) hne
    · rw [ex, ey]; exact rt
    · rw [ex]; exact flip y r.l hy (ex ▸ hx) y2 (xr y y1 y2 y3)
    · rw [ex, ey]; exact flip r.l t.l (ey ▸ hy) (ex ▸ hx) f.ll rt
    · exact absurd (ex.trans ey.symm) hne
    · rw [ex]; exact flip y t.l hy (ex ▸ hx) y3 (xt y y1 y2 y3)
    · rw [ey]; exact xr x x1 x2 x3
    · rw [ey]; exact xt x x1 x2 x3
    · rw [h2.old x y (inp x x1) (inp y y1) x3 y3, h1.old x y x1 y1 x2 y2, h4.old x y (inp' x x1) (inp' y y1) x2 y2, h3.old x y x1 y1 x3 y3]
  · rcases three x hx with ex | ex | ⟨x1, x2, x3⟩ <;> rcases three y hy with ey | ey | ⟨y1, y2, y3⟩
    · exact absurd (ex.trans ey.symm) hne
    · rw [ex, ey]; exact drt
    · rw [ex, df_sym, df_sym q']; exact dxr y y1 y2 y3
    · rw [ex, ey, df_sym, df_sym q']; exact drt
    · exact absurd (ex.trans ey.symm) hne
    · rw [ex, df_sym, df_sym q']; exact dxt y y1 y2 y3
    · rw [ey]; exact dxr x x1 x2 x3
    · rw [ey]; exact dxt x x1 x2 x3
    · rw [h2.oldD x y (inp x x1) (inp y y1) x3 y3, h1.oldD x y x1 y1 x2 y2, h4.oldD x y (inp' x x1) (inp' y y1) x2 y2, h3.oldD x y x1 y1 x3 y3]
end Dm

namespace Dm
open PySem PySem.Spec PyProof.Rows L2
end Dm

namespace Dm
open PySem PySem.Spec PyProof.Rows L2
end Dm

namespace Dm
open PySem PySem.Spec PyProof.Rows L2
end Dm

namespace Dm
open PySem PySem.Spec PyProof.Rows L2
structure Head (lo : Nat) (zs0 : List Str) (n : Nat) (zs : List Str) (ws : List Int) (side a : Str) (s : Int) (l : Str) : Prop where
  in0 : lettersIn zs0
  len0 : zs0.length = 12
  lo' : lo ≤ n
  hi : n ≤ 11
  perm : zs.Perm (zs0.take n)
  ord : OrdZ zs ws
  rule : RuleZ side a s l
  anc : a ∈ zs
  let' : l ∈ zs ++ (zs0.drop n).take 1
theorem Head.len {lo : Nat} {zs0 : List Str} {n : Nat} {zs : List Str} {ws : List Int} {side a : Str} {s : Int} {l : Str} (h : Head lo zs0 n zs ws side a s l) : zs.length = n := by
  rw [h.perm.length_eq, List.length_take, h.len0]
  have := h.hi
  omega
end Dm

namespace Dm
open PySem PySem.Spec PyProof.Rows L2
end Dm

namespace Dm
open PySem PySem.Spec PyProof.Rows L2
theorem rule_ok {side b l : Str} {t : Int} (hs : side = "after" ∨ side = "before") (hb : letterZ b = true) (hl : letterZ l = true) (n : Nat) : okN (n + 1) (ruleT side b t l) = true := by
  have hso : PyData.strOk side = true := by
    rcases hs with rfl | rfl
    · exact side_ok.1
    · exact side_ok.2
  have q : ∀ z : Str, PyData.strOk z = true → okN n (.str z) = true := fun z hz => by cases n <;> exact hz
  have qi : okN n (.int t) = true := by cases n <;> rfl
  show ([_, _, _, _] : List D).all (okN n) = true
  rw [List.all_cons, List.all_cons, List.all_cons, List.all_cons, q _ hso, q _ (letter_strOk hb), qi, q _ (letter_strOk hl)]
  rfl
theorem rule_good {side b l : Str} {t : Int} (hs : side = "after" ∨ side = "before") (hb : letterZ b = true) (hl : letterZ l = true) : good (ruleT side b t l) = true := by
  have h1 := letter_len hb
  have h2 := letter_len hl
  refine g_tup rfl (g_cons ?_ (g_cons (g_str (by omega)) (g_cons rfl (g_cons (g_str (by omega)) rfl))))
  rcases hs with rfl | rfl
  · exact g_str (by decide)
  · exact g_str (by decide)
theorem noLs_all : ∀ {xs : List D}, (∀ x ∈ xs, D.noL x = true) → D.noLs xs = true
  | [], _ => rfl
  | x :: xs, h => by
    rw [D.noLs, h x (by simp), noLs_all fun y hy => h y (List.mem_cons_of_mem _ hy)]
    rfl
end Dm

namespace Dm
open PySem PySem.Spec PyProof.Rows L2
end Dm

namespace Dm
open PySem PySem.Spec PyProof.Rows L2
end Dm

namespace Dm
open PySem PySem.Spec PyProof.Rows L2
end Dm

namespace Dm
open PySem PySem.Spec PyProof.Rows L2
structure Moved (zs : List Str) (ws : List Int) (L : List Str) (W : List Int) : Prop where
  perm : L.Perm zs
  len : W.length = ws.length
  str : ∀ w ∈ W, 1 ≤ w ∧ w ≤ 3
theorem Moved.ord {zs : List Str} {ws : List Int} (o : OrdZ zs ws) {L : List Str} {W : List Int} (m : Moved zs ws L W) : OrdZ L W :=
  ⟨by rw [m.perm.length_eq]; exact o.most, m.perm.nodup_iff.mpr o.nod, fun z hz => o.let' z (m.perm.mem_iff.mp hz), by rw [m.len, m.perm.length_eq]; exact o.len, m.str⟩
end Dm

namespace Dm
open PySem PySem.Spec PyProof.Rows L2
theorem x_loop1 (tg : SG) (body : SS) (x : D) (xs : List D) (S : SD) : loopT tg body (x :: xs) S = (tg (.d x) S).bnd fun S1 => (body S1).bnd fun o => (match o with | .nx S2 => loopT tg body xs S2 | .ct S2 => loopT tg body xs S2 | .bk S2 => .ret (.nx S2) | .rt r => .ret (.rt r)) := (rfl)
end Dm

namespace Dm
open PySem PySem.Spec PyProof.Rows L2
end Dm

namespace Dm
open PySem PySem.Spec PyProof.Rows L2
end Dm

namespace Dm
open PySem PySem.Spec PyProof.Rows L2
def seqsL : Nat → List (List Int)
  | 0 => [[]]
  | k + 1 => (seqsL k).flatMap fun r => ([1, 2, 3] : List Int).map fun x => r ++ [x]
end Dm

namespace Dm
open PySem PySem.Spec PyProof.Rows L2
theorem addL_ok {xs ys : List D} (h : xs.length + ys.length ≤ 100000) : addL (.lst xs) (.lst ys) = .ret (.own (xs ++ ys)) := by
  unfold addL
  simp only [h, if_true]
end Dm

namespace Dm
open PySem PySem.Spec PyProof.Rows L2
end Dm

namespace Dm
open PySem PySem.Spec PyProof.Rows L2
end Dm

namespace Dm
open PySem PySem.Spec PyProof.Rows L2
theorem perm_of_sub {r S : List Str} (h1 : r.Nodup) (h2 : S.Nodup) (h3 : ∀ z ∈ r, z ∈ S) (h4 : r.length = S.length) : r.Perm S := by
  refine (List.perm_ext_iff_of_nodup h1 h2).mpr fun z => ⟨h3 z, fun hz => ?_⟩
  apply Classical.byContradiction
  intro hn
  have := List.Nodup.length_le_of_subset (List.nodup_cons.mpr ⟨hn, h1⟩) (l₂ := S) (fun x hx => by
    rcases List.mem_cons.mp hx with rfl | hx
    · exact hz
    · exact h3 x hx)
  rw [List.length_cons] at this
  omega
end Dm

namespace Dm
open PySem PySem.Spec PyProof.Rows L2
noncomputable def shownB (r t : Rul) (o : Odr) : Bool := match runO [r, t] o 0, runO [t, r] o 0 with
  | .inl p, .inl q => !decide (p.zs = q.zs ∧ p.ws = q.ws)
  | _, _ => false
theorem run_two {r t : Rul} {o q : Odr} (ho : o.ok) (hr : r.ok) (h : runO [r, t] o 0 = .inl q) : whyR o r = none ∧ whyR (resO o r) t = none ∧ q = resO (resO o r) t := by
  rw [runO] at h
  cases h1 : whyR o r with
  | some y => rw [h1] at h; cases h
  | none =>
    rw [h1] at h
    have h : runO [t] (resO o r) 1 = .inl q := h
    rw [runO] at h
    cases h2 : whyR (resO o r) t with
    | some y => rw [h2] at h; cases h
    | none =>
      rw [h2] at h
      have h : Sum.inl (resO (resO o r) t) = (Sum.inl q : Odr ⊕ (Nat × Str)) := h
      injection h with h
      exact ⟨rfl, rfl, h.symm⟩
end Dm

namespace Dm
open PySem PySem.Spec PyProof.Rows L2
def exB (r t : Rul) : Bool := (decide (r.side = t.side) && decide (r.a = t.a) && decide (r.s = t.s) && decide (r.l = t.l)) || (!(decide (r.l = t.a) || decide (r.l = t.l) || decide (r.a = t.l)) && (!decide (r.side = t.side) || !decide (r.s = t.s) || (decide (r.s = 3) && !decide (r.a = t.a))))
theorem exB_free {r t : Rul} (h : exB r t = true) : r = t ∨ Free r t := by
  unfold exB at h
  rw [Bool.or_eq_true] at h
  rcases h with h | h
  · simp only [Bool.and_eq_true, decide_eq_true_eq] at h
    obtain ⟨⟨⟨h1, h2⟩, h3⟩, h4⟩ := h
    left
    cases r; cases t
    simp only at h1 h2 h3 h4
    rw [h1, h2, h3, h4]
  · simp only [Bool.and_eq_true, Bool.or_eq_true, Bool.not_eq_true', Bool.or_eq_false_iff, decide_eq_true_eq, decide_eq_false_iff_not] at h
    obtain ⟨⟨⟨h1, h2⟩, h3⟩, h4⟩ := h
    right
    refine ⟨h2, h3, fun e => h1 e.symm, ?_⟩
    rcases h4 with (h4 | h4) | ⟨h4, h5⟩
    · exact .inl h4
    · exact .inr (.inl h4)
    · exact .inr (.inr ⟨h5, h4⟩)
theorem shown_ex {r t : Rul} {o : Odr} (ho : o.ok) (hr : r.ok) (ht : t.ok) (h : shownB r t o = true) : exB r t = false := by
  cases he : exB r t with
  | false => rfl
  | true =>
    unfold shownB at h
    cases h1 : runO [r, t] o 0 with
    | inr q => rw [h1] at h; cases h
    | inl p =>
      cases h2 : runO [t, r] o 0 with
      | inr q => rw [h1, h2] at h; cases h
      | inl q =>
        rw [h1, h2] at h
        have h : (!decide (p.zs = q.zs ∧ p.ws = q.ws)) = true := h
        have epq : p = q := by
          rcases exB_free he with e | f
          · subst e
            rw [h1] at h2
            injection h2
          · obtain ⟨a1, a2, a3⟩ := run_two ho hr h1
            obtain ⟨b1, b2, b3⟩ := run_two ho ht h2
            have hra := (why_none ho a1).1
            have hta := (why_none ho b1).1
            rw [a3, b3]
            exact commute ho hr ht hra hta f (isRes ho hr a1) (isRes (res_ok ho hr a1) ht a2) (isRes ho ht b1) (isRes (res_ok ho ht b1) hr b2)
        rw [epq, decide_eq_true ⟨rfl, rfl⟩] at h
        cases h
end Dm

namespace Dm
open PySem PySem.Spec PyProof.Rows L2
end Dm

namespace Dm
open PySem PySem.Spec PyProof.Rows L2
end Dm

namespace Dm
open PySem PySem.Spec PyProof.Rows L2
end Dm

namespace Dm
open PySem PySem.Spec PyProof.Rows L2
def neA (a : Str) : D → Bool
  | .str z => !decide (z = a)
  | _ => false
theorem neA_filter (a : Str) (L : List Str) : ((L.map D.str).filter (neA a)).map id = (L.filter fun z => !decide (z = a)).map D.str := by
  rw [List.map_id, List.filter_map]
  rfl
theorem w_rule_4 {zs us : List Str} {Q : RD → Prop} {t} (hz : lettersIn (zs ++ us)) (h2 : 2 ≤ zs.length) (h3 : (zs ++ us).length ≤ 50) (k : ∀ r : Rul, r.ok → r.a ∈ zs → r.l ∈ zs ++ us → Q (.tup [.d (.str r.side), .d (.str r.a), .d (.int r.s), .d (.str r.l)])) : WB (sm_l_rule_4 [.strm, .lst (zs.map D.str), .lst (us.map D.str)]) Q t := by
  have hl3 : zs.length + us.length ≤ 50 := by rw [List.length_append] at h3; exact h3
  simp only [e_l_rule_4, b_l_rule_4_e, List.length_map, semK, seqD, isI, isB, isS, isTu, isLi, seqO, PD.ats, PD.at, PD.seq, behind, frzS, RD.fz, RD.fzs, RD.noL, RD.noLs, D.noL, D.noLs, RD.parts, putS, wipeS, boolT, intT, isTupP, isLstP, truD, isNon, iOp, iOpC, iMod, iDiv, iMul, iNeg, iAbs, iId, iCmp, bCmp, lenOp, tupOp, ownOp, slTup, revTup, ite_self, if_true, if_false, ite_true, ite_false, Bool.not_true, Bool.not_false, Bool.false_eq_true, List.getElem?_cons_zero, List.getElem?_cons_succ, List.set_cons_zero, List.set_cons_succ, List.map_cons, List.map_nil, decide_true, decide_false, Bool.true_and, Bool.and_true, Bool.false_and, Bool.and_false, Bool.true_or, Bool.or_true, Bool.false_or, Bool.or_false, Bool.and_self, Bool.or_self, reduceIte, reduceCtorEq]
  refine w_next (by omega) (by omega) fun d1 hd1 => ?_
  have hd1' : d1 < zs.length := by omega
  have g1 : d1 < (zs.map D.str).length := by rw [List.length_map]; exact hd1'
  simp only [ixN g1, List.getElem_map, semK, seqD, isI, isB, isS, isTu, isLi, seqO, PD.ats, PD.at, PD.seq, behind, frzS, RD.fz, RD.fzs, RD.noL, RD.noLs, D.noL, D.noLs, RD.parts, putS, wipeS, boolT, intT, isTupP, isLstP, truD, isNon, iOp, iOpC, iMod, iDiv, iMul, iNeg, iAbs, iId, iCmp, bCmp, lenOp, tupOp, ownOp, slTup, revTup, ite_self, if_true, if_false, ite_true, ite_false, Bool.not_true, Bool.not_false, Bool.false_eq_true, List.getElem?_cons_zero, List.getElem?_cons_succ, List.set_cons_zero, List.set_cons_succ, List.map_cons, List.map_nil, decide_true, decide_false, Bool.true_and, Bool.and_true, Bool.false_and, Bool.and_false, Bool.true_or, Bool.or_true, Bool.false_or, Bool.or_false, Bool.and_self, Bool.or_self, reduceIte, reduceCtorEq]
  have ha : zs[d1] ∈ zs := List.getElem_mem hd1'
  generalize zs[d1] = a at ha
  have hla := hz.2 a (List.mem_append_left _ ha)
  have al : addL (.lst (zs.map D.str)) (.lst (us.map D.str)) = .ret (.own ((zs ++ us).map D.str)) := by
    unfold addL
    dsimp only
    rw [if_pos (by rw [List.length_map, List.length_map]; omega), List.map_append]
  have c4 : compT [5] (nameW 5) (cmp2 neT (vQ 5) (vQ 3)) (vQ 5) ((zs ++ us).map D.str) [] [Slot.val .strm, Slot.val (.lst (zs.map D.str)), Slot.val (.lst (us.map D.str)), Slot.val (.str a), Slot.none, Slot.none, Slot.none] = .ret (((zs ++ us).filter fun z => !decide (z = a)).map D.str, [Slot.val .strm, Slot.val (.lst (zs.map D.str)), Slot.val (.lst (us.map D.str)), Slot.val (.str a), Slot.none, Slot.none, Slot.none]) := by
    rw [compT_eq (neA a) id (by rw [List.length_map]; show 0 + _ ≤ _; omega) fun x hx => by
      obtain ⟨z, hzm, rfl⟩ := List.mem_map.mp hx
      have hn := neT_str (letter_strOk (hz.2 z hzm)) (letter_strOk hla)
      refine ⟨[Slot.val .strm, Slot.val (.lst (zs.map D.str)), Slot.val (.lst (us.map D.str)), Slot.val (.str a), Slot.none, Slot.val (.str z), Slot.none], rfl, ?_, rfl, fun _ => ⟨[Slot.val .strm, Slot.val (.lst (zs.map D.str)), Slot.val (.lst (us.map D.str)), Slot.val (.str a), Slot.none, Slot.val (.str z), Slot.none], rfl, rfl⟩⟩
      simp only [hn, neA, semK, seqD, isI, isB, isS, isTu, isLi, seqO, PD.ats, PD.at, PD.seq, behind, frzS, RD.fz, RD.fzs, RD.noL, RD.noLs, D.noL, D.noLs, RD.parts, putS, wipeS, boolT, intT, isTupP, isLstP, truD, isNon, iOp, iOpC, iMod, iDiv, iMul, iNeg, iAbs, iId, iCmp, bCmp, lenOp, tupOp, ownOp, slTup, revTup, ite_self, if_true, if_false, ite_true, ite_false, Bool.not_true, Bool.not_false, Bool.false_eq_true, List.getElem?_cons_zero, List.getElem?_cons_succ, List.set_cons_zero, List.set_cons_succ, List.map_cons, List.map_nil, decide_true, decide_false, Bool.true_and, Bool.and_true, Bool.false_and, Bool.and_false, Bool.true_or, Bool.or_true, Bool.false_or, Bool.or_false, Bool.and_self, Bool.or_self, reduceIte, reduceCtorEq]]
    rw [List.nil_append, neA_filter]
  simp only [b_l_rule_4_p1_e, al, c4, semK, seqD, isI, isB, isS, isTu, isLi, seqO, PD.ats, PD.at, PD.seq, behind, frzS, RD.fz, RD.fzs, RD.noL, RD.noLs, D.noL, D.noLs, RD.parts, putS, wipeS, boolT, intT, isTupP, isLstP, truD, isNon, iOp, iOpC, iMod, iDiv, iMul, iNeg, iAbs, iId, iCmp, bCmp, lenOp, tupOp, ownOp, slTup, revTup, ite_self, if_true, if_false, ite_true, ite_false, Bool.not_true, Bool.not_false, Bool.false_eq_true, List.getElem?_cons_zero, List.getElem?_cons_succ, List.set_cons_zero, List.set_cons_succ, List.map_cons, List.map_nil, decide_true, decide_false, Bool.true_and, Bool.and_true, Bool.false_and, Bool.and_false, Bool.true_or, Bool.or_true, Bool.false_or, Bool.or_false, Bool.and_self, Bool.or_self, reduceIte, reduceCtorEq]
  have hmem : ∀ z ∈ (zs ++ us).filter (fun z => !decide (z = a)), z ∈ zs ++ us ∧ z ≠ a := fun z h => by
    rw [List.mem_filter] at h
    exact ⟨h.1, by simpa using h.2⟩
  have hne : 1 ≤ ((zs ++ us).filter fun z => !decide (z = a)).length := by
    obtain ⟨b, hb, hab⟩ : ∃ b ∈ zs, b ≠ a := by
      match zs, h2, hz with
      | x :: y :: r, _, hz =>
        have hxy : x ≠ y := by
          have := hz.1
          simp only [List.cons_append, List.nodup_cons] at this
          intro e
          exact this.1 (by rw [e]; simp)
        by_cases h : x = a
        · exact ⟨y, by simp, fun e => hxy (h.trans e.symm)⟩
        · exact ⟨x, by simp, h⟩
    exact List.length_pos_of_mem (List.mem_filter.mpr ⟨List.mem_append_left _ hb, by simp [hab]⟩)
  have hle : ((zs ++ us).filter fun z => !decide (z = a)).length ≤ 50 := Nat.le_trans (List.length_filter_le ..) h3
  generalize (zs ++ us).filter (fun z => !decide (z = a)) = L at hmem hne hle
  simp only [b_l_rule_4_p2_e, semK, seqD, isI, isB, isS, isTu, isLi, seqO, PD.ats, PD.at, PD.seq, behind, frzS, RD.fz, RD.fzs, RD.noL, RD.noLs, D.noL, D.noLs, RD.parts, putS, wipeS, boolT, intT, isTupP, isLstP, truD, isNon, iOp, iOpC, iMod, iDiv, iMul, iNeg, iAbs, iId, iCmp, bCmp, lenOp, tupOp, ownOp, slTup, revTup, ite_self, if_true, if_false, ite_true, ite_false, Bool.not_true, Bool.not_false, Bool.false_eq_true, List.getElem?_cons_zero, List.getElem?_cons_succ, List.set_cons_zero, List.set_cons_succ, List.map_cons, List.map_nil, decide_true, decide_false, Bool.true_and, Bool.and_true, Bool.false_and, Bool.and_false, Bool.true_or, Bool.or_true, Bool.false_or, Bool.or_false, Bool.and_self, Bool.or_self, reduceIte, reduceCtorEq]
  refine w_next (by omega) (by omega) fun d hd => ?_
  obtain ⟨side, hside, hix⟩ : ∃ side : Str, (side = "after" ∨ side = "before") ∧ ixOp [.str "after", .str "before"] (.int (d : Nat)) = .ret (.str side) := by
    match d, hd with
    | 0, _ => exact ⟨"after", .inl rfl, ix0⟩
    | 1, _ => exact ⟨"before", .inr rfl, ix1⟩
    | d + 2, h => omega
  simp only [hix, semK, seqD, isI, isB, isS, isTu, isLi, seqO, PD.ats, PD.at, PD.seq, behind, frzS, RD.fz, RD.fzs, RD.noL, RD.noLs, D.noL, D.noLs, RD.parts, putS, wipeS, boolT, intT, isTupP, isLstP, truD, isNon, iOp, iOpC, iMod, iDiv, iMul, iNeg, iAbs, iId, iCmp, bCmp, lenOp, tupOp, ownOp, slTup, revTup, ite_self, if_true, if_false, ite_true, ite_false, Bool.not_true, Bool.not_false, Bool.false_eq_true, List.getElem?_cons_zero, List.getElem?_cons_succ, List.set_cons_zero, List.set_cons_succ, List.map_cons, List.map_nil, decide_true, decide_false, Bool.true_and, Bool.and_true, Bool.false_and, Bool.and_false, Bool.true_or, Bool.or_true, Bool.false_or, Bool.or_false, Bool.and_self, Bool.or_self, reduceIte, reduceCtorEq]
  simp only [b_l_rule_4_p3_e, semK, seqD, isI, isB, isS, isTu, isLi, seqO, PD.ats, PD.at, PD.seq, behind, frzS, RD.fz, RD.fzs, RD.noL, RD.noLs, D.noL, D.noLs, RD.parts, putS, wipeS, boolT, intT, isTupP, isLstP, truD, isNon, iOp, iOpC, iMod, iDiv, iMul, iNeg, iAbs, iId, iCmp, bCmp, lenOp, tupOp, ownOp, slTup, revTup, ite_self, if_true, if_false, ite_true, ite_false, Bool.not_true, Bool.not_false, Bool.false_eq_true, List.getElem?_cons_zero, List.getElem?_cons_succ, List.set_cons_zero, List.set_cons_succ, List.map_cons, List.map_nil, decide_true, decide_false, Bool.true_and, Bool.and_true, Bool.false_and, Bool.and_false, Bool.true_or, Bool.or_true, Bool.false_or, Bool.or_false, Bool.and_self, Bool.or_self, reduceIte, reduceCtorEq]
  refine w_next (by omega) (by omega) fun m hm => ?_
  obtain ⟨s, hs1, hs2, hix2⟩ : ∃ s : Int, 1 ≤ s ∧ s ≤ 3 ∧ ixOp [.int 1, .int 2, .int 3, .int 3] (.int (m : Nat)) = .ret (.int s) := by
    match m, hm with
    | 0, _ => exact ⟨1, by omega, by omega, ix0⟩
    | 1, _ => exact ⟨2, by omega, by omega, ix1⟩
    | 2, _ => exact ⟨3, by omega, by omega, ix2⟩
    | 3, _ => exact ⟨3, by omega, by omega, ix3⟩
    | d + 4, h => omega
  simp only [hix2, List.length_map, semK, seqD, isI, isB, isS, isTu, isLi, seqO, PD.ats, PD.at, PD.seq, behind, frzS, RD.fz, RD.fzs, RD.noL, RD.noLs, D.noL, D.noLs, RD.parts, putS, wipeS, boolT, intT, isTupP, isLstP, truD, isNon, iOp, iOpC, iMod, iDiv, iMul, iNeg, iAbs, iId, iCmp, bCmp, lenOp, tupOp, ownOp, slTup, revTup, ite_self, if_true, if_false, ite_true, ite_false, Bool.not_true, Bool.not_false, Bool.false_eq_true, List.getElem?_cons_zero, List.getElem?_cons_succ, List.set_cons_zero, List.set_cons_succ, List.map_cons, List.map_nil, decide_true, decide_false, Bool.true_and, Bool.and_true, Bool.false_and, Bool.and_false, Bool.true_or, Bool.or_true, Bool.false_or, Bool.or_false, Bool.and_self, Bool.or_self, reduceIte, reduceCtorEq]
  refine w_next (by omega) (by omega) fun b hb => ?_
  have hb' : b < L.length := by omega
  have g2 : b < (L.map D.str).length := by rw [List.length_map]; exact hb'
  simp only [ixN g2, List.getElem_map, semK, seqD, isI, isB, isS, isTu, isLi, seqO, PD.ats, PD.at, PD.seq, behind, frzS, RD.fz, RD.fzs, RD.noL, RD.noLs, D.noL, D.noLs, RD.parts, putS, wipeS, boolT, intT, isTupP, isLstP, truD, isNon, iOp, iOpC, iMod, iDiv, iMul, iNeg, iAbs, iId, iCmp, bCmp, lenOp, tupOp, ownOp, slTup, revTup, ite_self, if_true, if_false, ite_true, ite_false, Bool.not_true, Bool.not_false, Bool.false_eq_true, List.getElem?_cons_zero, List.getElem?_cons_succ, List.set_cons_zero, List.set_cons_succ, List.map_cons, List.map_nil, decide_true, decide_false, Bool.true_and, Bool.and_true, Bool.false_and, Bool.and_false, Bool.true_or, Bool.or_true, Bool.false_or, Bool.or_false, Bool.and_self, Bool.or_self, reduceIte, reduceCtorEq]
  have hm2 := hmem _ (List.getElem_mem hb')
  exact k ⟨side, a, s, L[b]⟩ ⟨hside, hla, hz.2 _ hm2.1, fun e => hm2.2 e.symm, hs1, hs2⟩ ha hm2.1
structure RulesOf (zs us : List Str) (rs : List Rul) : Prop where
  ok : ∀ r ∈ rs, r.ok
  anc : ∀ r ∈ rs, r.a ∈ zs
  let' : ∀ r ∈ rs, r.l ∈ us
theorem ruls_of {zs us : List Str} : ∀ {ys : List D}, (∀ y ∈ ys, ∃ r : Rul, y = r.d ∧ r.ok ∧ r.a ∈ zs ∧ r.l ∈ us) → ∃ rs : List Rul, ys = rs.map Rul.d ∧ RulesOf zs us rs
  | [], _ => ⟨[], rfl, by simp, by simp, by simp⟩
  | y :: ys, h => by
    obtain ⟨r, rfl, h1, h2, h3⟩ := h y (by simp)
    obtain ⟨rs, rfl, q⟩ := ruls_of fun z hz => h z (List.mem_cons_of_mem _ hz)
    refine ⟨r :: rs, rfl, fun x hx => ?_, fun x hx => ?_, fun x hx => ?_⟩
    · rcases List.mem_cons.mp hx with rfl | hx
      · exact h1
      · exact q.ok x hx
    · rcases List.mem_cons.mp hx with rfl | hx
      · exact h2
      · exact q.anc x hx
    · rcases List.mem_cons.mp hx with rfl | hx
      · exact h3
      · exact q.let' x hx
theorem w_rules_2 {zs us : List Str} {m : Nat} {Q : RD → Prop} {t} (hz : lettersIn (zs ++ us)) (h2 : 2 ≤ zs.length) (h3 : (zs ++ us).length ≤ 50) (hm : m ≤ 100) (k : ∀ rs, RulesOf zs (zs ++ us) rs → rs.length ≤ m → Q (.d (.tup (rs.map Rul.d)))) : WB (sm_l_rules_2 [.strm, .lst (zs.map D.str), .lst (us.map D.str), .int (m : Nat)]) Q t := by
  simp only [e_l_rules_2, b_l_rules_2, semK, seqD, isI, isB, isS, isTu, isLi, seqO, PD.ats, PD.at, PD.seq, behind, frzS, RD.fz, RD.fzs, RD.noL, RD.noLs, D.noL, D.noLs, RD.parts, putS, wipeS, boolT, intT, isTupP, isLstP, truD, isNon, iOp, iOpC, iMod, iDiv, iMul, iNeg, iAbs, iId, iCmp, bCmp, lenOp, tupOp, ownOp, slTup, revTup, ite_self, if_true, if_false, ite_true, ite_false, Bool.not_true, Bool.not_false, Bool.false_eq_true, List.getElem?_cons_zero, List.getElem?_cons_succ, List.set_cons_zero, List.set_cons_succ, List.map_cons, List.map_nil, decide_true, decide_false, Bool.true_and, Bool.and_true, Bool.false_and, Bool.and_false, Bool.true_or, Bool.or_true, Bool.false_or, Bool.or_false, Bool.and_self, Bool.or_self, reduceIte, reduceCtorEq]
  refine w_next (by omega) (by omega) fun n hn => ?_
  simp only [rng_nat (n := n) (by omega), Int.toNat_natCast, semK, seqD, isI, isB, isS, isTu, isLi, seqO, PD.ats, PD.at, PD.seq, behind, frzS, RD.fz, RD.fzs, RD.noL, RD.noLs, D.noL, D.noLs, RD.parts, putS, wipeS, boolT, intT, isTupP, isLstP, truD, isNon, iOp, iOpC, iMod, iDiv, iMul, iNeg, iAbs, iId, iCmp, bCmp, lenOp, tupOp, ownOp, slTup, revTup, ite_self, if_true, if_false, ite_true, ite_false, Bool.not_true, Bool.not_false, Bool.false_eq_true, List.getElem?_cons_zero, List.getElem?_cons_succ, List.set_cons_zero, List.set_cons_succ, List.map_cons, List.map_nil, decide_true, decide_false, Bool.true_and, Bool.and_true, Bool.false_and, Bool.and_false, Bool.true_or, Bool.or_true, Bool.false_or, Bool.or_false, Bool.and_self, Bool.or_self, reduceIte, reduceCtorEq]
  refine w_drawn (P := fun y => ∃ r : Rul, y = r.d ∧ r.ok ∧ r.a ∈ zs ∧ r.l ∈ zs ++ us) ?_ _ _ (by rw [rngD_len]; show 0 + n ≤ 1000; omega) fun ys hly hy => ?_
  · intro x K h
    simp only [semK, seqD, isI, isB, isS, isTu, isLi, seqO, PD.ats, PD.at, PD.seq, behind, frzS, RD.fz, RD.fzs, RD.noL, RD.noLs, D.noL, D.noLs, RD.parts, putS, wipeS, boolT, intT, isTupP, isLstP, truD, isNon, iOp, iOpC, iMod, iDiv, iMul, iNeg, iAbs, iId, iCmp, bCmp, lenOp, tupOp, ownOp, slTup, revTup, ite_self, if_true, if_false, ite_true, ite_false, Bool.not_true, Bool.not_false, Bool.false_eq_true, List.getElem?_cons_zero, List.getElem?_cons_succ, List.set_cons_zero, List.set_cons_succ, List.map_cons, List.map_nil, decide_true, decide_false, Bool.true_and, Bool.and_true, Bool.false_and, Bool.and_false, Bool.true_or, Bool.or_true, Bool.false_or, Bool.or_false, Bool.and_self, Bool.or_self, reduceIte, reduceCtorEq]
    refine w_rule_4 hz h2 h3 fun r hr ha hl => ?_
    simp only [RD.fz, RD.fzs, semK, seqD, isI, isB, isS, isTu, isLi, seqO, PD.ats, PD.at, PD.seq, behind, frzS, RD.fz, RD.fzs, RD.noL, RD.noLs, D.noL, D.noLs, RD.parts, putS, wipeS, boolT, intT, isTupP, isLstP, truD, isNon, iOp, iOpC, iMod, iDiv, iMul, iNeg, iAbs, iId, iCmp, bCmp, lenOp, tupOp, ownOp, slTup, revTup, ite_self, if_true, if_false, ite_true, ite_false, Bool.not_true, Bool.not_false, Bool.false_eq_true, List.getElem?_cons_zero, List.getElem?_cons_succ, List.set_cons_zero, List.set_cons_succ, List.map_cons, List.map_nil, decide_true, decide_false, Bool.true_and, Bool.and_true, Bool.false_and, Bool.and_false, Bool.true_or, Bool.or_true, Bool.false_or, Bool.or_false, Bool.and_self, Bool.or_self, reduceIte, reduceCtorEq]
    exact h _ ⟨r, rfl, hr, ha, hl⟩
  · obtain ⟨rs, rfl, hr⟩ := ruls_of hy
    rw [List.length_map, rngD_len] at hly
    have l1 : ((rs.map Rul.d).length ≤ 100000) = True := eq_true (by rw [List.length_map]; omega)
    simp only [List.nil_append, l1, semK, seqD, isI, isB, isS, isTu, isLi, seqO, PD.ats, PD.at, PD.seq, behind, frzS, RD.fz, RD.fzs, RD.noL, RD.noLs, D.noL, D.noLs, RD.parts, putS, wipeS, boolT, intT, isTupP, isLstP, truD, isNon, iOp, iOpC, iMod, iDiv, iMul, iNeg, iAbs, iId, iCmp, bCmp, lenOp, tupOp, ownOp, slTup, revTup, ite_self, if_true, if_false, ite_true, ite_false, Bool.not_true, Bool.not_false, Bool.false_eq_true, List.getElem?_cons_zero, List.getElem?_cons_succ, List.set_cons_zero, List.set_cons_succ, List.map_cons, List.map_nil, decide_true, decide_false, Bool.true_and, Bool.and_true, Bool.false_and, Bool.and_false, Bool.true_or, Bool.or_true, Bool.false_or, Bool.or_false, Bool.and_self, Bool.or_self, reduceIte, reduceCtorEq]
    exact k rs hr (by omega)
end Dm

namespace Dm
open PySem PySem.Spec PyProof.Rows L2
def natD (j : Nat) : D := .int (j : Nat)
section
variable {rs : List Rul} (hr : ∀ r ∈ rs, r.ok)
include hr
end
end Dm

namespace Dm
open PySem PySem.Spec PyProof.Rows L2
section
variable {rs : List Rul} (hr : ∀ r ∈ rs, r.ok) (hl : rs.length ≤ 100)
include hr hl
end
end Dm

namespace Dm
open PySem PySem.Spec PyProof.Rows L2
section
variable {rs : List Rul} (hr : ∀ r ∈ rs, r.ok) (hl : rs.length ≤ 100)
include hr hl
end
theorem s_check_rules_ok {rs : List Rul} (hr : ∀ r ∈ rs, r.ok) (hl : rs.length ≤ 20) {n : D} : sm_check_rules [.tup (rs.map Rul.d), n] = .ret (.d .non) := by
  simp only [e_check_rules, b_check_rules, s_rule_list_ok hr hl, semK, seqD, isI, isB, isS, isTu, isLi, seqO, PD.ats, PD.at, PD.seq, behind, frzS, RD.fz, RD.fzs, RD.noL, RD.noLs, D.noL, D.noLs, RD.parts, putS, wipeS, boolT, intT, isTupP, isLstP, truD, isNon, iOp, iOpC, iMod, iDiv, iMul, iNeg, iAbs, iId, iCmp, bCmp, lenOp, tupOp, ownOp, slTup, revTup, ite_self, if_true, if_false, ite_true, ite_false, Bool.not_true, Bool.not_false, Bool.false_eq_true, List.getElem?_cons_zero, List.getElem?_cons_succ, List.set_cons_zero, List.set_cons_succ, List.map_cons, List.map_nil, decide_true, decide_false, Bool.true_and, Bool.and_true, Bool.false_and, Bool.and_false, Bool.true_or, Bool.or_true, Bool.false_or, Bool.or_false, Bool.and_self, Bool.or_self, reduceIte, reduceCtorEq]
end Dm

namespace Dm
open PySem PySem.Spec PyProof.Rows L2
section
variable {rs : List Rul} (hr : ∀ r ∈ rs, r.ok)
include hr
end
end Dm

namespace Dm
open PySem PySem.Spec PyProof.Rows L2
theorem rules_okN {rs : List Rul} (hr : ∀ r ∈ rs, r.ok) (n : Nat) : okN (n + 2) (.tup (rs.map Rul.d)) = true ∧ okN (n + 2) (.lst (rs.map Rul.d)) = true := by
  have : (rs.map Rul.d).all (okN (n + 1)) = true := by
    rw [List.all_eq_true]
    intro x hx
    obtain ⟨r, h, rfl⟩ := List.mem_map.mp hx
    exact rule_ok (hr r h).side' (hr r h).anc (hr r h).let' n
  exact ⟨this, this⟩
theorem rules_good {rs : List Rul} (hr : ∀ r ∈ rs, r.ok) (hl : rs.length ≤ 1000) : good (.tup (rs.map Rul.d)) = true := by
  refine good_tup.mpr ⟨by rw [List.length_map]; exact hl, goods_iff.mpr fun x hx => ?_⟩
  obtain ⟨r, h, rfl⟩ := List.mem_map.mp hx
  exact rule_good (hr r h).side' (hr r h).anc (hr r h).let'
theorem rules_noL (rs : List Rul) : D.noLs (rs.map Rul.d) = true := noLs_all fun x hx => by
  obtain ⟨r, h, rfl⟩ := List.mem_map.mp hx
  rfl
end Dm

namespace Dm
open PySem PySem.Spec PyProof.Rows L2
theorem s_check_one_and_other {one other : List Rul} (h1 : ∀ r ∈ one, r.ok) (h2 : ∀ r ∈ other, r.ok) (l1 : one.length ≤ 20) (l2 : other.length ≤ 20) : sm_check_one_and_other [.tup (one.map Rul.d), .tup (other.map Rul.d)] = .ret (.d .non) := by
  simp only [e_check_one_and_other, b_check_one_and_other, s_check_rules_ok h1 l1, s_check_rules_ok h2 l2, semK, seqD, isI, isB, isS, isTu, isLi, seqO, PD.ats, PD.at, PD.seq, behind, frzS, RD.fz, RD.fzs, RD.noL, RD.noLs, D.noL, D.noLs, RD.parts, putS, wipeS, boolT, intT, isTupP, isLstP, truD, isNon, iOp, iOpC, iMod, iDiv, iMul, iNeg, iAbs, iId, iCmp, bCmp, lenOp, tupOp, ownOp, slTup, revTup, ite_self, if_true, if_false, ite_true, ite_false, Bool.not_true, Bool.not_false, Bool.false_eq_true, List.getElem?_cons_zero, List.getElem?_cons_succ, List.set_cons_zero, List.set_cons_succ, List.map_cons, List.map_nil, decide_true, decide_false, Bool.true_and, Bool.and_true, Bool.false_and, Bool.and_false, Bool.true_or, Bool.or_true, Bool.false_or, Bool.or_false, Bool.and_self, Bool.or_self, reduceIte, reduceCtorEq]
theorem s_within_bound {rs : List Rul} (h : rs.length ≤ 20) : sm_within_bound [.tup (rs.map Rul.d)] = .ret (.d (.tup (rs.map Rul.d))) := by
  have d1 : decide ((20 : Int) < ((rs.length : Nat) : Int)) = false := decide_eq_false (by omega)
  simp only [e_within_bound, b_within_bound, List.length_map, d1, semK, seqD, isI, isB, isS, isTu, isLi, seqO, PD.ats, PD.at, PD.seq, behind, frzS, RD.fz, RD.fzs, RD.noL, RD.noLs, D.noL, D.noLs, RD.parts, putS, wipeS, boolT, intT, isTupP, isLstP, truD, isNon, iOp, iOpC, iMod, iDiv, iMul, iNeg, iAbs, iId, iCmp, bCmp, lenOp, tupOp, ownOp, slTup, revTup, ite_self, if_true, if_false, ite_true, ite_false, Bool.not_true, Bool.not_false, Bool.false_eq_true, List.getElem?_cons_zero, List.getElem?_cons_succ, List.set_cons_zero, List.set_cons_succ, List.map_cons, List.map_nil, decide_true, decide_false, Bool.true_and, Bool.and_true, Bool.false_and, Bool.and_false, Bool.true_or, Bool.or_true, Bool.false_or, Bool.or_false, Bool.and_self, Bool.or_self, reduceIte, reduceCtorEq]
end Dm

namespace Dm
open PySem PySem.Spec PyProof.Rows L2
def Same (r t : Rul) (o : Odr) : Prop := ∃ p q p', IsRes o r p ∧ IsRes p t q ∧ IsRes o t p' ∧ IsRes p' r q
theorem Same.symm {r t : Rul} {o : Odr} : Same r t o → Same t r o := fun ⟨p, q, p', h1, h2, h3, h4⟩ => ⟨p', q, p, h3, h4, h1, h2⟩
section
variable {r t : Rul} {o p q p' : Odr} (hr : r.ok) (ht : t.ok) (h1 : IsRes o r p) (h2 : IsRes p t q) (h3 : IsRes o t p') (h4 : IsRes p' r q)
include hr ht h1 h2 h3 h4
end
end Dm

namespace Dm
open PySem PySem.Spec PyProof.Rows L2
end Dm

namespace Dm
open PySem PySem.Spec PyProof.Rows L2
end Dm

namespace Dm
open PySem PySem.Spec PyProof.Rows L2
end Dm

namespace Dm
open PySem PySem.Spec PyProof.Rows L2
def weave : List Nat → List Rul → List Rul → List Rul
  | 0 :: ms, r :: A, B => r :: weave ms A B
  | 1 :: ms, A, t :: B => t :: weave ms A B
  | _, _, _ => []
structure Marks (ms : List Nat) (n m : Nat) : Prop where
  two : ∀ x ∈ ms, x = 0 ∨ x = 1
  c0 : ms.count 0 = n
  c1 : ms.count 1 = m
theorem Marks.cases {x : Nat} {ms : List Nat} {n m : Nat} (h : Marks (x :: ms) n m) : (x = 0 ∧ ∃ n', n = n' + 1 ∧ Marks ms n' m) ∨ (x = 1 ∧ ∃ m', m = m' + 1 ∧ Marks ms n m') := by
  have t : ∀ y ∈ ms, y = 0 ∨ y = 1 := fun y hy => h.two y (List.mem_cons_of_mem _ hy)
  have h0 := h.c0
  have h1 := h.c1
  rcases h.two x (by simp) with rfl | rfl
  · rw [List.count_cons_self] at h0
    rw [List.count_cons_of_ne (by decide)] at h1
    exact .inl ⟨rfl, ms.count 0, h0.symm, t, rfl, h1⟩
  · rw [List.count_cons_of_ne (by decide)] at h0
    rw [List.count_cons_self] at h1
    exact .inr ⟨rfl, ms.count 1, h1.symm, t, h0, rfl⟩
theorem Marks.nil {n m : Nat} (h : Marks [] n m) : n = 0 ∧ m = 0 := ⟨h.c0.symm, h.c1.symm⟩
theorem weave_facts : ∀ (ms : List Nat) (A B : List Rul), Marks ms A.length B.length → (weave ms A B).length = ms.length ∧ (∀ r ∈ weave ms A B, r ∈ A ∨ r ∈ B) ∧ ((ms.zip (weave ms A B)).filter fun p => decide (p.1 = 0)).map (·.2) = A ∧ ((ms.zip (weave ms A B)).filter fun p => decide (p.1 = 1)).map (·.2) = B
  | [], A, B, h => by
    obtain ⟨h1, h2⟩ := h.nil
    rw [List.length_eq_zero_iff.mp h1, List.length_eq_zero_iff.mp h2]
    exact ⟨rfl, fun r hr => (by cases hr), rfl, rfl⟩
  | x :: ms, A, B, h => by
    rcases h.cases with ⟨rfl, n', e, h'⟩ | ⟨rfl, m', e, h'⟩
    · cases A with
      | nil => rw [List.length_nil] at e; omega
      | cons r A =>
        have e' : n' = A.length := by rw [List.length_cons] at e; omega
        subst e'
        obtain ⟨q1, q2, q3, q4⟩ := weave_facts ms A B h'
        refine ⟨?_, fun y hy => ?_, ?_, ?_⟩
        · show (r :: weave ms A B).length = _
          rw [List.length_cons, List.length_cons, q1]
        · rcases List.mem_cons.mp (show y ∈ r :: weave ms A B from hy) with rfl | hy
          · exact .inl (by simp)
          · rcases q2 y hy with q | q
            · exact .inl (List.mem_cons_of_mem _ q)
            · exact .inr q
        · show r :: ((ms.zip (weave ms A B)).filter fun p => decide (p.1 = 0)).map (·.2) = _
          rw [q3]
        · exact q4
    · cases B with
      | nil => rw [List.length_nil] at e; omega
      | cons t B =>
        have e' : m' = B.length := by rw [List.length_cons] at e; omega
        subst e'
        obtain ⟨q1, q2, q3, q4⟩ := weave_facts ms A B h'
        have ew : weave (1 :: ms) A (t :: B) = t :: weave ms A B := by cases A <;> rfl
        rw [ew]
        refine ⟨?_, fun y hy => ?_, ?_, ?_⟩
        · rw [List.length_cons, List.length_cons, q1]
        · rcases List.mem_cons.mp hy with rfl | hy
          · exact .inr (by simp)
          · rcases q2 y hy with q | q
            · exact .inl q
            · exact .inr (List.mem_cons_of_mem _ q)
        · exact q3
        · show t :: ((ms.zip (weave ms A B)).filter fun p => decide (p.1 = 1)).map (·.2) = _
          rw [q4]
end Dm

namespace Dm
open PySem PySem.Spec PyProof.Rows L2
end Dm

namespace Dm
open PySem PySem.Spec PyProof.Rows L2
structure Sim (M : Str → Prop) (o o' : Odr) : Prop where
  ok : o.ok
  ok' : o'.ok
  sub : ∀ z, z ∈ o'.zs → z ∈ o.zs
  mem : ∀ z, ¬ M z → z ∈ o.zs → z ∈ o'.zs
  lt' : ∀ x y, x ∈ o.zs → y ∈ o.zs → ¬ M x → ¬ M y → (lt o x y ↔ lt o' x y)
  df' : ∀ x y, x ∈ o.zs → y ∈ o.zs → ¬ M x → ¬ M y → df o x y = df o' x y
theorem sub_len {A B : List Str} (hA : A.Nodup) (hB : B.Nodup) (h : ∀ z ∈ A, z ∈ B) : A.length ≤ B.length := by
  have hp : (B.filter fun z => decide (z ∈ A)).Perm A := (List.perm_ext_iff_of_nodup (nodup_filter _ hB) hA).mpr fun z => by
    rw [List.mem_filter, decide_eq_true_eq]
    exact ⟨fun q => q.2, fun q => ⟨h z q, q⟩⟩
  rw [← hp.length_eq]
  exact List.length_filter_le ..
theorem Sim.near {M : Str → Prop} {o o' : Odr} {r : Rul} (s : Sim M o o') (ha : r.a ∈ o.zs) (hM : ¬ M r.a) {x : Str} (hx : x ∈ o.zs) (hMx : ¬ M x) : Near o r x ↔ Near o' r x := by
  unfold Near
  rw [s.lt' r.a x ha hx hM hMx, s.lt' x r.a hx ha hMx hM, s.df' r.a x ha hx hM hMx]
theorem Sim.why {M : Str → Prop} {o o' : Odr} {r : Rul} (s : Sim M o o') (hM : ¬ M r.a) (hw : whyR o r = none) : whyR o' r = none := by
  obtain ⟨ha, hc⟩ := why_none s.ok hw
  refine why_no (s.mem _ hM ha) ?_
  by_cases h12 : o'.zs.length < 12
  · exact .inl h12
  · right
    have h1 := sub_len s.ok'.nod s.ok.nod s.sub
    have h2 := s.ok.most
    have h3 := s.ok'.most
    have hp := perm_of_sub s.ok'.nod s.ok.nod s.sub (by omega)
    refine hp.mem_iff.mpr ?_
    unfold canD at hc
    simp only [Bool.and_eq_true, Bool.or_eq_true, decide_eq_true_eq] at hc
    rcases hc.2 with h | h
    · omega
    · exact h
theorem Sim.keep {M : Str → Prop} {o o' : Odr} {r : Rul} (s : Sim M o o') (hr : r.ok) (hM : ¬ M r.a) (hw : whyR o r = none) : Sim (fun z => M z ∧ z ≠ r.l) (resO o r) (resO o' r) := by
  have hw' := s.why hM hw
  have ha := (why_none s.ok hw).1
  have h := isRes s.ok hr hw
  have h' := isRes s.ok' hr hw'
  have cl : ∀ x, ¬ (M x ∧ x ≠ r.l) → x = r.l ∨ (x ≠ r.l ∧ ¬ M x) := fun x q => by
    by_cases e : x = r.l
    · exact .inl e
    · exact .inr ⟨e, fun m => q ⟨m, e⟩⟩
  have old : ∀ x, x ∈ (resO o r).zs → x ≠ r.l → x ∈ o.zs := fun x hx e => ((h.mem x).mp hx).resolve_right e
  have lp : r.l ∈ (resO o r).zs := (h.mem _).mpr (.inr rfl)
  have lp' : r.l ∈ (resO o' r).zs := (h'.mem _).mpr (.inr rfl)
  have xl : ∀ x, x ∈ o.zs → x ≠ r.l → ¬ M x → (lt (resO o r) x r.l ↔ lt (resO o' r) x r.l) := fun x hx e m => by
    rw [h.at' x hx e, h'.at' x (s.mem x m hx) e, s.near ha hM hx m]
  have lx : ∀ x, x ∈ o.zs → x ≠ r.l → ¬ M x → (lt (resO o r) r.l x ↔ lt (resO o' r) r.l x) := fun x hx e m => by
    have i := xl x hx e m
    have hx1 : x ∈ (resO o r).zs := (h.mem x).mpr (.inl hx)
    have hx2 : x ∈ (resO o' r).zs := (h'.mem x).mpr (.inl (s.mem x m hx))
    constructor
    · intro q
      exact (lt_tri hx2 lp' e).resolve_left fun q' => lt_asym q (i.mpr q')
    · intro q
      exact (lt_tri hx1 lp e).resolve_left fun q' => lt_asym q (i.mp q')
  refine ⟨h.ok, h'.ok, fun z hz => ?_, fun z hq hz => ?_, fun x y hx hy qx qy => ?_, fun x y hx hy qx qy => ?_⟩
  · rcases (h'.mem z).mp hz with q | q
    · exact (h.mem z).mpr (.inl (s.sub z q))
    · exact (h.mem z).mpr (.inr q)
  · rcases cl z hq with e | ⟨e, m⟩
    · exact (h'.mem z).mpr (.inr e)
    · exact (h'.mem z).mpr (.inl (s.mem z m (old z hz e)))
  · rcases cl x qx with ex | ⟨ex, mx⟩ <;> rcases cl y qy with ey | ⟨ey, my⟩
    · rw [ex, ey]
      exact ⟨fun q => absurd q lt_irr, fun q => absurd q lt_irr⟩
    · rw [ex]; exact lx y (old y hy ey) ey my
    · rw [ey]; exact xl x (old x hx ex) ex mx
    · have ox := old x hx ex
      have oy := old y hy ey
      rw [h.old x y ox oy ex ey, h'.old x y (s.mem x mx ox) (s.mem y my oy) ex ey, s.lt' x y ox oy mx my]
  · have dl : ∀ x, x ∈ o.zs → x ≠ r.l → ¬ M x → df (resO o r) r.l x = df (resO o' r) r.l x := fun x hx e m => by
      rw [h.newD x hx e, h'.newD x (s.mem x m hx) e, s.df' r.a x ha hx hM m]
    rcases cl x qx with ex | ⟨ex, mx⟩ <;> rcases cl y qy with ey | ⟨ey, my⟩
    · rw [ex, ey, df_self, df_self]
    · rw [ex]; exact dl y (old y hy ey) ey my
    · rw [ey, df_sym, df_sym (resO o' r)]; exact dl x (old x hx ex) ex mx
    · have ox := old x hx ex
      have oy := old y hy ey
      rw [h.oldD x y ox oy ex ey, h'.oldD x y (s.mem x mx ox) (s.mem y my oy) ex ey, s.df' x y ox oy mx my]
theorem Sim.drop {M : Str → Prop} {o o' : Odr} {r : Rul} (s : Sim M o o') (hr : r.ok) (hw : whyR o r = none) : Sim (fun z => M z ∨ z = r.l) (resO o r) o' := by
  have h := isRes s.ok hr hw
  have old : ∀ x, x ∈ (resO o r).zs → x ≠ r.l → x ∈ o.zs := fun x hx e => ((h.mem x).mp hx).resolve_right e
  have cl : ∀ x, ¬ (M x ∨ x = r.l) → x ≠ r.l ∧ ¬ M x := fun x q => ⟨fun e => q (.inr e), fun m => q (.inl m)⟩
  refine ⟨h.ok, s.ok', fun z hz => (h.mem z).mpr (.inl (s.sub z hz)), fun z hq hz => ?_, fun x y hx hy qx qy => ?_, fun x y hx hy qx qy => ?_⟩
  · obtain ⟨e, m⟩ := cl z hq
    exact s.mem z m (old z hz e)
  · obtain ⟨ex, mx⟩ := cl x qx
    obtain ⟨ey, my⟩ := cl y qy
    rw [h.old x y (old x hx ex) (old y hy ey) ex ey, s.lt' x y (old x hx ex) (old y hy ey) mx my]
  · obtain ⟨ex, mx⟩ := cl x qx
    obtain ⟨ey, my⟩ := cl y qy
    rw [h.oldD x y (old x hx ex) (old y hy ey) ex ey, s.df' x y (old x hx ex) (old y hy ey) mx my]
theorem Sim.same {M : Str → Prop} {o o' : Odr} (s : Sim M o o') (hM : ∀ z, ¬ M z) : o = o' :=
  odr_ext s.ok s.ok' (fun z => ⟨fun h => s.mem z (hM z) h, fun h => s.sub z h⟩) (fun x y hx hy _ => s.lt' x y hx hy (hM x) (hM y)) fun x y hx hy _ => s.df' x y hx hy (hM x) (hM y)
theorem Sim.refl {o : Odr} (ho : o.ok) : Sim (fun _ => False) o o := ⟨ho, ho, fun _ h => h, fun _ _ h => h, fun _ _ _ _ _ _ => Iff.rfl, fun _ _ _ _ _ _ => rfl⟩
def kp : List (Rul × Bool) → List Rul
  | [] => []
  | (r, true) :: rest => r :: kp rest
  | (_, false) :: rest => kp rest
end Dm

namespace Dm
open PySem PySem.Spec PyProof.Rows L2
end Dm

namespace Dm
open PySem PySem.Spec PyProof.Rows L2
end Dm

namespace Dm
open PySem PySem.Spec PyProof.Rows L2
theorem bind_next {tg : SG} {body : SS} {x : D} {xs : List D} {S S2 : SD} (h : (tg (.d x) S).bind body = .ret (.nx S2)) : ((tg (.d x) S).bind fun S1 => (body S1).bind fun o => match o with | .nx S2 => loopT tg body xs S2 | .ct S2 => loopT tg body xs S2 | .bk S2 => .ret (.nx S2) | .rt r => .ret (.rt r)) = loopT tg body xs S2 := by
  have e : ((tg (.d x) S).bind fun S1 => (body S1).bind fun o => match o with | .nx S2 => loopT tg body xs S2 | .ct S2 => loopT tg body xs S2 | .bk S2 => .ret (.nx S2) | .rt r => .ret (.rt r)) = ((tg (.d x) S).bind body).bind fun o => match o with | .nx S2 => loopT tg body xs S2 | .ct S2 => loopT tg body xs S2 | .bk S2 => .ret (.nx S2) | .rt r => .ret (.rt r) := (T.bind_assoc _ _ _).symm
  rw [e, h, T.ret_bind]
theorem intsO_nats : ∀ ms : List Nat, intsO (ms.map natD) = some (ms.map fun (x : Nat) => (x : Int))
  | [] => rfl
  | x :: ms => by
    rw [List.map_cons, List.map_cons]
    show (intsO (ms.map natD)).map (((x : Nat) : Int) :: ·) = _
    rw [intsO_nats ms]
    rfl
theorem cast_count (k : Nat) : ∀ ms : List Nat, (ms.map fun (x : Nat) => (x : Int)).count ((k : Nat) : Int) = ms.count k
  | [] => rfl
  | x :: ms => by
    rw [List.map_cons, List.count_cons, List.count_cons, cast_count k ms]
    have : (((x : Nat) : Int) == ((k : Nat) : Int)) = (x == k) := by
      rw [Bool.eq_iff_iff, beq_iff_eq, beq_iff_eq]
      exact Int.ofNat_inj
    rw [this]
theorem s_are_marks {A B : List D} {ms : List Nat} (h : Marks ms A.length B.length) : sm_are_marks [.tup A, .tup B, .tup (ms.map natD)] = .ret (.d (.bl true)) := by
  have c : allT [3] (nameW 3) yesC (qr (callR sm_is_integer_within [vP 3, pq (cQ (.int 0)), pq (cQ (.int 1))])) (ms.map natD) [Slot.val (.tup A), Slot.val (.tup B), Slot.val (.tup (ms.map natD)), Slot.none] = .ret (.bl ((ms.map natD).all (inR 0 1)), [Slot.val (.tup A), Slot.val (.tup B), Slot.val (.tup (ms.map natD)), Slot.none]) := by
    refine allT_eq (inR 0 1) fun x hx => ?_
    obtain ⟨k, hk, rfl⟩ := List.mem_map.mp hx
    have q := s_within (d := natD k) (l := 0) (m := 1) rfl
    refine ⟨[Slot.val (.tup A), Slot.val (.tup B), Slot.val (.tup (ms.map natD)), Slot.val (natD k)], [Slot.val (.tup A), Slot.val (.tup B), Slot.val (.tup (ms.map natD)), Slot.val (natD k)], rfl, rfl, ?_, rfl⟩
    simp only [q, semK, seqD, isI, isB, isS, isTu, isLi, seqO, PD.ats, PD.at, PD.seq, behind, frzS, RD.fz, RD.fzs, RD.noL, RD.noLs, D.noL, D.noLs, RD.parts, putS, wipeS, boolT, intT, isTupP, isLstP, truD, isNon, iOp, iOpC, iMod, iDiv, iMul, iNeg, iAbs, iId, iCmp, bCmp, lenOp, tupOp, ownOp, slTup, revTup, ite_self, if_true, if_false, ite_true, ite_false, Bool.not_true, Bool.not_false, Bool.false_eq_true, List.getElem?_cons_zero, List.getElem?_cons_succ, List.set_cons_zero, List.set_cons_succ, List.map_cons, List.map_nil, decide_true, decide_false, Bool.true_and, Bool.and_true, Bool.false_and, Bool.and_false, Bool.true_or, Bool.or_true, Bool.false_or, Bool.or_false, Bool.and_self, Bool.or_self, reduceIte, reduceCtorEq]
  have ha : (ms.map natD).all (inR 0 1) = true := by
    rw [List.all_eq_true]
    intro x hx
    obtain ⟨k, hk, rfl⟩ := List.mem_map.mp hx
    rcases h.two k hk with rfl | rfl <;> decide
  have n0 : cntT (.tup (ms.map natD)) (.int 0) = .ret (.int ((A.length : Nat) : Int)) := by
    unfold cntT
    dsimp only
    rw [intsO_nats]
    have := cast_count 0 ms
    rw [h.c0] at this
    show T.ret (D.int (((ms.map fun (x : Nat) => (x : Int)).count ((0 : Nat) : Int) : Nat) : Int)) = _
    rw [this]
  have n1 : cntT (.tup (ms.map natD)) (.int 1) = .ret (.int ((B.length : Nat) : Int)) := by
    unfold cntT
    dsimp only
    rw [intsO_nats]
    have := cast_count 1 ms
    rw [h.c1] at this
    show T.ret (D.int (((ms.map fun (x : Nat) => (x : Int)).count ((1 : Nat) : Int) : Nat) : Int)) = _
    rw [this]
  have d0 : decide (((A.length : Nat) : Int) = ((A.length : Nat) : Int)) = true := decide_eq_true rfl
  have d1 : decide (((B.length : Nat) : Int) = ((B.length : Nat) : Int)) = true := decide_eq_true rfl
  simp only [e_are_marks, b_are_marks, c, ha, n0, n1, eqT_int, d0, d1, semK, seqD, isI, isB, isS, isTu, isLi, seqO, PD.ats, PD.at, PD.seq, behind, frzS, RD.fz, RD.fzs, RD.noL, RD.noLs, D.noL, D.noLs, RD.parts, putS, wipeS, boolT, intT, isTupP, isLstP, truD, isNon, iOp, iOpC, iMod, iDiv, iMul, iNeg, iAbs, iId, iCmp, bCmp, lenOp, tupOp, ownOp, slTup, revTup, ite_self, if_true, if_false, ite_true, ite_false, Bool.not_true, Bool.not_false, Bool.false_eq_true, List.getElem?_cons_zero, List.getElem?_cons_succ, List.set_cons_zero, List.set_cons_succ, List.map_cons, List.map_nil, decide_true, decide_false, Bool.true_and, Bool.and_true, Bool.false_and, Bool.and_false, Bool.true_or, Bool.or_true, Bool.false_or, Bool.or_false, Bool.and_self, Bool.or_self, reduceIte, reduceCtorEq]
theorem weave_loop {one other : List Rul} {M : D} : ∀ (ms : List Nat) (A B acc : List Rul) (i j : Nat) (s6 : Slot), Marks ms A.length B.length → A = one.drop i → B = other.drop j → acc.length + ms.length ≤ 1000 → i + ms.length ≤ 1000 → j + ms.length ≤ 1000 → ∃ i' j' s6', loopT (nameG 6) (seqS (exprS (appQ 5 (bin2P ixOp (pq (bin2P ixOp (vP 3) (vQ 6))) (bin2P ixOp (vP 4) (vQ 6))))) (ixAugS 4 (· + ·) (vQ 6) (cQ (.int 1)))) (ms.map natD) [Slot.val (.tup (one.map Rul.d)), Slot.val (.tup (other.map Rul.d)), Slot.val M, Slot.val (.tup [.tup (one.map Rul.d), .tup (other.map Rul.d)]), Slot.own [.int (i : Nat), .int (j : Nat)], Slot.own (acc.map Rul.d), s6] = .ret (.nx [Slot.val (.tup (one.map Rul.d)), Slot.val (.tup (other.map Rul.d)), Slot.val M, Slot.val (.tup [.tup (one.map Rul.d), .tup (other.map Rul.d)]), Slot.own [.int (i' : Nat), .int (j' : Nat)], Slot.own ((acc ++ weave ms A B).map Rul.d), s6'])
  | [], A, B, acc, i, j, s6, h, _, _, _, _, _ => ⟨i, j, s6, by
    have : acc ++ weave [] A B = acc := by
      rw [show weave [] A B = [] from rfl, List.append_nil]
    rw [this]
    rfl⟩
  | x :: ms, A, B, acc, i, j, s6, h, hA, hB, h1, h2, h3 => by
    rw [List.length_cons] at h1 h2 h3
    have hal : ((acc.map Rul.d).length ≤ 100000) = True := eq_true (by rw [List.length_map]; omega)
    have c0 : ((0 : Nat) : Int) = 0 := rfl
    have c1 : ((1 : Nat) : Int) = 1 := rfl
    have z0 : ((0 : Int) ≤ 0 ∧ (0 : Int) < 1000000) = True := eq_true ⟨by omega, by omega⟩
    have z1 : ((0 : Int) ≤ 1 ∧ (1 : Int) < 1000000) = True := eq_true ⟨by omega, by omega⟩
    have t0 : (0 : Int).toNat = 0 := rfl
    have t1 : (1 : Int).toNat = 1 := rfl
    have l0 : ∀ x y : D, (0 < ([x, y] : List D).length) = True := fun _ _ => eq_true (by show 0 < 2; omega)
    have l1 : ∀ x y : D, (1 < ([x, y] : List D).length) = True := fun _ _ => eq_true (by show 1 < 2; omega)
    rcases h.cases with ⟨rfl, n', e, h'⟩ | ⟨rfl, m', e, h'⟩
    · have hi : i < one.length := by
        have := congrArg List.length hA
        rw [List.length_drop] at this
        omega
      have hA2 : A = one[i] :: one.drop (i + 1) := by rw [hA]; exact List.drop_eq_getElem_cons hi
      have g : i < (one.map Rul.d).length := by rw [List.length_map]; exact hi
      have ea : acc.map Rul.d ++ [one[i].d] = (acc ++ [one[i]]).map Rul.d := by rw [List.map_append]; rfl
      have ei : (i : Int) + 1 = ((i + 1 : Nat) : Int) := by omega
      have step : (nameG 6 (.d (natD 0)) [Slot.val (.tup (one.map Rul.d)), Slot.val (.tup (other.map Rul.d)), Slot.val M, Slot.val (.tup [.tup (one.map Rul.d), .tup (other.map Rul.d)]), Slot.own [.int (i : Nat), .int (j : Nat)], Slot.own (acc.map Rul.d), s6]).bind (seqS (exprS (appQ 5 (bin2P ixOp (pq (bin2P ixOp (vP 3) (vQ 6))) (bin2P ixOp (vP 4) (vQ 6))))) (ixAugS 4 (· + ·) (vQ 6) (cQ (.int 1)))) = .ret (.nx [Slot.val (.tup (one.map Rul.d)), Slot.val (.tup (other.map Rul.d)), Slot.val M, Slot.val (.tup [.tup (one.map Rul.d), .tup (other.map Rul.d)]), Slot.own [.int ((i + 1 : Nat) : Int), .int (j : Nat)], Slot.own ((acc ++ [one[i]]).map Rul.d), Slot.val (.int 0)]) := by
        show (T.ret [Slot.val (.tup (one.map Rul.d)), Slot.val (.tup (other.map Rul.d)), Slot.val M, Slot.val (.tup [.tup (one.map Rul.d), .tup (other.map Rul.d)]), Slot.own [.int (i : Nat), .int (j : Nat)], Slot.own (acc.map Rul.d), Slot.val (.int 0)]).bind _ = _
        rw [T.ret_bind]
        simp only [c0, ix0, ixN g, List.getElem_map, hal, ea, z0, t0, l0, ei, semK, seqD, isI, isB, isS, isTu, isLi, seqO, PD.ats, PD.at, PD.seq, behind, frzS, RD.fz, RD.fzs, RD.noL, RD.noLs, D.noL, D.noLs, RD.parts, putS, wipeS, boolT, intT, isTupP, isLstP, truD, isNon, iOp, iOpC, iMod, iDiv, iMul, iNeg, iAbs, iId, iCmp, bCmp, lenOp, tupOp, ownOp, slTup, revTup, ite_self, if_true, if_false, ite_true, ite_false, Bool.not_true, Bool.not_false, Bool.false_eq_true, List.getElem?_cons_zero, List.getElem?_cons_succ, List.set_cons_zero, List.set_cons_succ, List.map_cons, List.map_nil, decide_true, decide_false, Bool.true_and, Bool.and_true, Bool.false_and, Bool.and_false, Bool.true_or, Bool.or_true, Bool.false_or, Bool.or_false, Bool.and_self, Bool.or_self, reduceIte, reduceCtorEq]
      have lenA : n' = (one.drop (i + 1)).length := by
        have := congrArg List.length hA2
        rw [List.length_cons] at this
        omega
      obtain ⟨i', j', s6', ih⟩ := weave_loop ms (one.drop (i + 1)) B (acc ++ [one[i]]) (i + 1) j (Slot.val (.int 0)) (lenA ▸ h') rfl hB (by rw [List.length_append, List.length_singleton]; omega) (by omega) (by omega)
      refine ⟨i', j', s6', ?_⟩
      have ew : acc ++ weave (0 :: ms) A B = (acc ++ [one[i]]) ++ weave ms (one.drop (i + 1)) B := by
        rw [hA2]
        show acc ++ one[i] :: weave ms (one.drop (i + 1)) B = _
        rw [List.append_assoc]
        rfl
      rw [ew, ← ih, List.map_cons, loopT]
      exact bind_next step
    · have hi : j < other.length := by
        have := congrArg List.length hB
        rw [List.length_drop] at this
        omega
      have hB2 : B = other[j] :: other.drop (j + 1) := by rw [hB]; exact List.drop_eq_getElem_cons hi
      have g : j < (other.map Rul.d).length := by rw [List.length_map]; exact hi
      have ea : acc.map Rul.d ++ [other[j].d] = (acc ++ [other[j]]).map Rul.d := by rw [List.map_append]; rfl
      have ei : (j : Int) + 1 = ((j + 1 : Nat) : Int) := by omega
      have step : (nameG 6 (.d (natD 1)) [Slot.val (.tup (one.map Rul.d)), Slot.val (.tup (other.map Rul.d)), Slot.val M, Slot.val (.tup [.tup (one.map Rul.d), .tup (other.map Rul.d)]), Slot.own [.int (i : Nat), .int (j : Nat)], Slot.own (acc.map Rul.d), s6]).bind (seqS (exprS (appQ 5 (bin2P ixOp (pq (bin2P ixOp (vP 3) (vQ 6))) (bin2P ixOp (vP 4) (vQ 6))))) (ixAugS 4 (· + ·) (vQ 6) (cQ (.int 1)))) = .ret (.nx [Slot.val (.tup (one.map Rul.d)), Slot.val (.tup (other.map Rul.d)), Slot.val M, Slot.val (.tup [.tup (one.map Rul.d), .tup (other.map Rul.d)]), Slot.own [.int (i : Nat), .int ((j + 1 : Nat) : Int)], Slot.own ((acc ++ [other[j]]).map Rul.d), Slot.val (.int 1)]) := by
        show (T.ret [Slot.val (.tup (one.map Rul.d)), Slot.val (.tup (other.map Rul.d)), Slot.val M, Slot.val (.tup [.tup (one.map Rul.d), .tup (other.map Rul.d)]), Slot.own [.int (i : Nat), .int (j : Nat)], Slot.own (acc.map Rul.d), Slot.val (.int 1)]).bind _ = _
        rw [T.ret_bind]
        simp only [c1, ix1, ixN g, List.getElem_map, hal, ea, z1, t1, l1, ei, semK, seqD, isI, isB, isS, isTu, isLi, seqO, PD.ats, PD.at, PD.seq, behind, frzS, RD.fz, RD.fzs, RD.noL, RD.noLs, D.noL, D.noLs, RD.parts, putS, wipeS, boolT, intT, isTupP, isLstP, truD, isNon, iOp, iOpC, iMod, iDiv, iMul, iNeg, iAbs, iId, iCmp, bCmp, lenOp, tupOp, ownOp, slTup, revTup, ite_self, if_true, if_false, ite_true, ite_false, Bool.not_true, Bool.not_false, Bool.false_eq_true, List.getElem?_cons_zero, List.getElem?_cons_succ, List.set_cons_zero, List.set_cons_succ, List.map_cons, List.map_nil, decide_true, decide_false, Bool.true_and, Bool.and_true, Bool.false_and, Bool.and_false, Bool.true_or, Bool.or_true, Bool.false_or, Bool.or_false, Bool.and_self, Bool.or_self, reduceIte, reduceCtorEq]
      have lenB : m' = (other.drop (j + 1)).length := by
        have := congrArg List.length hB2
        rw [List.length_cons] at this
        omega
      obtain ⟨i', j', s6', ih⟩ := weave_loop ms A (other.drop (j + 1)) (acc ++ [other[j]]) i (j + 1) (Slot.val (.int 1)) (lenB ▸ h') hA rfl (by rw [List.length_append, List.length_singleton]; omega) (by omega) (by omega)
      refine ⟨i', j', s6', ?_⟩
      have ew : acc ++ weave (1 :: ms) A B = (acc ++ [other[j]]) ++ weave ms A (other.drop (j + 1)) := by
        rw [hB2]
        have : weave (1 :: ms) A (other[j] :: other.drop (j + 1)) = other[j] :: weave ms A (other.drop (j + 1)) := by cases A <;> rfl
        rw [this, List.append_assoc]
        rfl
      rw [ew, ← ih, List.map_cons, loopT]
      exact bind_next step
theorem s_interleaved {one other : List Rul} {ms : List Nat} (h1 : ∀ r ∈ one, r.ok) (h2 : ∀ r ∈ other, r.ok) (hl : one.length + other.length ≤ 20) (h : Marks ms one.length other.length) (hm : ms.length = one.length + other.length) : sm_interleaved [.tup (one.map Rul.d), .tup (other.map Rul.d), .tup (ms.map natD)] = .ret (.d (.tup ((weave ms one other).map Rul.d))) := by
  have m := s_are_marks (A := one.map Rul.d) (B := other.map Rul.d) (ms := ms) (by rw [List.length_map, List.length_map]; exact h)
  obtain ⟨i', j', s6', lp⟩ := weave_loop (one := one) (other := other) (M := .tup (ms.map natD)) ms one other [] 0 0 Slot.none h rfl rfl (by rw [List.length_nil]; omega) (by omega) (by omega)
  have hw := (weave_facts ms one other h).1
  have wb := s_within_bound (rs := weave ms one other) (by omega)
  have lt : ((weave ms one other).length ≤ 100000) = True := eq_true (by omega)
  have c0 : ((0 : Nat) : Int) = 0 := rfl
  rw [List.nil_append, c0] at lp
  have lp' : loopT (nameG 6) (seqS (exprS (appQ 5 (bin2P ixOp (pq (bin2P ixOp (vP 3) (vQ 6))) (bin2P ixOp (vP 4) (vQ 6))))) (ixAugS 4 (· + ·) (vQ 6) (cQ (.int 1)))) (ms.map natD) [Slot.val (.tup (one.map Rul.d)), Slot.val (.tup (other.map Rul.d)), Slot.val (.tup (ms.map natD)), Slot.val (.tup [.tup (one.map Rul.d), .tup (other.map Rul.d)]), Slot.own [.int 0, .int 0], Slot.own [], Slot.none] = .ret (.nx [Slot.val (.tup (one.map Rul.d)), Slot.val (.tup (other.map Rul.d)), Slot.val (.tup (ms.map natD)), Slot.val (.tup [.tup (one.map Rul.d), .tup (other.map Rul.d)]), Slot.own [.int (i' : Nat), .int (j' : Nat)], Slot.own ((weave ms one other).map Rul.d), s6']) := lp
  simp only [e_interleaved, b_interleaved_e, s_check_one_and_other h1 h2 (by omega) (by omega), semK, seqD, isI, isB, isS, isTu, isLi, seqO, PD.ats, PD.at, PD.seq, behind, frzS, RD.fz, RD.fzs, RD.noL, RD.noLs, D.noL, D.noLs, RD.parts, putS, wipeS, boolT, intT, isTupP, isLstP, truD, isNon, iOp, iOpC, iMod, iDiv, iMul, iNeg, iAbs, iId, iCmp, bCmp, lenOp, tupOp, ownOp, slTup, revTup, ite_self, if_true, if_false, ite_true, ite_false, Bool.not_true, Bool.not_false, Bool.false_eq_true, List.getElem?_cons_zero, List.getElem?_cons_succ, List.set_cons_zero, List.set_cons_succ, List.map_cons, List.map_nil, decide_true, decide_false, Bool.true_and, Bool.and_true, Bool.false_and, Bool.and_false, Bool.true_or, Bool.or_true, Bool.false_or, Bool.or_false, Bool.and_self, Bool.or_self, reduceIte, reduceCtorEq]
  simp only [b_interleaved_p1_e, m, semK, seqD, isI, isB, isS, isTu, isLi, seqO, PD.ats, PD.at, PD.seq, behind, frzS, RD.fz, RD.fzs, RD.noL, RD.noLs, D.noL, D.noLs, RD.parts, putS, wipeS, boolT, intT, isTupP, isLstP, truD, isNon, iOp, iOpC, iMod, iDiv, iMul, iNeg, iAbs, iId, iCmp, bCmp, lenOp, tupOp, ownOp, slTup, revTup, ite_self, if_true, if_false, ite_true, ite_false, Bool.not_true, Bool.not_false, Bool.false_eq_true, List.getElem?_cons_zero, List.getElem?_cons_succ, List.set_cons_zero, List.set_cons_succ, List.map_cons, List.map_nil, decide_true, decide_false, Bool.true_and, Bool.and_true, Bool.false_and, Bool.and_false, Bool.true_or, Bool.or_true, Bool.false_or, Bool.or_false, Bool.and_self, Bool.or_self, reduceIte, reduceCtorEq]
  simp only [b_interleaved_p2_e, rules_noL, semK, seqD, isI, isB, isS, isTu, isLi, seqO, PD.ats, PD.at, PD.seq, behind, frzS, RD.fz, RD.fzs, RD.noL, RD.noLs, D.noL, D.noLs, RD.parts, putS, wipeS, boolT, intT, isTupP, isLstP, truD, isNon, iOp, iOpC, iMod, iDiv, iMul, iNeg, iAbs, iId, iCmp, bCmp, lenOp, tupOp, ownOp, slTup, revTup, ite_self, if_true, if_false, ite_true, ite_false, Bool.not_true, Bool.not_false, Bool.false_eq_true, List.getElem?_cons_zero, List.getElem?_cons_succ, List.set_cons_zero, List.set_cons_succ, List.map_cons, List.map_nil, decide_true, decide_false, Bool.true_and, Bool.and_true, Bool.false_and, Bool.and_false, Bool.true_or, Bool.or_true, Bool.false_or, Bool.or_false, Bool.and_self, Bool.or_self, reduceIte, reduceCtorEq]
  simp only [b_interleaved_p3_e, semK, seqD, isI, isB, isS, isTu, isLi, seqO, PD.ats, PD.at, PD.seq, behind, frzS, RD.fz, RD.fzs, RD.noL, RD.noLs, D.noL, D.noLs, RD.parts, putS, wipeS, boolT, intT, isTupP, isLstP, truD, isNon, iOp, iOpC, iMod, iDiv, iMul, iNeg, iAbs, iId, iCmp, bCmp, lenOp, tupOp, ownOp, slTup, revTup, ite_self, if_true, if_false, ite_true, ite_false, Bool.not_true, Bool.not_false, Bool.false_eq_true, List.getElem?_cons_zero, List.getElem?_cons_succ, List.set_cons_zero, List.set_cons_succ, List.map_cons, List.map_nil, decide_true, decide_false, Bool.true_and, Bool.and_true, Bool.false_and, Bool.and_false, Bool.true_or, Bool.or_true, Bool.false_or, Bool.or_false, Bool.and_self, Bool.or_self, reduceIte, reduceCtorEq]
  simp only [b_interleaved_p4_e, semK, seqD, isI, isB, isS, isTu, isLi, seqO, PD.ats, PD.at, PD.seq, behind, frzS, RD.fz, RD.fzs, RD.noL, RD.noLs, D.noL, D.noLs, RD.parts, putS, wipeS, boolT, intT, isTupP, isLstP, truD, isNon, iOp, iOpC, iMod, iDiv, iMul, iNeg, iAbs, iId, iCmp, bCmp, lenOp, tupOp, ownOp, slTup, revTup, ite_self, if_true, if_false, ite_true, ite_false, Bool.not_true, Bool.not_false, Bool.false_eq_true, List.getElem?_cons_zero, List.getElem?_cons_succ, List.set_cons_zero, List.set_cons_succ, List.map_cons, List.map_nil, decide_true, decide_false, Bool.true_and, Bool.and_true, Bool.false_and, Bool.and_false, Bool.true_or, Bool.or_true, Bool.false_or, Bool.or_false, Bool.and_self, Bool.or_self, reduceIte, reduceCtorEq]
  simp only [b_interleaved_p5_e, lp', semK, seqD, isI, isB, isS, isTu, isLi, seqO, PD.ats, PD.at, PD.seq, behind, frzS, RD.fz, RD.fzs, RD.noL, RD.noLs, D.noL, D.noLs, RD.parts, putS, wipeS, boolT, intT, isTupP, isLstP, truD, isNon, iOp, iOpC, iMod, iDiv, iMul, iNeg, iAbs, iId, iCmp, bCmp, lenOp, tupOp, ownOp, slTup, revTup, ite_self, if_true, if_false, ite_true, ite_false, Bool.not_true, Bool.not_false, Bool.false_eq_true, List.getElem?_cons_zero, List.getElem?_cons_succ, List.set_cons_zero, List.set_cons_succ, List.map_cons, List.map_nil, decide_true, decide_false, Bool.true_and, Bool.and_true, Bool.false_and, Bool.and_false, Bool.true_or, Bool.or_true, Bool.false_or, Bool.or_false, Bool.and_self, Bool.or_self, reduceIte, reduceCtorEq]
  simp only [b_interleaved_p6_e, List.length_map, lt, wb, semK, seqD, isI, isB, isS, isTu, isLi, seqO, PD.ats, PD.at, PD.seq, behind, frzS, RD.fz, RD.fzs, RD.noL, RD.noLs, D.noL, D.noLs, RD.parts, putS, wipeS, boolT, intT, isTupP, isLstP, truD, isNon, iOp, iOpC, iMod, iDiv, iMul, iNeg, iAbs, iId, iCmp, bCmp, lenOp, tupOp, ownOp, slTup, revTup, ite_self, if_true, if_false, ite_true, ite_false, Bool.not_true, Bool.not_false, Bool.false_eq_true, List.getElem?_cons_zero, List.getElem?_cons_succ, List.set_cons_zero, List.set_cons_succ, List.map_cons, List.map_nil, decide_true, decide_false, Bool.true_and, Bool.and_true, Bool.false_and, Bool.and_false, Bool.true_or, Bool.or_true, Bool.false_or, Bool.or_false, Bool.and_self, Bool.or_self, reduceIte, reduceCtorEq]
end Dm

namespace Dm
open PySem PySem.Spec PyProof.Rows L2
end Dm

namespace Dm
open PySem PySem.Spec PyProof.Rows L2
def pool5 : List Str := ["a", "ae", "b", "c", "d1"]
end Dm

namespace Dm
open PySem PySem.Spec PyProof.Rows L2
def abcL : List Str := ["a", "b", "c"]
def fL (Q L : List Str) (z : Str) : List Str := if z ∉ L ∧ (L.length < 3 ∨ z ∉ abcL ∨ z ∈ Q) then L ++ [z] else L
end Dm

namespace Dm
open PySem PySem.Spec PyProof.Rows L2
structure ShI (r t : Rul) (L : List Str) (rows : List (List Str)) (b : Bool) : Prop where
  no : b = true → exB r t = false
  all : L.length = 3 → ∀ zs ∈ rows, ∀ ws ∈ seqsL 2, shownB r t ⟨zs, ws⟩ = true → b = true
theorem ShI.step {r t : Rul} (hr : r.ok) (ht : t.ok) {L : List Str} {rows : List (List Str)} {b : Bool} (h : ShI r t L rows b) {zs : List Str} {W : List (List Int)} (hW : ∀ ws ∈ W, OrdZ zs ws) (h3 : L.length = 3 → W = seqsL 2) : ShI r t L (rows ++ [zs]) (b || W.any fun ws => shownB r t ⟨zs, ws⟩) := by
  refine ⟨fun e => ?_, fun e z hz ws hws hs => ?_⟩
  · rw [Bool.or_eq_true] at e
    rcases e with e | e
    · exact h.no e
    · obtain ⟨ws, hw, hs⟩ := List.any_eq_true.mp e
      exact shown_ex (o := ⟨zs, ws⟩) (hW ws hw) hr ht hs
  · rcases List.mem_append.mp hz with hz | hz
    · rw [h.all e z hz ws hws hs, Bool.true_or]
    · rw [List.mem_singleton] at hz
      subst hz
      rw [List.any_eq_true.mpr ⟨ws, by rw [h3 e]; exact hws, hs⟩, Bool.or_true]
end Dm

namespace Dm
open PySem PySem.Spec PyProof.Rows L2
theorem compT_inv {vs : List Nat} {tg : SGW} {ifs : SC} {elt : SQ} (I : SD → Prop) (P : D → Bool) (F : D → D) : ∀ {xs acc : List D} {S : SD}, I S → acc.length + xs.length ≤ 100000 →
    (∀ S, I S → ∀ x ∈ xs, ∃ S1 S2, tg x S = .ret S1 ∧ ifs S1 = .ret (P x, S2) ∧ I (wipeS S2 vs) ∧ (P x = true → ∃ S3, elt S2 = .ret (F x, S3) ∧ I (wipeS S3 vs))) → ∃ S', compT vs tg ifs elt xs acc S = .ret (acc ++ (xs.filter P).map F, S') ∧ I S'
  | [], acc, S, hi, _, _ => ⟨S, by simp [compT], hi⟩
  | x :: xs, acc, S, hi, hl, h => by
    obtain ⟨S1, S2, h1, h2, h3, h4⟩ := h S hi x List.mem_cons_self
    rw [List.length_cons] at hl
    rw [compT, h1, T.ret_bind, h2, T.ret_bind]
    cases hF : P x with
    | true =>
      obtain ⟨S3, h5, h6⟩ := h4 hF
      obtain ⟨S', e, hi'⟩ := compT_inv I P F (xs := xs) (acc := acc ++ [F x]) h6 (by rw [List.length_append, List.length_singleton]; omega) fun S hS y hy => h S hS y (List.mem_cons_of_mem _ hy)
      refine ⟨S', ?_, hi'⟩
      rw [if_pos rfl, h5, T.ret_bind]
      simp only [lenT]
      rw [if_pos (by omega), T.ret_bind, e]
      simp [hF]
    | false =>
      obtain ⟨S', e, hi'⟩ := compT_inv I P F (xs := xs) (acc := acc) h3 (by omega) fun S hS y hy => h S hS y (List.mem_cons_of_mem _ hy)
      refine ⟨S', ?_, hi'⟩
      rw [if_neg Bool.false_ne_true, e]
      simp [hF]
end Dm

namespace Dm
open PySem PySem.Spec PyProof.Rows L2
end Dm

namespace Dm
open PySem PySem.Spec PyProof.Rows L2
end Dm

namespace Dm
open PySem PySem.Spec PyProof.Rows L2
end Dm

namespace Dm
open PySem PySem.Spec PyProof.Rows L2
open CpPm (ix3 ix4)
end Dm

namespace Dm
open PySem PySem.Spec PyProof.Rows L2
end Dm

namespace Dm
open PySem PySem.Spec PyProof.Rows L2
section
variable {r t : Rul} (hr : r.ok) (ht : t.ok)
include hr ht
end
end Dm

namespace Dm
open PySem PySem.Spec PyProof.Rows L2
end Dm

namespace Dm
open PySem PySem.Spec PyProof.Rows L2
end Dm

namespace Dm
open PySem PySem.Spec PyProof.Rows L2
end Dm

namespace Dm
open PySem PySem.Spec PyProof.Rows L2
end Dm

namespace Dm
open PySem PySem.Spec PyProof.Rows L2
end Dm

namespace Dm
open PySem PySem.Spec PyProof.Rows L2
end Dm

namespace Dm
open PySem PySem.Spec PyProof.Rows L2
end Dm

namespace Dm
open PySem PySem.Spec PyProof.Rows L2
section
variable {r t : Rul} (hr : r.ok) (ht : t.ok)
include hr ht
end
end Dm

namespace Dm
open PySem PySem.Spec PyProof.Rows L2
end Dm

namespace Dm
open PySem PySem.Spec PyProof.Rows L2
section
variable {one other : List Rul} {i j : Nat} {r t : Rul} {o : Odr} (h1 : ∀ r ∈ one, r.ok) (h2 : ∀ r ∈ other, r.ok) (l1 : one.length ≤ 20) (l2 : other.length ≤ 20) (hi : one[i]? = some r) (hj : other[j]? = some t) (ho : o.ok)
include h1 h2 l1 l2 hi hj ho
end
end Dm

namespace Dm
open PySem PySem.Spec PyProof.Rows L2
section
variable {r t : Rul} (hr : r.ok) (ht : t.ok)
include hr ht
end
end Dm

namespace Dm
open PySem PySem.Spec PyProof.Rows L2
end Dm

namespace Dm
open PySem PySem.Spec PyProof.Rows L2
end Dm

namespace Dm
section
variable {α : Type} [DecidableEq α] (r : α → α → Bool)
variable {r}
variable (r)
variable {r}
variable (r)
variable {r}
end
end Dm

namespace Dm
section
variable {α : Type} [DecidableEq α] {r : α → α → Bool}
end
end Dm

namespace Dm
end Dm

namespace Dm
section
variable {α : Type} [DecidableEq α] {r : α → α → Bool}
end
end Dm

namespace Dm
section
variable {α : Type} [DecidableEq α] (r : α → α → Bool)
variable {r}
end
section
variable {α : Type} [DecidableEq α] {r s : α → α → Bool}
end
end Dm

namespace Dm
section
variable {α β : Type} [DecidableEq α] {r : α → α → Bool}
end
end Dm

namespace Dm
section
variable {α : Type} [DecidableEq α]
def two (x y : α) : α → Bool := fun z => decide (z = x) || decide (z = y)
structure Kept2 (fr : α → α → Bool) (L M : List α) : Prop where
  perm : M.Perm L
  flt : ∀ x y, fr x y = false → L.filter (two x y) = M.filter (two x y)
theorem Kept2.refl (fr : α → α → Bool) (L : List α) : Kept2 fr L L := ⟨List.Perm.refl _, fun _ _ _ => rfl⟩
end
end Dm

namespace Dm
open PySem PySem.Spec PyProof.Rows L2
instance rulDec : DecidableEq Rul := fun r t => decidable_of_iff (r.side = t.side ∧ r.a = t.a ∧ r.s = t.s ∧ r.l = t.l) ⟨fun ⟨h1, h2, h3, h4⟩ => by cases r; cases t; cases h1; cases h2; cases h3; cases h4; rfl, fun h => by subst h; exact ⟨rfl, rfl, rfl, rfl⟩⟩
end Dm

namespace Dm
open PySem PySem.Spec PyProof.Rows L2
end Dm

namespace Dm
open PySem PySem.Spec PyProof.Rows L2
def rlD (rs : List Rul) : D := .tup (rs.map Rul.d)
structure GoodE (rs os : List Rul) (E : D) : Prop where
  ex : ∃ b, sm_l_is_right [rlD rs, rlD os, E] = .ret (.d (.bl b)) ∧ sm_accepts_unlike [rlD rs, rlD os, E] = .ret (.d (.bl b)) ∧ (b = true → ¬ Kept2 exB rs os)
structure TwoR (rs os : List Rul) : Prop where
  hr : ∀ r ∈ rs, r.ok
  ho : ∀ r ∈ os, r.ok
  lr : rs.length ≤ 20
  lo : os.length ≤ 20
end Dm

namespace Dm
open PySem PySem.Spec PyProof.Rows L2
theorem GoodE.no {rs os : List Rul} {E : D} (h1 : sm_l_is_right [rlD rs, rlD os, E] = .ret (.d (.bl false))) (h2 : sm_accepts_unlike [rlD rs, rlD os, E] = .ret (.d (.bl false))) : GoodE rs os E := ⟨false, h1, h2, fun h => by cases h⟩
section
variable {rs os : List Rul} (h : TwoR rs os)
include h
end
end Dm

namespace Dm
open PySem PySem.Spec PyProof.Rows L2
end Dm

namespace Dm
open PySem PySem.Spec PyProof.Rows L2
section
variable {S : SD} {f g h ix : SQ} {r r2 : SR} {i j : Nat} {it : SI} {p : SP}
end
section
variable {S : SD}
end
end Dm

namespace Dm
open PySem PySem.Spec PyProof.Rows L2
structure Lsts (Ls : List (List Rul)) : Prop where
  ok : ∀ A ∈ Ls, ∀ r ∈ A, r.ok
  len : ∀ A ∈ Ls, A.length ≤ 20
  pos : 1 ≤ Ls.length
  most : Ls.length ≤ 6
theorem Lsts.get {Ls : List (List Rul)} (h : Lsts Ls) (i : Nat) : (∀ r ∈ Ls.getD i [], r.ok) ∧ (Ls.getD i []).length ≤ 20 := by
  by_cases hi : i < Ls.length
  · have : Ls.getD i [] ∈ Ls := by rw [List.getD_eq_getElem?_getD, List.getElem?_eq_getElem hi]; exact List.getElem_mem hi
    exact ⟨h.ok _ this, h.len _ this⟩
  · rw [List.getD_eq_getElem?_getD, List.getElem?_eq_none (by omega)]
    exact ⟨fun r hr => (by cases hr), by show 0 ≤ 20; omega⟩
end Dm

namespace Dm
open PySem PySem.Spec PyProof.Rows L2
end Dm

namespace Dm
open PySem PySem.Spec PyProof.Rows L2
end Dm

namespace Dm
open PySem PySem.Spec PyProof.Rows L2
end Dm

namespace Dm
open PySem PySem.Spec PyProof.Rows L2
end Dm

namespace Dm
open PySem PySem.Spec PyProof.Rows L2
end Dm

namespace Dm
open PySem PySem.Spec PyProof.Rows L2
end Dm

namespace Dm
open PySem PySem.Spec PyProof.Rows L2
end Dm

namespace Dm
open PySem PySem.Spec PyProof.Rows L2
open PySem.W (EachIs)
section
variable {C : Cfg} {X : Cx} {a : Expr} {pf : SP} {pos p : Pos}
end
end Dm

namespace Dm
open PySem PySem.Spec PyProof.Rows L2
def combN (a b : Int) : Int := PySem.W.mcComb a b
def combI : D → D → T D
  | .int a, .int b => if 0 ≤ a ∧ a ≤ 1000 ∧ 0 ≤ b ∧ b ≤ 1000 then .ret (.int (combN a b)) else .fail
  | _, _ => .fail
theorem cr_comb {X : Cx} : CallR X (.builtin "math.comb") (fun vs H Q => ∃ a b : Int, vs = [.int a, .int b] ∧ 0 ≤ a ∧ a ≤ 1000 ∧ 0 ≤ b ∧ b ≤ 1000 ∧ Q (.int (combN a b)) H) := by
  intro pins s σ H vs us Q I r h
  obtain ⟨a, b, rfl, a0, a1, b0, b1, q⟩ := h
  cases r with
  | cons r1 r2 =>
    cases r2 with
    | cons r2 r3 =>
      cases r3
      obtain ⟨t, rfl⟩ := r1
      obtain ⟨u, rfl⟩ := r2
      exact PySem.W.mc_comb a0 b0 (by omega) (.inl (by omega)) fun _ => ⟨.int (combN a b), H, I.kept (t' := s.toks + 1) fun _ _ e => e, ⟨_, rfl⟩, q⟩
section
variable {C : Cfg} {X : Cx} {a b : Expr} {f g : SQ} {p pos : Pos} {x : Str} {id : String} {r : List V → Hp → VK → Prop} {e : Expr} {es : List Expr} {t : TA}
theorem pe_callM (hc : CallR X (.builtin id) r) (hg : Gl X x) (hm : X.mg x = some (.builtin id)) (ha : PA X (e :: es) t) (hdb : (x == ("__debug__" : Str)) = false := by decide)
    (he : starEach (e :: es) X.env = (false, eval e X.env) :: starEach es X.env := by rfl) (hpl : (backTo pos (starEach es X.env)).any (·.1) = false := by rfl) : PE X (.Call (.Name x p) (e :: es) [] pos) (tCB r t) := by
  refine ⟨fun pins s σ H Q I h => ?_⟩
  refine wpAny_Call_Name_kw (ld_glob I hg hm ?_ hdb)
  exact PyProof.Rows.callWith_builtin1 (thn (ha.run pos pins s σ H _ I h) fun us s1 ⟨vs, H1, I1, r1, q1⟩ => hc pins s1 σ H1 vs us Q I1 r1 q1) he hpl
theorem q_comb (hm : X.mg "comb" = some (.builtin "math.comb")) (ha : SndQ C X a f) (hb : SndQ C X b g) (hg : Gl X "comb" := by rfl)
    (he : starEach [a, b] X.env = (false, eval a X.env) :: starEach [b] X.env := by rfl) (he2 : starEach [b] X.env = (false, eval b X.env) :: starEach [] X.env := by rfl) (hpl : (backTo pos (starEach [b] X.env)).any (·.1) = false := by rfl) :
    SndQ C X (.Call (.Name "comb" p) [a, b] [] pos) (bin2 combI f g) := fun S Q w tmp σ H F s R k =>
  of_pe (pe_callM cr_comb hg hm (pa_cons pe_can (pa_cons pe_can pa_nil he2) he) (he := he) (hpl := hpl)) (ha.u (W_bind.mp w) tmp σ H F s _ fun v H1 F1 d S1 s1 e1 r1 w1 => hb.u (W_bind.mp w1) tmp σ H1 F1 s1 _ fun u H2 F2 d2 S2 s2 e2 r2 w2 => by
    have w3 : W (combI d d2) fun z => Q z S2 := W_bind.mp w2
    cases d <;> first | (cases d2 <;> first | exact False.elim w3 | skip) | exact False.elim w3
    unfold combI at w3
    dsimp only at w3
    split at w3
    · rename_i h
      cases r1
      cases r2
      exact ⟨_, _, rfl, h.1, h.2.1, h.2.2.1, h.2.2.2, k _ H2 F2 (.int _) S2 s2 (Same.trans e1 e2) (.int _) w3⟩
    · exact w3.no)
end
end Dm

namespace Dm
open PySem PySem.Spec PyProof.Rows L2
open GxR (TabB TabG Tabbed)
def b_count_interleavings : SS := seqS (exprS (qr (callR sm_check_one_and_other [vP 0, vP 1]))) (retS (rq (bin2 combI (bin2 (iOp (· + ·)) (un1P lenOp (vP 0)) (un1P lenOp (vP 1))) (un1P lenOp (vP 0)))))
def sm_count_interleavings (ds : List D) : Dm.T RD := arity 2 (defT 2 b_count_interleavings) ds
theorem e_count_interleavings (a0 a1 : D) : sm_count_interleavings [a0, a1] = (b_count_interleavings [Slot.val a0, Slot.val a1]).bnd endT := rfl
def bx_count_interleavings_2 : SS := seqS (dropS (callXR sx_check_one_and_other_2 [vP 0, vP 1])) (leafS (retS (rq (bin2 combI (bin2 (iOp (· + ·)) (un1P lenOp (vP 0)) (un1P lenOp (vP 1))) (un1P lenOp (vP 0))))))
def sx_count_interleavings_2 (ds : List D) : Dm.T RD := arity 2 (defT 2 bx_count_interleavings_2) ds
end Dm

namespace Dm
open PySem PySem.Spec PyProof.Rows L2
section
variable {r t : Rul} (hr : r.ok) (ht : t.ok)
include hr ht
end
section
variable {one other : List Rul} {i j : Nat} {r t : Rul} {o : Odr} (h1 : ∀ r ∈ one, r.ok) (h2 : ∀ r ∈ other, r.ok) (l1 : one.length ≤ 20) (l2 : other.length ≤ 20) (hi : one[i]? = some r) (hj : other[j]? = some t) (ho : o.ok)
include h1 h2 l1 l2 hi hj ho
end
end Dm

namespace Dm
open PySem PySem.Spec PyProof.Rows L2
end Dm

namespace Dm
open PySem PySem.Spec PyProof.Rows L2
def ToldArg (y : D) : Prop := y = .non ∨ (∃ a b c e, y = .tup [a, b, c, e]) ∨ (∃ xs, ¬ xs.length = 4 ∧ y = .tup xs) ∨ ∃ xs, y = .lst xs
theorem ToldArg.rule (r : Rul) : ToldArg r.d := .inr (.inl ⟨_, _, _, _, rfl⟩)
end Dm

namespace Dm
open PySem PySem.Spec PyProof.Rows L2
end Dm

namespace Dm
open PySem PySem.Spec PyProof.Rows L2
section
variable {rs : List Rul} (hr : ∀ r ∈ rs, r.ok) (hl : rs.length ≤ 100) {i : Nat} {l : Str} (hz : letterZ l = true)
include hr hl hz
end
end Dm

namespace Dm
open PySem PySem.Spec PyProof.Rows L2
section
variable {r : D} (h : sm_is_rule_list [r] = .ret (.d (.bl false)))
include h
end
section
variable {a b : Str} (ha : letterZ a = true) (hb : letterZ b = true)
include ha hb
end
end Dm

namespace Dm
open PySem PySem.Spec PyProof.Rows L2
theorem no_marks {a b c : D} (h : sx_check_one_and_other_2 [a, b] = .ret (.d .non)) (hm : sm_are_marks [a, b, c] = .ret (.d (.bl false))) : sx_interleaved_2 [a, b, c] = .exc (.mk "BadValue" [.str "marks"]) := by
  simp only [ex_interleaved_2, bx_interleaved_2, h, hm, xo_BadValue (n := "marks") (by decide), noX_ret, noX_fail, T.exc_bnd, tryT_ret, tryT_fail, tryT_exc, x_leafS, x_leafR, x_dropS, x_callXR, x_raiseS, x_ifXS, x_tryS, x_asgXS, x_hdl, x_passX, x_suiteT, x_suF, endO_rt, x_xfQ, x_xisQ, semK, seqD, isI, isB, isS, isTu, isLi, seqO, PD.ats, PD.at, PD.seq, behind, frzS, RD.fz, RD.fzs, RD.noL, RD.noLs, D.noL, D.noLs, RD.parts, putS, wipeS, boolT, intT, isTupP, isLstP, truD, isNon, iOp, iOpC, iMod, iDiv, iMul, iNeg, iAbs, iId, iCmp, bCmp, lenOp, tupOp, ownOp, slTup, revTup, ite_self, if_true, if_false, ite_true, ite_false, Bool.not_true, Bool.not_false, Bool.false_eq_true, List.getElem?_cons_zero, List.getElem?_cons_succ, List.set_cons_zero, List.set_cons_succ, List.map_cons, List.map_nil, decide_true, decide_false, Bool.true_and, Bool.and_true, Bool.false_and, Bool.and_false, Bool.true_or, Bool.or_true, Bool.false_or, Bool.or_false, Bool.and_self, Bool.or_self, reduceIte, reduceCtorEq]
theorem r_one_other : RefF sm_check_one_and_other sx_check_one_and_other_2 := ref_def (b := b_check_one_and_other) (b' := bx_check_one_and_other_2) (ref_seq (ref_drop (ref_call r_check_rules)) (ref_drop (ref_call r_check_rules)))
theorem r_within77 : RefF sm_within_bound sx_within_bound_2 := ref_def (b := b_within_bound) (b' := bx_within_bound_2) (ref_seq (ref_if ref_fail ref_rfl) ref_leaf)
theorem r_interleaved77 : RefF sm_interleaved sx_interleaved_2 := ref_def (b := b_interleaved) (b' := bx_interleaved_2) (ref_seq (ref_drop (ref_call r_one_other)) (ref_seq (ref_if ref_fail ref_rfl) (ref_seq ref_leaf (ref_seq ref_leaf (ref_seq ref_leaf (ref_seq ref_leaf (ref_ret (ref_call r_within77))))))))
end Dm

namespace Dm
open PySem PySem.Spec PyProof.Rows L2
end Dm

namespace Dm
open PySem PySem.Spec PyProof.Rows L2
end Dm

namespace Dm
open PySem PySem.Spec PyProof.Rows L2
structure AB77 (A B : List Rul) : Prop where
  a : ∀ r ∈ A, r.ok
  b : ∀ r ∈ B, r.ok
  a1 : 1 ≤ A.length
  a4 : A.length ≤ 4
  b1 : 1 ≤ B.length
  b4 : B.length ≤ 4
theorem no_marks77 {A B : List D} {ms : List Nat} (two : ∀ k ∈ ms, k = 0 ∨ k = 1) (c0 : ms.count 0 ≠ A.length) : sm_are_marks [.tup A, .tup B, .tup (ms.map natD)] = .ret (.d (.bl false)) := by
  have c : allT [3] (nameW 3) yesC (qr (callR sm_is_integer_within [vP 3, pq (cQ (.int 0)), pq (cQ (.int 1))])) (ms.map natD) [Slot.val (.tup A), Slot.val (.tup B), Slot.val (.tup (ms.map natD)), Slot.none] = .ret (.bl ((ms.map natD).all (inR 0 1)), [Slot.val (.tup A), Slot.val (.tup B), Slot.val (.tup (ms.map natD)), Slot.none]) := by
    refine allT_eq (inR 0 1) fun x hx => ?_
    obtain ⟨k, hk, rfl⟩ := List.mem_map.mp hx
    have q := s_within (d := natD k) (l := 0) (m := 1) rfl
    refine ⟨[Slot.val (.tup A), Slot.val (.tup B), Slot.val (.tup (ms.map natD)), Slot.val (natD k)], [Slot.val (.tup A), Slot.val (.tup B), Slot.val (.tup (ms.map natD)), Slot.val (natD k)], rfl, rfl, ?_, rfl⟩
    simp only [q, semK, seqD, isI, isB, isS, isTu, isLi, seqO, PD.ats, PD.at, PD.seq, behind, frzS, RD.fz, RD.fzs, RD.noL, RD.noLs, D.noL, D.noLs, RD.parts, putS, wipeS, boolT, intT, isTupP, isLstP, truD, isNon, iOp, iOpC, iMod, iDiv, iMul, iNeg, iAbs, iId, iCmp, bCmp, lenOp, tupOp, ownOp, slTup, revTup, ite_self, if_true, if_false, ite_true, ite_false, Bool.not_true, Bool.not_false, Bool.false_eq_true, List.getElem?_cons_zero, List.getElem?_cons_succ, List.set_cons_zero, List.set_cons_succ, List.map_cons, List.map_nil, decide_true, decide_false, Bool.true_and, Bool.and_true, Bool.false_and, Bool.and_false, Bool.true_or, Bool.or_true, Bool.false_or, Bool.or_false, Bool.and_self, Bool.or_self, reduceIte, reduceCtorEq]
  have ha : (ms.map natD).all (inR 0 1) = true := by
    rw [List.all_eq_true]
    intro x hx
    obtain ⟨k, hk, rfl⟩ := List.mem_map.mp hx
    rcases two k hk with rfl | rfl <;> decide
  have n0 : cntT (.tup (ms.map natD)) (.int 0) = .ret (.int ((ms.count 0 : Nat) : Int)) := by
    unfold cntT
    dsimp only
    rw [intsO_nats]
    have := cast_count 0 ms
    show T.ret (D.int (((ms.map fun (x : Nat) => (x : Int)).count ((0 : Nat) : Int) : Nat) : Int)) = _
    rw [this]
  have d0 : decide (((ms.count 0 : Nat) : Int) = ((A.length : Nat) : Int)) = false := decide_eq_false (by omega)
  simp only [e_are_marks, b_are_marks, c, ha, n0, eqT_int, d0, semK, seqD, isI, isB, isS, isTu, isLi, seqO, PD.ats, PD.at, PD.seq, behind, frzS, RD.fz, RD.fzs, RD.noL, RD.noLs, D.noL, D.noLs, RD.parts, putS, wipeS, boolT, intT, isTupP, isLstP, truD, isNon, iOp, iOpC, iMod, iDiv, iMul, iNeg, iAbs, iId, iCmp, bCmp, lenOp, tupOp, ownOp, slTup, revTup, ite_self, if_true, if_false, ite_true, ite_false, Bool.not_true, Bool.not_false, Bool.false_eq_true, List.getElem?_cons_zero, List.getElem?_cons_succ, List.set_cons_zero, List.set_cons_succ, List.map_cons, List.map_nil, decide_true, decide_false, Bool.true_and, Bool.and_true, Bool.false_and, Bool.and_false, Bool.true_or, Bool.or_true, Bool.false_or, Bool.or_false, Bool.and_self, Bool.or_self, reduceIte, reduceCtorEq]
end Dm

namespace Dm
open PySem PySem.Spec PyProof.Rows L2
section
variable {A B : List Rul} (h : AB77 A B)
include h
theorem AB77.ra : sm_is_rule_list [.tup (A.map Rul.d)] = .ret (.d (.bl true)) := s_rule_list_ok h.a (by have := h.a4; omega)
theorem AB77.rb : sm_is_rule_list [.tup (B.map Rul.d)] = .ret (.d (.bl true)) := s_rule_list_ok h.b (by have := h.b4; omega)
end
end Dm

namespace Dm
open PySem PySem.Spec PyProof.Rows L2
section
variable {A B : List Rul} (h : AB77 A B)
include h
end
end Dm

namespace Dm
open PySem PySem.Spec PyProof.Rows L2
theorem addT77 {A B : List D} (h : A.length + B.length ≤ 1000) : addT (.tup A) (.tup B) = .ret (.tup (A ++ B)) := by
  unfold addT
  dsimp only
  rw [if_pos (by omega)]
theorem mul77 (x : D) {n : Nat} (h : n ≤ 100) : mulT2 (.tup [x]) (.int (n : Nat)) = .ret (.tup (List.replicate n x)) := by
  unfold mulT2
  dsimp only
  rw [if_pos ⟨by omega, by omega, by show 1 ≤ 1000; omega⟩, Int.toNat_natCast]
  have : (List.replicate n [x]).flatten = List.replicate n x := by
    induction n with
    | zero => rfl
    | succ n ih => rw [List.replicate_succ, List.flatten_cons, ih (by omega), List.replicate_succ]; rfl
  rw [this]
end Dm

namespace CpCb
open PySem PySem.Spec
def row2 (i j m : Nat) : List (List Nat) := (List.range m).map fun d => [i, j + d]
def rows2 (n i m : Nat) : List (List Nat) := (List.range m).flatMap fun d => row2 (i + d) (i + d + 1) (n - (i + d + 1))
end CpCb
namespace Dm
open PySem PySem.Spec PyProof.Rows L2
section
variable {C : Cfg} {X : Cx} {S : SD} {tmp : Tmp} {σ : L2.St} {H F : Hp} {iter tg a : Expr} {p p2 p3 pos : Pos} {f : SQ} {j : Nat}
end
end Dm

namespace Dm
open PySem PySem.Spec PyProof.Rows L2
open GxR (TabB TabG Tabbed)
def nPop (j : Nat) (ix f : SQ) : SN := fun S rows => match S[j]? with
  | some (.own _) => (ix S).bind fun q => match q.1 with
    | .int n => match L2.ixN rows.length n with
      | some k => (f q.2).bind fun z => match z.1, rows.getD k [], z.2[j]? with
        | .int m, x :: r, some (.own ys) => if m = 0 ∧ ys.length ≤ 100000 then .ret (z.2.set j (.own (ys ++ [x])), rows.set k r) else .fail
        | _, _, _ => .fail
      | _ => .fail
    | _ => .fail
  | _ => .fail
def rowsT (i j : Nat) (fe : SR) (it : SI) (g : SG) (n : SN) : List RD → SD → T Out
  | [.own xs, .own ys], S => (fe (S.set i .none)).bind fun q3 => (it (putS j q3.1 q3.2)).bind fun z => (loopN g n z.1 z.2 [xs, ys]).bind fun r => .ret (.nx (r.1.set i (.val (.lst (r.2.map D.lst)))))
  | _, _ => .fail
def rowsDS (i : Nat) (fs : List SR) (j : Nat) (fe : SR) (it : SI) (g : SG) (n : SN) : SS := fun S => (argsR fs S).bind fun q => rowsT i j fe it g n q.1 q.2
section
variable {C : Cfg} {X : Cx} {S : SD} {i : Option Nat} {rows : List (List D)} {p : Addr} {as : List Addr} {σ : L2.St} {H F : Hp}
theorem NSt.popped (n : NSt C S i rows p as σ H F) {k : Nat} {a : Addr} {xs : List D} {d : D} (h1 : as[k]? = some a) (h2 : rows[k]? = some (d :: xs)) : ∃ v us, H a = some (HO.lst (v :: us)) ∧ Rep C.K C.st F v d ∧ us.length = xs.length ∧ NSt C S i (rows.set k xs) p as σ (upd H a (.lst us)) F := by
  obtain ⟨us0, g1, g2⟩ := n.rw.at' k a (d :: xs) h1 h2
  cases g2 with
  | cons r t =>
  rename_i v us
  have ha : a ∈ p :: as := List.mem_cons_of_mem _ (List.mem_of_getElem? h1)
  have hpa : p ≠ a := fun z => (List.nodup_cons.mp n.nd).1 (by rw [z]; exact List.mem_of_getElem? h1)
  refine ⟨v, us, g1, r, t.length, n.s.apart (n.fr.fn a ha) (n.fr.hn a ha) g1 (n.fr.no a ha) _, n.hσ, by rw [upd_ne hpa]; exact n.hp, ⟨n.fr.fn, n.fr.hn, fun b hb => ?_, n.fr.no⟩, n.nd, by rw [List.length_set]; exact n.rw.len, fun j b ys q1 q2 => ?_⟩
  · by_cases z : b = a
    · exact ⟨_, by rw [z, upd_same]⟩
    · rw [upd_ne z]; exact n.fr.ls b hb
  · by_cases z : k = j
    · subst z
      rw [h1] at q1
      cases q1
      rw [List.getElem?_set_self (List.getElem?_eq_some_iff.mp h2).1] at q2
      cases q2
      exact ⟨_, upd_same, t⟩
    · rw [List.getElem?_set_ne z] at q2
      obtain ⟨vs, g3, g4⟩ := n.rw.at' j b ys q1 q2
      refine ⟨vs, ?_, g4⟩
      rw [upd_ne (fun e => z ?_)]
      · exact g3
      · subst e
        exact nd_inj (List.nodup_cons.mp n.nd).2 h1 q1
end
section
variable {C : Cfg} {X : Cx} {i : Nat} {e a b c iter tg : Expr} {st : Stmt} {sts body : List Stmt} {pos : Pos}
theorem n_pop {x y : Str} {ix : Expr} {j : Nat} {p0 p1 py apos cpos apos2 cpos2 : Pos} {gi f : SQ} (h : ∀ H0, SndQ (C.wH H0) X ix gi) (k : ∀ H0, SndQ (C.wH H0) X b f) (hN : X.N[i]? = some x := by rfl) (hNy : X.N[j]? = some y := by rfl)
    (hv : Vis X.env.scope x := by first | exact Or.inl rfl | exact Or.inr (Or.inl rfl) | exact Or.inr (Or.inr rfl)) (hd : (x == ("__debug__" : Str)) = false := by decide) (hcd : (x == ("__classdict__" : Str)) = false := by decide)
    (hvy : Vis X.env.scope y := by first | exact Or.inl rfl | exact Or.inr (Or.inl rfl) | exact Or.inr (Or.inr rfl)) (hdy : (y == ("__debug__" : Str)) = false := by decide) (hcdy : (y == ("__classdict__" : Str)) = false := by decide)
    (hpx : PlainIx ix := by exact fun _ _ => rfl)
    (hbase : attributeBase (.Subscript (.Name x p0) ix p1) "pop" X.env (eval (.Subscript (.Name x p0) ix p1) X.env) = eval (.Subscript (.Name x p0) ix p1) X.env := by rfl)
    (hfew : ((backTo cpos (starEach [b] X.env)).all (fun x => !x.1) && (backToKw cpos (keywordEach [] X.env)).all (fun x => x.1.isSome)
      && decide (([b] : List Expr).length + ([] : List Keyword).length + (if ([] : List Keyword).isEmpty then 0 else 1) < 30)) = true := by rfl)
    (hline : (apos.endLine == cpos.line) = true := by rfl) (hs : starEach [b] X.env = (false, eval b X.env) :: starEach [] X.env := by rfl) (hplain : (backTo cpos (starEach [] X.env)).any (·.1) = false := by rfl)
    (hbase2 : attributeBase (.Name y py) "append" X.env (eval (.Name y py) X.env) = eval (.Name y py) X.env := by rfl)
    (hfew2 : ((backTo cpos2 (starEach [.Call (.Attribute (.Subscript (.Name x p0) ix p1) "pop" apos) [b] [] cpos] X.env)).all (fun x => !x.1) && (backToKw cpos2 (keywordEach [] X.env)).all (fun x => x.1.isSome)
      && decide (([.Call (.Attribute (.Subscript (.Name x p0) ix p1) "pop" apos) [b] [] cpos] : List Expr).length + ([] : List Keyword).length + (if ([] : List Keyword).isEmpty then 0 else 1) < 30)) = true := by rfl)
    (hline2 : (apos2.endLine == cpos2.line) = true := by rfl) (hs2 : starEach [.Call (.Attribute (.Subscript (.Name x p0) ix p1) "pop" apos) [b] [] cpos] X.env = (false, eval (.Call (.Attribute (.Subscript (.Name x p0) ix p1) "pop" apos) [b] [] cpos) X.env) :: starEach [] X.env := by rfl) (hplain2 : (backTo cpos2 (starEach [] X.env)).any (·.1) = false := by rfl)
    (hsw : swapsWith (.Call (.Attribute (.Name y py) "append" apos2) [.Call (.Attribute (.Subscript (.Name x p0) ix p1) "pop" apos) [b] [] cpos] [] cpos2) none pos.line X.env = pure false := by rfl) (hK : C.K = X.K := by rfl) :
    SndN C X (.Expr (.Call (.Attribute (.Name y py) "append" apos2) [.Call (.Attribute (.Subscript (.Name x p0) ix p1) "pop" apos) [b] [] cpos] [] cpos2) pos) i (nPop j gi f) := fun S rows P w p as σ H F s D' kk => by
  obtain ⟨ys0, hS, w0⟩ := own_w w
  refine of_ps (ps_expr pe_can hsw) (of_pe (pe_bm PySem.F.plainAttrs_list PySem.F.slot_list_append PySem.F.type_list_append mt_append (pe_var hNy hvy hdy hcdy) (pa_cons pe_can pa_nil hs2) hbase2 hfew2 hline2 hs2 hplain2) ?_)
  obtain ⟨a0, vs0, m1, m2, m3, m4, m5⟩ := s.s.own j ys0 hS
  refine ⟨_, m1, .inl ⟨rfl, vs0, .inl (.inl m4)⟩, ?_⟩
  refine of_pe (pe_bm PySem.F.plainAttrs_list PySem.F.slot_list_pop PySem.F.type_list_pop mt_popAt (pe_ix ix_seq (pe_var hN hv hd hcd) pe_can hpx) (pa_cons pe_can pa_nil hs) hbase hfew hline hs hplain) ?_
  refine ⟨_, s.hσ i rfl, s.q h (W_bind.mp w0) _ fun u H1 F1 y S1 s1 e1 r1 w1 => ?_⟩
  cases y <;> first | exact w1.no | skip
  rename_i n
  cases r1
  dsimp only at w1
  cases hk : L2.ixN rows.length n with
  | none => rw [hk] at w1; exact w1.no
  | some q =>
    rw [hk] at w1
    dsimp only at w1
    have hj : q < rows.length := ixN_lt hk
    have hja : q < as.length := by rw [s1.rw.len]; exact hj
    obtain ⟨us0, g1, g2⟩ := s1.rw.at' q as[q] rows[q] (List.getElem?_eq_getElem hja) (List.getElem?_eq_getElem hj)
    refine .inl ⟨p, as.map V.ref, n, V.ref as[q], rfl, rfl, .inl (.inl s1.hp), ?_, ?_⟩
    · unfold L2.atI
      rw [List.length_map, s1.rw.len, hk]
      show (as.map V.ref)[q]? = _
      rw [List.getElem?_map, List.getElem?_eq_getElem hja]
      rfl
    · refine ⟨.inl ⟨rfl, us0, .inl (.inl g1)⟩, s1.q k (W_bind.mp w1) _ fun v H2 F2 d S2 s2 e2 r2 w2 => ?_⟩
      dsimp only at w2
      have hrow : rows.getD q [] = rows[q] := by rw [List.getD_eq_getElem?_getD, List.getElem?_eq_getElem hj]; rfl
      rw [hrow] at w2
      cases d <;> first | exact w2.no | skip
      rename_i m
      cases r2
      cases hr : rows[q] with
      | nil => rw [hr] at w2; exact w2.no
      | cons x0 r0 =>
        rw [hr] at w2
        cases hS2 : S2[j]? with
        | none => rw [hS2] at w2; exact w2.no
        | some sl =>
          rw [hS2] at w2
          cases sl <;> first | exact w2.no | skip
          rename_i ys
          dsimp only at w2
          split at w2
          · rename_i hm
            obtain ⟨hm0, hlen⟩ := hm
            subst hm0
            obtain ⟨v0, us, g3, g4, g5, g6⟩ := s2.popped (List.getElem?_eq_getElem hja) (by rw [List.getElem?_eq_getElem hj, hr])
            refine ⟨as[q], v0 :: us, 0, 0, v0, rfl, rfl, g3, by omega, by omega, by unfold seqIndex?; simp, rfl, ?_⟩
            obtain ⟨a', us', b1, b2, b3, b4, b5⟩ := g6.s.own j ys hS2
            rw [m1] at b1
            cases b1
            refine ⟨_, us', v0, rfl, rfl, b4, by rw [b5.length]; exact Nat.lt_of_le_of_lt hlen (by decide), ?_⟩
            have g7 := g6.after ((g6.s.frame g6.fr).write hS2 m1 (b5.snoc g4)) (Same.refl _) fun _ _ => rfl
            exact kk _ _ _ _ F2 g7 (Same.trans e1 e2) w2
          · exact w2.no
theorem upd_upd' {H : Hp} {a : Addr} {x y : HO} : upd (upd H a x) a y = upd H a y := by
  funext b
  by_cases z : b = a
  · subst z; rw [upd_same, upd_same]
  · rw [upd_ne z, upd_ne z, upd_ne z]
theorem ss_rowsD {es : List Expr} {fs : List SR} {j : Nat} {x y : Str} {px py pos1 spos spos2 pos2 : Pos} {e2 : Expr} {fe : SR} {it : SI} {g : SG} {n : SN} {f : SS} (hN : X.N.Nodup)
    (h : SndAR C X es (argsR fs)) (he : ∀ H0, SndR (C.wH H0) X e2 fe)
    (hi : ∀ H0, SndIN (C.wH H0) X tg iter it) (hg : ∀ H0, KeepG (C.wH H0) X tg i g) (hb : SndNs C X body i n) (hr : SndSs C X sts f)
    (hx : X.N[i]? = some x := by rfl) (hy : X.N[j]? = some y := by rfl) (hij : j ≠ i := by decide)
    (hlx : Loc X.env.scope x := by first | exact Or.inl rfl | exact Or.inr rfl) (hly : Loc X.env.scope y := by first | exact Or.inl rfl | exact Or.inr rfl)
    (hs1 : swapsWith (.List es pos1) (some (.Name x px)) spos.line X.env = pure false := by rfl) (hs2 : swapsWith e2 (some (.Name y py)) spos2.line X.env = pure false := by rfl)
    (hfx : X.fn x = true ∨ X.env.scope.names.lookup x = some .local := by first | exact .inl rfl | exact .inr rfl | assumption) (hfy : X.fn y = true ∨ X.env.scope.names.lookup y = some .local := by first | exact .inl rfl | exact .inr rfl | assumption)
    (hc : X.calm = true := by rfl) (hxe : X.xe = (fun _ _ => False) := by rfl) (hs : ∀ x, foldedSetIterable iter X.env x = pure x := by intro _; rfl) :
    SndSs C X (.Assign [.Name x px] (.List es pos1) spos :: .Assign [.Name y py] e2 spos2 :: .For tg iter body [] pos2 :: sts) (seqS (rowsDS i fs j fe it g n) f) := fun S E w σ H F s D' kk =>
  of_pss (pss_cons ps_can pss_can) ⟨fun pins s0 I => by
    have hl : i < σ.length := by rw [I.len]; exact (List.getElem?_eq_some_iff.mp hx).1
    have hl2 : j < σ.length := by rw [I.len]; exact (List.getElem?_eq_some_iff.mp hy).1
    refine (of_ps (D := { D' with nx := CanSs X (.Assign [.Name y py] e2 spos2 :: .For tg iter body [] pos2 :: sts) D' }) (ps_set hN hx hlx pe_can hs1 hfx) (of_pe (pe_lst pa_can) (h S (fun rs S1 => W (rowsT i j fe it g n rs S1) fun o => W ((fun o => match o with | .nx S1 => f S1 | o => .ret o) o) (OutP E)) (W_bind.mp (W_bind.mp w)) [] σ H F s _ fun vs H1 F1 rs fp S1 s1 e1 r1 w1 => ?_))).run pins s0 I
    match rs, r1, w1 with
    | [], _, w1 => exact w1.no
    | [ra], _, w1 => cases ra <;> exact w1.no
    | ra :: rb :: _ :: _, _, w1 => cases ra <;> cases rb <;> exact w1.no
    | [ra, rb], r1, w1 =>
      cases ra with
      | d x => exact w1.no
      | tup rs => exact w1.no
      | own xs =>
        cases rb with
        | d x => exact w1.no
        | tup rs => exact w1.no
        | own ys =>
          cases r1 with
          | cons ha ht =>
          cases ha
          cases ht with
          | cons hb' ht' =>
          cases hb'
          cases ht'
          rename_i l1 l2
          refine ⟨by show 2 ≤ _; decide, fun p hp => ?_⟩
          dsimp only at w1
          have s1 : Stt C S1 ((l1, xs) :: (l2, ys) :: []) σ H1 F1 := s1
          obtain ⟨s2, us1, a1, a2, a3, a4, a5, a6⟩ := s1.popTmp
          obtain ⟨s3, us2, b1, b2, b3, b4, b5, b6⟩ := s2.popTmp
          obtain ⟨s4, us3, c1, c2, c3, c4, c5, c6⟩ := (s3.pushTmp hp).popTmp
          have s5 := s4.apart c1 c2 c3 c5 [V.ref l1, V.ref l2]
          rw [upd_upd'] at s5
          have p1 : p ≠ l1 := fun z => by rw [z, a3] at hp; cases hp
          have p2 : p ≠ l2 := fun z => by rw [z, b3] at hp; cases hp
          have p3 : l1 ≠ l2 := fun z => a6 (by rw [z]; simp)
          have n0 : NSt C S1 none [xs, ys] p [l1, l2] σ (upd H1 p (.lst [V.ref l1, V.ref l2])) F1 :=
            { s := s5
              hσ := fun j hj => by cases hj
              hp := upd_same
              fr := ⟨fun a ha => by
                  simp only [List.mem_cons, List.not_mem_nil, or_false] at ha
                  rcases ha with rfl | rfl | rfl
                  · exact c1
                  · exact a1
                  · exact b1, fun a ha => by
                  simp only [List.mem_cons, List.not_mem_nil, or_false] at ha
                  rcases ha with rfl | rfl | rfl
                  · exact c2
                  · exact a2
                  · exact b2, fun a ha => by
                  simp only [List.mem_cons, List.not_mem_nil, or_false] at ha
                  rcases ha with rfl | rfl | rfl
                  · exact ⟨_, upd_same⟩
                  · exact ⟨_, by rw [upd_ne (Ne.symm p1)]; exact a3⟩
                  · exact ⟨_, by rw [upd_ne (Ne.symm p2)]; exact b3⟩, fun a ha => by
                  simp only [List.mem_cons, List.not_mem_nil, or_false] at ha
                  rcases ha with rfl | rfl | rfl
                  · exact c5
                  · exact a5
                  · exact b5⟩
              nd := by simp [p1, p2, p3]
              rw := ⟨rfl, fun k a zs h1 h2 => by
                match k, h1, h2 with
                | 0, h1, h2 => cases h1; cases h2; exact ⟨us1, by rw [upd_ne (Ne.symm p1)]; exact a3, a4⟩
                | 1, h1, h2 => cases h1; cases h2; exact ⟨us2, by rw [upd_ne (Ne.symm p2)]; exact b3, b4⟩
                | k + 2, h1, h2 => simp at h1⟩ }
          have n1 := n0.named (i := i) hl
          refine of_pss (pss_cons ps_can pss_can) (of_ps (D := { D' with nx := CanSs X (.For tg iter body [] pos2 :: sts) D' }) (ps_set hN hy hly pe_can hs2 hfy) ((he _).u (W_bind.mp w1) [] _ _ F1 (n1.s.frame n1.fr) _ fun v H2 F2 r fp S2 s2' e2' r2 w2 => ?_))
          obtain ⟨F3, s3', e3'⟩ := s2'.put r2 (by rw [List.length_set]; exact hl2)
          have n2 := n1.after s3' (Same.trans e2' e3') fun jj hj => by cases hj; exact List.getElem?_set_ne hij
          have w2 := W_bind.mp w2
          refine of_pss (pss_cons ps_can pss_can) (of_ps (ps_for (by rw [hxe]; exact PassesOwn.never) hc pi_can pg_can pss_can hs) (hi _ _ (fun xs2 S3 => W (loopN g n xs2 S3 [xs, ys]) fun r => W (f (r.1.set i (.val (.lst (r.2.map D.lst))))) (OutP E)) (W_mono w2 fun q h => W_mono (W_bind.mp h) fun r hr => hr) _ _ F3 (n2.s.frame n2.fr) _ fun J H4 F4 xs2 S3 s4' e4 sem w3 => ?_))
          have n3 := n2.after s4' e4 fun _ _ => rfl
          refine rows_for hg hb w3 n3 J (fun H0 => sem H0) { D' with nx := CanSs X sts D' } fun S' rows' as' σ' H' F' n' e' q => ?_
          obtain ⟨F5, s5', e5⟩ := n'.fin
          exact hr _ E q σ' H' F5 s5' D' (kk.mono (Same.trans e1 (Same.trans e2' (Same.trans e3' (Same.trans e4 (Same.trans e' e5))))))⟩
def iBl : D → T D
  | .int i => .ret (.bl (i != 0))
  | .bl k => .ret (.bl k)
  | _ => .fail
theorem ev_bool2 {p pos : Pos} {S : SD} {Q : D → SD → Prop} (hm : X.mg "bool" = none) (h : EvQ C X a S fun d S1 => (∃ i : Int, d = .int i ∧ Q (.bl (i != 0)) S1) ∨ ∃ k : Bool, d = .bl k ∧ Q (.bl k) S1) (hg : Gl X "bool" := by rfl)
    (he : starEach [a] X.env = (false, eval a X.env) :: starEach [] X.env := by rfl) : EvQ C X (.Call (.Name "bool" p) [a] [] pos) S Q := fun tmp σ H F s R r =>
  of_pe (pe_callTy call_bool1 hg hm boot_bool (pa_cons pe_can pa_nil he) (he := he)) (h tmp σ H F s _ fun v H1 F1 d S1 s1 e1 r1 w => by
    rcases w with ⟨i, hd, q1⟩ | ⟨k, hd, q1⟩
    · subst hd
      cases r1
      exact .inl ⟨i, rfl, r _ H1 F1 (.bl _) S1 s1 e1 (.bl _) q1⟩
    · subst hd
      cases r1
      exact .inr ⟨k, rfl, r _ H1 F1 (.bl _) S1 s1 e1 (.bl _) q1⟩)
theorem q_bool1 {p pos : Pos} {f : SQ} (hm : X.mg "bool" = none) (ha : SndQ C X a f) (hg : Gl X "bool" := by rfl)
    (he : starEach [a] X.env = (false, eval a X.env) :: starEach [] X.env := by rfl) : SndQ C X (.Call (.Name "bool" p) [a] [] pos) (un1 iBl f) := fun S Q w => ev_bool2 hm (snd1 ha w fun x S2 w => by cases x <;> first | exact .inl ⟨_, rfl, w⟩ | exact .inr ⟨_, rfl, w⟩ | exact w.elim) hg he
theorem x_nPop (j : Nat) (ix f : SQ) (S : SD) (rows : List (List D)) : nPop j ix f S rows = match S[j]? with
  | some (.own _) => (ix S).bnd fun q => match q.1 with
    | .int n => match L2.ixN rows.length n with
      | some k => (f q.2).bnd fun z => match z.1, rows.getD k [], z.2[j]? with
        | .int m, x :: r, some (.own ys) => if m = 0 ∧ ys.length ≤ 100000 then .ret (z.2.set j (.own (ys ++ [x])), rows.set k r) else .fail
        | _, _, _ => .fail
      | _ => .fail
    | _ => .fail
  | _ => .fail := rfl
end
end Dm

namespace Dm
open PySem PySem.Spec PyProof.Rows L2
open GxR (TabB TabG Tabbed)
def b_l_due_3 : SS := seqS (rowsDS 3 [un1PR ownOp (vP 0), un1PR ownOp (vP 1)] 4 (cR []) (iSeq (vQ 2)) (nameG 5) (nPop 4 (vQ 5) (cQ (.int 0)))) (retS (rq (un1P tupOp (vP 4))))
def sm_l_due_3 (ds : List D) : Dm.T RD := arity 3 (defT 6 b_l_due_3) ds
theorem e_l_due_3 (a0 a1 a2 : D) : sm_l_due_3 [a0, a1, a2] = (b_l_due_3 [Slot.val a0, Slot.val a1, Slot.val a2, Slot.none, Slot.none, Slot.none]).bnd endT := rfl
def b_law_k74t : SS := seqS (setS 2 (cR [(.str "a"), (.str "ae"), (.str "b"), (.str "c"), (.str "d1")])) (seqS (setS 3 (callR sm_l_rules_2 [vP 1, vP 2, pq (cQ (.lst [(.str "x"), (.str "y")])), pq (cQ (.int 6))])) (seqS (setS 4 (callR sm_l_rules_2 [vP 1, vP 2, pq (cQ (.lst [(.str "x"), (.str "y")])), pq (cQ (.int 6))])) (seqS (ifS (notC (truC (qr (callR (sm_l_equal 8) [pq (qr (callR sm_count_interleavings [vP 3, vP 4])), pq (qr (callR sm_l_count [pq (un1P lenOp (vP 3)), pq (un1P lenOp (vP 4))]))])))) (retS (rq (cQ (.bl false)))) (nxS)) (seqS (setS 5 (cR [])) (seqS (forS (iLst (qr (bin2R addL (qr (lcR (iTup (vQ 3)) [7] (nameW 7) (yesC) (cQ (.int 0)))) (qr (lcR (iTup (vQ 4)) [7] (nameW 7) (yesC) (cQ (.int 1))))))) (nameG 6) (exprS (insQ 5 (qr (callR sm_l_next [vP 1, pq (bin2 (iOp (· + ·)) (un1P lenOp (vP 5)) (cQ (.int 1)))])) (vQ 6)))) (seqS (setS 5 (rq (un1P tupOp (vP 5)))) (seqS (ifS (notC (truC (qr (callR (sm_l_equal 8) [pq (qr (callR sm_l_told_10 [vP 3, vP 4, vP 5])), pq (qr (callR sm_l_due_3 [vP 3, vP 4, vP 5]))])))) (retS (rq (cQ (.bl false)))) (nxS)) (seqS (setS 8 (lstR [rq (cQ .non), un1PR ownOp (vP 5), rq (bin2 addT (vQ 5) (cQ (.tup [(.int 0)]))), rq (bin2 addT (vQ 5) (cQ (.tup [(.int 1)]))), rq (bin2 addT (vQ 5) (cQ (.tup [(.int 2)]))), rq (bin2 addT (cQ (.tup [(.str "0")])) (vQ 5)), rq (bin2 addT (vQ 5) (cQ (.tup [(.bl true)]))), rq (bin2 addT (cQ (.tup [(.int (-1))])) (vQ 5))])) (seqS (ifS (truC (vQ 5)) (setS 8 (bin2R addL (vQ 8) (qr (lstR [rq (slQ slTup (vQ 5) (oS (cQ (.int 1))) (oN)), rq (slQ slTup (vQ 5) (oN) (oS (cQ (.int (-1))))), rq (bin2 addT (qr (tupR [rq (bin2 (iOp (· - ·)) (cQ (.int 1)) (bin2P ixOp (vP 5) (cQ (.int 0))))])) (slQ slTup (vQ 5) (oS (cQ (.int 1))) (oN))), rq (bin2 addT (qr (tupR [rq (un1 iBl (bin2P ixOp (vP 5) (cQ (.int 0))))])) (slQ slTup (vQ 5) (oS (cQ (.int 1))) (oN)))])))) (nxS)) (seqS (ifS (cmp2 neT (qr (callR sm_l_told_10 [vP 3, vP 4, pq (bin2P ixOp (vP 8) (qr (callR sm_l_next [vP 1, pq (un1P lenOp (vP 8))])))])) (cQ (.lst [(.str "marks")]))) (retS (rq (cQ (.bl false)))) (nxS)) (seqS (setS 7 (callR sm_l_rule_4 [vP 1, vP 2, pq (cQ (.lst [(.str "x")]))])) (seqS (ifS (cmp2 neT (qr (callR sm_count_interleavings [pq (bin2 mulT2 (qr (tupR [rq (vQ 7)])) (cQ (.int 20))), pq (bin2 mulT2 (qr (tupR [rq (vQ 7)])) (cQ (.int 20)))])) (qr (callR sm_l_count [pq (cQ (.int 20)), pq (cQ (.int 20))]))) (retS (rq (cQ (.bl false)))) (nxS)) (seqS (ifS (cmp2 neT (qr (callR sm_l_told_10 [pq (bin2 mulT2 (qr (tupR [rq (vQ 7)])) (cQ (.int 11))), pq (bin2 mulT2 (qr (tupR [rq (vQ 7)])) (cQ (.int 10))), pq (bin2 addT (bin2 mulT2 (cQ (.tup [(.int 0), (.int 1)])) (cQ (.int 10))) (cQ (.tup [(.int 0)])))])) (cQ (.lst [(.str "rules")]))) (retS (rq (cQ (.bl false)))) (nxS)) (retS (rq (cmpQ (cmp2 eqT (qr (callR sm_l_told_10 [pq (bin2 mulT2 (qr (tupR [rq (vQ 7)])) (cQ (.int 10))), pq (bin2 mulT2 (qr (tupR [rq (vQ 7)])) (cQ (.int 10))), pq (bin2 mulT2 (cQ (.tup [(.int 1), (.int 0)])) (cQ (.int 10)))])) (bin2 mulT2 (qr (tupR [rq (vQ 7)])) (cQ (.int 20))))))))))))))))))))
abbrev S0_k74t : SD := [Slot.none, Slot.val .strm, Slot.none, Slot.none, Slot.none, Slot.none, Slot.none, Slot.none, Slot.none]
def b_law_k74t_p14 : SS := retS (rq (cmpQ (cmp2 eqT (qr (callR sm_l_told_10 [pq (bin2 mulT2 (qr (tupR [rq (vQ 7)])) (cQ (.int 10))), pq (bin2 mulT2 (qr (tupR [rq (vQ 7)])) (cQ (.int 10))), pq (bin2 mulT2 (cQ (.tup [(.int 1), (.int 0)])) (cQ (.int 10)))])) (bin2 mulT2 (qr (tupR [rq (vQ 7)])) (cQ (.int 20))))))
def b_law_k74t_p13 : SS := seqS (ifS (cmp2 neT (qr (callR sm_l_told_10 [pq (bin2 mulT2 (qr (tupR [rq (vQ 7)])) (cQ (.int 11))), pq (bin2 mulT2 (qr (tupR [rq (vQ 7)])) (cQ (.int 10))), pq (bin2 addT (bin2 mulT2 (cQ (.tup [(.int 0), (.int 1)])) (cQ (.int 10))) (cQ (.tup [(.int 0)])))])) (cQ (.lst [(.str "rules")]))) (retS (rq (cQ (.bl false)))) (nxS)) (b_law_k74t_p14)
def b_law_k74t_p12 : SS := seqS (ifS (cmp2 neT (qr (callR sm_count_interleavings [pq (bin2 mulT2 (qr (tupR [rq (vQ 7)])) (cQ (.int 20))), pq (bin2 mulT2 (qr (tupR [rq (vQ 7)])) (cQ (.int 20)))])) (qr (callR sm_l_count [pq (cQ (.int 20)), pq (cQ (.int 20))]))) (retS (rq (cQ (.bl false)))) (nxS)) (b_law_k74t_p13)
def b_law_k74t_p11 : SS := seqS (setS 7 (callR sm_l_rule_4 [vP 1, vP 2, pq (cQ (.lst [(.str "x")]))])) (b_law_k74t_p12)
def b_law_k74t_p10 : SS := seqS (ifS (cmp2 neT (qr (callR sm_l_told_10 [vP 3, vP 4, pq (bin2P ixOp (vP 8) (qr (callR sm_l_next [vP 1, pq (un1P lenOp (vP 8))])))])) (cQ (.lst [(.str "marks")]))) (retS (rq (cQ (.bl false)))) (nxS)) (b_law_k74t_p11)
def b_law_k74t_p9 : SS := seqS (ifS (truC (vQ 5)) (setS 8 (bin2R addL (vQ 8) (qr (lstR [rq (slQ slTup (vQ 5) (oS (cQ (.int 1))) (oN)), rq (slQ slTup (vQ 5) (oN) (oS (cQ (.int (-1))))), rq (bin2 addT (qr (tupR [rq (bin2 (iOp (· - ·)) (cQ (.int 1)) (bin2P ixOp (vP 5) (cQ (.int 0))))])) (slQ slTup (vQ 5) (oS (cQ (.int 1))) (oN))), rq (bin2 addT (qr (tupR [rq (un1 iBl (bin2P ixOp (vP 5) (cQ (.int 0))))])) (slQ slTup (vQ 5) (oS (cQ (.int 1))) (oN)))])))) (nxS)) (b_law_k74t_p10)
def b_law_k74t_p8 : SS := seqS (setS 8 (lstR [rq (cQ .non), un1PR ownOp (vP 5), rq (bin2 addT (vQ 5) (cQ (.tup [(.int 0)]))), rq (bin2 addT (vQ 5) (cQ (.tup [(.int 1)]))), rq (bin2 addT (vQ 5) (cQ (.tup [(.int 2)]))), rq (bin2 addT (cQ (.tup [(.str "0")])) (vQ 5)), rq (bin2 addT (vQ 5) (cQ (.tup [(.bl true)]))), rq (bin2 addT (cQ (.tup [(.int (-1))])) (vQ 5))])) (b_law_k74t_p9)
def b_law_k74t_p7 : SS := seqS (ifS (notC (truC (qr (callR (sm_l_equal 8) [pq (qr (callR sm_l_told_10 [vP 3, vP 4, vP 5])), pq (qr (callR sm_l_due_3 [vP 3, vP 4, vP 5]))])))) (retS (rq (cQ (.bl false)))) (nxS)) (b_law_k74t_p8)
def b_law_k74t_p6 : SS := seqS (setS 5 (rq (un1P tupOp (vP 5)))) (b_law_k74t_p7)
def b_law_k74t_p5 : SS := seqS (forS (iLst (qr (bin2R addL (qr (lcR (iTup (vQ 3)) [7] (nameW 7) (yesC) (cQ (.int 0)))) (qr (lcR (iTup (vQ 4)) [7] (nameW 7) (yesC) (cQ (.int 1))))))) (nameG 6) (exprS (insQ 5 (qr (callR sm_l_next [vP 1, pq (bin2 (iOp (· + ·)) (un1P lenOp (vP 5)) (cQ (.int 1)))])) (vQ 6)))) (b_law_k74t_p6)
def b_law_k74t_p4 : SS := seqS (setS 5 (cR [])) (b_law_k74t_p5)
def b_law_k74t_p3 : SS := seqS (ifS (notC (truC (qr (callR (sm_l_equal 8) [pq (qr (callR sm_count_interleavings [vP 3, vP 4])), pq (qr (callR sm_l_count [pq (un1P lenOp (vP 3)), pq (un1P lenOp (vP 4))]))])))) (retS (rq (cQ (.bl false)))) (nxS)) (b_law_k74t_p4)
def b_law_k74t_p2 : SS := seqS (setS 4 (callR sm_l_rules_2 [vP 1, vP 2, pq (cQ (.lst [(.str "x"), (.str "y")])), pq (cQ (.int 6))])) (b_law_k74t_p3)
def b_law_k74t_p1 : SS := seqS (setS 3 (callR sm_l_rules_2 [vP 1, vP 2, pq (cQ (.lst [(.str "x"), (.str "y")])), pq (cQ (.int 6))])) (b_law_k74t_p2)
theorem b_law_k74t_e : b_law_k74t = seqS (setS 2 (cR [(.str "a"), (.str "ae"), (.str "b"), (.str "c"), (.str "d1")])) (b_law_k74t_p1) := rfl
theorem b_law_k74t_p1_e : b_law_k74t_p1 = seqS (setS 3 (callR sm_l_rules_2 [vP 1, vP 2, pq (cQ (.lst [(.str "x"), (.str "y")])), pq (cQ (.int 6))])) (b_law_k74t_p2) := rfl
theorem b_law_k74t_p2_e : b_law_k74t_p2 = seqS (setS 4 (callR sm_l_rules_2 [vP 1, vP 2, pq (cQ (.lst [(.str "x"), (.str "y")])), pq (cQ (.int 6))])) (b_law_k74t_p3) := rfl
theorem b_law_k74t_p3_e : b_law_k74t_p3 = seqS (ifS (notC (truC (qr (callR (sm_l_equal 8) [pq (qr (callR sm_count_interleavings [vP 3, vP 4])), pq (qr (callR sm_l_count [pq (un1P lenOp (vP 3)), pq (un1P lenOp (vP 4))]))])))) (retS (rq (cQ (.bl false)))) (nxS)) (b_law_k74t_p4) := rfl
theorem b_law_k74t_p4_e : b_law_k74t_p4 = seqS (setS 5 (cR [])) (b_law_k74t_p5) := rfl
theorem b_law_k74t_p5_e : b_law_k74t_p5 = seqS (forS (iLst (qr (bin2R addL (qr (lcR (iTup (vQ 3)) [7] (nameW 7) (yesC) (cQ (.int 0)))) (qr (lcR (iTup (vQ 4)) [7] (nameW 7) (yesC) (cQ (.int 1))))))) (nameG 6) (exprS (insQ 5 (qr (callR sm_l_next [vP 1, pq (bin2 (iOp (· + ·)) (un1P lenOp (vP 5)) (cQ (.int 1)))])) (vQ 6)))) (b_law_k74t_p6) := rfl
theorem b_law_k74t_p6_e : b_law_k74t_p6 = seqS (setS 5 (rq (un1P tupOp (vP 5)))) (b_law_k74t_p7) := rfl
theorem b_law_k74t_p7_e : b_law_k74t_p7 = seqS (ifS (notC (truC (qr (callR (sm_l_equal 8) [pq (qr (callR sm_l_told_10 [vP 3, vP 4, vP 5])), pq (qr (callR sm_l_due_3 [vP 3, vP 4, vP 5]))])))) (retS (rq (cQ (.bl false)))) (nxS)) (b_law_k74t_p8) := rfl
theorem b_law_k74t_p8_e : b_law_k74t_p8 = seqS (setS 8 (lstR [rq (cQ .non), un1PR ownOp (vP 5), rq (bin2 addT (vQ 5) (cQ (.tup [(.int 0)]))), rq (bin2 addT (vQ 5) (cQ (.tup [(.int 1)]))), rq (bin2 addT (vQ 5) (cQ (.tup [(.int 2)]))), rq (bin2 addT (cQ (.tup [(.str "0")])) (vQ 5)), rq (bin2 addT (vQ 5) (cQ (.tup [(.bl true)]))), rq (bin2 addT (cQ (.tup [(.int (-1))])) (vQ 5))])) (b_law_k74t_p9) := rfl
theorem b_law_k74t_p9_e : b_law_k74t_p9 = seqS (ifS (truC (vQ 5)) (setS 8 (bin2R addL (vQ 8) (qr (lstR [rq (slQ slTup (vQ 5) (oS (cQ (.int 1))) (oN)), rq (slQ slTup (vQ 5) (oN) (oS (cQ (.int (-1))))), rq (bin2 addT (qr (tupR [rq (bin2 (iOp (· - ·)) (cQ (.int 1)) (bin2P ixOp (vP 5) (cQ (.int 0))))])) (slQ slTup (vQ 5) (oS (cQ (.int 1))) (oN))), rq (bin2 addT (qr (tupR [rq (un1 iBl (bin2P ixOp (vP 5) (cQ (.int 0))))])) (slQ slTup (vQ 5) (oS (cQ (.int 1))) (oN)))])))) (nxS)) (b_law_k74t_p10) := rfl
theorem b_law_k74t_p10_e : b_law_k74t_p10 = seqS (ifS (cmp2 neT (qr (callR sm_l_told_10 [vP 3, vP 4, pq (bin2P ixOp (vP 8) (qr (callR sm_l_next [vP 1, pq (un1P lenOp (vP 8))])))])) (cQ (.lst [(.str "marks")]))) (retS (rq (cQ (.bl false)))) (nxS)) (b_law_k74t_p11) := rfl
theorem b_law_k74t_p11_e : b_law_k74t_p11 = seqS (setS 7 (callR sm_l_rule_4 [vP 1, vP 2, pq (cQ (.lst [(.str "x")]))])) (b_law_k74t_p12) := rfl
theorem b_law_k74t_p12_e : b_law_k74t_p12 = seqS (ifS (cmp2 neT (qr (callR sm_count_interleavings [pq (bin2 mulT2 (qr (tupR [rq (vQ 7)])) (cQ (.int 20))), pq (bin2 mulT2 (qr (tupR [rq (vQ 7)])) (cQ (.int 20)))])) (qr (callR sm_l_count [pq (cQ (.int 20)), pq (cQ (.int 20))]))) (retS (rq (cQ (.bl false)))) (nxS)) (b_law_k74t_p13) := rfl
theorem b_law_k74t_p13_e : b_law_k74t_p13 = seqS (ifS (cmp2 neT (qr (callR sm_l_told_10 [pq (bin2 mulT2 (qr (tupR [rq (vQ 7)])) (cQ (.int 11))), pq (bin2 mulT2 (qr (tupR [rq (vQ 7)])) (cQ (.int 10))), pq (bin2 addT (bin2 mulT2 (cQ (.tup [(.int 0), (.int 1)])) (cQ (.int 10))) (cQ (.tup [(.int 0)])))])) (cQ (.lst [(.str "rules")]))) (retS (rq (cQ (.bl false)))) (nxS)) (b_law_k74t_p14) := rfl
theorem b_law_k74t_p14_e : b_law_k74t_p14 = retS (rq (cmpQ (cmp2 eqT (qr (callR sm_l_told_10 [pq (bin2 mulT2 (qr (tupR [rq (vQ 7)])) (cQ (.int 10))), pq (bin2 mulT2 (qr (tupR [rq (vQ 7)])) (cQ (.int 10))), pq (bin2 mulT2 (cQ (.tup [(.int 1), (.int 0)])) (cQ (.int 10)))])) (bin2 mulT2 (qr (tupR [rq (vQ 7)])) (cQ (.int 20)))))) := rfl
end Dm

namespace Dm
open PySem PySem.Spec PyProof.Rows L2
def stp74 (r : List Nat) (k : Nat) : List Nat := r.set k (r.getD k 0 + r.getD (k - 1) 0)
def row74 (n m : Nat) : List Nat := (List.range n).foldl (fun r _ => ((List.range m).map (· + 1)).foldl stp74 r) (List.replicate (m + 1) 1)
theorem comb74 : ∀ n ≤ 6, ∀ m ≤ 6, combN ((n : Nat) + (m : Nat) : Int) (n : Nat) = ((row74 n m).getD m 0 : Nat) := by decide +kernel
theorem comb74b : combN ((20 : Nat) + (20 : Nat) : Int) (20 : Nat) = ((row74 20 20).getD 20 0 : Nat) := by decide +kernel
theorem stp74_len (r : List Nat) (k : Nat) : (stp74 r k).length = r.length := List.length_set
theorem in74 {m : Nat} (hm : m ≤ 1000) {A : D} : ∀ (ks : List Nat), (∀ k ∈ ks, 1 ≤ k ∧ k ≤ m) → ∀ (r : List Nat) (s3 s4 : Slot), r.length = m + 1 → ∃ s3', loopT (nameG 3) (ixSetS 2 (vQ 3) (bin2 (iOp (· + ·)) (bin2P ixOp (vP 2) (vQ 3)) (bin2P ixOp (vP 2) (bin2 (iOp (· - ·)) (vQ 3) (cQ (.int 1)))))) (ks.map natD) [Slot.val A, Slot.val (.int (m : Nat)), Slot.own (r.map natD), s3, s4] = .ret (.nx [Slot.val A, Slot.val (.int (m : Nat)), Slot.own ((ks.foldl stp74 r).map natD), s3', s4])
  | [], _, r, s3, s4, _ => ⟨s3, rfl⟩
  | k :: ks, hk, r, s3, s4, hr => by
    obtain ⟨h1, h2⟩ := hk k List.mem_cons_self
    have hk' : k < (r.map natD).length := by rw [List.length_map]; omega
    have hk1 : k - 1 < (r.map natD).length := by rw [List.length_map]; omega
    have e1 : (k : Int) - 1 = ((k - 1 : Nat) : Int) := by omega
    have g1 := ixN hk'
    have g2 := ixN hk1
    rw [List.getElem_map] at g1 g2
    obtain ⟨s3', ih⟩ := in74 hm ks (fun q hq => hk q (List.mem_cons_of_mem _ hq)) (stp74 r k) (Slot.val (natD k)) s4 (by rw [stp74_len, hr])
    refine ⟨s3', ?_⟩
    have c : (0 ≤ ((k : Nat) : Int) ∧ k < r.length) = True := eq_true ⟨by omega, by omega⟩
    rw [List.map_cons, List.foldl_cons, ← ih]
    simp only [x_loop1, natD, g1, g2, e1, c, List.length_map, Int.toNat_natCast, semK, seqD, isI, isB, isS, isTu, isLi, seqO, PD.ats, PD.at, PD.seq, behind, frzS, RD.fz, RD.fzs, RD.noL, RD.noLs, D.noL, D.noLs, RD.parts, putS, wipeS, boolT, intT, isTupP, isLstP, truD, isNon, iOp, iOpC, iMod, iDiv, iMul, iNeg, iAbs, iId, iCmp, bCmp, lenOp, tupOp, ownOp, slTup, revTup, ite_self, if_true, if_false, ite_true, ite_false, Bool.not_true, Bool.not_false, Bool.false_eq_true, List.getElem?_cons_zero, List.getElem?_cons_succ, List.set_cons_zero, List.set_cons_succ, List.map_cons, List.map_nil, decide_true, decide_false, Bool.true_and, Bool.and_true, Bool.false_and, Bool.and_false, Bool.true_or, Bool.or_true, Bool.false_or, Bool.or_false, Bool.and_self, Bool.or_self, reduceIte, reduceCtorEq]
    have e : (r.map natD).set k (.int ((r[k] : Int) + (r[k - 1] : Int))) = (stp74 r k).map natD := by
      unfold stp74
      rw [List.map_set, List.getD_eq_getElem?_getD, List.getD_eq_getElem?_getD, List.getElem?_eq_getElem (by omega), List.getElem?_eq_getElem (by omega)]
      rfl
    rw [← e]
theorem out74 {m : Nat} (hm : m ≤ 1000) {A : D} : ∀ (xs : List D) (r : List Nat) (s3 s4 : Slot), r.length = m + 1 → ∃ s3' s4', loopT (nameG 4) (forS (iRng2 (cQ (.int 1)) (bin2 (iOp (· + ·)) (vQ 1) (cQ (.int 1)))) (nameG 3) (ixSetS 2 (vQ 3) (bin2 (iOp (· + ·)) (bin2P ixOp (vP 2) (vQ 3)) (bin2P ixOp (vP 2) (bin2 (iOp (· - ·)) (vQ 3) (cQ (.int 1))))))) xs [Slot.val A, Slot.val (.int (m : Nat)), Slot.own (r.map natD), s3, s4] = .ret (.nx [Slot.val A, Slot.val (.int (m : Nat)), Slot.own ((xs.foldl (fun r _ => ((List.range m).map (· + 1)).foldl stp74 r) r).map natD), s3', s4'])
  | [], r, s3, s4, _ => ⟨s3, s4, rfl⟩
  | x :: xs, r, s3, s4, hr => by
    have ks : ∀ k ∈ (List.range m).map (· + 1), 1 ≤ k ∧ k ≤ m := fun k hk => by
      obtain ⟨q, hq, rfl⟩ := List.mem_map.mp hk
      have := List.mem_range.mp hq
      omega
    obtain ⟨s3', h1⟩ := in74 (A := A) hm _ ks r s3 (Slot.val x) hr
    have lr : ∀ (ks : List Nat) (r : List Nat), (ks.foldl stp74 r).length = r.length := fun ks => by
      induction ks with
      | nil => exact fun r => rfl
      | cons k ks ih => exact fun r => by rw [List.foldl_cons, ih, stp74_len]
    obtain ⟨s3'', s4', ih⟩ := out74 (A := A) hm xs (((List.range m).map (· + 1)).foldl stp74 r) s3' (Slot.val x) (by rw [lr, hr])
    refine ⟨s3'', s4', ?_⟩
    have c : (-1000000 ≤ (1 : Int) ∧ (1 : Int) ≤ 1000000 ∧ -1000000 ≤ (m : Int) + 1 ∧ (m : Int) + 1 ≤ 1000000) = True := eq_true ⟨by omega, by omega, by omega, by omega⟩
    have e : rngD 1 ((m : Int) + 1 - 1).toNat = ((List.range m).map (· + 1)).map natD := by
      have : ((m : Int) + 1 - 1).toNat = m := by omega
      rw [this]
      unfold rngD
      rw [List.map_map]
      refine List.map_congr_left fun q _ => ?_
      show D.int _ = D.int _
      congr 1
      show (1 : Int) + (q : Nat) = ((q + 1 : Nat) : Int)
      omega
    rw [List.foldl_cons, ← ih]
    simp only [x_loop1, c, e, h1, semK, seqD, isI, isB, isS, isTu, isLi, seqO, PD.ats, PD.at, PD.seq, behind, frzS, RD.fz, RD.fzs, RD.noL, RD.noLs, D.noL, D.noLs, RD.parts, putS, wipeS, boolT, intT, isTupP, isLstP, truD, isNon, iOp, iOpC, iMod, iDiv, iMul, iNeg, iAbs, iId, iCmp, bCmp, lenOp, tupOp, ownOp, slTup, revTup, ite_self, if_true, if_false, ite_true, ite_false, Bool.not_true, Bool.not_false, Bool.false_eq_true, List.getElem?_cons_zero, List.getElem?_cons_succ, List.set_cons_zero, List.set_cons_succ, List.map_cons, List.map_nil, decide_true, decide_false, Bool.true_and, Bool.and_true, Bool.false_and, Bool.and_false, Bool.true_or, Bool.or_true, Bool.false_or, Bool.or_false, Bool.and_self, Bool.or_self, reduceIte, reduceCtorEq]
theorem s_l_count {n m : Nat} (hn : n ≤ 1000) (hm : m ≤ 1000) : sm_l_count [.int (n : Nat), .int (m : Nat)] = .ret (.d (.int ((row74 n m).getD m 0 : Nat))) := by
  have c : (-1000000 ≤ (m : Int) + 1 ∧ (m : Int) + 1 ≤ 1000000) = True := eq_true ⟨by omega, by omega⟩
  have c2 : (-1000000 ≤ (n : Int) ∧ (n : Int) ≤ 1000000) = True := eq_true ⟨by omega, by omega⟩
  have e1 : ((m : Int) + 1).toNat = m + 1 := by omega
  obtain ⟨S', hS, hI⟩ := compT_inv (vs := [3]) (tg := nameW 3) (ifs := yesC) (elt := cQ (.int 1)) (xs := rngD 0 (m + 1)) (acc := []) (S := [Slot.val (.int (n : Nat)), Slot.val (.int (m : Nat)), Slot.none, Slot.none, Slot.none]) (fun S => S = [Slot.val (.int (n : Nat)), Slot.val (.int (m : Nat)), Slot.none, Slot.none, Slot.none]) (fun _ => true) (fun _ => .int 1) rfl (by rw [rngD_len, List.length_nil]; omega) fun S hS x _ => by
    subst hS
    exact ⟨_, _, rfl, rfl, rfl, fun _ => ⟨_, rfl, rfl⟩⟩
  subst hI
  have e2 : ((rngD 0 (m + 1)).filter fun _ => true).map (fun _ => D.int 1) = (List.replicate (m + 1) 1).map natD := by
    rw [List.filter_eq_self.mpr (fun _ _ => rfl)]
    unfold rngD
    rw [List.map_map, List.map_replicate]
    refine List.ext_getElem (by simp) fun q h1 h2 => ?_
    rw [List.getElem_map, List.getElem_replicate]
    rfl
  rw [e2, List.nil_append] at hS
  obtain ⟨s3', s4', h1⟩ := out74 (A := .int (n : Nat)) hm (rngD 0 n) (List.replicate (m + 1) 1) Slot.none Slot.none (by simp)
  have e3 : (rngD 0 n).foldl (fun r _ => ((List.range m).map (· + 1)).foldl stp74 r) (List.replicate (m + 1) 1) = row74 n m := by
    unfold row74 rngD
    rw [List.foldl_map]
  rw [e3] at h1
  have lr : ∀ (ks : List Nat) (r : List Nat), (ks.foldl stp74 r).length = r.length := fun ks => by
    induction ks with
    | nil => exact fun r => rfl
    | cons k ks ih => exact fun r => by rw [List.foldl_cons, ih, stp74_len]
  have lrow : (row74 n m).length = m + 1 := by
    unfold row74
    generalize List.range n = L
    have : ∀ (L : List Nat) (r : List Nat), (L.foldl (fun r _ => ((List.range m).map (· + 1)).foldl stp74 r) r).length = r.length := fun L => by
      induction L with
      | nil => exact fun r => rfl
      | cons k ks ih => exact fun r => by rw [List.foldl_cons, ih, lr]
    rw [this, List.length_replicate]
  have hi : m < ((row74 n m).map natD).length := by rw [List.length_map, lrow]; omega
  have g := ixN hi
  rw [List.getElem_map] at g
  have e4 : (row74 n m).getD m 0 = (row74 n m)[m]'(by omega) := by
    rw [List.getD_eq_getElem?_getD, List.getElem?_eq_getElem (by omega)]
    rfl
  simp only [e_l_count, b_l_count, c, c2, e1, hS, Int.toNat_natCast, semK, seqD, isI, isB, isS, isTu, isLi, seqO, PD.ats, PD.at, PD.seq, behind, frzS, RD.fz, RD.fzs, RD.noL, RD.noLs, D.noL, D.noLs, RD.parts, putS, wipeS, boolT, intT, isTupP, isLstP, truD, isNon, iOp, iOpC, iMod, iDiv, iMul, iNeg, iAbs, iId, iCmp, bCmp, lenOp, tupOp, ownOp, slTup, revTup, ite_self, if_true, if_false, ite_true, ite_false, Bool.not_true, Bool.not_false, Bool.false_eq_true, List.getElem?_cons_zero, List.getElem?_cons_succ, List.set_cons_zero, List.set_cons_succ, List.map_cons, List.map_nil, decide_true, decide_false, Bool.true_and, Bool.and_true, Bool.false_and, Bool.and_false, Bool.true_or, Bool.or_true, Bool.false_or, Bool.or_false, Bool.and_self, Bool.or_self, reduceIte, reduceCtorEq]
  simp only [h1, g, semK, seqD, isI, isB, isS, isTu, isLi, seqO, PD.ats, PD.at, PD.seq, behind, frzS, RD.fz, RD.fzs, RD.noL, RD.noLs, D.noL, D.noLs, RD.parts, putS, wipeS, boolT, intT, isTupP, isLstP, truD, isNon, iOp, iOpC, iMod, iDiv, iMul, iNeg, iAbs, iId, iCmp, bCmp, lenOp, tupOp, ownOp, slTup, revTup, ite_self, if_true, if_false, ite_true, ite_false, Bool.not_true, Bool.not_false, Bool.false_eq_true, List.getElem?_cons_zero, List.getElem?_cons_succ, List.set_cons_zero, List.set_cons_succ, List.map_cons, List.map_nil, decide_true, decide_false, Bool.true_and, Bool.and_true, Bool.false_and, Bool.and_false, Bool.true_or, Bool.or_true, Bool.false_or, Bool.or_false, Bool.and_self, Bool.or_self, reduceIte, reduceCtorEq]
  rw [e4]
  rfl
theorem s_count_int {A B : List Rul} (h1 : ∀ r ∈ A, r.ok) (h2 : ∀ r ∈ B, r.ok) (l1 : A.length ≤ 20) (l2 : B.length ≤ 20) : sm_count_interleavings [.tup (A.map Rul.d), .tup (B.map Rul.d)] = .ret (.d (.int (combN ((A.length : Nat) + (B.length : Nat) : Int) (A.length : Nat)))) := by
  have c : (0 ≤ ((A.length : Nat) : Int) + ((B.length : Nat) : Int) ∧ ((A.length : Nat) : Int) + ((B.length : Nat) : Int) ≤ 1000 ∧ 0 ≤ ((A.length : Nat) : Int) ∧ ((A.length : Nat) : Int) ≤ 1000) = True := eq_true ⟨by omega, by omega, by omega, by omega⟩
  have q1 : lenT (A.map Rul.d) = .ret () := lenT_ok (by rw [List.length_map]; omega)
  have q2 : lenT (B.map Rul.d) = .ret () := lenT_ok (by rw [List.length_map]; omega)
  simp only [e_count_interleavings, b_count_interleavings, s_check_one_and_other h1 h2 l1 l2, q1, q2, List.length_map, combI, c, if_true, semK, seqD, isI, isB, isS, isTu, isLi, seqO, PD.ats, PD.at, PD.seq, behind, frzS, RD.fz, RD.fzs, RD.noL, RD.noLs, D.noL, D.noLs, RD.parts, putS, wipeS, boolT, intT, isTupP, isLstP, truD, isNon, iOp, iOpC, iMod, iDiv, iMul, iNeg, iAbs, iId, iCmp, bCmp, lenOp, tupOp, ownOp, slTup, revTup, ite_self, if_true, if_false, ite_true, ite_false, Bool.not_true, Bool.not_false, Bool.false_eq_true, List.getElem?_cons_zero, List.getElem?_cons_succ, List.set_cons_zero, List.set_cons_succ, List.map_cons, List.map_nil, decide_true, decide_false, Bool.true_and, Bool.and_true, Bool.false_and, Bool.and_false, Bool.true_or, Bool.or_true, Bool.false_or, Bool.or_false, Bool.and_self, Bool.or_self, reduceIte, reduceCtorEq]
end Dm

namespace Dm
open PySem PySem.Spec PyProof.Rows L2
theorem x_loopN1 (g : SG) (n : SN) (x : D) (xs : List D) (S : SD) (rows : List (List D)) : loopN g n (x :: xs) S rows = (g (.d x) S).bnd fun S1 => (n S1 rows).bnd fun q => loopN g n xs q.1 q.2 := rfl
theorem x_rowsDS (i : Nat) (fs : List SR) (j : Nat) (fe : SR) (it : SI) (g : SG) (n : SN) (S : SD) : rowsDS i fs j fe it g n S = (argsR fs S).bnd fun q => rowsT i j fe it g n q.1 q.2 := rfl
theorem x_rowsT (i j : Nat) (fe : SR) (it : SI) (g : SG) (n : SN) (xs ys : List D) (S : SD) : rowsT i j fe it g n [.own xs, .own ys] S = (fe (S.set i .none)).bnd fun q3 => (it (putS j q3.1 q3.2)).bnd fun z => (loopN g n z.1 z.2 [xs, ys]).bnd fun r => .ret (.nx (r.1.set i (.val (.lst (r.2.map D.lst))))) := rfl
theorem sx_within74 {rs : List Rul} (h : 20 < rs.length) : sx_within_bound_2 [.tup (rs.map Rul.d)] = .exc (.mk "TooLarge" [.str "rules"]) := by
  have ll : (rs.map Rul.d).length = rs.length := List.length_map ..
  have xo : xOk "TooLarge" [.str "rules"] = true := by
    have e : xFields "TooLarge" = [("what" : Str)] := by decide
    unfold xOk xArg
    rw [e]
    decide
  have d1 : decide ((20 : Int) < ((rs.length : Nat) : Int)) = true := decide_eq_true (by omega)
  simp only [ex_within_bound_2, bx_within_bound_2, ll, d1, xo, noX_ret, noX_fail, T.exc_bnd, tryT_ret, tryT_fail, tryT_exc, x_leafS, x_leafR, x_dropS, x_callXR, x_raiseS, x_ifXS, x_tryS, x_asgXS, x_hdl, x_passX, x_suiteT, x_suF, endO_rt, x_xfQ, x_xisQ, semK, seqD, isI, isB, isS, isTu, isLi, seqO, PD.ats, PD.at, PD.seq, behind, frzS, RD.fz, RD.fzs, RD.noL, RD.noLs, D.noL, D.noLs, RD.parts, putS, wipeS, boolT, intT, isTupP, isLstP, truD, isNon, iOp, iOpC, iMod, iDiv, iMul, iNeg, iAbs, iId, iCmp, bCmp, lenOp, tupOp, ownOp, slTup, revTup, ite_self, if_true, if_false, ite_true, ite_false, Bool.not_true, Bool.not_false, Bool.false_eq_true, List.getElem?_cons_zero, List.getElem?_cons_succ, List.set_cons_zero, List.set_cons_succ, List.map_cons, List.map_nil, decide_true, decide_false, Bool.true_and, Bool.and_true, Bool.false_and, Bool.and_false, Bool.true_or, Bool.or_true, Bool.false_or, Bool.or_false, Bool.and_self, Bool.or_self, reduceIte, reduceCtorEq]
theorem due_loop {v0 v1 v2 : Slot} : ∀ (ms : List Nat) (A B acc : List Rul) (s5 : Slot), Marks ms A.length B.length → acc.length + ms.length ≤ 1000 → ∃ rows' s5', loopN (nameG 5) (nPop 4 (vQ 5) (cQ (.int 0))) (ms.map natD) [v0, v1, v2, Slot.none, Slot.own (acc.map Rul.d), s5] [A.map Rul.d, B.map Rul.d] = .ret ([v0, v1, v2, Slot.none, Slot.own ((acc ++ weave ms A B).map Rul.d), s5'], rows')
  | [], A, B, acc, s5, h, _ => ⟨_, s5, by
    have : acc ++ weave [] A B = acc := by
      have : weave [] A B = [] := by cases A <;> cases B <;> rfl
      rw [this, List.append_nil]
    rw [this]
    rfl⟩
  | x :: ms, A, B, acc, s5, h, hl => by
    rw [List.length_cons] at hl
    rcases h.cases with ⟨rfl, n', e, h'⟩ | ⟨rfl, m', e, h'⟩
    · cases A with
      | nil => cases e
      | cons r A =>
        have hA : n' = A.length := by rw [List.length_cons] at e; omega
        obtain ⟨rows', s5', ih⟩ := due_loop (v0 := v0) (v1 := v1) (v2 := v2) ms A B (acc ++ [r]) (Slot.val (.int 0)) (hA ▸ h') (by rw [List.length_append, List.length_singleton]; omega)
        refine ⟨rows', s5', ?_⟩
        have ew : acc ++ weave (0 :: ms) (r :: A) B = (acc ++ [r]) ++ weave ms A B := by
          rw [List.append_assoc]; rfl
        have lt : ((acc.map Rul.d).length ≤ 100000) = True := eq_true (by rw [List.length_map]; omega)
        have ea : acc.map Rul.d ++ [r.d] = (acc ++ [r]).map Rul.d := by rw [List.map_append]; rfl
        have i0 : L2.ixN 2 0 = some 0 := rfl
        rw [ew, ← ih, List.map_cons, x_loopN1, show natD 0 = D.int 0 from rfl]
        simp only [x_nPop, List.map_cons, List.length_cons, List.length_nil, Nat.zero_add, Nat.reduceAdd, i0, List.getD_cons_zero, lt, ea, and_true, true_and, if_true, semK, seqD, isI, isB, isS, isTu, isLi, seqO, PD.ats, PD.at, PD.seq, behind, frzS, RD.fz, RD.fzs, RD.noL, RD.noLs, D.noL, D.noLs, RD.parts, putS, wipeS, boolT, intT, isTupP, isLstP, truD, isNon, iOp, iOpC, iMod, iDiv, iMul, iNeg, iAbs, iId, iCmp, bCmp, lenOp, tupOp, ownOp, slTup, revTup, ite_self, if_true, if_false, ite_true, ite_false, Bool.not_true, Bool.not_false, Bool.false_eq_true, List.getElem?_cons_zero, List.getElem?_cons_succ, List.set_cons_zero, List.set_cons_succ, List.map_cons, List.map_nil, decide_true, decide_false, Bool.true_and, Bool.and_true, Bool.false_and, Bool.and_false, Bool.true_or, Bool.or_true, Bool.false_or, Bool.or_false, Bool.and_self, Bool.or_self, reduceIte, reduceCtorEq]
    · cases B with
      | nil => cases e
      | cons r B =>
        have hB : m' = B.length := by rw [List.length_cons] at e; omega
        obtain ⟨rows', s5', ih⟩ := due_loop (v0 := v0) (v1 := v1) (v2 := v2) ms A B (acc ++ [r]) (Slot.val (.int 1)) (hB ▸ h') (by rw [List.length_append, List.length_singleton]; omega)
        refine ⟨rows', s5', ?_⟩
        have ew : acc ++ weave (1 :: ms) A (r :: B) = (acc ++ [r]) ++ weave ms A B := by
          have : weave (1 :: ms) A (r :: B) = r :: weave ms A B := by cases A <;> rfl
          rw [this, List.append_assoc]; rfl
        have lt : ((acc.map Rul.d).length ≤ 100000) = True := eq_true (by rw [List.length_map]; omega)
        have ea : acc.map Rul.d ++ [r.d] = (acc ++ [r]).map Rul.d := by rw [List.map_append]; rfl
        have i0 : L2.ixN 2 1 = some 1 := rfl
        rw [ew, ← ih, List.map_cons, x_loopN1, show natD 1 = D.int 1 from rfl]
        simp only [x_nPop, List.map_cons, List.length_cons, List.length_nil, Nat.zero_add, Nat.reduceAdd, i0, List.getD_cons_zero, List.getD_cons_succ, lt, ea, and_true, true_and, if_true, semK, seqD, isI, isB, isS, isTu, isLi, seqO, PD.ats, PD.at, PD.seq, behind, frzS, RD.fz, RD.fzs, RD.noL, RD.noLs, D.noL, D.noLs, RD.parts, putS, wipeS, boolT, intT, isTupP, isLstP, truD, isNon, iOp, iOpC, iMod, iDiv, iMul, iNeg, iAbs, iId, iCmp, bCmp, lenOp, tupOp, ownOp, slTup, revTup, ite_self, if_true, if_false, ite_true, ite_false, Bool.not_true, Bool.not_false, Bool.false_eq_true, List.getElem?_cons_zero, List.getElem?_cons_succ, List.set_cons_zero, List.set_cons_succ, List.map_cons, List.map_nil, decide_true, decide_false, Bool.true_and, Bool.and_true, Bool.false_and, Bool.and_false, Bool.true_or, Bool.or_true, Bool.false_or, Bool.or_false, Bool.and_self, Bool.or_self, reduceIte, reduceCtorEq]
theorem s_due74 {A B : List Rul} {ms : List Nat} (h : Marks ms A.length B.length) (hl : ms.length ≤ 1000) (la : A.length ≤ 1000) (lb : B.length ≤ 1000) : sm_l_due_3 [.tup (A.map Rul.d), .tup (B.map Rul.d), .tup (ms.map natD)] = .ret (.d (.tup ((weave ms A B).map Rul.d))) := by
  obtain ⟨rows', s5', h1⟩ := due_loop (v0 := Slot.val (.tup (A.map Rul.d))) (v1 := Slot.val (.tup (B.map Rul.d))) (v2 := Slot.val (.tup (ms.map natD))) ms A B [] Slot.none h (by rw [List.length_nil]; omega)
  have q1 : lenT (A.map Rul.d) = .ret () := lenT_ok (by rw [List.length_map]; omega)
  have q2 : lenT (B.map Rul.d) = .ret () := lenT_ok (by rw [List.length_map]; omega)
  have hw := (weave_facts ms A B h).1
  have q3 : lenT ((weave ms A B).map Rul.d) = .ret () := lenT_ok (by rw [List.length_map]; omega)
  rw [List.nil_append] at h1
  have h1' : loopN (nameG 5) (nPop 4 (vQ 5) (cQ (.int 0))) (ms.map natD) [Slot.val (.tup (A.map Rul.d)), Slot.val (.tup (B.map Rul.d)), Slot.val (.tup (ms.map natD)), Slot.none, Slot.own [], Slot.none] [A.map Rul.d, B.map Rul.d] = _ := h1
  simp only [e_l_due_3, b_l_due_3, x_rowsDS, x_rowsT, q1, q2, h1', q3, semK, seqD, isI, isB, isS, isTu, isLi, seqO, PD.ats, PD.at, PD.seq, behind, frzS, RD.fz, RD.fzs, RD.noL, RD.noLs, D.noL, D.noLs, RD.parts, putS, wipeS, boolT, intT, isTupP, isLstP, truD, isNon, iOp, iOpC, iMod, iDiv, iMul, iNeg, iAbs, iId, iCmp, bCmp, lenOp, tupOp, ownOp, slTup, revTup, ite_self, if_true, if_false, ite_true, ite_false, Bool.not_true, Bool.not_false, Bool.false_eq_true, List.getElem?_cons_zero, List.getElem?_cons_succ, List.set_cons_zero, List.set_cons_succ, List.map_cons, List.map_nil, decide_true, decide_false, Bool.true_and, Bool.and_true, Bool.false_and, Bool.and_false, Bool.true_or, Bool.or_true, Bool.false_or, Bool.or_false, Bool.and_self, Bool.or_self, reduceIte, reduceCtorEq]
theorem hd74_bad (n : Str) : (hdl ["BadValue", "TooLarge"] "BadValue" (suF 4 (some 3) fun x => retS (lstR [rq (xfQ ["BadValue", "TooLarge"] x "name" 3)])) (hdl ["BadValue", "TooLarge"] "TooLarge" (suF 4 (some 3) fun x => retS (lstR [rq (xfQ ["BadValue", "TooLarge"] x "what" 3)])) passX)) (.mk "BadValue" [.str n]) = .ret (.rt (.own [.str n])) := by
  have m : Exn.cls (.mk "BadValue" [D.str n]) ∈ [("BadValue" : Str), "TooLarge"] := by
    show ("BadValue" : Str) ∈ _
    decide
  have y0 : xSub (Exn.cls (.mk "BadValue" [D.str n])) "BadValue" = true := by
    show xSub "BadValue" "BadValue" = true
    decide
  have x2 : xField (.mk "BadValue" [D.str n]) "name" = some (.str n) := by rfl
  have su : suSlots 4 (some 3) = [Slot.none, Slot.none, Slot.none, Slot.val .strm] := by rfl
  simp only [m, y0, x2, su, D.noS, D.noSs, RD.noS, RD.noSs, noX_ret, noX_fail, T.exc_bnd, tryT_ret, tryT_fail, tryT_exc, x_leafS, x_leafR, x_dropS, x_callXR, x_raiseS, x_ifXS, x_tryS, x_asgXS, x_hdl, x_passX, x_suiteT, x_suF, endO_rt, x_xfQ, x_xisQ, semK, seqD, isI, isB, isS, isTu, isLi, seqO, PD.ats, PD.at, PD.seq, behind, frzS, RD.fz, RD.fzs, RD.noL, RD.noLs, D.noL, D.noLs, RD.parts, putS, wipeS, boolT, intT, isTupP, isLstP, truD, isNon, iOp, iOpC, iMod, iDiv, iMul, iNeg, iAbs, iId, iCmp, bCmp, lenOp, tupOp, ownOp, slTup, revTup, ite_self, if_true, if_false, ite_true, ite_false, Bool.not_true, Bool.not_false, Bool.false_eq_true, List.getElem?_cons_zero, List.getElem?_cons_succ, List.set_cons_zero, List.set_cons_succ, List.map_cons, List.map_nil, decide_true, decide_false, Bool.true_and, Bool.and_true, Bool.false_and, Bool.and_false, Bool.true_or, Bool.or_true, Bool.false_or, Bool.or_false, Bool.and_self, Bool.or_self, reduceIte, reduceCtorEq]
theorem hd74_large (n : Str) : (hdl ["BadValue", "TooLarge"] "BadValue" (suF 4 (some 3) fun x => retS (lstR [rq (xfQ ["BadValue", "TooLarge"] x "name" 3)])) (hdl ["BadValue", "TooLarge"] "TooLarge" (suF 4 (some 3) fun x => retS (lstR [rq (xfQ ["BadValue", "TooLarge"] x "what" 3)])) passX)) (.mk "TooLarge" [.str n]) = .ret (.rt (.own [.str n])) := by
  have m : Exn.cls (.mk "TooLarge" [D.str n]) ∈ [("BadValue" : Str), "TooLarge"] := by
    show ("TooLarge" : Str) ∈ _
    decide
  have y0 : xSub (Exn.cls (.mk "TooLarge" [D.str n])) "BadValue" = false := by
    show xSub "TooLarge" "BadValue" = false
    decide
  have y1 : xSub (Exn.cls (.mk "TooLarge" [D.str n])) "TooLarge" = true := by
    show xSub "TooLarge" "TooLarge" = true
    decide
  have x2 : xField (.mk "TooLarge" [D.str n]) "what" = some (.str n) := by rfl
  have su : suSlots 4 (some 3) = [Slot.none, Slot.none, Slot.none, Slot.val .strm] := by rfl
  simp only [m, y0, y1, x2, su, D.noS, D.noSs, RD.noS, RD.noSs, noX_ret, noX_fail, T.exc_bnd, tryT_ret, tryT_fail, tryT_exc, x_leafS, x_leafR, x_dropS, x_callXR, x_raiseS, x_ifXS, x_tryS, x_asgXS, x_hdl, x_passX, x_suiteT, x_suF, endO_rt, x_xfQ, x_xisQ, semK, seqD, isI, isB, isS, isTu, isLi, seqO, PD.ats, PD.at, PD.seq, behind, frzS, RD.fz, RD.fzs, RD.noL, RD.noLs, D.noL, D.noLs, RD.parts, putS, wipeS, boolT, intT, isTupP, isLstP, truD, isNon, iOp, iOpC, iMod, iDiv, iMul, iNeg, iAbs, iId, iCmp, bCmp, lenOp, tupOp, ownOp, slTup, revTup, ite_self, if_true, if_false, ite_true, ite_false, Bool.not_true, Bool.not_false, Bool.false_eq_true, List.getElem?_cons_zero, List.getElem?_cons_succ, List.set_cons_zero, List.set_cons_succ, List.map_cons, List.map_nil, decide_true, decide_false, Bool.true_and, Bool.and_true, Bool.false_and, Bool.and_false, Bool.true_or, Bool.or_true, Bool.false_or, Bool.or_false, Bool.and_self, Bool.or_self, reduceIte, reduceCtorEq]
theorem told74_bad {a b c : D} {n : Str} (h : sx_interleaved_2 [a, b, c] = .exc (.mk "BadValue" [.str n])) : sm_l_told_10 [a, b, c] = .ret (.own [.str n]) := by
  have hx := hd74_bad n
  simp only [e_l_told_10, b_l_told_10, h, hx, noX_ret, noX_fail, T.exc_bnd, tryT_ret, tryT_fail, tryT_exc, x_leafS, x_dropS, x_callXR, x_ifXS, x_tryS, semK, seqD, isI, isB, isS, isTu, isLi, seqO, PD.ats, PD.at, PD.seq, behind, frzS, RD.fz, RD.fzs, RD.noL, RD.noLs, D.noL, D.noLs, RD.parts, putS, wipeS, boolT, intT, isTupP, isLstP, truD, isNon, iOp, iOpC, iMod, iDiv, iMul, iNeg, iAbs, iId, iCmp, bCmp, lenOp, tupOp, ownOp, slTup, revTup, ite_self, if_true, if_false, ite_true, ite_false, Bool.not_true, Bool.not_false, Bool.false_eq_true, List.getElem?_cons_zero, List.getElem?_cons_succ, List.set_cons_zero, List.set_cons_succ, List.map_cons, List.map_nil, decide_true, decide_false, Bool.true_and, Bool.and_true, Bool.false_and, Bool.and_false, Bool.true_or, Bool.or_true, Bool.false_or, Bool.or_false, Bool.and_self, Bool.or_self, reduceIte, reduceCtorEq]
theorem told74_large {a b c : D} {n : Str} (h : sx_interleaved_2 [a, b, c] = .exc (.mk "TooLarge" [.str n])) : sm_l_told_10 [a, b, c] = .ret (.own [.str n]) := by
  have hx := hd74_large n
  simp only [e_l_told_10, b_l_told_10, h, hx, noX_ret, noX_fail, T.exc_bnd, tryT_ret, tryT_fail, tryT_exc, x_leafS, x_dropS, x_callXR, x_ifXS, x_tryS, semK, seqD, isI, isB, isS, isTu, isLi, seqO, PD.ats, PD.at, PD.seq, behind, frzS, RD.fz, RD.fzs, RD.noL, RD.noLs, D.noL, D.noLs, RD.parts, putS, wipeS, boolT, intT, isTupP, isLstP, truD, isNon, iOp, iOpC, iMod, iDiv, iMul, iNeg, iAbs, iId, iCmp, bCmp, lenOp, tupOp, ownOp, slTup, revTup, ite_self, if_true, if_false, ite_true, ite_false, Bool.not_true, Bool.not_false, Bool.false_eq_true, List.getElem?_cons_zero, List.getElem?_cons_succ, List.set_cons_zero, List.set_cons_succ, List.map_cons, List.map_nil, decide_true, decide_false, Bool.true_and, Bool.and_true, Bool.false_and, Bool.and_false, Bool.true_or, Bool.or_true, Bool.false_or, Bool.or_false, Bool.and_self, Bool.or_self, reduceIte, reduceCtorEq]
theorem told74_ret {a b c : D} {R : RD} (h : sx_interleaved_2 [a, b, c] = .ret R) : sm_l_told_10 [a, b, c] = .ret R := by
  simp only [e_l_told_10, b_l_told_10, h, noX_ret, noX_fail, T.exc_bnd, tryT_ret, tryT_fail, tryT_exc, x_leafS, x_dropS, x_callXR, x_ifXS, x_tryS, semK, seqD, isI, isB, isS, isTu, isLi, seqO, PD.ats, PD.at, PD.seq, behind, frzS, RD.fz, RD.fzs, RD.noL, RD.noLs, D.noL, D.noLs, RD.parts, putS, wipeS, boolT, intT, isTupP, isLstP, truD, isNon, iOp, iOpC, iMod, iDiv, iMul, iNeg, iAbs, iId, iCmp, bCmp, lenOp, tupOp, ownOp, slTup, revTup, ite_self, if_true, if_false, ite_true, ite_false, Bool.not_true, Bool.not_false, Bool.false_eq_true, List.getElem?_cons_zero, List.getElem?_cons_succ, List.set_cons_zero, List.set_cons_succ, List.map_cons, List.map_nil, decide_true, decide_false, Bool.true_and, Bool.and_true, Bool.false_and, Bool.and_false, Bool.true_or, Bool.or_true, Bool.false_or, Bool.or_false, Bool.and_self, Bool.or_self, reduceIte, reduceCtorEq]
theorem large74 {one other : List Rul} {ms : List Nat} (h1 : ∀ r ∈ one, r.ok) (h2 : ∀ r ∈ other, r.ok) (l1 : one.length ≤ 20) (l2 : other.length ≤ 20) (h : Marks ms one.length other.length) (hm : ms.length = one.length + other.length) (hl : 20 < ms.length) : sx_interleaved_2 [.tup (one.map Rul.d), .tup (other.map Rul.d), .tup (ms.map natD)] = .exc (.mk "TooLarge" [.str "rules"]) := by
  have m := s_are_marks (A := one.map Rul.d) (B := other.map Rul.d) (ms := ms) (by rw [List.length_map, List.length_map]; exact h)
  have g1 := r_one_other _ _ (s_check_one_and_other h1 h2 l1 l2)
  obtain ⟨i', j', s6', lp⟩ := weave_loop (one := one) (other := other) (M := .tup (ms.map natD)) ms one other [] 0 0 Slot.none h rfl rfl (by rw [List.length_nil]; omega) (by omega) (by omega)
  have hw := (weave_facts ms one other h).1
  have wb : sx_within_bound_2 [.tup ((weave ms one other).map Rul.d)] = _ := sx_within74 (rs := weave ms one other) (by omega)
  have q3 : lenT ((weave ms one other).map Rul.d) = .ret () := lenT_ok (by rw [List.length_map]; omega)
  have c0 : ((0 : Nat) : Int) = 0 := rfl
  rw [List.nil_append, c0] at lp
  have lp' : loopT (nameG 6) (seqS (exprS (appQ 5 (bin2P ixOp (pq (bin2P ixOp (vP 3) (vQ 6))) (bin2P ixOp (vP 4) (vQ 6))))) (ixAugS 4 (· + ·) (vQ 6) (cQ (.int 1)))) (ms.map natD) [Slot.val (.tup (one.map Rul.d)), Slot.val (.tup (other.map Rul.d)), Slot.val (.tup (ms.map natD)), Slot.val (.tup [.tup (one.map Rul.d), .tup (other.map Rul.d)]), Slot.own [.int 0, .int 0], Slot.own [], Slot.none] = .ret (.nx [Slot.val (.tup (one.map Rul.d)), Slot.val (.tup (other.map Rul.d)), Slot.val (.tup (ms.map natD)), Slot.val (.tup [.tup (one.map Rul.d), .tup (other.map Rul.d)]), Slot.own [.int (i' : Nat), .int (j' : Nat)], Slot.own ((weave ms one other).map Rul.d), s6']) := lp
  simp only [ex_interleaved_2, bx_interleaved_2, g1, m, rules_noL, lp', q3, wb, noX_ret, noX_fail, T.exc_bnd, tryT_ret, tryT_fail, tryT_exc, x_leafS, x_leafR, x_dropS, x_callXR, x_raiseS, x_ifXS, x_tryS, x_asgXS, x_hdl, x_passX, x_suiteT, x_suF, endO_rt, x_xfQ, x_xisQ, semK, seqD, isI, isB, isS, isTu, isLi, seqO, PD.ats, PD.at, PD.seq, behind, frzS, RD.fz, RD.fzs, RD.noL, RD.noLs, D.noL, D.noLs, RD.parts, putS, wipeS, boolT, intT, isTupP, isLstP, truD, isNon, iOp, iOpC, iMod, iDiv, iMul, iNeg, iAbs, iId, iCmp, bCmp, lenOp, tupOp, ownOp, slTup, revTup, ite_self, if_true, if_false, ite_true, ite_false, Bool.not_true, Bool.not_false, Bool.false_eq_true, List.getElem?_cons_zero, List.getElem?_cons_succ, List.set_cons_zero, List.set_cons_succ, List.map_cons, List.map_nil, decide_true, decide_false, Bool.true_and, Bool.and_true, Bool.false_and, Bool.and_false, Bool.true_or, Bool.or_true, Bool.false_or, Bool.or_false, Bool.and_self, Bool.or_self, reduceIte, reduceCtorEq]
end Dm

namespace Dm
open PySem PySem.Spec PyProof.Rows L2
theorem all74 {A B : List D} {xs : List D} (hp : ∀ x ∈ xs, plain x = true) : allT [3] (nameW 3) yesC (qr (callR sm_is_integer_within [vP 3, pq (cQ (.int 0)), pq (cQ (.int 1))])) xs [Slot.val (.tup A), Slot.val (.tup B), Slot.val (.tup xs), Slot.none] = .ret (.bl (xs.all (inR 0 1)), [Slot.val (.tup A), Slot.val (.tup B), Slot.val (.tup xs), Slot.none]) := by
  refine allT_eq (inR 0 1) fun x hx => ?_
  have q := s_within (d := x) (l := 0) (m := 1) (hp x hx)
  refine ⟨[Slot.val (.tup A), Slot.val (.tup B), Slot.val (.tup xs), Slot.val x], [Slot.val (.tup A), Slot.val (.tup B), Slot.val (.tup xs), Slot.val x], rfl, rfl, ?_, rfl⟩
  simp only [q, semK, seqD, isI, isB, isS, isTu, isLi, seqO, PD.ats, PD.at, PD.seq, behind, frzS, RD.fz, RD.fzs, RD.noL, RD.noLs, D.noL, D.noLs, RD.parts, putS, wipeS, boolT, intT, isTupP, isLstP, truD, isNon, iOp, iOpC, iMod, iDiv, iMul, iNeg, iAbs, iId, iCmp, bCmp, lenOp, tupOp, ownOp, slTup, revTup, ite_self, if_true, if_false, ite_true, ite_false, Bool.not_true, Bool.not_false, Bool.false_eq_true, List.getElem?_cons_zero, List.getElem?_cons_succ, List.set_cons_zero, List.set_cons_succ, List.map_cons, List.map_nil, decide_true, decide_false, Bool.true_and, Bool.and_true, Bool.false_and, Bool.and_false, Bool.true_or, Bool.or_true, Bool.false_or, Bool.or_false, Bool.and_self, Bool.or_self, reduceIte, reduceCtorEq]
theorem no74a {A B : List D} {xs : List D} (hp : ∀ x ∈ xs, plain x = true) (ha : xs.all (inR 0 1) = false) : sm_are_marks [.tup A, .tup B, .tup xs] = .ret (.d (.bl false)) := by
  have c := all74 (A := A) (B := B) hp
  rw [ha] at c
  simp only [e_are_marks, b_are_marks, c, semK, seqD, isI, isB, isS, isTu, isLi, seqO, PD.ats, PD.at, PD.seq, behind, frzS, RD.fz, RD.fzs, RD.noL, RD.noLs, D.noL, D.noLs, RD.parts, putS, wipeS, boolT, intT, isTupP, isLstP, truD, isNon, iOp, iOpC, iMod, iDiv, iMul, iNeg, iAbs, iId, iCmp, bCmp, lenOp, tupOp, ownOp, slTup, revTup, ite_self, if_true, if_false, ite_true, ite_false, Bool.not_true, Bool.not_false, Bool.false_eq_true, List.getElem?_cons_zero, List.getElem?_cons_succ, List.set_cons_zero, List.set_cons_succ, List.map_cons, List.map_nil, decide_true, decide_false, Bool.true_and, Bool.and_true, Bool.false_and, Bool.and_false, Bool.true_or, Bool.or_true, Bool.false_or, Bool.or_false, Bool.and_self, Bool.or_self, reduceIte, reduceCtorEq]
theorem no74b {A B : List D} : sm_are_marks [.tup A, .tup B, .non] = .ret (.d (.bl false)) := by simp only [e_are_marks, b_are_marks, semK, seqD, isI, isB, isS, isTu, isLi, seqO, PD.ats, PD.at, PD.seq, behind, frzS, RD.fz, RD.fzs, RD.noL, RD.noLs, D.noL, D.noLs, RD.parts, putS, wipeS, boolT, intT, isTupP, isLstP, truD, isNon, iOp, iOpC, iMod, iDiv, iMul, iNeg, iAbs, iId, iCmp, bCmp, lenOp, tupOp, ownOp, slTup, revTup, ite_self, if_true, if_false, ite_true, ite_false, Bool.not_true, Bool.not_false, Bool.false_eq_true, List.getElem?_cons_zero, List.getElem?_cons_succ, List.set_cons_zero, List.set_cons_succ, List.map_cons, List.map_nil, decide_true, decide_false, Bool.true_and, Bool.and_true, Bool.false_and, Bool.and_false, Bool.true_or, Bool.or_true, Bool.false_or, Bool.or_false, Bool.and_self, Bool.or_self, reduceIte, reduceCtorEq]
theorem no74c {A B xs : List D} : sm_are_marks [.tup A, .tup B, .lst xs] = .ret (.d (.bl false)) := by simp only [e_are_marks, b_are_marks, semK, seqD, isI, isB, isS, isTu, isLi, seqO, PD.ats, PD.at, PD.seq, behind, frzS, RD.fz, RD.fzs, RD.noL, RD.noLs, D.noL, D.noLs, RD.parts, putS, wipeS, boolT, intT, isTupP, isLstP, truD, isNon, iOp, iOpC, iMod, iDiv, iMul, iNeg, iAbs, iId, iCmp, bCmp, lenOp, tupOp, ownOp, slTup, revTup, ite_self, if_true, if_false, ite_true, ite_false, Bool.not_true, Bool.not_false, Bool.false_eq_true, List.getElem?_cons_zero, List.getElem?_cons_succ, List.set_cons_zero, List.set_cons_succ, List.map_cons, List.map_nil, decide_true, decide_false, Bool.true_and, Bool.and_true, Bool.false_and, Bool.and_false, Bool.true_or, Bool.or_true, Bool.false_or, Bool.or_false, Bool.and_self, Bool.or_self, reduceIte, reduceCtorEq]
theorem no74 {A B : List D} {ms : List Nat} (two : ∀ k ∈ ms, k = 0 ∨ k = 1) (h : ¬(ms.count 0 = A.length ∧ ms.count 1 = B.length)) : sm_are_marks [.tup A, .tup B, .tup (ms.map natD)] = .ret (.d (.bl false)) := by
  by_cases c0 : ms.count 0 = A.length
  · have c1 : ms.count 1 ≠ B.length := fun q => h ⟨c0, q⟩
    have c := all74 (A := A) (B := B) (xs := ms.map natD) fun x hx => by
      obtain ⟨k, hk, rfl⟩ := List.mem_map.mp hx
      rfl
    have ha : (ms.map natD).all (inR 0 1) = true := by
      rw [List.all_eq_true]
      intro x hx
      obtain ⟨k, hk, rfl⟩ := List.mem_map.mp hx
      rcases two k hk with rfl | rfl <;> decide
    have n0 : cntT (.tup (ms.map natD)) (.int 0) = .ret (.int ((ms.count 0 : Nat) : Int)) := by
      unfold cntT
      dsimp only
      rw [intsO_nats]
      have := cast_count 0 ms
      show T.ret (D.int (((ms.map fun (x : Nat) => (x : Int)).count ((0 : Nat) : Int) : Nat) : Int)) = _
      rw [this]
    have n1 : cntT (.tup (ms.map natD)) (.int 1) = .ret (.int ((ms.count 1 : Nat) : Int)) := by
      unfold cntT
      dsimp only
      rw [intsO_nats]
      have := cast_count 1 ms
      show T.ret (D.int (((ms.map fun (x : Nat) => (x : Int)).count ((1 : Nat) : Int) : Nat) : Int)) = _
      rw [this]
    have d0 : decide (((ms.count 0 : Nat) : Int) = ((A.length : Nat) : Int)) = true := decide_eq_true (by omega)
    have d1 : decide (((ms.count 1 : Nat) : Int) = ((B.length : Nat) : Int)) = false := decide_eq_false (by omega)
    rw [ha] at c
    simp only [e_are_marks, b_are_marks, c, n0, n1, eqT_int, d0, d1, semK, seqD, isI, isB, isS, isTu, isLi, seqO, PD.ats, PD.at, PD.seq, behind, frzS, RD.fz, RD.fzs, RD.noL, RD.noLs, D.noL, D.noLs, RD.parts, putS, wipeS, boolT, intT, isTupP, isLstP, truD, isNon, iOp, iOpC, iMod, iDiv, iMul, iNeg, iAbs, iId, iCmp, bCmp, lenOp, tupOp, ownOp, slTup, revTup, ite_self, if_true, if_false, ite_true, ite_false, Bool.not_true, Bool.not_false, Bool.false_eq_true, List.getElem?_cons_zero, List.getElem?_cons_succ, List.set_cons_zero, List.set_cons_succ, List.map_cons, List.map_nil, decide_true, decide_false, Bool.true_and, Bool.and_true, Bool.false_and, Bool.and_false, Bool.true_or, Bool.or_true, Bool.false_or, Bool.or_false, Bool.and_self, Bool.or_self, reduceIte, reduceCtorEq]
  · exact no_marks77 two c0
def W74 (ms : List Nat) : List D := [.non, .lst (ms.map natD), .tup (ms.map natD ++ [.int 0]), .tup (ms.map natD ++ [.int 1]), .tup (ms.map natD ++ [.int 2]), .tup ([.str "0"] ++ ms.map natD), .tup (ms.map natD ++ [.bl true]), .tup ([.int (-1)] ++ ms.map natD)]
def V74 (k : Nat) (r : List Nat) : List D := [.tup (r.map natD), .tup (((k :: r).take r.length).map natD), .tup ([.int (1 - (k : Int))] ++ r.map natD), .tup ([.bl ((k : Int) != 0)] ++ r.map natD)]
theorem plain74 {ms : List Nat} : ∀ x ∈ ms.map natD, plain x = true := fun x hx => by
  obtain ⟨k, hk, rfl⟩ := List.mem_map.mp hx
  rfl
theorem w74 {A B : List D} {ms : List Nat} (h : Marks ms A.length B.length) : ∀ x ∈ W74 ms, sm_are_marks [.tup A, .tup B, x] = .ret (.d (.bl false)) := by
  have pa : ∀ {y : D}, plain y = true → ∀ x ∈ ms.map natD ++ [y], plain x = true := fun hy x hx => by
    rcases List.mem_append.mp hx with q | q
    · exact plain74 x q
    · rw [List.mem_singleton.mp q]; exact hy
  have pb : ∀ {y : D}, plain y = true → ∀ x ∈ [y] ++ ms.map natD, plain x = true := fun hy x hx => by
    rcases List.mem_append.mp hx with q | q
    · rw [List.mem_singleton.mp q]; exact hy
    · exact plain74 x q
  intro x hx
  simp only [W74, List.mem_cons, List.not_mem_nil, or_false] at hx
  rcases hx with rfl | rfl | rfl | rfl | rfl | rfl | rfl | rfl
  · exact no74b
  · exact no74c
  · have e : (ms.map natD ++ [.int 0]) = (ms ++ [0]).map natD := by rw [List.map_append]; rfl
    rw [e]
    refine no74 (fun k hk => ?_) fun q => ?_
    · rcases List.mem_append.mp hk with q | q
      · exact h.two k q
      · exact .inl (List.mem_singleton.mp q)
    · have := q.1
      rw [List.count_append, h.c0] at this
      simp at this
  · have e : (ms.map natD ++ [.int 1]) = (ms ++ [1]).map natD := by rw [List.map_append]; rfl
    rw [e]
    refine no74 (fun k hk => ?_) fun q => ?_
    · rcases List.mem_append.mp hk with q | q
      · exact h.two k q
      · exact .inr (List.mem_singleton.mp q)
    · have := q.2
      rw [List.count_append, h.c1] at this
      simp at this
  · exact no74a (pa rfl) (by rw [List.all_append, show ([.int 2] : List D).all (inR 0 1) = false from by decide, Bool.and_false])
  · exact no74a (pb rfl) (by rw [List.all_append, show ([.str "0"] : List D).all (inR 0 1) = false from rfl, Bool.false_and])
  · exact no74a (pa rfl) (by rw [List.all_append, show ([.bl true] : List D).all (inR 0 1) = false from rfl, Bool.and_false])
  · exact no74a (pb rfl) (by rw [List.all_append, show ([.int (-1)] : List D).all (inR 0 1) = false from by decide, Bool.false_and])
theorem v74 {A B : List D} {k : Nat} {r : List Nat} (h : Marks (k :: r) A.length B.length) : ∀ x ∈ V74 k r, sm_are_marks [.tup A, .tup B, x] = .ret (.d (.bl false)) := by
  have tr : ∀ j ∈ r, j = 0 ∨ j = 1 := fun j hj => h.two j (List.mem_cons_of_mem _ hj)
  have c0 := h.c0
  have c1 := h.c1
  intro x hx
  simp only [V74, List.mem_cons, List.not_mem_nil, or_false] at hx
  rcases hx with rfl | rfl | rfl | rfl
  · refine no74 tr fun q => ?_
    rcases h.two k List.mem_cons_self with rfl | rfl
    · rw [List.count_cons_self] at c0; omega
    · rw [List.count_cons_self] at c1; omega
  · obtain ⟨i, z, hz⟩ : ∃ i z, k :: r = i ++ [z] := ⟨(k :: r).dropLast, (k :: r).getLast (by simp), (List.dropLast_concat_getLast (by simp)).symm⟩
    have li : i.length = r.length := by
      have := congrArg List.length hz
      rw [List.length_cons, List.length_append, List.length_singleton] at this
      omega
    have hz2 := h.two
    rw [hz] at c0 c1 hz2 ⊢
    rw [← li, List.take_left]
    refine no74 (fun j hj => hz2 j (List.mem_append_left _ hj)) fun q => ?_
    rw [List.count_append] at c0 c1
    rcases hz2 z (by simp) with rfl | rfl
    · rw [List.count_singleton_self] at c0; omega
    · rw [List.count_singleton_self] at c1; omega
  · rcases h.two k List.mem_cons_self with rfl | rfl
    · have e : ([.int (1 - ((0 : Nat) : Int))] ++ r.map natD : List D) = (1 :: r).map natD := rfl
      rw [e]
      refine no74 (fun j hj => ?_) fun q => ?_
      · rcases List.mem_cons.mp hj with q | q
        · exact .inr q
        · exact tr j q
      · have q1 := q.1
        rw [List.count_cons_self] at c0
        rw [List.count_cons_of_ne (by decide)] at q1
        omega
    · have e : ([.int (1 - ((1 : Nat) : Int))] ++ r.map natD : List D) = (0 :: r).map natD := rfl
      rw [e]
      refine no74 (fun j hj => ?_) fun q => ?_
      · rcases List.mem_cons.mp hj with q | q
        · exact .inl q
        · exact tr j q
      · have q1 := q.2
        rw [List.count_cons_self] at c1
        rw [List.count_cons_of_ne (by decide)] at q1
        omega
  · refine no74a (fun x hx => ?_) (by rw [List.all_append, show ([.bl ((k : Int) != 0)] : List D).all (inR 0 1) = false from rfl, Bool.false_and])
    rcases List.mem_append.mp hx with q | q
    · rw [List.mem_singleton.mp q]; rfl
    · exact plain74 x q
theorem w_marks74 {a b c d e f : Slot} {K : Out → Prop} : ∀ (xs acc : List Nat) (s6 : Slot), xs.length + acc.length ≤ 1000 → (∀ (ms : List Nat) (s6 : Slot), ms.Perm (xs ++ acc) → K (.nx [a, Slot.val .strm, b, c, d, Slot.own (ms.map natD), s6, e, f])) → WB (loopT (nameG 6) (exprS (insQ 5 (qr (callR sm_l_next [vP 1, pq (bin2 (iOp (· + ·)) (un1P lenOp (vP 5)) (cQ (.int 1)))])) (vQ 6))) (xs.map natD) [a, Slot.val .strm, b, c, d, Slot.own (acc.map natD), s6, e, f]) K
  | [], acc, s6, _, k => WB_iff.mpr (k acc s6 (List.Perm.refl _))
  | x :: xs, acc, s6, hl, k => by
    rw [List.length_cons] at hl
    rw [List.map_cons]
    refine loop_step ?_
    have q1 : lenT (acc.map natD) = .ret () := lenT_ok (by rw [List.length_map]; omega)
    simp only [q1, List.length_map, semK, seqD, isI, isB, isS, isTu, isLi, seqO, PD.ats, PD.at, PD.seq, behind, frzS, RD.fz, RD.fzs, RD.noL, RD.noLs, D.noL, D.noLs, RD.parts, putS, wipeS, boolT, intT, isTupP, isLstP, truD, isNon, iOp, iOpC, iMod, iDiv, iMul, iNeg, iAbs, iId, iCmp, bCmp, lenOp, tupOp, ownOp, slTup, revTup, ite_self, if_true, if_false, ite_true, ite_false, Bool.not_true, Bool.not_false, Bool.false_eq_true, List.getElem?_cons_zero, List.getElem?_cons_succ, List.set_cons_zero, List.set_cons_succ, List.map_cons, List.map_nil, decide_true, decide_false, Bool.true_and, Bool.and_true, Bool.false_and, Bool.and_false, Bool.true_or, Bool.or_true, Bool.false_or, Bool.or_false, Bool.and_self, Bool.or_self, reduceIte, reduceCtorEq]
    refine w_next (by omega) (by omega) fun n hn => ?_
    have c1 : (0 ≤ ((n : Nat) : Int) ∧ ((n : Nat) : Int) < 100000 ∧ acc.length < 100000) = True := eq_true ⟨by omega, by omega, by omega⟩
    simp only [c1, List.length_map, Int.toNat_natCast, semK, seqD, isI, isB, isS, isTu, isLi, seqO, PD.ats, PD.at, PD.seq, behind, frzS, RD.fz, RD.fzs, RD.noL, RD.noLs, D.noL, D.noLs, RD.parts, putS, wipeS, boolT, intT, isTupP, isLstP, truD, isNon, iOp, iOpC, iMod, iDiv, iMul, iNeg, iAbs, iId, iCmp, bCmp, lenOp, tupOp, ownOp, slTup, revTup, ite_self, if_true, if_false, ite_true, ite_false, Bool.not_true, Bool.not_false, Bool.false_eq_true, List.getElem?_cons_zero, List.getElem?_cons_succ, List.set_cons_zero, List.set_cons_succ, List.map_cons, List.map_nil, decide_true, decide_false, Bool.true_and, Bool.and_true, Bool.false_and, Bool.and_false, Bool.true_or, Bool.or_true, Bool.false_or, Bool.or_false, Bool.and_self, Bool.or_self, reduceIte, reduceCtorEq]
    refine ⟨_, rfl, ?_⟩
    have e1 : (acc.map natD).take n ++ [natD x] ++ (acc.map natD).drop n = (acc.take n ++ [x] ++ acc.drop n).map natD := by
      rw [List.map_append, List.map_append, List.map_take, List.map_drop]; rfl
    rw [e1]
    refine w_marks74 xs (acc.take n ++ [x] ++ acc.drop n) _ (by simp only [List.length_append, List.length_take, List.length_singleton, List.length_drop]; omega) fun ms s6 p => k ms s6 (p.trans ?_)
    have p1 : (acc.take n ++ [x] ++ acc.drop n).Perm (x :: acc) := by
      have := (List.perm_append_comm (l₁ := acc.take n) (l₂ := [x])).append_right (acc.drop n)
      refine this.trans ?_
      rw [List.append_assoc, List.take_append_drop]
      exact List.Perm.refl _
    exact (p1.append_left xs).trans List.perm_middle
end Dm

namespace Dm
open PySem PySem.Spec PyProof.Rows L2
theorem repOk74 {r : Rul} (h : r.ok) (n : Nat) : ∀ x ∈ List.replicate n r, x.ok := fun x hx => by rw [List.eq_of_mem_replicate hx]; exact h
theorem rep74 (r : Rul) (n : Nat) : (List.replicate n r).map Rul.d = List.replicate n r.d := List.map_replicate ..
theorem mul74 (r : Rul) {n : Nat} (h : n ≤ 100) : mulT2 (.tup [r.d]) (.int (n : Nat)) = .ret (.tup ((List.replicate n r).map Rul.d)) := by rw [mul77 _ h, rep74]
theorem ne_one74 {s : Str} (h : letterZ s = true) : neT (.lst [.str s]) (.lst [.str s]) = .ret false := by
  refine neT_self ?_
  show ([.str s] : List D).all (okN 7) = true
  exact okN_strs (zs := [s]) fun z hz => by rw [List.mem_singleton.mp hz]; exact h
theorem end74 {s2 s3 s4 s5 s6 s7 s8 : Slot} (hs2 : s2 = Slot.own (pool5.map D.str)) {t} : WB (b_law_k74t_p11 [Slot.none, Slot.val .strm, s2, s3, s4, s5, s6, s7, s8]) (OutP { nx := fun _ => False, rt := fun r => r.fz = .bl true }) t := by
  subst hs2
  have key := fun (Q : RD → Prop) (t) (k : ∀ r : Rul, r.ok → Q (.tup [.d (.str r.side), .d (.str r.a), .d (.int r.s), .d (.str r.l)])) => w_rule_4 (zs := pool5) (us := ["x"]) (Q := Q) (t := t) ⟨by decide, by decide⟩ (by decide) (by decide) fun r hr ha hl => k r hr
  simp only [b_law_k74t_p11_e, semK, seqD, isI, isB, isS, isTu, isLi, seqO, PD.ats, PD.at, PD.seq, behind, frzS, RD.fz, RD.fzs, RD.noL, RD.noLs, D.noL, D.noLs, RD.parts, putS, wipeS, boolT, intT, isTupP, isLstP, truD, isNon, iOp, iOpC, iMod, iDiv, iMul, iNeg, iAbs, iId, iCmp, bCmp, lenOp, tupOp, ownOp, slTup, revTup, ite_self, if_true, if_false, ite_true, ite_false, Bool.not_true, Bool.not_false, Bool.false_eq_true, List.getElem?_cons_zero, List.getElem?_cons_succ, List.set_cons_zero, List.set_cons_succ, List.map_cons, List.map_nil, decide_true, decide_false, Bool.true_and, Bool.and_true, Bool.false_and, Bool.and_false, Bool.true_or, Bool.or_true, Bool.false_or, Bool.or_false, Bool.and_self, Bool.or_self, reduceIte, reduceCtorEq]
  refine key _ _ fun r hr => ?_
  have m20 := mul74 r (n := 20) (by omega)
  have m11 := mul74 r (n := 11) (by omega)
  have m10 := mul74 r (n := 10) (by omega)
  have z1 : mulT2 (.tup [.int 0, .int 1]) (.int 10) = .ret (.tup (([0, 1, 0, 1, 0, 1, 0, 1, 0, 1, 0, 1, 0, 1, 0, 1, 0, 1, 0, 1] : List Nat).map natD)) := by rfl
  have z2 : mulT2 (.tup [.int 1, .int 0]) (.int 10) = .ret (.tup (([1, 0, 1, 0, 1, 0, 1, 0, 1, 0, 1, 0, 1, 0, 1, 0, 1, 0, 1, 0] : List Nat).map natD)) := by rfl
  have z3 : addT (.tup (([0, 1, 0, 1, 0, 1, 0, 1, 0, 1, 0, 1, 0, 1, 0, 1, 0, 1, 0, 1] : List Nat).map natD)) (.tup [.int 0]) = .ret (.tup (([0, 1, 0, 1, 0, 1, 0, 1, 0, 1, 0, 1, 0, 1, 0, 1, 0, 1, 0, 1, 0] : List Nat).map natD)) := by rfl
  have o := fun n => repOk74 hr n
  have len : ∀ n, (List.replicate n r).length = n := fun n => List.length_replicate
  have ci := s_count_int (o 20) (o 20) (by rw [len]; omega) (by rw [len]; omega)
  have lc := s_l_count (n := 20) (m := 20) (by omega) (by omega)
  rw [len, comb74b] at ci
  have big := told74_large (large74 (o 11) (o 10) (by rw [len]; omega) (by rw [len]; omega) (ms := [0, 1, 0, 1, 0, 1, 0, 1, 0, 1, 0, 1, 0, 1, 0, 1, 0, 1, 0, 1, 0]) ⟨by decide, by rw [len]; decide, by rw [len]; decide⟩ (by rw [len, len]; rfl) (by decide))
  have fin := told74_ret (r_interleaved77 _ _ (s_interleaved (o 10) (o 10) (by rw [len]; omega) (ms := [1, 0, 1, 0, 1, 0, 1, 0, 1, 0, 1, 0, 1, 0, 1, 0, 1, 0, 1, 0]) ⟨by decide, by rw [len]; decide, by rw [len]; decide⟩ (by rw [len]; rfl)))
  have we : weave [1, 0, 1, 0, 1, 0, 1, 0, 1, 0, 1, 0, 1, 0, 1, 0, 1, 0, 1, 0] (List.replicate 10 r) (List.replicate 10 r) = List.replicate 20 r := by rfl
  rw [we] at fin
  have eq20 : eqT (.tup ((List.replicate 20 r).map Rul.d)) (.tup ((List.replicate 20 r).map Rul.d)) = .ret true := eqT_self (rules_okN (o 20) 6).1
  have n1 := ne_one74 (s := "rules") (by decide)
  have er : (D.tup [.str r.side, .str r.a, .int r.s, .str r.l]) = r.d := rfl
  have c20 : ((20 : Nat) : Int) = 20 := rfl
  have c11 : ((11 : Nat) : Int) = 11 := rfl
  have c10 : ((10 : Nat) : Int) = 10 := rfl
  generalize ([0, 1, 0, 1, 0, 1, 0, 1, 0, 1, 0, 1, 0, 1, 0, 1, 0, 1, 0, 1] : List Nat).map natD = MA at *
  generalize ([0, 1, 0, 1, 0, 1, 0, 1, 0, 1, 0, 1, 0, 1, 0, 1, 0, 1, 0, 1, 0] : List Nat).map natD = MB at *
  generalize ([1, 0, 1, 0, 1, 0, 1, 0, 1, 0, 1, 0, 1, 0, 1, 0, 1, 0, 1, 0] : List Nat).map natD = MC at *
  rw [c20] at m20 lc
  rw [c11] at m11
  rw [c10] at m10
  simp only [b_law_k74t_p12_e, RD.fz, RD.fzs, er, m20, ci, lc, neT_int, decide_true, Bool.not_true, semK, seqD, isI, isB, isS, isTu, isLi, seqO, PD.ats, PD.at, PD.seq, behind, frzS, RD.fz, RD.fzs, RD.noL, RD.noLs, D.noL, D.noLs, RD.parts, putS, wipeS, boolT, intT, isTupP, isLstP, truD, isNon, iOp, iOpC, iMod, iDiv, iMul, iNeg, iAbs, iId, iCmp, bCmp, lenOp, tupOp, ownOp, slTup, revTup, ite_self, if_true, if_false, ite_true, ite_false, Bool.not_true, Bool.not_false, Bool.false_eq_true, List.getElem?_cons_zero, List.getElem?_cons_succ, List.set_cons_zero, List.set_cons_succ, List.map_cons, List.map_nil, decide_true, decide_false, Bool.true_and, Bool.and_true, Bool.false_and, Bool.and_false, Bool.true_or, Bool.or_true, Bool.false_or, Bool.or_false, Bool.and_self, Bool.or_self, reduceIte, reduceCtorEq]
  simp only [b_law_k74t_p13_e, rules_noL, m11, m10, z1, z3, big, n1, semK, seqD, isI, isB, isS, isTu, isLi, seqO, PD.ats, PD.at, PD.seq, behind, frzS, RD.fz, RD.fzs, RD.noL, RD.noLs, D.noL, D.noLs, RD.parts, putS, wipeS, boolT, intT, isTupP, isLstP, truD, isNon, iOp, iOpC, iMod, iDiv, iMul, iNeg, iAbs, iId, iCmp, bCmp, lenOp, tupOp, ownOp, slTup, revTup, ite_self, if_true, if_false, ite_true, ite_false, Bool.not_true, Bool.not_false, Bool.false_eq_true, List.getElem?_cons_zero, List.getElem?_cons_succ, List.set_cons_zero, List.set_cons_succ, List.map_cons, List.map_nil, decide_true, decide_false, Bool.true_and, Bool.and_true, Bool.false_and, Bool.and_false, Bool.true_or, Bool.or_true, Bool.false_or, Bool.or_false, Bool.and_self, Bool.or_self, reduceIte, reduceCtorEq]
  simp only [b_law_k74t_p14_e, m20, m10, z2, fin, eq20, rules_noL, semK, seqD, isI, isB, isS, isTu, isLi, seqO, PD.ats, PD.at, PD.seq, behind, frzS, RD.fz, RD.fzs, RD.noL, RD.noLs, D.noL, D.noLs, RD.parts, putS, wipeS, boolT, intT, isTupP, isLstP, truD, isNon, iOp, iOpC, iMod, iDiv, iMul, iNeg, iAbs, iId, iCmp, bCmp, lenOp, tupOp, ownOp, slTup, revTup, ite_self, if_true, if_false, ite_true, ite_false, Bool.not_true, Bool.not_false, Bool.false_eq_true, List.getElem?_cons_zero, List.getElem?_cons_succ, List.set_cons_zero, List.set_cons_succ, List.map_cons, List.map_nil, decide_true, decide_false, Bool.true_and, Bool.and_true, Bool.false_and, Bool.and_false, Bool.true_or, Bool.or_true, Bool.false_or, Bool.or_false, Bool.and_self, Bool.or_self, reduceIte, reduceCtorEq]
  exact rfl
end Dm

namespace Dm
open PySem PySem.Spec PyProof.Rows L2
theorem fill74 {a b c d e f g h : Slot} (v : Nat) {xs : List D} (hl : xs.length ≤ 100000) : compT [7] (nameW 7) yesC (cQ (.int (v : Nat))) xs [] [a, b, c, d, e, f, g, Slot.none, h] = .ret ((List.replicate xs.length v).map natD, [a, b, c, d, e, f, g, Slot.none, h]) := by
  obtain ⟨S', hS, hI⟩ := compT_inv (vs := [7]) (tg := nameW 7) (ifs := yesC) (elt := cQ (.int (v : Nat))) (xs := xs) (acc := []) (S := [a, b, c, d, e, f, g, Slot.none, h]) (fun S => S = [a, b, c, d, e, f, g, Slot.none, h]) (fun _ => true) (fun _ => .int (v : Nat)) rfl (by rw [List.length_nil]; omega) fun S hS x _ => by
    subst hS
    exact ⟨_, _, rfl, rfl, rfl, fun _ => ⟨_, rfl, rfl⟩⟩
  subst hI
  have e2 : ((xs.filter fun _ => true).map (fun _ => D.int (v : Nat))) = (List.replicate xs.length v).map natD := by
    rw [List.filter_eq_self.mpr (fun _ _ => rfl), List.map_replicate]
    exact List.map_const' ..
  rw [e2, List.nil_append] at hS
  exact hS
theorem marks74 {n m : Nat} {ms : List Nat} (p : ms.Perm ((List.replicate n 0 ++ List.replicate m 1) ++ [])) : Marks ms n m ∧ ms.length = n + m := by
  rw [List.append_nil] at p
  refine ⟨⟨fun k hk => ?_, ?_, ?_⟩, ?_⟩
  · rcases List.mem_append.mp (p.mem_iff.mp hk) with q | q
    · exact .inl (List.eq_of_mem_replicate q)
    · exact .inr (List.eq_of_mem_replicate q)
  · rw [p.count_eq, List.count_append, List.count_replicate_self, List.count_replicate]
    simp
  · rw [p.count_eq, List.count_append, List.count_replicate_self, List.count_replicate]
    simp
  · rw [p.length_eq, List.length_append, List.length_replicate, List.length_replicate]
theorem lenT8_74 {α : Type} (a b c d e f g h : α) : lenT [a, b, c, d, e, f, g, h] = .ret () := rfl
theorem law_k74t_holds : LawW b_law_k74t S0_k74t := by
  unfold LawW
  rw [← WB_iff (t := ⟨⟩)]
  have hz : lettersIn (pool5 ++ (["x", "y"] : List Str)) := ⟨by decide, by decide⟩
  have key := fun (Q : RD → Prop) (t) (k : ∀ rs, RulesOf pool5 (pool5 ++ (["x", "y"] : List Str)) rs → rs.length ≤ 6 → Q (.d (.tup (rs.map Rul.d)))) => w_rules_2 (zs := pool5) (us := ["x", "y"]) (m := 6) (Q := Q) (t := t) hz (by decide) (by decide) (by omega) k
  simp only [b_law_k74t_e, S0_k74t, semK, seqD, isI, isB, isS, isTu, isLi, seqO, PD.ats, PD.at, PD.seq, behind, frzS, RD.fz, RD.fzs, RD.noL, RD.noLs, D.noL, D.noLs, RD.parts, putS, wipeS, boolT, intT, isTupP, isLstP, truD, isNon, iOp, iOpC, iMod, iDiv, iMul, iNeg, iAbs, iId, iCmp, bCmp, lenOp, tupOp, ownOp, slTup, revTup, ite_self, if_true, if_false, ite_true, ite_false, Bool.not_true, Bool.not_false, Bool.false_eq_true, List.getElem?_cons_zero, List.getElem?_cons_succ, List.set_cons_zero, List.set_cons_succ, List.map_cons, List.map_nil, decide_true, decide_false, Bool.true_and, Bool.and_true, Bool.false_and, Bool.and_false, Bool.true_or, Bool.or_true, Bool.false_or, Bool.or_false, Bool.and_self, Bool.or_self, reduceIte, reduceCtorEq]
  simp only [b_law_k74t_p1_e, semK, seqD, isI, isB, isS, isTu, isLi, seqO, PD.ats, PD.at, PD.seq, behind, frzS, RD.fz, RD.fzs, RD.noL, RD.noLs, D.noL, D.noLs, RD.parts, putS, wipeS, boolT, intT, isTupP, isLstP, truD, isNon, iOp, iOpC, iMod, iDiv, iMul, iNeg, iAbs, iId, iCmp, bCmp, lenOp, tupOp, ownOp, slTup, revTup, ite_self, if_true, if_false, ite_true, ite_false, Bool.not_true, Bool.not_false, Bool.false_eq_true, List.getElem?_cons_zero, List.getElem?_cons_succ, List.set_cons_zero, List.set_cons_succ, List.map_cons, List.map_nil, decide_true, decide_false, Bool.true_and, Bool.and_true, Bool.false_and, Bool.and_false, Bool.true_or, Bool.or_true, Bool.false_or, Bool.or_false, Bool.and_self, Bool.or_self, reduceIte, reduceCtorEq]
  refine key _ _ fun A h1 l1 => ?_
  simp only [rules_noL, semK, seqD, isI, isB, isS, isTu, isLi, seqO, PD.ats, PD.at, PD.seq, behind, frzS, RD.fz, RD.fzs, RD.noL, RD.noLs, D.noL, D.noLs, RD.parts, putS, wipeS, boolT, intT, isTupP, isLstP, truD, isNon, iOp, iOpC, iMod, iDiv, iMul, iNeg, iAbs, iId, iCmp, bCmp, lenOp, tupOp, ownOp, slTup, revTup, ite_self, if_true, if_false, ite_true, ite_false, Bool.not_true, Bool.not_false, Bool.false_eq_true, List.getElem?_cons_zero, List.getElem?_cons_succ, List.set_cons_zero, List.set_cons_succ, List.map_cons, List.map_nil, decide_true, decide_false, Bool.true_and, Bool.and_true, Bool.false_and, Bool.and_false, Bool.true_or, Bool.or_true, Bool.false_or, Bool.or_false, Bool.and_self, Bool.or_self, reduceIte, reduceCtorEq]
  simp only [b_law_k74t_p2_e, semK, seqD, isI, isB, isS, isTu, isLi, seqO, PD.ats, PD.at, PD.seq, behind, frzS, RD.fz, RD.fzs, RD.noL, RD.noLs, D.noL, D.noLs, RD.parts, putS, wipeS, boolT, intT, isTupP, isLstP, truD, isNon, iOp, iOpC, iMod, iDiv, iMul, iNeg, iAbs, iId, iCmp, bCmp, lenOp, tupOp, ownOp, slTup, revTup, ite_self, if_true, if_false, ite_true, ite_false, Bool.not_true, Bool.not_false, Bool.false_eq_true, List.getElem?_cons_zero, List.getElem?_cons_succ, List.set_cons_zero, List.set_cons_succ, List.map_cons, List.map_nil, decide_true, decide_false, Bool.true_and, Bool.and_true, Bool.false_and, Bool.and_false, Bool.true_or, Bool.or_true, Bool.false_or, Bool.or_false, Bool.and_self, Bool.or_self, reduceIte, reduceCtorEq]
  refine key _ _ fun B h2 l2 => ?_
  simp only [rules_noL, semK, seqD, isI, isB, isS, isTu, isLi, seqO, PD.ats, PD.at, PD.seq, behind, frzS, RD.fz, RD.fzs, RD.noL, RD.noLs, D.noL, D.noLs, RD.parts, putS, wipeS, boolT, intT, isTupP, isLstP, truD, isNon, iOp, iOpC, iMod, iDiv, iMul, iNeg, iAbs, iId, iCmp, bCmp, lenOp, tupOp, ownOp, slTup, revTup, ite_self, if_true, if_false, ite_true, ite_false, Bool.not_true, Bool.not_false, Bool.false_eq_true, List.getElem?_cons_zero, List.getElem?_cons_succ, List.set_cons_zero, List.set_cons_succ, List.map_cons, List.map_nil, decide_true, decide_false, Bool.true_and, Bool.and_true, Bool.false_and, Bool.and_false, Bool.true_or, Bool.or_true, Bool.false_or, Bool.or_false, Bool.and_self, Bool.or_self, reduceIte, reduceCtorEq]
  have la : (A.map Rul.d).length = A.length := List.length_map ..
  have lb : (B.map Rul.d).length = B.length := List.length_map ..
  have q1 : lenT (A.map Rul.d) = .ret () := lenT_ok (by omega)
  have q2 : lenT (B.map Rul.d) = .ret () := lenT_ok (by omega)
  have ci := s_count_int h1.ok h2.ok (by omega) (by omega)
  have lc := s_l_count (n := A.length) (m := B.length) (by omega) (by omega)
  rw [comb74 _ l1 _ l2] at ci
  have eqi : ∀ i : Int, sm_l_equal 8 [.int i, .int i] = .ret (.d (.bl true)) := fun i => eq8 rfl rfl
  simp only [b_law_k74t_p3_e, ci, la, lb, q1, q2, lc, eqi, semK, seqD, isI, isB, isS, isTu, isLi, seqO, PD.ats, PD.at, PD.seq, behind, frzS, RD.fz, RD.fzs, RD.noL, RD.noLs, D.noL, D.noLs, RD.parts, putS, wipeS, boolT, intT, isTupP, isLstP, truD, isNon, iOp, iOpC, iMod, iDiv, iMul, iNeg, iAbs, iId, iCmp, bCmp, lenOp, tupOp, ownOp, slTup, revTup, ite_self, if_true, if_false, ite_true, ite_false, Bool.not_true, Bool.not_false, Bool.false_eq_true, List.getElem?_cons_zero, List.getElem?_cons_succ, List.set_cons_zero, List.set_cons_succ, List.map_cons, List.map_nil, decide_true, decide_false, Bool.true_and, Bool.and_true, Bool.false_and, Bool.and_false, Bool.true_or, Bool.or_true, Bool.false_or, Bool.or_false, Bool.and_self, Bool.or_self, reduceIte, reduceCtorEq]
  simp only [b_law_k74t_p4_e, semK, seqD, isI, isB, isS, isTu, isLi, seqO, PD.ats, PD.at, PD.seq, behind, frzS, RD.fz, RD.fzs, RD.noL, RD.noLs, D.noL, D.noLs, RD.parts, putS, wipeS, boolT, intT, isTupP, isLstP, truD, isNon, iOp, iOpC, iMod, iDiv, iMul, iNeg, iAbs, iId, iCmp, bCmp, lenOp, tupOp, ownOp, slTup, revTup, ite_self, if_true, if_false, ite_true, ite_false, Bool.not_true, Bool.not_false, Bool.false_eq_true, List.getElem?_cons_zero, List.getElem?_cons_succ, List.set_cons_zero, List.set_cons_succ, List.map_cons, List.map_nil, decide_true, decide_false, Bool.true_and, Bool.and_true, Bool.false_and, Bool.and_false, Bool.true_or, Bool.or_true, Bool.false_or, Bool.or_false, Bool.and_self, Bool.or_self, reduceIte, reduceCtorEq]
  have f0 := fun a b c d e f g h => fill74 (a := a) (b := b) (c := c) (d := d) (e := e) (f := f) (g := g) (h := h) 0 (xs := A.map Rul.d) (by omega)
  have f1 := fun a b c d e f g h => fill74 (a := a) (b := b) (c := c) (d := d) (e := e) (f := f) (g := g) (h := h) 1 (xs := B.map Rul.d) (by omega)
  rw [la] at f0
  rw [lb] at f1
  have f0' : ∀ a b c d e f g h, compT [7] (nameW 7) yesC (cQ (.int 0)) (A.map Rul.d) [] [a, b, c, d, e, f, g, Slot.none, h] = _ := f0
  have f1' : ∀ a b c d e f g h, compT [7] (nameW 7) yesC (cQ (.int 1)) (B.map Rul.d) [] [a, b, c, d, e, f, g, Slot.none, h] = _ := f1
  have ad := addL_ok (xs := (List.replicate A.length 0).map natD) (ys := (List.replicate B.length 1).map natD) (by rw [List.length_map, List.length_map, List.length_replicate, List.length_replicate]; omega)
  rw [← List.map_append] at ad
  simp only [b_law_k74t_p5_e, f0', f1', ad, semK, seqD, isI, isB, isS, isTu, isLi, seqO, PD.ats, PD.at, PD.seq, behind, frzS, RD.fz, RD.fzs, RD.noL, RD.noLs, D.noL, D.noLs, RD.parts, putS, wipeS, boolT, intT, isTupP, isLstP, truD, isNon, iOp, iOpC, iMod, iDiv, iMul, iNeg, iAbs, iId, iCmp, bCmp, lenOp, tupOp, ownOp, slTup, revTup, ite_self, if_true, if_false, ite_true, ite_false, Bool.not_true, Bool.not_false, Bool.false_eq_true, List.getElem?_cons_zero, List.getElem?_cons_succ, List.set_cons_zero, List.set_cons_succ, List.map_cons, List.map_nil, decide_true, decide_false, Bool.true_and, Bool.and_true, Bool.false_and, Bool.and_false, Bool.true_or, Bool.or_true, Bool.false_or, Bool.or_false, Bool.and_self, Bool.or_self, reduceIte, reduceCtorEq]
  refine w_marks74 (List.replicate A.length 0 ++ List.replicate B.length 1) [] _ (by rw [List.length_append, List.length_replicate, List.length_replicate, List.length_nil]; omega) fun ms s6 p => ?_
  obtain ⟨M, lm⟩ := marks74 p
  have MA : Marks ms (A.map Rul.d).length (B.map Rul.d).length := by rw [la, lb]; exact M
  have hw := weave_facts ms A B M
  have wok : ∀ r ∈ weave ms A B, r.ok := fun r hr => (hw.2.1 r hr).elim (h1.ok r) (h2.ok r)
  have t1 := told74_ret (r_interleaved77 _ _ (s_interleaved h1.ok h2.ok (by omega) M lm))
  have t2 := s_due74 M (by omega) (by omega) (by omega)
  have t3 : sm_l_equal 8 [.tup ((weave ms A B).map Rul.d), .tup ((weave ms A B).map Rul.d)] = .ret (.d (.bl true)) := eq8 (rules_okN wok 5).1 (rules_good wok (by omega))
  have g1 := r_one_other _ _ (s_check_one_and_other h1.ok h2.ok (by omega) (by omega))
  have q3 : lenT (ms.map natD) = .ret () := lenT_ok (by rw [List.length_map]; omega)
  have n1 := ne_one74 (s := "marks") (by decide)
  have nl : D.noLs (ms.map natD) = true := noLs_all fun x hx => by
    obtain ⟨k, _, rfl⟩ := List.mem_map.mp hx
    rfl
  have lM : (ms.map natD).length = ms.length := List.length_map ..
  have b1 := addT77 (A := ms.map natD) (B := [.int 0]) (by rw [lM, List.length_singleton]; omega)
  have b2 := addT77 (A := ms.map natD) (B := [.int 1]) (by rw [lM, List.length_singleton]; omega)
  have b3 := addT77 (A := ms.map natD) (B := [.int 2]) (by rw [lM, List.length_singleton]; omega)
  have b4 := addT77 (A := [.str "0"]) (B := ms.map natD) (by rw [lM, List.length_singleton]; omega)
  have b5 := addT77 (A := ms.map natD) (B := [.bl true]) (by rw [lM, List.length_singleton]; omega)
  have b6 := addT77 (A := [.int (-1)]) (B := ms.map natD) (by rw [lM, List.length_singleton]; omega)
  have ends : ∀ (L : List D), 1 ≤ L.length → L.length ≤ 100 → (∀ x ∈ L, sm_are_marks [.tup (A.map Rul.d), .tup (B.map Rul.d), x] = .ret (.d (.bl false))) → ∀ (s7 : Slot) (t), WB (b_law_k74t_p10 [Slot.none, Slot.val .strm, Slot.own (pool5.map D.str), Slot.val (.tup (A.map Rul.d)), Slot.val (.tup (B.map Rul.d)), Slot.val (.tup (ms.map natD)), s6, s7, Slot.own L]) (OutP { nx := fun _ => False, rt := fun r => r.fz = .bl true }) t := fun L k1 k2 hL s7 t => by
    have qL : lenT L = .ret () := lenT_ok (by omega)
    simp only [b_law_k74t_p10_e, qL, semK, seqD, isI, isB, isS, isTu, isLi, seqO, PD.ats, PD.at, PD.seq, behind, frzS, RD.fz, RD.fzs, RD.noL, RD.noLs, D.noL, D.noLs, RD.parts, putS, wipeS, boolT, intT, isTupP, isLstP, truD, isNon, iOp, iOpC, iMod, iDiv, iMul, iNeg, iAbs, iId, iCmp, bCmp, lenOp, tupOp, ownOp, slTup, revTup, ite_self, if_true, if_false, ite_true, ite_false, Bool.not_true, Bool.not_false, Bool.false_eq_true, List.getElem?_cons_zero, List.getElem?_cons_succ, List.set_cons_zero, List.set_cons_succ, List.map_cons, List.map_nil, decide_true, decide_false, Bool.true_and, Bool.and_true, Bool.false_and, Bool.and_false, Bool.true_or, Bool.or_true, Bool.false_or, Bool.or_false, Bool.and_self, Bool.or_self, reduceIte, reduceCtorEq]
    refine w_next (by omega) (by omega) fun d hd => ?_
    have hd' : d < L.length := by omega
    have hx := hL _ (List.getElem_mem hd')
    have hi := ixN hd'
    generalize L[d] = x at hx hi
    have tb := told74_bad (no_marks g1 hx)
    simp only [hi, tb, n1, semK, seqD, isI, isB, isS, isTu, isLi, seqO, PD.ats, PD.at, PD.seq, behind, frzS, RD.fz, RD.fzs, RD.noL, RD.noLs, D.noL, D.noLs, RD.parts, putS, wipeS, boolT, intT, isTupP, isLstP, truD, isNon, iOp, iOpC, iMod, iDiv, iMul, iNeg, iAbs, iId, iCmp, bCmp, lenOp, tupOp, ownOp, slTup, revTup, ite_self, if_true, if_false, ite_true, ite_false, Bool.not_true, Bool.not_false, Bool.false_eq_true, List.getElem?_cons_zero, List.getElem?_cons_succ, List.set_cons_zero, List.set_cons_succ, List.map_cons, List.map_nil, decide_true, decide_false, Bool.true_and, Bool.and_true, Bool.false_and, Bool.and_false, Bool.true_or, Bool.or_true, Bool.false_or, Bool.or_false, Bool.and_self, Bool.or_self, reduceIte, reduceCtorEq]
    exact end74 rfl
  simp only [semK, seqD, isI, isB, isS, isTu, isLi, seqO, PD.ats, PD.at, PD.seq, behind, frzS, RD.fz, RD.fzs, RD.noL, RD.noLs, D.noL, D.noLs, RD.parts, putS, wipeS, boolT, intT, isTupP, isLstP, truD, isNon, iOp, iOpC, iMod, iDiv, iMul, iNeg, iAbs, iId, iCmp, bCmp, lenOp, tupOp, ownOp, slTup, revTup, ite_self, if_true, if_false, ite_true, ite_false, Bool.not_true, Bool.not_false, Bool.false_eq_true, List.getElem?_cons_zero, List.getElem?_cons_succ, List.set_cons_zero, List.set_cons_succ, List.map_cons, List.map_nil, decide_true, decide_false, Bool.true_and, Bool.and_true, Bool.false_and, Bool.and_false, Bool.true_or, Bool.or_true, Bool.false_or, Bool.or_false, Bool.and_self, Bool.or_self, reduceIte, reduceCtorEq]
  simp only [b_law_k74t_p6_e, q3, semK, seqD, isI, isB, isS, isTu, isLi, seqO, PD.ats, PD.at, PD.seq, behind, frzS, RD.fz, RD.fzs, RD.noL, RD.noLs, D.noL, D.noLs, RD.parts, putS, wipeS, boolT, intT, isTupP, isLstP, truD, isNon, iOp, iOpC, iMod, iDiv, iMul, iNeg, iAbs, iId, iCmp, bCmp, lenOp, tupOp, ownOp, slTup, revTup, ite_self, if_true, if_false, ite_true, ite_false, Bool.not_true, Bool.not_false, Bool.false_eq_true, List.getElem?_cons_zero, List.getElem?_cons_succ, List.set_cons_zero, List.set_cons_succ, List.map_cons, List.map_nil, decide_true, decide_false, Bool.true_and, Bool.and_true, Bool.false_and, Bool.and_false, Bool.true_or, Bool.or_true, Bool.false_or, Bool.or_false, Bool.and_self, Bool.or_self, reduceIte, reduceCtorEq]
  simp only [b_law_k74t_p7_e, t1, t2, t3, rules_noL, semK, seqD, isI, isB, isS, isTu, isLi, seqO, PD.ats, PD.at, PD.seq, behind, frzS, RD.fz, RD.fzs, RD.noL, RD.noLs, D.noL, D.noLs, RD.parts, putS, wipeS, boolT, intT, isTupP, isLstP, truD, isNon, iOp, iOpC, iMod, iDiv, iMul, iNeg, iAbs, iId, iCmp, bCmp, lenOp, tupOp, ownOp, slTup, revTup, ite_self, if_true, if_false, ite_true, ite_false, Bool.not_true, Bool.not_false, Bool.false_eq_true, List.getElem?_cons_zero, List.getElem?_cons_succ, List.set_cons_zero, List.set_cons_succ, List.map_cons, List.map_nil, decide_true, decide_false, Bool.true_and, Bool.and_true, Bool.false_and, Bool.and_false, Bool.true_or, Bool.or_true, Bool.false_or, Bool.or_false, Bool.and_self, Bool.or_self, reduceIte, reduceCtorEq]
  simp only [b_law_k74t_p8_e, b1, b2, b3, b4, b5, b6, lenT8_74, semK, seqD, isI, isB, isS, isTu, isLi, seqO, PD.ats, PD.at, PD.seq, behind, frzS, RD.fz, RD.fzs, RD.noL, RD.noLs, D.noL, D.noLs, RD.parts, putS, wipeS, boolT, intT, isTupP, isLstP, truD, isNon, iOp, iOpC, iMod, iDiv, iMul, iNeg, iAbs, iId, iCmp, bCmp, lenOp, tupOp, ownOp, slTup, revTup, ite_self, if_true, if_false, ite_true, ite_false, Bool.not_true, Bool.not_false, Bool.false_eq_true, List.getElem?_cons_zero, List.getElem?_cons_succ, List.set_cons_zero, List.set_cons_succ, List.map_cons, List.map_nil, decide_true, decide_false, Bool.true_and, Bool.and_true, Bool.false_and, Bool.and_false, Bool.true_or, Bool.or_true, Bool.false_or, Bool.or_false, Bool.and_self, Bool.or_self, reduceIte, reduceCtorEq]
  cases ms with
  | nil =>
    simp only [b_law_k74t_p9_e, List.map_nil, List.isEmpty_nil, Bool.not_true, Bool.false_eq_true, if_false, semK, seqD, isI, isB, isS, isTu, isLi, seqO, PD.ats, PD.at, PD.seq, behind, frzS, RD.fz, RD.fzs, RD.noL, RD.noLs, D.noL, D.noLs, RD.parts, putS, wipeS, boolT, intT, isTupP, isLstP, truD, isNon, iOp, iOpC, iMod, iDiv, iMul, iNeg, iAbs, iId, iCmp, bCmp, lenOp, tupOp, ownOp, slTup, revTup, ite_self, if_true, if_false, ite_true, ite_false, Bool.not_true, Bool.not_false, Bool.false_eq_true, List.getElem?_cons_zero, List.getElem?_cons_succ, List.set_cons_zero, List.set_cons_succ, List.map_cons, List.map_nil, decide_true, decide_false, Bool.true_and, Bool.and_true, Bool.false_and, Bool.and_false, Bool.true_or, Bool.or_true, Bool.false_or, Bool.or_false, Bool.and_self, Bool.or_self, reduceIte, reduceCtorEq]
    exact ends (W74 []) (by show 1 ≤ 8; omega) (by show 8 ≤ 100; omega) (w74 MA) _ _
  | cons k r =>
    have hlr : r.length ≤ 100 := by rw [List.length_cons] at lm; omega
    have x1 : Dm.cutD ((k :: r).map natD) (some 1) none = r.map natD := cut_tail ((k :: r).map natD)
    have x2 : Dm.cutD ((k :: r).map natD) none (some (-1)) = ((k :: r).take r.length).map natD := by
      rw [cut_last ((k :: r).map natD) (by rw [List.length_map, List.length_cons]; omega), List.length_map, List.length_cons, Nat.add_sub_cancel, List.map_take]
    have i0 : ixOp ((k :: r).map natD) (.int 0) = .ret (.int (k : Nat)) := by rw [List.map_cons, ix0]; rfl
    have x3 := addT77 (A := [.int (1 - (k : Int))]) (B := r.map natD) (by rw [List.length_map, List.length_singleton]; omega)
    have x4 := addT77 (A := [.bl ((k : Int) != 0)]) (B := r.map natD) (by rw [List.length_map, List.length_singleton]; omega)
    have tr : ((k :: r).map natD).isEmpty = false := rfl
    have bl : iBl (.int (k : Nat)) = .ret (.bl ((k : Int) != 0)) := rfl
    have al := fun (L V : List D) (h : L.length + V.length ≤ 100) => addL_ok (xs := L) (ys := V) (by omega)
    have fin := ends (W74 (k :: r) ++ V74 k r) (by show 1 ≤ 12; omega) (by show 12 ≤ 100; omega) (fun x hx => (List.mem_append.mp hx).elim (w74 MA x) (v74 MA x))
    unfold W74 V74 at fin
    generalize (k :: r).map natD = MM at *
    generalize ((k :: r).take r.length).map natD = MT at *
    generalize r.map natD = MR at *
    simp only [b_law_k74t_p9_e, tr, x1, x2, i0, x3, x4, bl, Bool.not_false, if_true, semK, seqD, isI, isB, isS, isTu, isLi, seqO, PD.ats, PD.at, PD.seq, behind, frzS, RD.fz, RD.fzs, RD.noL, RD.noLs, D.noL, D.noLs, RD.parts, putS, wipeS, boolT, intT, isTupP, isLstP, truD, isNon, iOp, iOpC, iMod, iDiv, iMul, iNeg, iAbs, iId, iCmp, bCmp, lenOp, tupOp, ownOp, slTup, revTup, ite_self, if_true, if_false, ite_true, ite_false, Bool.not_true, Bool.not_false, Bool.false_eq_true, List.getElem?_cons_zero, List.getElem?_cons_succ, List.set_cons_zero, List.set_cons_succ, List.map_cons, List.map_nil, decide_true, decide_false, Bool.true_and, Bool.and_true, Bool.false_and, Bool.and_false, Bool.true_or, Bool.or_true, Bool.false_or, Bool.or_false, Bool.and_self, Bool.or_self, reduceIte, reduceCtorEq]
    rw [al _ _ (by show 8 + 4 ≤ 100; omega)]
    simp only [semK, seqD, isI, isB, isS, isTu, isLi, seqO, PD.ats, PD.at, PD.seq, behind, frzS, RD.fz, RD.fzs, RD.noL, RD.noLs, D.noL, D.noLs, RD.parts, putS, wipeS, boolT, intT, isTupP, isLstP, truD, isNon, iOp, iOpC, iMod, iDiv, iMul, iNeg, iAbs, iId, iCmp, bCmp, lenOp, tupOp, ownOp, slTup, revTup, ite_self, if_true, if_false, ite_true, ite_false, Bool.not_true, Bool.not_false, Bool.false_eq_true, List.getElem?_cons_zero, List.getElem?_cons_succ, List.set_cons_zero, List.set_cons_succ, List.map_cons, List.map_nil, decide_true, decide_false, Bool.true_and, Bool.and_true, Bool.false_and, Bool.and_false, Bool.true_or, Bool.or_true, Bool.false_or, Bool.or_false, Bool.and_self, Bool.or_self, reduceIte, reduceCtorEq]
    exact fin _ _
end Dm

namespace My
open PySem PySem.Spec PyProof.Rows L2 Dm
open GxR (TabB TabG Tabbed)
def topS (i : Nat) : Stmt := PySem.Challenge.pw_fewestrules_k74_marks_and_interleavings.main.body.getD i (.Pass ⟨0, 0, 0, 0⟩)
abbrev s_is_integer : Stmt := topS 9
abbrev n_is_integer : List Str := ["value"]
theorem sc_is_integer : FnScope n_is_integer ["value"] (defScope s_is_integer) := ⟨rfl, rfl, rfl, by decide +kernel, rfl, by decide +kernel, by decide +kernel⟩
abbrev s_is_integer_within : Stmt := topS 10
abbrev n_is_integer_within : List Str := ["value", "least", "most"]
theorem sc_is_integer_within : FnScope n_is_integer_within ["value", "least", "most"] (defScope s_is_integer_within) := ⟨rfl, rfl, rfl, by decide +kernel, rfl, by decide +kernel, by decide +kernel⟩
abbrev s_is_strength : Stmt := topS 11
abbrev n_is_strength : List Str := ["value"]
theorem sc_is_strength : FnScope n_is_strength ["value"] (defScope s_is_strength) := ⟨rfl, rfl, rfl, by decide +kernel, rfl, by decide +kernel, by decide +kernel⟩
abbrev s_is_letter : Stmt := topS 12
abbrev n_is_letter : List Str := ["value", "sign"]
theorem sc_is_letter : FnScope n_is_letter ["value"] (defScope s_is_letter) := ⟨rfl, rfl, rfl, by decide +kernel, rfl, by decide +kernel, by decide +kernel⟩
abbrev s_is_rule : Stmt := topS 17
abbrev n_is_rule : List Str := ["value", "side", "anchor", "strength", "letter"]
theorem sc_is_rule : FnScope n_is_rule ["value"] (defScope s_is_rule) := ⟨rfl, rfl, rfl, by decide +kernel, rfl, by decide +kernel, by decide +kernel⟩
abbrev s_is_rule_list : Stmt := topS 18
abbrev n_is_rule_list : List Str := ["value", "rule"]
theorem sc_is_rule_list : FnScope n_is_rule_list ["value"] (defScope s_is_rule_list) := ⟨rfl, rfl, rfl, by decide +kernel, rfl, by decide +kernel, by decide +kernel⟩
abbrev s_check_rules : Stmt := topS 19
abbrev n_check_rules : List Str := ["value", "name"]
theorem sc_check_rules : FnScope n_check_rules ["value", "name"] (defScope s_check_rules) := ⟨rfl, rfl, rfl, by decide +kernel, rfl, by decide +kernel, by decide +kernel⟩
abbrev s_check_one_and_other : Stmt := topS 21
abbrev n_check_one_and_other : List Str := ["one", "other"]
theorem sc_check_one_and_other : FnScope n_check_one_and_other ["one", "other"] (defScope s_check_one_and_other) := ⟨rfl, rfl, rfl, by decide +kernel, rfl, by decide +kernel, by decide +kernel⟩
abbrev s_are_marks : Stmt := topS 22
abbrev n_are_marks : List Str := ["one", "other", "value", "mark"]
theorem sc_are_marks : FnScope n_are_marks ["one", "other", "value"] (defScope s_are_marks) := ⟨rfl, rfl, rfl, by decide +kernel, rfl, by decide +kernel, by decide +kernel⟩
abbrev s_within_bound : Stmt := topS 23
abbrev n_within_bound : List Str := ["rules"]
theorem sc_within_bound : FnScope n_within_bound ["rules"] (defScope s_within_bound) := ⟨rfl, rfl, rfl, by decide +kernel, rfl, by decide +kernel, by decide +kernel⟩
abbrev s_count_interleavings : Stmt := topS 24
abbrev n_count_interleavings : List Str := ["one", "other"]
theorem sc_count_interleavings : FnScope n_count_interleavings ["one", "other"] (defScope s_count_interleavings) := ⟨rfl, rfl, rfl, by decide +kernel, rfl, by decide +kernel, by decide +kernel⟩
abbrev s_interleaved : Stmt := topS 25
abbrev n_interleaved : List Str := ["one", "other", "marks", "lists", "taken", "rules", "mark"]
theorem sc_interleaved : FnScope n_interleaved ["one", "other", "marks"] (defScope s_interleaved) := ⟨rfl, rfl, rfl, by decide +kernel, rfl, by decide +kernel, by decide +kernel⟩
abbrev s__law_stream : Stmt := topS 27
abbrev n__law_stream : List Str := ["script"]
theorem sc__law_stream : FnScope n__law_stream ["script"] (defScope s__law_stream) := ⟨rfl, rfl, rfl, by decide +kernel, rfl, by decide +kernel, by decide +kernel⟩
abbrev s__law_next : Stmt := topS 28
abbrev n__law_next : List Str := ["stream", "many", "k", "cell", "digit"]
theorem sc__law_next : FnScope n__law_next ["stream", "many"] (defScope s__law_next) := ⟨rfl, rfl, rfl, by decide +kernel, rfl, by decide +kernel, by decide +kernel⟩
abbrev s__law_is_integer : Stmt := topS 29
abbrev n__law_is_integer : List Str := ["actual"]
theorem sc__law_is_integer : FnScope n__law_is_integer ["actual"] (defScope s__law_is_integer) := ⟨rfl, rfl, rfl, by decide +kernel, rfl, by decide +kernel, by decide +kernel⟩
abbrev s__law_equal : Stmt := topS 30
abbrev n__law_equal : List Str := ["actual", "due", "at"]
theorem sc__law_equal : FnScope n__law_equal ["actual", "due"] (defScope s__law_equal) := ⟨rfl, rfl, rfl, by decide +kernel, rfl, by decide +kernel, by decide +kernel⟩
abbrev s__law_rule : Stmt := topS 31
abbrev n__law_rule : List Str := ["stream", "pool", "out", "anchor", "letters", "letter", "side"]
theorem sc__law_rule : FnScope n__law_rule ["stream", "pool", "out"] (defScope s__law_rule) := ⟨rfl, rfl, rfl, by decide +kernel, rfl, by decide +kernel, by decide +kernel⟩
abbrev s__law_rules : Stmt := topS 32
abbrev n__law_rules : List Str := ["stream", "pool", "out", "most", "turn"]
theorem sc__law_rules : FnScope n__law_rules ["stream", "pool", "out", "most"] (defScope s__law_rules) := ⟨rfl, rfl, rfl, by decide +kernel, rfl, by decide +kernel, by decide +kernel⟩
abbrev s__law_count : Stmt := topS 33
abbrev n__law_count : List Str := ["many", "more", "row", "k", "turn"]
theorem sc__law_count : FnScope n__law_count ["many", "more"] (defScope s__law_count) := ⟨rfl, rfl, rfl, by decide +kernel, rfl, by decide +kernel, by decide +kernel⟩
abbrev s__law_told : Stmt := topS 34
abbrev n__law_told : List Str := ["one", "other", "marks", "e"]
theorem sc__law_told : FnScope n__law_told ["one", "other", "marks"] (defScope s__law_told) := ⟨rfl, rfl, rfl, by decide +kernel, rfl, by decide +kernel, by decide +kernel⟩
abbrev s__law_due : Stmt := topS 35
abbrev n__law_due : List Str := ["one", "other", "marks", "rows", "found", "mark"]
theorem sc__law_due : FnScope n__law_due ["one", "other", "marks"] (defScope s__law_due) := ⟨rfl, rfl, rfl, by decide +kernel, rfl, by decide +kernel, by decide +kernel⟩
abbrev s_law : Stmt := topS 36
abbrev n_law : List Str := ["script", "stream", "pool", "one", "other", "marks", "mark", "rule", "wrong"]
theorem sc_law : FnScope n_law ["script"] (defScope s_law) := ⟨rfl, rfl, rfl, by decide +kernel, rfl, by decide +kernel, by decide +kernel⟩
abbrev P : Program := PySem.Challenge.pw_fewestrules_k74_marks_and_interleavings
abbrev i_BadValue : Stmt := (clsBody (topS 3)).getD 0 (.Pass ⟨0, 0, 0, 0⟩)
abbrev i_TooLarge : Stmt := (clsBody (topS 4)).getD 0 (.Pass ⟨0, 0, 0, 0⟩)
structure Txt (K : PySem.W.Frag) (mg : Str → Option Value) (base : Heap) (Tb : Tbs) : Prop where
  z_abs : mg "abs" = none
  z_all : mg "all" = none
  z_bool : mg "bool" = none
  z_int : mg "int" = none
  z_isinstance : mg "isinstance" = none
  z_len : mg "len" = none
  z_list : mg "list" = none
  z_range : mg "range" = none
  z_str : mg "str" = none
  z_tuple : mg "tuple" = none
  y_comb : mg "comb" = some (.builtin "math.comb")
  g_MOST_CHARACTERS : ∃ t, mg "MOST_CHARACTERS" = some (.int 12 t)
  g_FIRST_CHARACTERS : ∃ t, mg "FIRST_CHARACTERS" = some (.str "abcdefghijklmnopqrstuvwxyz" t)
  g_CHARACTERS : ∃ t, mg "CHARACTERS" = some (.str "abcdefghijklmnopqrstuvwxyz0123456789" t)
  g_AFTER : ∃ t, mg "AFTER" = some (.str "after" t)
  g_BEFORE : ∃ t, mg "BEFORE" = some (.str "before" t)
  g_MOST_RULES : ∃ t, mg "MOST_RULES" = some (.int 20 t)
  x_BadValue : ∀ w : World, ClsX P w K mg base 3 "BadValue"
  x_TooLarge : ∀ w : World, ClsX P w K mg base 3 "TooLarge"
  h_BadValue : HdT K mg ["BadValue", "TooLarge"] "BadValue"
  h_TooLarge : HdT K mg ["BadValue", "TooLarge"] "TooLarge"
  xt : XsT K mg ["BadValue", "TooLarge"]
  d_is_integer : DefT K mg base Tb "is_integer" s_is_integer ["value"]
  d_is_integer_within : DefT K mg base Tb "is_integer_within" s_is_integer_within ["value", "least", "most"]
  d_is_strength : DefT K mg base Tb "is_strength" s_is_strength ["value"]
  d_is_letter : DefT K mg base Tb "is_letter" s_is_letter ["value"]
  d_is_rule : DefT K mg base Tb "is_rule" s_is_rule ["value"]
  d_is_rule_list : DefT K mg base Tb "is_rule_list" s_is_rule_list ["value"]
  d_check_rules : DefT K mg base Tb "check_rules" s_check_rules ["value", "name"]
  d_check_one_and_other : DefT K mg base Tb "check_one_and_other" s_check_one_and_other ["one", "other"]
  d_are_marks : DefT K mg base Tb "are_marks" s_are_marks ["one", "other", "value"]
  d_within_bound : DefT K mg base Tb "within_bound" s_within_bound ["rules"]
  d_count_interleavings : DefT K mg base Tb "count_interleavings" s_count_interleavings ["one", "other"]
  d_interleaved : DefT K mg base Tb "interleaved" s_interleaved ["one", "other", "marks"]
  d__law_stream : DefT K mg base Tb "_law_stream" s__law_stream ["script"]
  d__law_next : DefT K mg base Tb "_law_next" s__law_next ["stream", "many"]
  d__law_is_integer : DefT K mg base Tb "_law_is_integer" s__law_is_integer ["actual"]
  d__law_equal : DefT K mg base Tb "_law_equal" s__law_equal ["actual", "due"]
  d__law_rule : DefT K mg base Tb "_law_rule" s__law_rule ["stream", "pool", "out"]
  d__law_rules : DefT K mg base Tb "_law_rules" s__law_rules ["stream", "pool", "out", "most"]
  d__law_count : DefT K mg base Tb "_law_count" s__law_count ["many", "more"]
  d__law_told : DefT K mg base Tb "_law_told" s__law_told ["one", "other", "marks"]
  d__law_due : DefT K mg base Tb "_law_due" s__law_due ["one", "other", "marks"]
theorem cls_BadValue {w : World} {K : PySem.W.Frag} {mg : Str → Option Value} {base : Heap} {Ca fI cc cda : Addr} {fd : FuncData} (T : ClsT P K mg "BadValue" i_BadValue Ca fI cc cda fd) : ClsX P w K mg base 3 "BadValue" :=
  clsX1 (f := "name") T (by decide) (by rfl) (fun X hN hs => ⟨_, (.cons pe_str (.cons (pe_fmt (pe_var (i := 1) (by rw [hN]; rfl) (.inl (by rw [hs]; rfl)))) (.cons pe_str .nil))), (j_str (j_fmt (i := 1) (j_str j_nil)))⟩) (by decide) (by rfl) (by decide) (by decide)
theorem cls_TooLarge {w : World} {K : PySem.W.Frag} {mg : Str → Option Value} {base : Heap} {Ca fI cc cda : Addr} {fd : FuncData} (T : ClsT P K mg "TooLarge" i_TooLarge Ca fI cc cda fd) : ClsX P w K mg base 3 "TooLarge" :=
  clsX1 (f := "what") T (by decide) (by rfl) (fun X hN hs => ⟨_, (.cons pe_str (.cons (pe_fmt (pe_var (i := 1) (by rw [hN]; rfl) (.inl (by rw [hs]; rfl)))) .nil)), (j_str (j_fmt (i := 1) j_nil))⟩) (by decide) (by rfl) (by decide) (by decide)
section
variable {P : Program} {w : World} {K : PySem.W.Frag} {mg : Str → Option Value} {base : Heap} {Tb : Tbs}
def m_next : MD := fun ds R => ∃ many : Int, ds = [.strm, .int many] ∧ 1 ≤ many ∧ many ≤ 1000000 ∧ ∀ d : Int, 0 ≤ d → d < many → R (.int d)
theorem okD_next (T : Txt K mg base Tb) : Def P w K mg base Tb 1 "_law_next" ["stream", "many"] m_next :=
  def_of T.d__law_next sc__law_next (fun ds R ⟨d, e, _⟩ => by rw [e]; rfl) fun c Pt f TB hP A outer s H E hr sa H0 F0 ds R ⟨many, e, h1, h2, hR⟩ => by
    subst e
    have sl : ∀ x y : Slot, ∃ z, z = [Slot.val .strm, Slot.val (.int many), x, y, Slot.none] := fun x y => ⟨_, rfl⟩
    refine exs_cons (ex_join (fun S => ∃ x y, S = [Slot.val .strm, Slot.val (.int many), x, y, Slot.none]) (ex_ifC (ec_eq (ev_strm1 (ev_name (i := 0) rfl ⟨rfl, fun c0 hc0 => ev_int ⟨_, rfl, fun _ => ?_, fun _ => exs_nil ⟨_, _, rfl⟩⟩⟩)))) fun S ⟨x, y, hS⟩ => ?_)
    · refine exs_cons (ex_set (i := 2) sc__law_next.nd (ev_strm2 (ev_name (i := 0) rfl ⟨rfl, fun kk hkk => ?_⟩)))
      refine exs_cons (ex_set (i := 3) sc__law_next.nd (ev_add (ev_int (ev_name (i := 2) rfl ⟨_, _, rfl, rfl, ?_⟩))))
      refine exs_cons (ex_join (fun S => ∃ cell : Int, 0 ≤ cell ∧ S = [Slot.val .strm, Slot.val (.int many), Slot.val (.int kk), Slot.val (.int cell), Slot.none]) (ex_cell sc__law_next.nd rfl rfl rfl T.z_len T.z_abs rfl rfl hkk (fun cell hc => ⟨cell, hc, rfl⟩) ⟨7 + kk, by omega, rfl⟩) fun S ⟨cell, hc, hS⟩ => ?_)
      subst hS
      refine exs_cons (ex_join (fun S => ∃ cell : Int, 0 ≤ cell ∧ S = [Slot.val .strm, Slot.val (.int many), Slot.val (.int kk), Slot.val (.int cell), Slot.none]) (ex_ifC (ec_lt (ev_name (i := 3) rfl (ev_pow (ev_int (ev_int ⟨_, _, rfl, rfl, ⟨by decide, by decide, by decide⟩, _, _, rfl, rfl, fun hlt => ?_, fun _ => exs_nil ⟨cell, hc, rfl⟩⟩)))))) fun S ⟨cell, hc, hS⟩ => ?_)
      · skip
        refine exs_cons (ex_set (i := 3) sc__law_next.nd ?_)
        refine ev_mod ?_
        refine ev_int1 T.z_int ?_
        refine ev_add ?_
        refine ev_add ?_
        refine ev_mul ?_
        refine ev_name (i := 3) rfl ?_
        refine ev_int ⟨_, _, rfl, rfl, .inr (by decide), ?_⟩
        refine ev_mul ?_
        refine ev_name (i := 2) rfl ?_
        refine ev_int ⟨_, _, rfl, rfl, .inr (by decide), _, _, rfl, rfl, ?_⟩
        refine ev_int ⟨_, _, rfl, rfl, _, rfl, ?_⟩
        refine ev_int ⟨_, _, rfl, rfl, by decide, ?_⟩
        refine exs_cons (ex_set (i := 3) sc__law_next.nd ?_)
        refine ev_add ?_
        refine ev_mul ?_
        refine ev_mod ?_
        refine ev_int1 T.z_int ?_
        refine ev_add ?_
        refine ev_mul ?_
        refine ev_name (i := 3) rfl ?_
        refine ev_int ⟨_, _, rfl, rfl, .inr (by decide), ?_⟩
        refine ev_int ⟨_, _, rfl, rfl, _, rfl, ?_⟩
        refine ev_int ⟨_, _, rfl, rfl, by decide, ?_⟩
        refine ev_int ⟨_, _, rfl, rfl, .inr (by decide), ?_⟩
        refine ev_name (i := 3) rfl ⟨_, _, rfl, rfl, ?_⟩
        refine exs_nil ⟨_, ?_, rfl⟩
        have g1 : ∀ a : Int, 0 ≤ a % 2147483647 := fun a => Int.emod_nonneg a (by decide)
        have g2 := g1 (cell * 48271 + kk * 69621 + 11)
        have g3 := g1 ((cell * 48271 + kk * 69621 + 11) % 2147483647 * 16807 + 13)
        omega
      subst hS
      refine exs_cons (ex_asg (ev_name (i := 3) rfl (as_strm1 (ev_name (i := 0) rfl ⟨rfl, _, rfl, hc, ?_⟩))))
      refine exs_cons (ex_asg (ev_add (ev_name (i := 2) rfl (ev_int ⟨_, _, rfl, rfl, as_strm2 (ev_name (i := 0) rfl ⟨rfl, _, rfl, by omega, ?_⟩)⟩))))
      exact exs_nil ⟨_, _, rfl⟩
    · subst hS
      refine exs_cons (ex_set (i := 4) sc__law_next.nd (ev_mod (ev_int1 T.z_int (ev_strm1 (ev_name (i := 0) rfl ⟨rfl, fun c0 hc0 => ⟨_, rfl, ev_name (i := 1) rfl ⟨_, _, rfl, rfl, by omega, ?_⟩⟩⟩)))))
      refine exs_cons (ex_asg (ev_fdiv (ev_strm1 (ev_name (i := 0) rfl ⟨rfl, fun c1 hc1 => ev_name (i := 1) rfl ⟨_, _, rfl, rfl, ⟨by omega, by omega⟩, as_strm1 (ev_name (i := 0) rfl ⟨rfl, _, rfl, Int.ediv_nonneg hc1 (by omega), ?_⟩)⟩⟩))))
      exact exs_cons (ex_ret (ev_name (i := 4) rfl (hR _ (Int.emod_nonneg _ (by omega)) (Int.emod_lt_of_pos _ (by omega)))))
end

section
variable {P : Program} {w : World} {K : PySem.W.Frag} {mg : Str → Option Value} {base : Heap} {Tb : Tbs}
/-! the stream is made -/
theorem ok_stream (T : Txt K mg base Tb) : ∃ f fd, FnOk P w K mg base CX0 1 f fd ["script"] (spStream K Tb) ∧ mg "_law_stream" = some (.ref f) ∧ PySem.W.keepIn K (.ref f) = true ∧ Binds K fd ["script"] [] := by
  obtain ⟨c, Pt, f, fd, F, hm, hb, TB, hP⟩ := T.d__law_stream
  refine ⟨f, fd, ?_, hm, F.kp, hb⟩
  obtain ⟨oc, od, kV, doc, pm, an, ct, osl, rfl, lk, hcd⟩ := F.ex
  refine fn_of lk hcd sc__law_stream (fun vs H Q E h => ?_) fun A outer s H vs Q E hr h => ?_
  · obtain ⟨a, ns, rfl, _⟩ := h
    rfl
  · obtain ⟨a, ns, rfl, hS, q⟩ := h
    refine ⟨_, (pss_cons (ps_ret (pe_lst (pa_cons (pe_callTy call_list_of (by rfl) T.z_list boot_list (pa_cons (pe_var (i := 0) (by rfl) (Or.inl (by rfl)) (by decide) (by decide)) pa_nil (by rfl))) (pa_cons pe_int (pa_cons pe_int pa_nil (by rfl)) (by rfl)) (by rfl)))) pss_nil).nox, ?_⟩
    refine ⟨.ref a, rfl, a, _, rfl, .inl hS, fun l hl => ⟨(show 3 ≤ sizeLine by decide), fun p hp => ?_⟩⟩
    have hlp : l ≠ p := fun e => by rw [← e, upd_same] at hp; cases hp
    have hp' : H p = none := by rw [upd_ne (Ne.symm hlp)] at hp; exact hp
    refine q _ p l (fun b o e => ?_) upd_same (by rw [upd_ne hlp, upd_same]) (Ne.symm hlp)
    rw [upd_ne (ne_of_none e hp'), upd_ne (ne_of_none e hl)]
    exact e
end

section
variable {w : World} {K : PySem.W.Frag} {mg : Str → Option Value} {base : Heap} {Tb : Tbs}
theorem ok__law_next (T : Txt K mg base Tb) : DefR P w K mg base Tb 1 "_law_next" ["stream", "many"] fun ds R => W (sm_l_next ds) R :=
  (okD_next T).toR fun ds R w => by
    obtain ⟨many, e, h1, h2, h3⟩ := sm_next_w w
    exact ⟨many, e, h1, h2, h3⟩
theorem ok_is_integer (T : Txt K mg base Tb) : DefR P w K mg base Tb 1 "is_integer" ["value"] fun ds R => W (sm_is_integer ds) R :=
  def_sem' (def_sem T.d_is_integer sc_is_integer fun c Pt f TB hP A outer s H E hr sa H0 F0 => by
    have nd : n_is_integer.Nodup := sc_is_integer.nd
    exact s_one (s_ret (r_q (q_and (q_isi kit_int (by decide +kernel) T.z_int T.z_isinstance (q_var (i := 0))) (q_one (q_not (q_isi kit_bool (by decide +kernel) T.z_bool T.z_isinstance (q_var (i := 0)))))))))
theorem ok_is_integer_within (T : Txt K mg base Tb) : DefR P w K mg base Tb 2 "is_integer_within" ["value", "least", "most"] fun ds R => W (sm_is_integer_within ds) R :=
  def_sem' (def_sem T.d_is_integer_within sc_is_integer_within fun c Pt f TB hP A outer s H E hr sa H0 F0 => by
    have nd : n_is_integer_within.Nodup := sc_is_integer_within.nd
    exact s_one (s_ret (r_q (q_and (q_r (r_call (ok_is_integer T) (hr.mono (by decide)) (ap_cons (p_var (i := 0)) (ap_nil)))) (q_one (q_lele (q_var (i := 1)) (q_var (i := 0)) (q_var (i := 2))))))))
theorem ok_is_strength (T : Txt K mg base Tb) : DefR P w K mg base Tb 3 "is_strength" ["value"] fun ds R => W (sm_is_strength ds) R :=
  def_sem' (def_sem T.d_is_strength sc_is_strength fun c Pt f TB hP A outer s H E hr sa H0 F0 => by
    have nd : n_is_strength.Nodup := sc_is_strength.nd
    exact s_one (s_ret (r_call (ok_is_integer_within T) (hr.mono (by decide)) (ap_cons (p_var (i := 0)) (ap_cons (p_q (q_int)) (ap_cons (p_q (q_int)) (ap_nil)))))))
theorem ok_is_letter (T : Txt K mg base Tb) : DefR P w K mg base Tb 5 "is_letter" ["value"] fun ds R => W (sm_is_letter ds) R :=
  def_sem' (def_sem T.d_is_letter sc_is_letter fun c Pt f TB hP A outer s H E hr sa H0 F0 => by
    have nd : n_is_letter.Nodup := sc_is_letter.nd
    exact s_cons (s_if (c_w (w_or (c_not (c_tru (q_isi kit_str (by decide +kernel) T.z_str T.z_isinstance (q_var (i := 0))))) (w_or1 (c_not (c_lele (q_int) (q_lenS T.z_len (q_var (i := 0))) (q_gI T.g_MOST_CHARACTERS)))))) (s_one (s_ret (r_q (q_bl)))) (s_nil)) (s_one (s_ret (r_q (q_and (q_inS (q_ixS (q_var (i := 0)) (q_int)) (q_gS T.g_FIRST_CHARACTERS)) (q_one (q_allG (own := [("sign", 1)]) (k := 0) (hr.mono (by decide)) T.z_all TB hP rfl nd (by exact blk (N := n_is_letter) (sc := defScope s_is_letter) (by decide +kernel)) (by decide +kernel) rfl (i_str (q_var (i := 0))) (fun _ _ _ _ _ _ _ hr1 => gw_name (i := 1) nd) (fun _ _ _ _ _ _ _ hr1 => ts_none) (fun _ _ _ _ _ _ _ hr1 => q_inS (q_var (i := 1)) (q_gS T.g_CHARACTERS)))))))))
theorem ok_is_rule (T : Txt K mg base Tb) : DefR P w K mg base Tb 6 "is_rule" ["value"] fun ds R => W (sm_is_rule ds) R :=
  def_sem' (def_sem T.d_is_rule sc_is_rule fun c Pt f TB hP A outer s H E hr sa H0 F0 => by
    have nd : n_is_rule.Nodup := sc_is_rule.nd
    exact s_cons (s_if (c_w (w_or (c_not (c_tru (q_isi kit_tuple (by decide +kernel) T.z_tuple T.z_isinstance (q_var (i := 0))))) (w_or1 (c_ne hr (q_len T.z_len (p_var (i := 0))) (q_int))))) (s_one (s_ret (r_q (q_bl)))) (s_nil)) (s_cons (s_asg (r_q (q_var (i := 0))) (gt_tup (gs_cons (g_name (i := 1) nd) (gs_cons (g_name (i := 2) nd) (gs_cons (g_name (i := 3) nd) (gs_cons (g_name (i := 4) nd) (gs_nil))))))) (s_cons (s_if (c_w (w_or (c_not (c_tru (q_isi kit_str (by decide +kernel) T.z_str T.z_isinstance (q_var (i := 1))))) (w_or1 (c_notIn (q_var (i := 1)) (p_q (q_r (r_tup (ar_cons (r_q (q_gS T.g_AFTER)) (ar_cons (r_q (q_gS T.g_BEFORE)) (ar_nil)))))))))) (s_one (s_ret (r_q (q_bl)))) (s_nil)) (s_cons (s_if (c_w (w_or (c_not (c_tru (q_r (r_call (ok_is_letter T) (hr.mono (by decide)) (ap_cons (p_var (i := 2)) (ap_nil)))))) (w_or (c_not (c_tru (q_r (r_call (ok_is_letter T) (hr.mono (by decide)) (ap_cons (p_var (i := 4)) (ap_nil)))))) (w_or1 (c_eq hr (q_var (i := 2)) (q_var (i := 4))))))) (s_one (s_ret (r_q (q_bl)))) (s_nil)) (s_one (s_ret (r_call (ok_is_strength T) (hr.mono (by decide)) (ap_cons (p_var (i := 3)) (ap_nil)))))))))
theorem ok_is_rule_list (T : Txt K mg base Tb) : DefR P w K mg base Tb 11 "is_rule_list" ["value"] fun ds R => W (sm_is_rule_list ds) R :=
  def_sem' (def_sem T.d_is_rule_list sc_is_rule_list fun c Pt f TB hP A outer s H E hr sa H0 F0 => by
    have nd : n_is_rule_list.Nodup := sc_is_rule_list.nd
    exact s_cons (s_if (c_w (w_or (c_not (c_tru (q_isi kit_tuple (by decide +kernel) T.z_tuple T.z_isinstance (q_var (i := 0))))) (w_or1 (c_gt (q_len T.z_len (p_var (i := 0))) (q_gI T.g_MOST_RULES))))) (s_one (s_ret (r_q (q_bl)))) (s_nil)) (s_one (s_ret (r_q (q_allG (own := [("rule", 1)]) (k := 6) (hr.mono (by decide)) T.z_all TB hP rfl nd (by exact blk (N := n_is_rule_list) (sc := defScope s_is_rule_list) (by decide +kernel)) (by decide +kernel) rfl (i_tup (q_var (i := 0))) (fun _ _ _ _ _ _ _ hr1 => gw_name (i := 1) nd) (fun _ _ _ _ _ _ _ hr1 => ts_none) (fun _ _ _ _ _ _ _ hr1 => q_r (r_call (ok_is_rule T) (hr1.mono (by decide)) (ap_cons (p_var (i := 1)) (ap_nil)))))))))
theorem ok_check_rules (T : Txt K mg base Tb) : DefR P w K mg base Tb 12 "check_rules" ["value", "name"] fun ds R => W (sm_check_rules ds) R :=
  def_sem' (def_sem T.d_check_rules sc_check_rules fun c Pt f TB hP A outer s H E hr sa H0 F0 => by
    have nd : n_check_rules.Nodup := sc_check_rules.nd
    exact s_one (s_if (c_not (c_tru (q_r (r_call (ok_is_rule_list T) (hr.mono (by decide)) (ap_cons (p_var (i := 0)) (ap_nil)))))) (s_one (s_fail)) (s_nil)))
theorem okx_check_rules (T : Txt K mg base Tb) : DefX P w K mg base Tb 12 "check_rules" ["value", "name"] fun ds R ex => WX (sx_check_rules_2 ds) R ex :=
  def_semX' (def_semX T.d_check_rules sc_check_rules fun c Pt f TB hP A outer s H E hr sa H0 F0 => by
    have nd : n_check_rules.Nodup := sc_check_rules.nd
    have po := @bxx_own P w K mg base n_check_rules "check_rules" (defScope s_check_rules) f c A outer s H E
    exact x_one (x_if (c_not (c_tru (q_r (r_call (ok_is_rule_list T) (hr.mono (by decide)) (ap_cons (p_var (i := 0)) (ap_nil)))))) (x_one (x_raise (T.x_BadValue _) (hr.mono (by decide)) (ap_cons (p_var (i := 1)) (ap_nil)))) (x_nil)))
theorem ok_check_one_and_other (T : Txt K mg base Tb) : DefR P w K mg base Tb 13 "check_one_and_other" ["one", "other"] fun ds R => W (sm_check_one_and_other ds) R :=
  def_sem' (def_sem T.d_check_one_and_other sc_check_one_and_other fun c Pt f TB hP A outer s H E hr sa H0 F0 => by
    have nd : n_check_one_and_other.Nodup := sc_check_one_and_other.nd
    exact s_cons (s_expr (q_r (r_call (ok_check_rules T) (hr.mono (by decide)) (ap_cons (p_var (i := 0)) (ap_cons (p_q (q_str)) (ap_nil)))))) (s_one (s_expr (q_r (r_call (ok_check_rules T) (hr.mono (by decide)) (ap_cons (p_var (i := 1)) (ap_cons (p_q (q_str)) (ap_nil))))))))
theorem okx_check_one_and_other (T : Txt K mg base Tb) : DefX P w K mg base Tb 13 "check_one_and_other" ["one", "other"] fun ds R ex => WX (sx_check_one_and_other_2 ds) R ex :=
  def_semX' (def_semX T.d_check_one_and_other sc_check_one_and_other fun c Pt f TB hP A outer s H E hr sa H0 F0 => by
    have nd : n_check_one_and_other.Nodup := sc_check_one_and_other.nd
    have po := @bxx_own P w K mg base n_check_one_and_other "check_one_and_other" (defScope s_check_one_and_other) f c A outer s H E
    exact x_cons (x_drop (xr_call (okx_check_rules T) (hr.mono (by decide)) (ap_cons (p_var (i := 0)) (ap_cons (p_q (q_str)) (ap_nil))))) (x_one (x_drop (xr_call (okx_check_rules T) (hr.mono (by decide)) (ap_cons (p_var (i := 1)) (ap_cons (p_q (q_str)) (ap_nil)))))))
theorem ok_are_marks (T : Txt K mg base Tb) : DefR P w K mg base Tb 7 "are_marks" ["one", "other", "value"] fun ds R => W (sm_are_marks ds) R :=
  def_sem' (def_sem T.d_are_marks sc_are_marks fun c Pt f TB hP A outer s H E hr sa H0 F0 => by
    have nd : n_are_marks.Nodup := sc_are_marks.nd
    exact s_cons (s_if (c_w (w_or (c_not (c_tru (q_isi kit_tuple (by decide +kernel) T.z_tuple T.z_isinstance (q_var (i := 2))))) (w_or1 (c_not (c_tru (q_allG (own := [("mark", 3)]) (k := 2) (hr.mono (by decide)) T.z_all TB hP rfl nd (by exact blk (N := n_are_marks) (sc := defScope s_are_marks) (by decide +kernel)) (by decide +kernel) rfl (i_tup (q_var (i := 2))) (fun _ _ _ _ _ _ _ hr1 => gw_name (i := 3) nd) (fun _ _ _ _ _ _ _ hr1 => ts_none) (fun _ _ _ _ _ _ _ hr1 => q_r (r_call (ok_is_integer_within T) (hr1.mono (by decide)) (ap_cons (p_var (i := 3)) (ap_cons (p_q (q_int)) (ap_cons (p_q (q_int)) (ap_nil)))))))))))) (s_one (s_ret (r_q (q_bl)))) (s_nil)) (s_one (s_ret (r_q (q_and (q_eq hr (q_cntT (q_var (i := 2)) (q_int)) (q_len T.z_len (p_var (i := 0)))) (q_one (q_eq hr (q_cntT (q_var (i := 2)) (q_int)) (q_len T.z_len (p_var (i := 1))))))))))
theorem ok_within_bound (T : Txt K mg base Tb) : DefR P w K mg base Tb 1 "within_bound" ["rules"] fun ds R => W (sm_within_bound ds) R :=
  def_sem' (def_sem T.d_within_bound sc_within_bound fun c Pt f TB hP A outer s H E hr sa H0 F0 => by
    have nd : n_within_bound.Nodup := sc_within_bound.nd
    exact s_cons (s_if (c_gt (q_len T.z_len (p_var (i := 0))) (q_gI T.g_MOST_RULES)) (s_one (s_fail)) (s_nil)) (s_one (s_ret (r_var (i := 0)))))
theorem okx_within_bound (T : Txt K mg base Tb) : DefX P w K mg base Tb 5 "within_bound" ["rules"] fun ds R ex => WX (sx_within_bound_2 ds) R ex :=
  def_semX' (def_semX T.d_within_bound sc_within_bound fun c Pt f TB hP A outer s H E hr sa H0 F0 => by
    have nd : n_within_bound.Nodup := sc_within_bound.nd
    have po := @bxx_own P w K mg base n_within_bound "within_bound" (defScope s_within_bound) f c A outer s H E
    exact x_cons (x_if (c_gt (q_len T.z_len (p_var (i := 0))) (q_gI T.g_MOST_RULES)) (x_one (x_raise (T.x_TooLarge _) (hr.mono (by decide)) (ap_cons (p_q (q_str)) (ap_nil)))) (x_nil)) (x_one (x_leaf (s_ret (r_var (i := 0))))))
theorem ok_count_interleavings (T : Txt K mg base Tb) : DefR P w K mg base Tb 14 "count_interleavings" ["one", "other"] fun ds R => W (sm_count_interleavings ds) R :=
  def_sem' (def_sem T.d_count_interleavings sc_count_interleavings fun c Pt f TB hP A outer s H E hr sa H0 F0 => by
    have nd : n_count_interleavings.Nodup := sc_count_interleavings.nd
    exact s_cons (s_expr (q_r (r_call (ok_check_one_and_other T) (hr.mono (by decide)) (ap_cons (p_var (i := 0)) (ap_cons (p_var (i := 1)) (ap_nil)))))) (s_one (s_ret (r_q (q_comb T.y_comb (q_addI (q_len T.z_len (p_var (i := 0))) (q_len T.z_len (p_var (i := 1)))) (q_len T.z_len (p_var (i := 0))))))))
theorem okx_count_interleavings (T : Txt K mg base Tb) : DefX P w K mg base Tb 14 "count_interleavings" ["one", "other"] fun ds R ex => WX (sx_count_interleavings_2 ds) R ex :=
  def_semX' (def_semX T.d_count_interleavings sc_count_interleavings fun c Pt f TB hP A outer s H E hr sa H0 F0 => by
    have nd : n_count_interleavings.Nodup := sc_count_interleavings.nd
    have po := @bxx_own P w K mg base n_count_interleavings "count_interleavings" (defScope s_count_interleavings) f c A outer s H E
    exact x_cons (x_drop (xr_call (okx_check_one_and_other T) (hr.mono (by decide)) (ap_cons (p_var (i := 0)) (ap_cons (p_var (i := 1)) (ap_nil))))) (x_one (x_leaf (s_ret (r_q (q_comb T.y_comb (q_addI (q_len T.z_len (p_var (i := 0))) (q_len T.z_len (p_var (i := 1)))) (q_len T.z_len (p_var (i := 0)))))))))
theorem ok_interleaved (T : Txt K mg base Tb) : DefR P w K mg base Tb 14 "interleaved" ["one", "other", "marks"] fun ds R => W (sm_interleaved ds) R :=
  def_sem' (def_sem T.d_interleaved sc_interleaved fun c Pt f TB hP A outer s H E hr sa H0 F0 => by
    have nd : n_interleaved.Nodup := sc_interleaved.nd
    exact s_cons (s_expr (q_r (r_call (ok_check_one_and_other T) (hr.mono (by decide)) (ap_cons (p_var (i := 0)) (ap_cons (p_var (i := 1)) (ap_nil)))))) (s_cons (s_if (c_not (c_tru (q_r (r_call (ok_are_marks T) (hr.mono (by decide)) (ap_cons (p_var (i := 0)) (ap_cons (p_var (i := 1)) (ap_cons (p_var (i := 2)) (ap_nil)))))))) (s_one (s_fail)) (s_nil)) (s_cons (s_set (i := 3) nd (r_tup (ar_cons (r_q (q_var (i := 0))) (ar_cons (r_q (q_var (i := 1))) (ar_nil))))) (s_cons (s_set (i := 4) nd (r_ce 1 (by rfl))) (s_cons (s_set (i := 5) nd (r_ce 1 (by rfl))) (s_cons (s_for (i_tup (q_var (i := 2))) (g_name (i := 6) nd) (s_cons (s_expr (q_append (i := 5) (q_ix (p_q (q_ix (p_var (i := 3)) (q_var (i := 6)))) (q_ix (p_var (i := 4)) (q_var (i := 6)))))) (s_one (s_ixAug (i := 4) ip_add (q_var (i := 6)) (q_int))))) (s_one (s_ret (r_call (ok_within_bound T) (hr.mono (by decide)) (ap_cons (p_q (q_tupleOf T.z_tuple (p_var (i := 5)))) (ap_nil)))))))))))
theorem okx_interleaved (T : Txt K mg base Tb) : DefX P w K mg base Tb 14 "interleaved" ["one", "other", "marks"] fun ds R ex => WX (sx_interleaved_2 ds) R ex :=
  def_semX' (def_semX T.d_interleaved sc_interleaved fun c Pt f TB hP A outer s H E hr sa H0 F0 => by
    have nd : n_interleaved.Nodup := sc_interleaved.nd
    have po := @bxx_own P w K mg base n_interleaved "interleaved" (defScope s_interleaved) f c A outer s H E
    exact x_cons (x_drop (xr_call (okx_check_one_and_other T) (hr.mono (by decide)) (ap_cons (p_var (i := 0)) (ap_cons (p_var (i := 1)) (ap_nil))))) (x_cons (x_if (c_not (c_tru (q_r (r_call (ok_are_marks T) (hr.mono (by decide)) (ap_cons (p_var (i := 0)) (ap_cons (p_var (i := 1)) (ap_cons (p_var (i := 2)) (ap_nil)))))))) (x_one (x_raise (T.x_BadValue _) (hr.mono (by decide)) (ap_cons (p_q (q_str)) (ap_nil)))) (x_nil)) (x_cons (x_leaf (s_set (i := 3) nd (r_tup (ar_cons (r_q (q_var (i := 0))) (ar_cons (r_q (q_var (i := 1))) (ar_nil)))))) (x_cons (x_leaf (s_set (i := 4) nd (r_ce 1 (by rfl)))) (x_cons (x_leaf (s_set (i := 5) nd (r_ce 1 (by rfl)))) (x_cons (x_leaf (s_for (i_tup (q_var (i := 2))) (g_name (i := 6) nd) (s_cons (s_expr (q_append (i := 5) (q_ix (p_q (q_ix (p_var (i := 3)) (q_var (i := 6)))) (q_ix (p_var (i := 4)) (q_var (i := 6)))))) (s_one (s_ixAug (i := 4) ip_add (q_var (i := 6)) (q_int)))))) (x_one (x_ret (xr_call (okx_within_bound T) (hr.mono (by decide)) (ap_cons (p_q (q_tupleOf T.z_tuple (p_var (i := 5)))) (ap_nil)))))))))))
theorem ok__law_is_integer (T : Txt K mg base Tb) : DefR P w K mg base Tb 1 "_law_is_integer" ["actual"] fun ds R => W (sm_is_integer ds) R :=
  def_sem' (def_sem T.d__law_is_integer sc__law_is_integer fun c Pt f TB hP A outer s H E hr sa H0 F0 => by
    have nd : n__law_is_integer.Nodup := sc__law_is_integer.nd
    exact s_one (s_ret (r_q (q_and (q_isi kit_int (by decide +kernel) T.z_int T.z_isinstance (q_var (i := 0))) (q_one (q_not (q_isi kit_bool (by decide +kernel) T.z_bool T.z_isinstance (q_var (i := 0)))))))))
theorem ok__law_equal (T : Txt K mg base Tb) : ∀ n : Nat, DefR P w K mg base Tb (n + 2) "_law_equal" ["actual", "due"] fun ds R => W (sm_l_equal n ds) R
  | 0 => (def_sem (k := 1) T.d__law_equal sc__law_equal (f := failS) fun c Pt f TB hP A outer s H E hr sa H0 F0 => fun S E w => False.elim w).weak fun ds R w => False.elim w
  | n + 1 => def_sem' (def_sem (k := n + 2) T.d__law_equal sc__law_equal fun c Pt f TB hP A outer s H E hr sa H0 F0 => by
    have nd : n__law_equal.Nodup := sc__law_equal.nd
    have ih := ok__law_equal T n
    exact s_cons (s_if (c_isN (q_var (i := 1))) (s_one (s_ret (r_q (q_isN (q_var (i := 0)))))) (s_nil)) (s_cons (s_if (c_tru (q_isi kit_bool (by decide +kernel) T.z_bool T.z_isinstance (q_var (i := 1)))) (s_one (s_ret (r_q (q_and (q_isi kit_bool (by decide +kernel) T.z_bool T.z_isinstance (q_var (i := 0))) (q_one (q_eq hr (q_var (i := 0)) (q_var (i := 1)))))))) (s_nil)) (s_cons (s_if (c_tru (q_isi kit_int (by decide +kernel) T.z_int T.z_isinstance (q_var (i := 1)))) (s_one (s_ret (r_q (q_and (q_r (r_call (ok__law_is_integer T) (hr.mono (by omega)) (ap_cons (p_var (i := 0)) (ap_nil)))) (q_one (q_eq hr (q_var (i := 0)) (q_var (i := 1)))))))) (s_nil)) (s_cons (s_if (c_tru (q_isi kit_str (by decide +kernel) T.z_str T.z_isinstance (q_var (i := 1)))) (s_one (s_ret (r_q (q_and (q_isi kit_str (by decide +kernel) T.z_str T.z_isinstance (q_var (i := 0))) (q_one (q_eq hr (q_var (i := 0)) (q_var (i := 1)))))))) (s_nil)) (s_cons (s_if (c_w (w_and (c_tru (q_isi kit_tuple (by decide +kernel) T.z_tuple T.z_isinstance (q_var (i := 1)))) (w_and1 (c_not (c_tru (q_isi kit_tuple (by decide +kernel) T.z_tuple T.z_isinstance (q_var (i := 0)))))))) (s_one (s_ret (r_q (q_bl)))) (s_nil)) (s_cons (s_if (c_w (w_and (c_tru (q_isi kit_list (by decide +kernel) T.z_list T.z_isinstance (q_var (i := 1)))) (w_and1 (c_not (c_tru (q_isi kit_list (by decide +kernel) T.z_list T.z_isinstance (q_var (i := 0)))))))) (s_one (s_ret (r_q (q_bl)))) (s_nil)) (s_cons (s_if (c_ne hr (q_len T.z_len (p_var (i := 0))) (q_len T.z_len (p_var (i := 1)))) (s_one (s_ret (r_q (q_bl)))) (s_nil)) (s_one (s_ret (r_q (q_allL T.z_all (p_q (q_r (r_lc (own := [("at", 2)]) nd (by exact blk (N := n__law_equal) (sc := defScope s__law_equal) (by decide +kernel)) (i_rng T.z_range (q_len T.z_len (p_var (i := 1)))) (fun _ _ _ _ _ => gw_name (i := 2) nd) (fun _ _ _ _ _ => ts_none) (fun _ _ _ _ _ => q_r (r_call ih (hr.mono (by omega)) (ap_cons (p_q (q_ix (p_var (i := 0)) (q_var (i := 2)))) (ap_cons (p_q (q_ix (p_var (i := 1)) (q_var (i := 2)))) (ap_nil)))))))))))))))))))
theorem ok__law_rule (T : Txt K mg base Tb) : DefR P w K mg base Tb 2 "_law_rule" ["stream", "pool", "out"] fun ds R => W (sm_l_rule_4 ds) R :=
  def_sem' (def_sem T.d__law_rule sc__law_rule fun c Pt f TB hP A outer s H E hr sa H0 F0 => by
    have nd : n__law_rule.Nodup := sc__law_rule.nd
    exact s_cons (s_set (i := 3) nd (r_q (q_ix (p_var (i := 1)) (q_r (r_call (ok__law_next T) (hr.mono (by decide)) (ap_cons (p_var (i := 0)) (ap_cons (p_q (q_len T.z_len (p_var (i := 1)))) (ap_nil)))))))) (s_cons (s_lc (i := 4) (own := [("letter", 5)]) nd (by exact blk (N := n__law_rule) (sc := defScope s__law_rule) (by decide +kernel)) (i_lst (q_r (r_addL (q_var (i := 1)) (q_var (i := 2))))) (fun _ _ _ _ _ => gw_name (i := 5) nd) (fun _ _ _ _ _ => ts_c (c_ne hr (q_var (i := 5)) (q_var (i := 3)))) (fun _ _ _ _ _ => q_var (i := 5))) (s_cons (s_set (i := 6) nd (r_q (q_ix (p_q (q_ce 2 (by rfl))) (q_r (r_call (ok__law_next T) (hr.mono (by decide)) (ap_cons (p_var (i := 0)) (ap_cons (p_q (q_int)) (ap_nil)))))))) (s_one (s_ret (r_tup (ar_cons (r_var (i := 6)) (ar_cons (r_var (i := 3)) (ar_cons (r_q (q_ix (p_q (q_ce 2 (by rfl))) (q_r (r_call (ok__law_next T) (hr.mono (by decide)) (ap_cons (p_var (i := 0)) (ap_cons (p_q (q_int)) (ap_nil))))))) (ar_cons (r_q (q_ix (p_var (i := 4)) (q_r (r_call (ok__law_next T) (hr.mono (by decide)) (ap_cons (p_var (i := 0)) (ap_cons (p_q (q_len T.z_len (p_var (i := 4)))) (ap_nil))))))) (ar_nil)))))))))))
theorem ok__law_rules (T : Txt K mg base Tb) : DefR P w K mg base Tb 3 "_law_rules" ["stream", "pool", "out", "most"] fun ds R => W (sm_l_rules_2 ds) R :=
  def_sem' (def_sem T.d__law_rules sc__law_rules fun c Pt f TB hP A outer s H E hr sa H0 F0 => by
    have nd : n__law_rules.Nodup := sc__law_rules.nd
    exact s_one (s_ret (r_q (q_tupleOf T.z_tuple (p_q (q_r (r_lc (own := [("turn", 4)]) nd (by exact blk (N := n__law_rules) (sc := defScope s__law_rules) (by decide +kernel)) (i_rng T.z_range (q_r (r_call (ok__law_next T) (hr.mono (by decide)) (ap_cons (p_var (i := 0)) (ap_cons (p_q (q_addI (q_var (i := 3)) (q_int))) (ap_nil)))))) (fun _ _ _ _ _ => gw_name (i := 4) nd) (fun _ _ _ _ _ => ts_none) (fun _ _ _ _ _ => q_r (r_call (ok__law_rule T) (hr.mono (by decide)) (ap_cons (p_var (i := 0)) (ap_cons (p_var (i := 1)) (ap_cons (p_var (i := 2)) (ap_nil)))))))))))))
theorem ok__law_count (T : Txt K mg base Tb) : DefR P w K mg base Tb 1 "_law_count" ["many", "more"] fun ds R => W (sm_l_count ds) R :=
  def_sem' (def_sem T.d__law_count sc__law_count fun c Pt f TB hP A outer s H E hr sa H0 F0 => by
    have nd : n__law_count.Nodup := sc__law_count.nd
    exact s_cons (s_lc (i := 2) (own := [("k", 3)]) nd (by exact blk (N := n__law_count) (sc := defScope s__law_count) (by decide +kernel)) (i_rng T.z_range (q_addI (q_var (i := 1)) (q_int))) (fun _ _ _ _ _ => gw_name (i := 3) nd) (fun _ _ _ _ _ => ts_none) (fun _ _ _ _ _ => q_int)) (s_cons (s_for (i_rng T.z_range (q_var (i := 0))) (g_name (i := 4) nd) (s_one (s_for (i_rng2 T.z_range (q_int) (q_addI (q_var (i := 1)) (q_int))) (g_name (i := 3) nd) (s_one (s_ixSet (i := 2) (q_addI (q_ix (p_var (i := 2)) (q_var (i := 3))) (q_ix (p_var (i := 2)) (q_subI (q_var (i := 3)) (q_int)))) (q_var (i := 3))))))) (s_one (s_ret (r_q (q_ix (p_var (i := 2)) (q_var (i := 1))))))))
theorem ok__law_told (T : Txt K mg base Tb) : DefR P w K mg base Tb 15 "_law_told" ["one", "other", "marks"] fun ds R => W (sm_l_told_10 ds) R :=
  def_sem' (def_sem T.d__law_told sc__law_told fun c Pt f TB hP A outer s H E hr sa H0 F0 => by
    have nd : n__law_told.Nodup := sc__law_told.nd
    exact s_one (s_of_x (x_try2E (xs := ["BadValue", "TooLarge"]) (i := 3) (j := 3) (fun pn xe po => x_one (x_ret (xr_call (okx_interleaved T) (hr.mono (by decide)) (ap_cons (p_var (i := 0)) (ap_cons (p_var (i := 1)) (ap_cons (p_var (i := 2)) (ap_nil))))))) (su_of (fS := fun x => retS (lstR [rq (xfQ ["BadValue", "TooLarge"] x "name" 3)])) fun x a oe cls d pn H' F' hz hf xr => s_one (s_ret (r_lst (ar_cons (r_q (q_xf (xs := ["BadValue", "TooLarge"]) (i := 3) T.xt hz hf xr)) (ar_nil))))) (su_of (fS := fun x => retS (lstR [rq (xfQ ["BadValue", "TooLarge"] x "what" 3)])) fun x a oe cls d pn H' F' hz hf xr => s_one (s_ret (r_lst (ar_cons (r_q (q_xf (xs := ["BadValue", "TooLarge"]) (i := 3) T.xt hz hf xr)) (ar_nil))))) T.h_BadValue T.h_TooLarge nd)))
theorem ok__law_due (T : Txt K mg base Tb) : DefR P w K mg base Tb 1 "_law_due" ["one", "other", "marks"] fun ds R => W (sm_l_due_3 ds) R :=
  def_sem' (def_sem T.d__law_due sc__law_due fun c Pt f TB hP A outer s H E hr sa H0 F0 => by
    have nd : n__law_due.Nodup := sc__law_due.nd
    exact ss_rowsD (i := 3) (j := 4) nd (ar_cons (r_listOf T.z_list (p_var (i := 0))) (ar_cons (r_listOf T.z_list (p_var (i := 1))) (ar_nil))) (fun Hq => r_ce 1 (by rfl)) (fun Hq => in_seq (q_var (i := 2))) (fun Hq => kg_name (j := 5) nd) (ns_one (n_pop (i := 3) (j := 4) (fun Hq => q_var (i := 5)) (fun Hq => q_int))) (s_one (s_ret (r_q (q_tupleOf T.z_tuple (p_var (i := 4)))))))
theorem ok_law (T : Txt K mg base Tb) {c fL : Addr} {fd : FuncData} (F : FunC K "law" "law" s_law c fL fd) : FnOk P w K mg base CX0 16 fL fd ["script"] (spLaw K Tb) := by
  obtain ⟨fs, fds, Gs, hms, hks, hbs⟩ := ok_stream (P := P) (w := w) T
  have nd : n_law.Nodup := sc_law.nd
  refine law_ofR (j := 1) F sc_law rfl (by decide) (by decide) fun A outer s H E hr => ⟨?_, fun sa H0 F0 => ?_⟩
  · exact ps_set (x := "stream") nd (by rfl) (by first | exact .inl (by rfl) | exact .inr (by rfl)) (pe_call Gs (hr.mono (by decide)) (by rfl) hms hks hbs .nil pass0 (pa_cons (pe_var (i := 0) (by rfl) (Or.inl (by rfl)) (by decide) (by decide)) pa_nil (by rfl)))
  · have hs : SndSs ⟨K, Tb, sa, true, H0, F0⟩ (BX P w K mg base n_law "law" (defScope s_law) fL c A outer s H E) ((defBody s_law).drop 1) b_law_k74t := by
      exact s_cons (s_set (i := 2) nd (r_ce 1 (by rfl))) (s_cons (s_set (i := 3) nd (r_call (ok__law_rules T) (hr.mono (by decide)) (ap_cons (p_var (i := 1)) (ap_cons (p_var (i := 2)) (ap_cons (p_q (q_ce 2 (by rfl))) (ap_cons (p_q (q_int)) (ap_nil))))))) (s_cons (s_set (i := 4) nd (r_call (ok__law_rules T) (hr.mono (by decide)) (ap_cons (p_var (i := 1)) (ap_cons (p_var (i := 2)) (ap_cons (p_q (q_ce 2 (by rfl))) (ap_cons (p_q (q_int)) (ap_nil))))))) (s_cons (s_if (c_not (c_tru (q_r (r_call (ok__law_equal T 8) (hr.mono (by decide)) (ap_cons (p_q (q_r (r_call (ok_count_interleavings T) (hr.mono (by decide)) (ap_cons (p_var (i := 3)) (ap_cons (p_var (i := 4)) (ap_nil)))))) (ap_cons (p_q (q_r (r_call (ok__law_count T) (hr.mono (by decide)) (ap_cons (p_q (q_len T.z_len (p_var (i := 3)))) (ap_cons (p_q (q_len T.z_len (p_var (i := 4)))) (ap_nil)))))) (ap_nil))))))) (s_one (s_ret (r_q (q_bl)))) (s_nil)) (s_cons (s_set (i := 5) nd (r_ce 1 (by rfl))) (s_cons (s_for (i_lst (q_r (r_addL (q_r (r_lc (own := [("rule", 7)]) nd (by exact blk (N := n_law) (sc := defScope s_law) (by decide +kernel)) (i_tup (q_var (i := 3))) (fun _ _ _ _ _ => gw_name (i := 7) nd) (fun _ _ _ _ _ => ts_none) (fun _ _ _ _ _ => q_int))) (q_r (r_lc (own := [("rule", 7)]) nd (by exact blk (N := n_law) (sc := defScope s_law) (by decide +kernel)) (i_tup (q_var (i := 4))) (fun _ _ _ _ _ => gw_name (i := 7) nd) (fun _ _ _ _ _ => ts_none) (fun _ _ _ _ _ => q_int)))))) (g_name (i := 6) nd) (s_one (s_expr (q_insert (i := 5) (q_r (r_call (ok__law_next T) (hr.mono (by decide)) (ap_cons (p_var (i := 1)) (ap_cons (p_q (q_addI (q_len T.z_len (p_var (i := 5))) (q_int))) (ap_nil))))) (q_var (i := 6)))))) (s_cons (s_set (i := 5) nd (r_q (q_tupleOf T.z_tuple (p_var (i := 5))))) (s_cons (s_if (c_not (c_tru (q_r (r_call (ok__law_equal T 8) (hr.mono (by decide)) (ap_cons (p_q (q_r (r_call (ok__law_told T) (hr.mono (by decide)) (ap_cons (p_var (i := 3)) (ap_cons (p_var (i := 4)) (ap_cons (p_var (i := 5)) (ap_nil))))))) (ap_cons (p_q (q_r (r_call (ok__law_due T) (hr.mono (by decide)) (ap_cons (p_var (i := 3)) (ap_cons (p_var (i := 4)) (ap_cons (p_var (i := 5)) (ap_nil))))))) (ap_nil))))))) (s_one (s_ret (r_q (q_bl)))) (s_nil)) (s_cons (s_set (i := 8) nd (r_lst (ar_cons (r_q (q_non)) (ar_cons (r_listOf T.z_list (p_var (i := 5))) (ar_cons (r_q (q_addT (q_var (i := 5)) (q_ce 2 (by rfl)))) (ar_cons (r_q (q_addT (q_var (i := 5)) (q_ce 2 (by rfl)))) (ar_cons (r_q (q_addT (q_var (i := 5)) (q_ce 2 (by rfl)))) (ar_cons (r_q (q_addT (q_ce 2 (by rfl)) (q_var (i := 5)))) (ar_cons (r_q (q_addT (q_var (i := 5)) (q_ce 2 (by rfl)))) (ar_cons (r_q (q_addT (q_ce 2 (by rfl)) (q_var (i := 5)))) (ar_nil))))))))))) (s_cons (s_if (c_tru (q_var (i := 5))) (s_one (s_set (i := 8) nd (r_addL (q_var (i := 8)) (q_r (r_lst (ar_cons (r_q (q_slT (q_var (i := 5)) (o_some (q_int)) (o_none))) (ar_cons (r_q (q_slT (q_var (i := 5)) (o_none) (o_some (q_ce 1 (by rfl))))) (ar_cons (r_q (q_addT (q_r (r_tup (ar_cons (r_q (q_subI (q_int) (q_ix (p_var (i := 5)) (q_int)))) (ar_nil)))) (q_slT (q_var (i := 5)) (o_some (q_int)) (o_none)))) (ar_cons (r_q (q_addT (q_r (r_tup (ar_cons (r_q (q_bool1 T.z_bool (q_ix (p_var (i := 5)) (q_int)))) (ar_nil)))) (q_slT (q_var (i := 5)) (o_some (q_int)) (o_none)))) (ar_nil)))))))))) (s_nil)) (s_cons (s_if (c_ne hr (q_r (r_call (ok__law_told T) (hr.mono (by decide)) (ap_cons (p_var (i := 3)) (ap_cons (p_var (i := 4)) (ap_cons (p_q (q_ix (p_var (i := 8)) (q_r (r_call (ok__law_next T) (hr.mono (by decide)) (ap_cons (p_var (i := 1)) (ap_cons (p_q (q_len T.z_len (p_var (i := 8)))) (ap_nil))))))) (ap_nil)))))) (q_ce 2 (by rfl))) (s_one (s_ret (r_q (q_bl)))) (s_nil)) (s_cons (s_set (i := 7) nd (r_call (ok__law_rule T) (hr.mono (by decide)) (ap_cons (p_var (i := 1)) (ap_cons (p_var (i := 2)) (ap_cons (p_q (q_ce 2 (by rfl))) (ap_nil)))))) (s_cons (s_if (c_ne hr (q_r (r_call (ok_count_interleavings T) (hr.mono (by decide)) (ap_cons (p_q (q_mulT2 (q_r (r_tup (ar_cons (r_q (q_var (i := 7))) (ar_nil)))) (q_int))) (ap_cons (p_q (q_mulT2 (q_r (r_tup (ar_cons (r_q (q_var (i := 7))) (ar_nil)))) (q_int))) (ap_nil))))) (q_r (r_call (ok__law_count T) (hr.mono (by decide)) (ap_cons (p_q (q_int)) (ap_cons (p_q (q_int)) (ap_nil)))))) (s_one (s_ret (r_q (q_bl)))) (s_nil)) (s_cons (s_if (c_ne hr (q_r (r_call (ok__law_told T) (hr.mono (by decide)) (ap_cons (p_q (q_mulT2 (q_r (r_tup (ar_cons (r_q (q_var (i := 7))) (ar_nil)))) (q_int))) (ap_cons (p_q (q_mulT2 (q_r (r_tup (ar_cons (r_q (q_var (i := 7))) (ar_nil)))) (q_int))) (ap_cons (p_q (q_addT (q_mulT2 (q_ce 2 (by rfl)) (q_int)) (q_ce 2 (by rfl)))) (ap_nil)))))) (q_ce 2 (by rfl))) (s_one (s_ret (r_q (q_bl)))) (s_nil)) (s_one (s_ret (r_q (q_eq hr (q_r (r_call (ok__law_told T) (hr.mono (by decide)) (ap_cons (p_q (q_mulT2 (q_r (r_tup (ar_cons (r_q (q_var (i := 7))) (ar_nil)))) (q_int))) (ap_cons (p_q (q_mulT2 (q_r (r_tup (ar_cons (r_q (q_var (i := 7))) (ar_nil)))) (q_int))) (ap_cons (p_q (q_mulT2 (q_ce 2 (by rfl)) (q_int))) (ap_nil)))))) (q_mulT2 (q_r (r_tup (ar_cons (r_q (q_var (i := 7))) (ar_nil)))) (q_int)))))))))))))))))))
    have h0 := law_k74t_holds
    unfold LawW at h0
    refine hs _ _ ?_
    have e : (List.replicate n_law.length Slot.none).set 1 (Slot.val D.strm) = S0_k74t := by rfl
    rw [e]
    exact h0
end
theorem all_mk {w : World} {K : PySem.W.Frag} {h : Heap} {mg : Str → Option Value} {fa : Addr} (X : K.In h) (G : h.Ns mainGlobals mg) (hfa : mg "law" = some (.ref fa)) (TF : ∀ x ∈ (["is_integer", "is_integer_within", "is_strength", "is_letter", "is_rule", "is_rule_list", "check_rules", "check_one_and_other", "are_marks", "within_bound", "count_interleavings", "interleaved", "_law_stream", "_law_next", "_law_is_integer", "_law_equal", "_law_rule", "_law_rules", "_law_count", "_law_told", "_law_due", "law"] : List Str), TabFact K mg h x)
    {f0 f1 f2 f3 f4 f5 f6 f7 f8 f9 f10 f11 f12 f13 f14 f15 f16 f17 f18 f19 f20 f21 cd0 cd1 cd2 cd3 cd4 cd5 cd6 cd7 cd8 cd9 cd10 cd11 cd12 cd13 cd14 cd15 cd16 cd17 cd18 cd19 cd20 cd21 P0 P1 P2 P3 P4 P5 P6 P7 P8 P9 P10 P11 P12 P13 P14 P15 P16 P17 P18 P19 P20 P21 : Addr} {od0 od1 od2 od3 od4 od5 od6 od7 od8 od9 od10 od11 od12 od13 od14 od15 od16 od17 od18 od19 od20 od21 an0 an1 an2 an3 an4 an5 an6 an7 an8 an9 an10 an11 an12 an13 an14 an15 an16 an17 an18 an19 an20 an21 ed0 ed1 ed2 ed3 ed4 ed5 ed6 ed7 ed8 ed9 ed10 ed11 ed12 ed13 ed14 ed15 ed16 ed17 ed18 ed19 ed20 ed21 : Option Addr} {sl0 sl1 sl2 sl3 sl4 sl5 sl6 sl7 sl8 sl9 sl10 sl11 sl12 sl13 sl14 sl15 sl16 sl17 sl18 sl19 sl20 sl21 es0 es1 es2 es3 es4 es5 es6 es7 es8 es9 es10 es11 es12 es13 es14 es15 es16 es17 es18 es19 es20 es21 : Array (Option Value)} {vs0 vs1 vs2 vs3 vs4 vs5 vs6 vs7 vs8 vs9 vs10 vs11 vs12 vs13 vs14 vs15 vs16 vs17 vs18 vs19 vs20 vs21 : Array Value} {oc0 oc1 oc2 oc3 oc4 oc5 oc6 oc7 oc8 oc9 oc10 oc11 oc12 oc13 oc14 oc15 oc16 oc17 oc18 oc19 oc20 oc21 kV0 kV1 kV2 kV3 kV4 kV5 kV6 kV7 kV8 kV9 kV10 kV11 kV12 kV13 kV14 kV15 kV16 kV17 kV18 kV19 kV20 kV21 dc0 dc1 dc2 dc3 dc4 dc5 dc6 dc7 dc8 dc9 dc10 dc11 dc12 dc13 dc14 dc15 dc16 dc17 dc18 dc19 dc20 dc21 pm0 pm1 pm2 pm3 pm4 pm5 pm6 pm7 pm8 pm9 pm10 pm11 pm12 pm13 pm14 pm15 pm16 pm17 pm18 pm19 pm20 pm21 ct0 ct1 ct2 ct3 ct4 ct5 ct6 ct7 ct8 ct9 ct10 ct11 ct12 ct13 ct14 ct15 ct16 ct17 ct18 ct19 ct20 ct21 ec0 ec1 ec2 ec3 ec4 ec5 ec6 ec7 ec8 ec9 ec10 ec11 ec12 ec13 ec14 ec15 ec16 ec17 ec18 ec19 ec20 ec21 : Value}
    (a0 : PySem.W.nsIn K mainGlobals "is_integer" = some (some (.ref f0))) (l0 : K.lookup f0 = some ⟨oc0, od0, .func (PySem.W.fnOf "is_integer" "is_integer" (defArgs s_is_integer) (defBody s_is_integer) (defScope s_is_integer) .none kV0 dc0 pm0 an0 (.ref cd0) ct0), sl0⟩) (k0 : PySem.W.codeIn K (.ref cd0) "is_integer" = true) (p0 : PySem.W.keepIn K (.ref f0) = true) (t0 : K.lookup cd0 = some ⟨ec0, ed0, .fields vs0, es0⟩) (v0 : vs0[11]? = some (.ref P0)) (n0 : K.lookup P0 = none)
    (a1 : PySem.W.nsIn K mainGlobals "is_integer_within" = some (some (.ref f1))) (l1 : K.lookup f1 = some ⟨oc1, od1, .func (PySem.W.fnOf "is_integer_within" "is_integer_within" (defArgs s_is_integer_within) (defBody s_is_integer_within) (defScope s_is_integer_within) .none kV1 dc1 pm1 an1 (.ref cd1) ct1), sl1⟩) (k1 : PySem.W.codeIn K (.ref cd1) "is_integer_within" = true) (p1 : PySem.W.keepIn K (.ref f1) = true) (t1 : K.lookup cd1 = some ⟨ec1, ed1, .fields vs1, es1⟩) (v1 : vs1[11]? = some (.ref P1)) (n1 : K.lookup P1 = none)
    (a2 : PySem.W.nsIn K mainGlobals "is_strength" = some (some (.ref f2))) (l2 : K.lookup f2 = some ⟨oc2, od2, .func (PySem.W.fnOf "is_strength" "is_strength" (defArgs s_is_strength) (defBody s_is_strength) (defScope s_is_strength) .none kV2 dc2 pm2 an2 (.ref cd2) ct2), sl2⟩) (k2 : PySem.W.codeIn K (.ref cd2) "is_strength" = true) (p2 : PySem.W.keepIn K (.ref f2) = true) (t2 : K.lookup cd2 = some ⟨ec2, ed2, .fields vs2, es2⟩) (v2 : vs2[11]? = some (.ref P2)) (n2 : K.lookup P2 = none)
    (a3 : PySem.W.nsIn K mainGlobals "is_letter" = some (some (.ref f3))) (l3 : K.lookup f3 = some ⟨oc3, od3, .func (PySem.W.fnOf "is_letter" "is_letter" (defArgs s_is_letter) (defBody s_is_letter) (defScope s_is_letter) .none kV3 dc3 pm3 an3 (.ref cd3) ct3), sl3⟩) (k3 : PySem.W.codeIn K (.ref cd3) "is_letter" = true) (p3 : PySem.W.keepIn K (.ref f3) = true) (t3 : K.lookup cd3 = some ⟨ec3, ed3, .fields vs3, es3⟩) (v3 : vs3[11]? = some (.ref P3)) (n3 : K.lookup P3 = none)
    (a4 : PySem.W.nsIn K mainGlobals "is_rule" = some (some (.ref f4))) (l4 : K.lookup f4 = some ⟨oc4, od4, .func (PySem.W.fnOf "is_rule" "is_rule" (defArgs s_is_rule) (defBody s_is_rule) (defScope s_is_rule) .none kV4 dc4 pm4 an4 (.ref cd4) ct4), sl4⟩) (k4 : PySem.W.codeIn K (.ref cd4) "is_rule" = true) (p4 : PySem.W.keepIn K (.ref f4) = true) (t4 : K.lookup cd4 = some ⟨ec4, ed4, .fields vs4, es4⟩) (v4 : vs4[11]? = some (.ref P4)) (n4 : K.lookup P4 = none)
    (a5 : PySem.W.nsIn K mainGlobals "is_rule_list" = some (some (.ref f5))) (l5 : K.lookup f5 = some ⟨oc5, od5, .func (PySem.W.fnOf "is_rule_list" "is_rule_list" (defArgs s_is_rule_list) (defBody s_is_rule_list) (defScope s_is_rule_list) .none kV5 dc5 pm5 an5 (.ref cd5) ct5), sl5⟩) (k5 : PySem.W.codeIn K (.ref cd5) "is_rule_list" = true) (p5 : PySem.W.keepIn K (.ref f5) = true) (t5 : K.lookup cd5 = some ⟨ec5, ed5, .fields vs5, es5⟩) (v5 : vs5[11]? = some (.ref P5)) (n5 : K.lookup P5 = none)
    (a6 : PySem.W.nsIn K mainGlobals "check_rules" = some (some (.ref f6))) (l6 : K.lookup f6 = some ⟨oc6, od6, .func (PySem.W.fnOf "check_rules" "check_rules" (defArgs s_check_rules) (defBody s_check_rules) (defScope s_check_rules) .none kV6 dc6 pm6 an6 (.ref cd6) ct6), sl6⟩) (k6 : PySem.W.codeIn K (.ref cd6) "check_rules" = true) (p6 : PySem.W.keepIn K (.ref f6) = true) (t6 : K.lookup cd6 = some ⟨ec6, ed6, .fields vs6, es6⟩) (v6 : vs6[11]? = some (.ref P6)) (n6 : K.lookup P6 = none)
    (a7 : PySem.W.nsIn K mainGlobals "check_one_and_other" = some (some (.ref f7))) (l7 : K.lookup f7 = some ⟨oc7, od7, .func (PySem.W.fnOf "check_one_and_other" "check_one_and_other" (defArgs s_check_one_and_other) (defBody s_check_one_and_other) (defScope s_check_one_and_other) .none kV7 dc7 pm7 an7 (.ref cd7) ct7), sl7⟩) (k7 : PySem.W.codeIn K (.ref cd7) "check_one_and_other" = true) (p7 : PySem.W.keepIn K (.ref f7) = true) (t7 : K.lookup cd7 = some ⟨ec7, ed7, .fields vs7, es7⟩) (v7 : vs7[11]? = some (.ref P7)) (n7 : K.lookup P7 = none)
    (a8 : PySem.W.nsIn K mainGlobals "are_marks" = some (some (.ref f8))) (l8 : K.lookup f8 = some ⟨oc8, od8, .func (PySem.W.fnOf "are_marks" "are_marks" (defArgs s_are_marks) (defBody s_are_marks) (defScope s_are_marks) .none kV8 dc8 pm8 an8 (.ref cd8) ct8), sl8⟩) (k8 : PySem.W.codeIn K (.ref cd8) "are_marks" = true) (p8 : PySem.W.keepIn K (.ref f8) = true) (t8 : K.lookup cd8 = some ⟨ec8, ed8, .fields vs8, es8⟩) (v8 : vs8[11]? = some (.ref P8)) (n8 : K.lookup P8 = none)
    (a9 : PySem.W.nsIn K mainGlobals "within_bound" = some (some (.ref f9))) (l9 : K.lookup f9 = some ⟨oc9, od9, .func (PySem.W.fnOf "within_bound" "within_bound" (defArgs s_within_bound) (defBody s_within_bound) (defScope s_within_bound) .none kV9 dc9 pm9 an9 (.ref cd9) ct9), sl9⟩) (k9 : PySem.W.codeIn K (.ref cd9) "within_bound" = true) (p9 : PySem.W.keepIn K (.ref f9) = true) (t9 : K.lookup cd9 = some ⟨ec9, ed9, .fields vs9, es9⟩) (v9 : vs9[11]? = some (.ref P9)) (n9 : K.lookup P9 = none)
    (a10 : PySem.W.nsIn K mainGlobals "count_interleavings" = some (some (.ref f10))) (l10 : K.lookup f10 = some ⟨oc10, od10, .func (PySem.W.fnOf "count_interleavings" "count_interleavings" (defArgs s_count_interleavings) (defBody s_count_interleavings) (defScope s_count_interleavings) .none kV10 dc10 pm10 an10 (.ref cd10) ct10), sl10⟩) (k10 : PySem.W.codeIn K (.ref cd10) "count_interleavings" = true) (p10 : PySem.W.keepIn K (.ref f10) = true) (t10 : K.lookup cd10 = some ⟨ec10, ed10, .fields vs10, es10⟩) (v10 : vs10[11]? = some (.ref P10)) (n10 : K.lookup P10 = none)
    (a11 : PySem.W.nsIn K mainGlobals "interleaved" = some (some (.ref f11))) (l11 : K.lookup f11 = some ⟨oc11, od11, .func (PySem.W.fnOf "interleaved" "interleaved" (defArgs s_interleaved) (defBody s_interleaved) (defScope s_interleaved) .none kV11 dc11 pm11 an11 (.ref cd11) ct11), sl11⟩) (k11 : PySem.W.codeIn K (.ref cd11) "interleaved" = true) (p11 : PySem.W.keepIn K (.ref f11) = true) (t11 : K.lookup cd11 = some ⟨ec11, ed11, .fields vs11, es11⟩) (v11 : vs11[11]? = some (.ref P11)) (n11 : K.lookup P11 = none)
    (a12 : PySem.W.nsIn K mainGlobals "_law_stream" = some (some (.ref f12))) (l12 : K.lookup f12 = some ⟨oc12, od12, .func (PySem.W.fnOf "_law_stream" "_law_stream" (defArgs s__law_stream) (defBody s__law_stream) (defScope s__law_stream) .none kV12 dc12 pm12 an12 (.ref cd12) ct12), sl12⟩) (k12 : PySem.W.codeIn K (.ref cd12) "_law_stream" = true) (p12 : PySem.W.keepIn K (.ref f12) = true) (t12 : K.lookup cd12 = some ⟨ec12, ed12, .fields vs12, es12⟩) (v12 : vs12[11]? = some (.ref P12)) (n12 : K.lookup P12 = none)
    (a13 : PySem.W.nsIn K mainGlobals "_law_next" = some (some (.ref f13))) (l13 : K.lookup f13 = some ⟨oc13, od13, .func (PySem.W.fnOf "_law_next" "_law_next" (defArgs s__law_next) (defBody s__law_next) (defScope s__law_next) .none kV13 dc13 pm13 an13 (.ref cd13) ct13), sl13⟩) (k13 : PySem.W.codeIn K (.ref cd13) "_law_next" = true) (p13 : PySem.W.keepIn K (.ref f13) = true) (t13 : K.lookup cd13 = some ⟨ec13, ed13, .fields vs13, es13⟩) (v13 : vs13[11]? = some (.ref P13)) (n13 : K.lookup P13 = none)
    (a14 : PySem.W.nsIn K mainGlobals "_law_is_integer" = some (some (.ref f14))) (l14 : K.lookup f14 = some ⟨oc14, od14, .func (PySem.W.fnOf "_law_is_integer" "_law_is_integer" (defArgs s__law_is_integer) (defBody s__law_is_integer) (defScope s__law_is_integer) .none kV14 dc14 pm14 an14 (.ref cd14) ct14), sl14⟩) (k14 : PySem.W.codeIn K (.ref cd14) "_law_is_integer" = true) (p14 : PySem.W.keepIn K (.ref f14) = true) (t14 : K.lookup cd14 = some ⟨ec14, ed14, .fields vs14, es14⟩) (v14 : vs14[11]? = some (.ref P14)) (n14 : K.lookup P14 = none)
    (a15 : PySem.W.nsIn K mainGlobals "_law_equal" = some (some (.ref f15))) (l15 : K.lookup f15 = some ⟨oc15, od15, .func (PySem.W.fnOf "_law_equal" "_law_equal" (defArgs s__law_equal) (defBody s__law_equal) (defScope s__law_equal) .none kV15 dc15 pm15 an15 (.ref cd15) ct15), sl15⟩) (k15 : PySem.W.codeIn K (.ref cd15) "_law_equal" = true) (p15 : PySem.W.keepIn K (.ref f15) = true) (t15 : K.lookup cd15 = some ⟨ec15, ed15, .fields vs15, es15⟩) (v15 : vs15[11]? = some (.ref P15)) (n15 : K.lookup P15 = none)
    (a16 : PySem.W.nsIn K mainGlobals "_law_rule" = some (some (.ref f16))) (l16 : K.lookup f16 = some ⟨oc16, od16, .func (PySem.W.fnOf "_law_rule" "_law_rule" (defArgs s__law_rule) (defBody s__law_rule) (defScope s__law_rule) .none kV16 dc16 pm16 an16 (.ref cd16) ct16), sl16⟩) (k16 : PySem.W.codeIn K (.ref cd16) "_law_rule" = true) (p16 : PySem.W.keepIn K (.ref f16) = true) (t16 : K.lookup cd16 = some ⟨ec16, ed16, .fields vs16, es16⟩) (v16 : vs16[11]? = some (.ref P16)) (n16 : K.lookup P16 = none)
    (a17 : PySem.W.nsIn K mainGlobals "_law_rules" = some (some (.ref f17))) (l17 : K.lookup f17 = some ⟨oc17, od17, .func (PySem.W.fnOf "_law_rules" "_law_rules" (defArgs s__law_rules) (defBody s__law_rules) (defScope s__law_rules) .none kV17 dc17 pm17 an17 (.ref cd17) ct17), sl17⟩) (k17 : PySem.W.codeIn K (.ref cd17) "_law_rules" = true) (p17 : PySem.W.keepIn K (.ref f17) = true) (t17 : K.lookup cd17 = some ⟨ec17, ed17, .fields vs17, es17⟩) (v17 : vs17[11]? = some (.ref P17)) (n17 : K.lookup P17 = none)
    (a18 : PySem.W.nsIn K mainGlobals "_law_count" = some (some (.ref f18))) (l18 : K.lookup f18 = some ⟨oc18, od18, .func (PySem.W.fnOf "_law_count" "_law_count" (defArgs s__law_count) (defBody s__law_count) (defScope s__law_count) .none kV18 dc18 pm18 an18 (.ref cd18) ct18), sl18⟩) (k18 : PySem.W.codeIn K (.ref cd18) "_law_count" = true) (p18 : PySem.W.keepIn K (.ref f18) = true) (t18 : K.lookup cd18 = some ⟨ec18, ed18, .fields vs18, es18⟩) (v18 : vs18[11]? = some (.ref P18)) (n18 : K.lookup P18 = none)
    (a19 : PySem.W.nsIn K mainGlobals "_law_told" = some (some (.ref f19))) (l19 : K.lookup f19 = some ⟨oc19, od19, .func (PySem.W.fnOf "_law_told" "_law_told" (defArgs s__law_told) (defBody s__law_told) (defScope s__law_told) .none kV19 dc19 pm19 an19 (.ref cd19) ct19), sl19⟩) (k19 : PySem.W.codeIn K (.ref cd19) "_law_told" = true) (p19 : PySem.W.keepIn K (.ref f19) = true) (t19 : K.lookup cd19 = some ⟨ec19, ed19, .fields vs19, es19⟩) (v19 : vs19[11]? = some (.ref P19)) (n19 : K.lookup P19 = none)
    (a20 : PySem.W.nsIn K mainGlobals "_law_due" = some (some (.ref f20))) (l20 : K.lookup f20 = some ⟨oc20, od20, .func (PySem.W.fnOf "_law_due" "_law_due" (defArgs s__law_due) (defBody s__law_due) (defScope s__law_due) .none kV20 dc20 pm20 an20 (.ref cd20) ct20), sl20⟩) (k20 : PySem.W.codeIn K (.ref cd20) "_law_due" = true) (p20 : PySem.W.keepIn K (.ref f20) = true) (t20 : K.lookup cd20 = some ⟨ec20, ed20, .fields vs20, es20⟩) (v20 : vs20[11]? = some (.ref P20)) (n20 : K.lookup P20 = none)
    (a21 : PySem.W.nsIn K mainGlobals "law" = some (some (.ref f21))) (l21 : K.lookup f21 = some ⟨oc21, od21, .func (PySem.W.fnOf "law" "law" (defArgs s_law) (defBody s_law) (defScope s_law) .none kV21 dc21 pm21 an21 (.ref cd21) ct21), sl21⟩) (k21 : PySem.W.codeIn K (.ref cd21) "law" = true) (p21 : PySem.W.keepIn K (.ref f21) = true) (t21 : K.lookup cd21 = some ⟨ec21, ed21, .fields vs21, es21⟩) (v21 : vs21[11]? = some (.ref P21)) (n21 : K.lookup P21 = none)
    (z_abs : PySem.W.nsIn K mainGlobals "abs" = some none)
    (z_all : PySem.W.nsIn K mainGlobals "all" = some none)
    (z_bool : PySem.W.nsIn K mainGlobals "bool" = some none)
    (z_int : PySem.W.nsIn K mainGlobals "int" = some none)
    (z_isinstance : PySem.W.nsIn K mainGlobals "isinstance" = some none)
    (z_len : PySem.W.nsIn K mainGlobals "len" = some none)
    (z_list : PySem.W.nsIn K mainGlobals "list" = some none)
    (z_range : PySem.W.nsIn K mainGlobals "range" = some none)
    (z_str : PySem.W.nsIn K mainGlobals "str" = some none)
    (z_tuple : PySem.W.nsIn K mainGlobals "tuple" = some none)
    (y_comb : PySem.W.nsIn K mainGlobals "comb" = some (some (.builtin "math.comb")))
    {tk_MOST_CHARACTERS : Tok} (g_MOST_CHARACTERS : PySem.W.nsIn K mainGlobals "MOST_CHARACTERS" = some (some (.int 12 tk_MOST_CHARACTERS)))
    {tk_FIRST_CHARACTERS : Tok} (g_FIRST_CHARACTERS : PySem.W.nsIn K mainGlobals "FIRST_CHARACTERS" = some (some (.str "abcdefghijklmnopqrstuvwxyz" tk_FIRST_CHARACTERS)))
    {tk_CHARACTERS : Tok} (g_CHARACTERS : PySem.W.nsIn K mainGlobals "CHARACTERS" = some (some (.str "abcdefghijklmnopqrstuvwxyz0123456789" tk_CHARACTERS)))
    {tk_AFTER : Tok} (g_AFTER : PySem.W.nsIn K mainGlobals "AFTER" = some (some (.str "after" tk_AFTER)))
    {tk_BEFORE : Tok} (g_BEFORE : PySem.W.nsIn K mainGlobals "BEFORE" = some (some (.str "before" tk_BEFORE)))
    {tk_MOST_RULES : Tok} (g_MOST_RULES : PySem.W.nsIn K mainGlobals "MOST_RULES" = some (some (.int 20 tk_MOST_RULES)))
    (z_super : PySem.W.nsIn K mainGlobals "super" = some none) (z_top : (P.main.scope.names.lookup ("super" : Str)).isSome = false) (z_op : PySem.W.nsIn K cStatics "thirdparty.any" = some none)
    {xc_BadValue : Addr} (xa_BadValue : PySem.W.nsIn K mainGlobals "BadValue" = some (some (.ref xc_BadValue)))
    {xc_TooLarge : Addr} (xa_TooLarge : PySem.W.nsIn K mainGlobals "TooLarge" = some (some (.ref xc_TooLarge)))
    {xnm_BadValue xq_BadValue : Str} {xN_BadValue xfa_BadValue xcc_BadValue xcd_BadValue : Addr} {xbs_BadValue xbm_BadValue xsub_BadValue : List Value} {xsn_BadValue : List Str} {xab_BadValue : Bool} {xcol_BadValue : Option Bool} {xdd_BadValue xod_BadValue xan_BadValue xcld_BadValue xed_BadValue : Option Addr} {xk0_BadValue xk1_BadValue xk2_BadValue xk3_BadValue xk5_BadValue : Option Value} {xoc_BadValue xkV_BadValue xdoc_BadValue xpm_BadValue xct_BadValue xcl_BadValue xec_BadValue : Value} {xosl_BadValue xcsl_BadValue xesl_BadValue : Array (Option Value)} {xvs_BadValue : Array Value} {xfile_BadValue : Str} {xtf_BadValue : Tok}
    (xl_BadValue : K.lookup xc_BadValue = some (excClassObj xnm_BadValue xq_BadValue xc_BadValue xN_BadValue xbs_BadValue xbm_BadValue true xsn_BadValue xsub_BadValue xab_BadValue xcol_BadValue xdd_BadValue xk0_BadValue xk1_BadValue xk2_BadValue xk3_BadValue xk5_BadValue "ValueError.__new__")) (xr_BadValue : PySem.HandSPX.refsVE xbm_BadValue = true) (xs_BadValue : PySem.W.findIn K (.ref xc_BadValue) "__setattr__" = some (some (.builtin "object.__setattr__"))) (xe_BadValue : PySem.W.subIn K (.ref xc_BadValue) (.type "BaseException") = some true) (xt_BadValue : PySem.W.typeIn K (.ref xc_BadValue) = some (.type "type")) (xk_BadValue : PySem.W.keepIn K (.ref xc_BadValue) = true)
    (xu_BadValue : PySem.W.ks_superIn K xc_BadValue xc_BadValue "__init__" = some (some (.builtin "ValueError.__init__"))) (xv_BadValue : PySem.W.subIn K (.ref xc_BadValue) (.type "ValueError") = some true) (xi_BadValue : PySem.W.findIn K (.ref xc_BadValue) "__init__" = some (some (.ref xfa_BadValue))) (xy_BadValue : PySem.W.typeIn K (.ref xfa_BadValue) = some (.type "function"))
    (xn_BadValue_name : PySem.W.findIn K (.ref xc_BadValue) "name" = some none)
    (xg_BadValue : K.lookup xfa_BadValue = some ⟨xoc_BadValue, xod_BadValue, .func (PySem.W.fnX "__init__" "BadValue.__init__" (defArgs i_BadValue) (defBody i_BadValue) (defScope i_BadValue) [("__class__", xcc_BadValue)] .none xkV_BadValue xdoc_BadValue xpm_BadValue xan_BadValue (.ref xcd_BadValue) xct_BadValue), xosl_BadValue⟩) (xh_BadValue : PySem.W.codeIn K (.ref xcd_BadValue) "BadValue.__init__" = true) (xj_BadValue : K.lookup xcc_BadValue = some ⟨xcl_BadValue, xcld_BadValue, .cell (some (.ref xc_BadValue)), xcsl_BadValue⟩) (xm_BadValue : K.lookup xcd_BadValue = some ⟨xec_BadValue, xed_BadValue, .fields xvs_BadValue, xesl_BadValue⟩) (xp_BadValue : xvs_BadValue[2]? = some (.str xfile_BadValue xtf_BadValue)) (xz_BadValue : ((P.main.file : Str) == xfile_BadValue) = true)
    (xga_BadValue : PySem.W.findIn K (.ref xc_BadValue) "__getattribute__" = some (some (.builtin "BaseException.__getattribute__"))) (xgg_BadValue : PySem.W.findIn K (.ref xc_BadValue) "__getattr__" = some none) (xhd_BadValue : PySem.W.hasDictIn K xc_BadValue = true)
    {xnm_TooLarge xq_TooLarge : Str} {xN_TooLarge xfa_TooLarge xcc_TooLarge xcd_TooLarge : Addr} {xbs_TooLarge xbm_TooLarge xsub_TooLarge : List Value} {xsn_TooLarge : List Str} {xab_TooLarge : Bool} {xcol_TooLarge : Option Bool} {xdd_TooLarge xod_TooLarge xan_TooLarge xcld_TooLarge xed_TooLarge : Option Addr} {xk0_TooLarge xk1_TooLarge xk2_TooLarge xk3_TooLarge xk5_TooLarge : Option Value} {xoc_TooLarge xkV_TooLarge xdoc_TooLarge xpm_TooLarge xct_TooLarge xcl_TooLarge xec_TooLarge : Value} {xosl_TooLarge xcsl_TooLarge xesl_TooLarge : Array (Option Value)} {xvs_TooLarge : Array Value} {xfile_TooLarge : Str} {xtf_TooLarge : Tok}
    (xl_TooLarge : K.lookup xc_TooLarge = some (excClassObj xnm_TooLarge xq_TooLarge xc_TooLarge xN_TooLarge xbs_TooLarge xbm_TooLarge true xsn_TooLarge xsub_TooLarge xab_TooLarge xcol_TooLarge xdd_TooLarge xk0_TooLarge xk1_TooLarge xk2_TooLarge xk3_TooLarge xk5_TooLarge "ValueError.__new__")) (xr_TooLarge : PySem.HandSPX.refsVE xbm_TooLarge = true) (xs_TooLarge : PySem.W.findIn K (.ref xc_TooLarge) "__setattr__" = some (some (.builtin "object.__setattr__"))) (xe_TooLarge : PySem.W.subIn K (.ref xc_TooLarge) (.type "BaseException") = some true) (xt_TooLarge : PySem.W.typeIn K (.ref xc_TooLarge) = some (.type "type")) (xk_TooLarge : PySem.W.keepIn K (.ref xc_TooLarge) = true)
    (xu_TooLarge : PySem.W.ks_superIn K xc_TooLarge xc_TooLarge "__init__" = some (some (.builtin "ValueError.__init__"))) (xv_TooLarge : PySem.W.subIn K (.ref xc_TooLarge) (.type "ValueError") = some true) (xi_TooLarge : PySem.W.findIn K (.ref xc_TooLarge) "__init__" = some (some (.ref xfa_TooLarge))) (xy_TooLarge : PySem.W.typeIn K (.ref xfa_TooLarge) = some (.type "function"))
    (xn_TooLarge_what : PySem.W.findIn K (.ref xc_TooLarge) "what" = some none)
    (xg_TooLarge : K.lookup xfa_TooLarge = some ⟨xoc_TooLarge, xod_TooLarge, .func (PySem.W.fnX "__init__" "TooLarge.__init__" (defArgs i_TooLarge) (defBody i_TooLarge) (defScope i_TooLarge) [("__class__", xcc_TooLarge)] .none xkV_TooLarge xdoc_TooLarge xpm_TooLarge xan_TooLarge (.ref xcd_TooLarge) xct_TooLarge), xosl_TooLarge⟩) (xh_TooLarge : PySem.W.codeIn K (.ref xcd_TooLarge) "TooLarge.__init__" = true) (xj_TooLarge : K.lookup xcc_TooLarge = some ⟨xcl_TooLarge, xcld_TooLarge, .cell (some (.ref xc_TooLarge)), xcsl_TooLarge⟩) (xm_TooLarge : K.lookup xcd_TooLarge = some ⟨xec_TooLarge, xed_TooLarge, .fields xvs_TooLarge, xesl_TooLarge⟩) (xp_TooLarge : xvs_TooLarge[2]? = some (.str xfile_TooLarge xtf_TooLarge)) (xz_TooLarge : ((P.main.file : Str) == xfile_TooLarge) = true)
    (xga_TooLarge : PySem.W.findIn K (.ref xc_TooLarge) "__getattribute__" = some (some (.builtin "BaseException.__getattribute__"))) (xgg_TooLarge : PySem.W.findIn K (.ref xc_TooLarge) "__getattr__" = some none) (xhd_TooLarge : PySem.W.hasDictIn K xc_TooLarge = true)
    (xx_BadValue_BadValue : PySem.W.exmOne K (.ref xc_BadValue) (.ref xc_BadValue) = some true)
    (xx_BadValue_TooLarge : PySem.W.exmOne K (.ref xc_BadValue) (.ref xc_TooLarge) = some false)
    (xx_TooLarge_BadValue : PySem.W.exmOne K (.ref xc_TooLarge) (.ref xc_BadValue) = some false)
    (xx_TooLarge_TooLarge : PySem.W.exmOne K (.ref xc_TooLarge) (.ref xc_TooLarge) = some true)
    : LamX.LawAtS PySem.Challenge.rw_fewestrules_k74_marks_and_interleavings w K CX0 16 63 "script" mg fa h := by
  have e := hfa.symm.trans (PySem.W.mg_of X G a21)
  cases e
  have F0 : FunC K "is_integer" "is_integer" s_is_integer cd0 _ _ := ⟨⟨_, _, _, _, _, _, _, _, rfl, l0, k0⟩, p0⟩
  have W0 := TF "is_integer" (by decide +kernel) _ _ _ _ _ _ _ _ _ _ _ (PySem.W.mg_of X G a0) l0 rfl t0 v0
  have F1 : FunC K "is_integer_within" "is_integer_within" s_is_integer_within cd1 _ _ := ⟨⟨_, _, _, _, _, _, _, _, rfl, l1, k1⟩, p1⟩
  have W1 := TF "is_integer_within" (by decide +kernel) _ _ _ _ _ _ _ _ _ _ _ (PySem.W.mg_of X G a1) l1 rfl t1 v1
  have F2 : FunC K "is_strength" "is_strength" s_is_strength cd2 _ _ := ⟨⟨_, _, _, _, _, _, _, _, rfl, l2, k2⟩, p2⟩
  have W2 := TF "is_strength" (by decide +kernel) _ _ _ _ _ _ _ _ _ _ _ (PySem.W.mg_of X G a2) l2 rfl t2 v2
  have F3 : FunC K "is_letter" "is_letter" s_is_letter cd3 _ _ := ⟨⟨_, _, _, _, _, _, _, _, rfl, l3, k3⟩, p3⟩
  have W3 := TF "is_letter" (by decide +kernel) _ _ _ _ _ _ _ _ _ _ _ (PySem.W.mg_of X G a3) l3 rfl t3 v3
  have F4 : FunC K "is_rule" "is_rule" s_is_rule cd4 _ _ := ⟨⟨_, _, _, _, _, _, _, _, rfl, l4, k4⟩, p4⟩
  have W4 := TF "is_rule" (by decide +kernel) _ _ _ _ _ _ _ _ _ _ _ (PySem.W.mg_of X G a4) l4 rfl t4 v4
  have F5 : FunC K "is_rule_list" "is_rule_list" s_is_rule_list cd5 _ _ := ⟨⟨_, _, _, _, _, _, _, _, rfl, l5, k5⟩, p5⟩
  have W5 := TF "is_rule_list" (by decide +kernel) _ _ _ _ _ _ _ _ _ _ _ (PySem.W.mg_of X G a5) l5 rfl t5 v5
  have F6 : FunC K "check_rules" "check_rules" s_check_rules cd6 _ _ := ⟨⟨_, _, _, _, _, _, _, _, rfl, l6, k6⟩, p6⟩
  have W6 := TF "check_rules" (by decide +kernel) _ _ _ _ _ _ _ _ _ _ _ (PySem.W.mg_of X G a6) l6 rfl t6 v6
  have F7 : FunC K "check_one_and_other" "check_one_and_other" s_check_one_and_other cd7 _ _ := ⟨⟨_, _, _, _, _, _, _, _, rfl, l7, k7⟩, p7⟩
  have W7 := TF "check_one_and_other" (by decide +kernel) _ _ _ _ _ _ _ _ _ _ _ (PySem.W.mg_of X G a7) l7 rfl t7 v7
  have F8 : FunC K "are_marks" "are_marks" s_are_marks cd8 _ _ := ⟨⟨_, _, _, _, _, _, _, _, rfl, l8, k8⟩, p8⟩
  have W8 := TF "are_marks" (by decide +kernel) _ _ _ _ _ _ _ _ _ _ _ (PySem.W.mg_of X G a8) l8 rfl t8 v8
  have F9 : FunC K "within_bound" "within_bound" s_within_bound cd9 _ _ := ⟨⟨_, _, _, _, _, _, _, _, rfl, l9, k9⟩, p9⟩
  have W9 := TF "within_bound" (by decide +kernel) _ _ _ _ _ _ _ _ _ _ _ (PySem.W.mg_of X G a9) l9 rfl t9 v9
  have F10 : FunC K "count_interleavings" "count_interleavings" s_count_interleavings cd10 _ _ := ⟨⟨_, _, _, _, _, _, _, _, rfl, l10, k10⟩, p10⟩
  have W10 := TF "count_interleavings" (by decide +kernel) _ _ _ _ _ _ _ _ _ _ _ (PySem.W.mg_of X G a10) l10 rfl t10 v10
  have F11 : FunC K "interleaved" "interleaved" s_interleaved cd11 _ _ := ⟨⟨_, _, _, _, _, _, _, _, rfl, l11, k11⟩, p11⟩
  have W11 := TF "interleaved" (by decide +kernel) _ _ _ _ _ _ _ _ _ _ _ (PySem.W.mg_of X G a11) l11 rfl t11 v11
  have F12 : FunC K "_law_stream" "_law_stream" s__law_stream cd12 _ _ := ⟨⟨_, _, _, _, _, _, _, _, rfl, l12, k12⟩, p12⟩
  have W12 := TF "_law_stream" (by decide +kernel) _ _ _ _ _ _ _ _ _ _ _ (PySem.W.mg_of X G a12) l12 rfl t12 v12
  have F13 : FunC K "_law_next" "_law_next" s__law_next cd13 _ _ := ⟨⟨_, _, _, _, _, _, _, _, rfl, l13, k13⟩, p13⟩
  have W13 := TF "_law_next" (by decide +kernel) _ _ _ _ _ _ _ _ _ _ _ (PySem.W.mg_of X G a13) l13 rfl t13 v13
  have F14 : FunC K "_law_is_integer" "_law_is_integer" s__law_is_integer cd14 _ _ := ⟨⟨_, _, _, _, _, _, _, _, rfl, l14, k14⟩, p14⟩
  have W14 := TF "_law_is_integer" (by decide +kernel) _ _ _ _ _ _ _ _ _ _ _ (PySem.W.mg_of X G a14) l14 rfl t14 v14
  have F15 : FunC K "_law_equal" "_law_equal" s__law_equal cd15 _ _ := ⟨⟨_, _, _, _, _, _, _, _, rfl, l15, k15⟩, p15⟩
  have W15 := TF "_law_equal" (by decide +kernel) _ _ _ _ _ _ _ _ _ _ _ (PySem.W.mg_of X G a15) l15 rfl t15 v15
  have F16 : FunC K "_law_rule" "_law_rule" s__law_rule cd16 _ _ := ⟨⟨_, _, _, _, _, _, _, _, rfl, l16, k16⟩, p16⟩
  have W16 := TF "_law_rule" (by decide +kernel) _ _ _ _ _ _ _ _ _ _ _ (PySem.W.mg_of X G a16) l16 rfl t16 v16
  have F17 : FunC K "_law_rules" "_law_rules" s__law_rules cd17 _ _ := ⟨⟨_, _, _, _, _, _, _, _, rfl, l17, k17⟩, p17⟩
  have W17 := TF "_law_rules" (by decide +kernel) _ _ _ _ _ _ _ _ _ _ _ (PySem.W.mg_of X G a17) l17 rfl t17 v17
  have F18 : FunC K "_law_count" "_law_count" s__law_count cd18 _ _ := ⟨⟨_, _, _, _, _, _, _, _, rfl, l18, k18⟩, p18⟩
  have W18 := TF "_law_count" (by decide +kernel) _ _ _ _ _ _ _ _ _ _ _ (PySem.W.mg_of X G a18) l18 rfl t18 v18
  have F19 : FunC K "_law_told" "_law_told" s__law_told cd19 _ _ := ⟨⟨_, _, _, _, _, _, _, _, rfl, l19, k19⟩, p19⟩
  have W19 := TF "_law_told" (by decide +kernel) _ _ _ _ _ _ _ _ _ _ _ (PySem.W.mg_of X G a19) l19 rfl t19 v19
  have F20 : FunC K "_law_due" "_law_due" s__law_due cd20 _ _ := ⟨⟨_, _, _, _, _, _, _, _, rfl, l20, k20⟩, p20⟩
  have W20 := TF "_law_due" (by decide +kernel) _ _ _ _ _ _ _ _ _ _ _ (PySem.W.mg_of X G a20) l20 rfl t20 v20
  have F21 : FunC K "law" "law" s_law cd21 _ _ := ⟨⟨_, _, _, _, _, _, _, _, rfl, l21, k21⟩, p21⟩
  have W21 := TF "law" (by decide +kernel) _ _ _ _ _ _ _ _ _ _ _ (PySem.W.mg_of X G a21) l21 rfl t21 v21
  have dis : ∀ P q, P ∈ ([P0, P1, P2, P3, P4, P5, P6, P7, P8, P9, P10, P11, P12, P13, P14, P15, P16, P17, P18, P19, P20, P21] : List Addr) → (P, q) ∈ ([] : List (Addr × Str)) → False := by
    intro P q h1 h2
    simp only [List.mem_cons, List.not_mem_nil, or_false, Prod.mk.injEq] at h1 h2
  have inj : ∀ P q q', (P, q) ∈ ([] : List (Addr × Str)) → (P, q') ∈ ([] : List (Addr × Str)) → q = q' := by
    intro P q q' h1 h2
    simp only [List.mem_cons, List.not_mem_nil, or_false, Prod.mk.injEq] at h1 h2
  refine ⟨PySem.W.fnOf "law" "law" (defArgs s_law) (defBody s_law) (defScope s_law) .none kV21 dc21 pm21 an21 (.ref cd21) ct21, [(cd0, P0), (cd1, P1), (cd2, P2), (cd3, P3), (cd4, P4), (cd5, P5), (cd6, P6), (cd7, P7), (cd8, P8), (cd9, P9), (cd10, P10), (cd11, P11), (cd12, P12), (cd13, P13), (cd14, P14), (cd15, P15), (cd16, P16), (cd17, P17), (cd18, P18), (cd19, P19), (cd20, P20), (cd21, P21)], spLaw K ⟨[P0, P1, P2, P3, P4, P5, P6, P7, P8, P9, P10, P11, P12, P13, P14, P15, P16, P17, P18, P19, P20, P21], [], dis, inj⟩, ?_, ?_, ?_, fun s v => .of_eq rfl, ?_, ?_⟩
  · simp only [List.forall_mem_cons, List.not_mem_nil, false_imp_iff, implies_true, and_true]
    exact ⟨W0.2, W1.2, W2.2, W3.2, W4.2, W5.2, W6.2, W7.2, W8.2, W9.2, W10.2, W11.2, W12.2, W13.2, W14.2, W15.2, W16.2, W17.2, W18.2, W19.2, W20.2, W21.2⟩
  · simp only [List.forall_mem_cons, List.not_mem_nil, false_imp_iff, implies_true, and_true]
    exact ⟨n0, n1, n2, n3, n4, n5, n6, n7, n8, n9, n10, n11, n12, n13, n14, n15, n16, n17, n18, n19, n20, n21⟩
  · simp only [List.forall_mem_cons, List.not_mem_nil, false_imp_iff, implies_true, and_true]
    exact ⟨W0.1, W1.1, W2.1, W3.1, W4.1, W5.1, W6.1, W7.1, W8.1, W9.1, W10.1, W11.1, W12.1, W13.1, W14.1, W15.1, W16.1, W17.1, W18.1, W19.1, W20.1, W21.1⟩
  · intro H a ns hl hbits hT hS
    refine ⟨a, ns, rfl, hS, fun P hP => ?_, fun p hp => ?_, fun _ => rfl⟩
    · have hP : P ∈ ([P0, P1, P2, P3, P4, P5, P6, P7, P8, P9, P10, P11, P12, P13, P14, P15, P16, P17, P18, P19, P20, P21] : List Addr) := hP
      have hP : P ∈ ([(cd0, P0), (cd1, P1), (cd2, P2), (cd3, P3), (cd4, P4), (cd5, P5), (cd6, P6), (cd7, P7), (cd8, P8), (cd9, P9), (cd10, P10), (cd11, P11), (cd12, P12), (cd13, P13), (cd14, P14), (cd15, P15), (cd16, P16), (cd17, P17), (cd18, P18), (cd19, P19), (cd20, P20), (cd21, P21)] : List (Addr × Addr)).map (·.2) := by
        simp only [List.map_cons, List.map_nil, List.mem_cons, List.not_mem_nil, or_false] at hP ⊢
        rcases hP with hP | hP | hP | hP | hP | hP | hP | hP | hP | hP | hP | hP | hP | hP | hP | hP | hP | hP | hP | hP | hP | hP <;> simp [hP]
      obtain ⟨p, hp, e⟩ := List.mem_map.mp hP
      exact ⟨#[], by rw [← e]; exact hT p hp, True.intro⟩
    · have hp : p ∈ ([] : List (Addr × Str)) := hp
      cases hp
  · intro base KB GB hTB
    have tb : ∀ p ∈ ([(cd0, P0), (cd1, P1), (cd2, P2), (cd3, P3), (cd4, P4), (cd5, P5), (cd6, P6), (cd7, P7), (cd8, P8), (cd9, P9), (cd10, P10), (cd11, P11), (cd12, P12), (cd13, P13), (cd14, P14), (cd15, P15), (cd16, P16), (cd17, P17), (cd18, P18), (cd19, P19), (cd20, P20), (cd21, P21)] : List (Addr × Addr)), GxR.TabB base mg p.1 p.2 := fun p hp => by
      obtain ⟨q1, q2, q3⟩ := hTB p hp
      exact ⟨q1, q2, q3⟩
    simp only [List.forall_mem_cons, List.not_mem_nil, false_imp_iff, implies_true, and_true] at tb
    obtain ⟨b0, b1, b2, b3, b4, b5, b6, b7, b8, b9, b10, b11, b12, b13, b14, b15, b16, b17, b18, b19, b20, b21⟩ := tb
    have xf_BadValue : xFields "BadValue" = (["name"] : List Str) := by decide
    have C_BadValue : ClsT P K mg "BadValue" i_BadValue xc_BadValue xfa_BadValue xcc_BadValue xcd_BadValue _ := ⟨PySem.W.mg_of X G xa_BadValue, ⟨⟨_, _, _, _, _, _, _, _, _, _, _, _, _, _, _, xl_BadValue, xr_BadValue⟩, xs_BadValue, xe_BadValue, xt_BadValue, xk_BadValue⟩, ⟨z_op, xu_BadValue, xv_BadValue⟩, xi_BadValue, xy_BadValue, (by rw [xf_BadValue]; simp only [List.forall_mem_cons, List.not_mem_nil, false_imp_iff, implies_true, and_true]; exact xn_BadValue_name), ⟨_, _, _, _, _, _, _, _, _, rfl, xg_BadValue⟩, (show Binds K _ ["self", "name"] [] from Binds.all (fun us hl => match us, hl with | [_, _], _ => rfl)), xh_BadValue, ⟨_, _, _, xj_BadValue⟩, ⟨_, _, _, _, _, _, xm_BadValue, xp_BadValue, xz_BadValue⟩, z_top, PySem.W.mg_none_of X G z_super, NdefX.nscope_by (by decide +kernel), rfl, rfl, rfl, rfl⟩
    have xf_TooLarge : xFields "TooLarge" = (["what"] : List Str) := by decide
    have C_TooLarge : ClsT P K mg "TooLarge" i_TooLarge xc_TooLarge xfa_TooLarge xcc_TooLarge xcd_TooLarge _ := ⟨PySem.W.mg_of X G xa_TooLarge, ⟨⟨_, _, _, _, _, _, _, _, _, _, _, _, _, _, _, xl_TooLarge, xr_TooLarge⟩, xs_TooLarge, xe_TooLarge, xt_TooLarge, xk_TooLarge⟩, ⟨z_op, xu_TooLarge, xv_TooLarge⟩, xi_TooLarge, xy_TooLarge, (by rw [xf_TooLarge]; simp only [List.forall_mem_cons, List.not_mem_nil, false_imp_iff, implies_true, and_true]; exact xn_TooLarge_what), ⟨_, _, _, _, _, _, _, _, _, rfl, xg_TooLarge⟩, (show Binds K _ ["self", "what"] [] from Binds.all (fun us hl => match us, hl with | [_, _], _ => rfl)), xh_TooLarge, ⟨_, _, _, xj_TooLarge⟩, ⟨_, _, _, _, _, _, xm_TooLarge, xp_TooLarge, xz_TooLarge⟩, z_top, PySem.W.mg_none_of X G z_super, NdefX.nscope_by (by decide +kernel), rfl, rfl, rfl, rfl⟩
    have TT : Txt K mg base ⟨[P0, P1, P2, P3, P4, P5, P6, P7, P8, P9, P10, P11, P12, P13, P14, P15, P16, P17, P18, P19, P20, P21], [], dis, inj⟩ := ⟨PySem.W.mg_none_of X G z_abs,
      PySem.W.mg_none_of X G z_all,
      PySem.W.mg_none_of X G z_bool,
      PySem.W.mg_none_of X G z_int,
      PySem.W.mg_none_of X G z_isinstance,
      PySem.W.mg_none_of X G z_len,
      PySem.W.mg_none_of X G z_list,
      PySem.W.mg_none_of X G z_range,
      PySem.W.mg_none_of X G z_str,
      PySem.W.mg_none_of X G z_tuple,
      PySem.W.mg_of X G y_comb,
      ⟨_, PySem.W.mg_of X G g_MOST_CHARACTERS⟩,
      ⟨_, PySem.W.mg_of X G g_FIRST_CHARACTERS⟩,
      ⟨_, PySem.W.mg_of X G g_CHARACTERS⟩,
      ⟨_, PySem.W.mg_of X G g_AFTER⟩,
      ⟨_, PySem.W.mg_of X G g_BEFORE⟩,
      ⟨_, PySem.W.mg_of X G g_MOST_RULES⟩,
      fun w => cls_BadValue C_BadValue,
      fun w => cls_TooLarge C_TooLarge,
      ⟨_, PySem.W.mg_of X G xa_BadValue, (by unfold XmOk; simp only [List.forall_mem_cons, List.not_mem_nil, false_imp_iff, implies_true, and_true]; exact ⟨(fun a h => by rw [PySem.W.mg_of X G xa_BadValue] at h; cases h; rw [xx_BadValue_BadValue]; decide), (fun a h => by rw [PySem.W.mg_of X G xa_TooLarge] at h; cases h; rw [xx_TooLarge_BadValue]; decide)⟩)⟩,
      ⟨_, PySem.W.mg_of X G xa_TooLarge, (by unfold XmOk; simp only [List.forall_mem_cons, List.not_mem_nil, false_imp_iff, implies_true, and_true]; exact ⟨(fun a h => by rw [PySem.W.mg_of X G xa_BadValue] at h; cases h; rw [xx_BadValue_TooLarge]; decide), (fun a h => by rw [PySem.W.mg_of X G xa_TooLarge] at h; cases h; rw [xx_TooLarge_TooLarge]; decide)⟩)⟩,
      (by unfold XsT; simp only [List.forall_mem_cons, List.not_mem_nil, false_imp_iff, implies_true, and_true]; exact ⟨(fun a h => by rw [PySem.W.mg_of X G xa_BadValue] at h; cases h; exact ⟨⟨xga_BadValue, xgg_BadValue, xe_BadValue, xhd_BadValue⟩, C_BadValue.no⟩), (fun a h => by rw [PySem.W.mg_of X G xa_TooLarge] at h; cases h; exact ⟨⟨xga_TooLarge, xgg_TooLarge, xe_TooLarge, xhd_TooLarge⟩, C_TooLarge.no⟩)⟩),
      ⟨cd0, P0, _, _, F0, PySem.W.mg_of X G a0, F0.to.binds (ps := ["value"]) (fun _ _ _ _ _ _ us hl => match us, hl with | [_], _ => rfl), b0, (show P0 ∈ ([P0, P1, P2, P3, P4, P5, P6, P7, P8, P9, P10, P11, P12, P13, P14, P15, P16, P17, P18, P19, P20, P21] : List Addr) by simp)⟩,
      ⟨cd1, P1, _, _, F1, PySem.W.mg_of X G a1, F1.to.binds (ps := ["value", "least", "most"]) (fun _ _ _ _ _ _ us hl => match us, hl with | [_, _, _], _ => rfl), b1, (show P1 ∈ ([P0, P1, P2, P3, P4, P5, P6, P7, P8, P9, P10, P11, P12, P13, P14, P15, P16, P17, P18, P19, P20, P21] : List Addr) by simp)⟩,
      ⟨cd2, P2, _, _, F2, PySem.W.mg_of X G a2, F2.to.binds (ps := ["value"]) (fun _ _ _ _ _ _ us hl => match us, hl with | [_], _ => rfl), b2, (show P2 ∈ ([P0, P1, P2, P3, P4, P5, P6, P7, P8, P9, P10, P11, P12, P13, P14, P15, P16, P17, P18, P19, P20, P21] : List Addr) by simp)⟩,
      ⟨cd3, P3, _, _, F3, PySem.W.mg_of X G a3, F3.to.binds (ps := ["value"]) (fun _ _ _ _ _ _ us hl => match us, hl with | [_], _ => rfl), b3, (show P3 ∈ ([P0, P1, P2, P3, P4, P5, P6, P7, P8, P9, P10, P11, P12, P13, P14, P15, P16, P17, P18, P19, P20, P21] : List Addr) by simp)⟩,
      ⟨cd4, P4, _, _, F4, PySem.W.mg_of X G a4, F4.to.binds (ps := ["value"]) (fun _ _ _ _ _ _ us hl => match us, hl with | [_], _ => rfl), b4, (show P4 ∈ ([P0, P1, P2, P3, P4, P5, P6, P7, P8, P9, P10, P11, P12, P13, P14, P15, P16, P17, P18, P19, P20, P21] : List Addr) by simp)⟩,
      ⟨cd5, P5, _, _, F5, PySem.W.mg_of X G a5, F5.to.binds (ps := ["value"]) (fun _ _ _ _ _ _ us hl => match us, hl with | [_], _ => rfl), b5, (show P5 ∈ ([P0, P1, P2, P3, P4, P5, P6, P7, P8, P9, P10, P11, P12, P13, P14, P15, P16, P17, P18, P19, P20, P21] : List Addr) by simp)⟩,
      ⟨cd6, P6, _, _, F6, PySem.W.mg_of X G a6, F6.to.binds (ps := ["value", "name"]) (fun _ _ _ _ _ _ us hl => match us, hl with | [_, _], _ => rfl), b6, (show P6 ∈ ([P0, P1, P2, P3, P4, P5, P6, P7, P8, P9, P10, P11, P12, P13, P14, P15, P16, P17, P18, P19, P20, P21] : List Addr) by simp)⟩,
      ⟨cd7, P7, _, _, F7, PySem.W.mg_of X G a7, F7.to.binds (ps := ["one", "other"]) (fun _ _ _ _ _ _ us hl => match us, hl with | [_, _], _ => rfl), b7, (show P7 ∈ ([P0, P1, P2, P3, P4, P5, P6, P7, P8, P9, P10, P11, P12, P13, P14, P15, P16, P17, P18, P19, P20, P21] : List Addr) by simp)⟩,
      ⟨cd8, P8, _, _, F8, PySem.W.mg_of X G a8, F8.to.binds (ps := ["one", "other", "value"]) (fun _ _ _ _ _ _ us hl => match us, hl with | [_, _, _], _ => rfl), b8, (show P8 ∈ ([P0, P1, P2, P3, P4, P5, P6, P7, P8, P9, P10, P11, P12, P13, P14, P15, P16, P17, P18, P19, P20, P21] : List Addr) by simp)⟩,
      ⟨cd9, P9, _, _, F9, PySem.W.mg_of X G a9, F9.to.binds (ps := ["rules"]) (fun _ _ _ _ _ _ us hl => match us, hl with | [_], _ => rfl), b9, (show P9 ∈ ([P0, P1, P2, P3, P4, P5, P6, P7, P8, P9, P10, P11, P12, P13, P14, P15, P16, P17, P18, P19, P20, P21] : List Addr) by simp)⟩,
      ⟨cd10, P10, _, _, F10, PySem.W.mg_of X G a10, F10.to.binds (ps := ["one", "other"]) (fun _ _ _ _ _ _ us hl => match us, hl with | [_, _], _ => rfl), b10, (show P10 ∈ ([P0, P1, P2, P3, P4, P5, P6, P7, P8, P9, P10, P11, P12, P13, P14, P15, P16, P17, P18, P19, P20, P21] : List Addr) by simp)⟩,
      ⟨cd11, P11, _, _, F11, PySem.W.mg_of X G a11, F11.to.binds (ps := ["one", "other", "marks"]) (fun _ _ _ _ _ _ us hl => match us, hl with | [_, _, _], _ => rfl), b11, (show P11 ∈ ([P0, P1, P2, P3, P4, P5, P6, P7, P8, P9, P10, P11, P12, P13, P14, P15, P16, P17, P18, P19, P20, P21] : List Addr) by simp)⟩,
      ⟨cd12, P12, _, _, F12, PySem.W.mg_of X G a12, F12.to.binds (ps := ["script"]) (fun _ _ _ _ _ _ us hl => match us, hl with | [_], _ => rfl), b12, (show P12 ∈ ([P0, P1, P2, P3, P4, P5, P6, P7, P8, P9, P10, P11, P12, P13, P14, P15, P16, P17, P18, P19, P20, P21] : List Addr) by simp)⟩,
      ⟨cd13, P13, _, _, F13, PySem.W.mg_of X G a13, F13.to.binds (ps := ["stream", "many"]) (fun _ _ _ _ _ _ us hl => match us, hl with | [_, _], _ => rfl), b13, (show P13 ∈ ([P0, P1, P2, P3, P4, P5, P6, P7, P8, P9, P10, P11, P12, P13, P14, P15, P16, P17, P18, P19, P20, P21] : List Addr) by simp)⟩,
      ⟨cd14, P14, _, _, F14, PySem.W.mg_of X G a14, F14.to.binds (ps := ["actual"]) (fun _ _ _ _ _ _ us hl => match us, hl with | [_], _ => rfl), b14, (show P14 ∈ ([P0, P1, P2, P3, P4, P5, P6, P7, P8, P9, P10, P11, P12, P13, P14, P15, P16, P17, P18, P19, P20, P21] : List Addr) by simp)⟩,
      ⟨cd15, P15, _, _, F15, PySem.W.mg_of X G a15, F15.to.binds (ps := ["actual", "due"]) (fun _ _ _ _ _ _ us hl => match us, hl with | [_, _], _ => rfl), b15, (show P15 ∈ ([P0, P1, P2, P3, P4, P5, P6, P7, P8, P9, P10, P11, P12, P13, P14, P15, P16, P17, P18, P19, P20, P21] : List Addr) by simp)⟩,
      ⟨cd16, P16, _, _, F16, PySem.W.mg_of X G a16, F16.to.binds (ps := ["stream", "pool", "out"]) (fun _ _ _ _ _ _ us hl => match us, hl with | [_, _, _], _ => rfl), b16, (show P16 ∈ ([P0, P1, P2, P3, P4, P5, P6, P7, P8, P9, P10, P11, P12, P13, P14, P15, P16, P17, P18, P19, P20, P21] : List Addr) by simp)⟩,
      ⟨cd17, P17, _, _, F17, PySem.W.mg_of X G a17, F17.to.binds (ps := ["stream", "pool", "out", "most"]) (fun _ _ _ _ _ _ us hl => match us, hl with | [_, _, _, _], _ => rfl), b17, (show P17 ∈ ([P0, P1, P2, P3, P4, P5, P6, P7, P8, P9, P10, P11, P12, P13, P14, P15, P16, P17, P18, P19, P20, P21] : List Addr) by simp)⟩,
      ⟨cd18, P18, _, _, F18, PySem.W.mg_of X G a18, F18.to.binds (ps := ["many", "more"]) (fun _ _ _ _ _ _ us hl => match us, hl with | [_, _], _ => rfl), b18, (show P18 ∈ ([P0, P1, P2, P3, P4, P5, P6, P7, P8, P9, P10, P11, P12, P13, P14, P15, P16, P17, P18, P19, P20, P21] : List Addr) by simp)⟩,
      ⟨cd19, P19, _, _, F19, PySem.W.mg_of X G a19, F19.to.binds (ps := ["one", "other", "marks"]) (fun _ _ _ _ _ _ us hl => match us, hl with | [_, _, _], _ => rfl), b19, (show P19 ∈ ([P0, P1, P2, P3, P4, P5, P6, P7, P8, P9, P10, P11, P12, P13, P14, P15, P16, P17, P18, P19, P20, P21] : List Addr) by simp)⟩,
      ⟨cd20, P20, _, _, F20, PySem.W.mg_of X G a20, F20.to.binds (ps := ["one", "other", "marks"]) (fun _ _ _ _ _ _ us hl => match us, hl with | [_, _, _], _ => rfl), b20, (show P20 ∈ ([P0, P1, P2, P3, P4, P5, P6, P7, P8, P9, P10, P11, P12, P13, P14, P15, P16, P17, P18, P19, P20, P21] : List Addr) by simp)⟩⟩
    exact ok_law TT F21
end My
open PySem PySem.W PyProof.Rows in
set_option maxRecDepth 100000 in
set_option maxHeartbeats 0 in
theorem PySem.Challenge.cw_fewestrules_k74_marks_and_interleavings_holds : PySem.Challenge.rw_fewestrules_k74_marks_and_interleavings.Holds := by
  w_on; o_law; k_head; (case hw => w_witness2)
  k_fill
  refine Dm.walk_ofD (l := PySem.Challenge.rw_fewestrules_k74_marks_and_interleavings) (n := 63) (k := 16) (x := "script") ["is_integer", "is_integer_within", "is_strength", "is_letter", "is_rule", "is_rule_list", "check_rules", "check_one_and_other", "are_marks", "within_bound", "count_interleavings", "interleaved", "_law_stream", "_law_next", "_law_is_integer", "_law_equal", "_law_rule", "_law_rules", "_law_count", "_law_told", "_law_due", "law"] rfl (by decide) rfl ⟨rfl, by decide, by decide⟩ (by decide +kernel) (fun w h Y => PySem.W.kIn_of Y) ?F
  case F =>
    intro w mg fa h KX G hmg TF
    refine' My.all_mk KX G hmg TF ?a0 ?l0 ?k0 ?p0 ?t0 ?v0 ?n0 ?a1 ?l1 ?k1 ?p1 ?t1 ?v1 ?n1 ?a2 ?l2 ?k2 ?p2 ?t2 ?v2 ?n2 ?a3 ?l3 ?k3 ?p3 ?t3 ?v3 ?n3 ?a4 ?l4 ?k4 ?p4 ?t4 ?v4 ?n4 ?a5 ?l5 ?k5 ?p5 ?t5 ?v5 ?n5 ?a6 ?l6 ?k6 ?p6 ?t6 ?v6 ?n6 ?a7 ?l7 ?k7 ?p7 ?t7 ?v7 ?n7 ?a8 ?l8 ?k8 ?p8 ?t8 ?v8 ?n8 ?a9 ?l9 ?k9 ?p9 ?t9 ?v9 ?n9 ?a10 ?l10 ?k10 ?p10 ?t10 ?v10 ?n10 ?a11 ?l11 ?k11 ?p11 ?t11 ?v11 ?n11 ?a12 ?l12 ?k12 ?p12 ?t12 ?v12 ?n12 ?a13 ?l13 ?k13 ?p13 ?t13 ?v13 ?n13 ?a14 ?l14 ?k14 ?p14 ?t14 ?v14 ?n14 ?a15 ?l15 ?k15 ?p15 ?t15 ?v15 ?n15 ?a16 ?l16 ?k16 ?p16 ?t16 ?v16 ?n16 ?a17 ?l17 ?k17 ?p17 ?t17 ?v17 ?n17 ?a18 ?l18 ?k18 ?p18 ?t18 ?v18 ?n18 ?a19 ?l19 ?k19 ?p19 ?t19 ?v19 ?n19 ?a20 ?l20 ?k20 ?p20 ?t20 ?v20 ?n20 ?a21 ?l21 ?k21 ?p21 ?t21 ?v21 ?n21 ?z_abs ?z_all ?z_bool ?z_int ?z_isinstance ?z_len ?z_list ?z_range ?z_str ?z_tuple ?y_comb ?g_MOST_CHARACTERS ?g_FIRST_CHARACTERS ?g_CHARACTERS ?g_AFTER ?g_BEFORE ?g_MOST_RULES ?z_super ?z_top ?z_op ?xa_BadValue ?xa_TooLarge ?xl_BadValue ?xr_BadValue ?xs_BadValue ?xe_BadValue ?xt_BadValue ?xk_BadValue ?xu_BadValue ?xv_BadValue ?xi_BadValue ?xy_BadValue ?xn_BadValue_name ?xg_BadValue ?xh_BadValue ?xj_BadValue ?xm_BadValue ?xp_BadValue ?xz_BadValue ?xga_BadValue ?xgg_BadValue ?xhd_BadValue ?xl_TooLarge ?xr_TooLarge ?xs_TooLarge ?xe_TooLarge ?xt_TooLarge ?xk_TooLarge ?xu_TooLarge ?xv_TooLarge ?xi_TooLarge ?xy_TooLarge ?xn_TooLarge_what ?xg_TooLarge ?xh_TooLarge ?xj_TooLarge ?xm_TooLarge ?xp_TooLarge ?xz_TooLarge ?xga_TooLarge ?xgg_TooLarge ?xhd_TooLarge ?xx_BadValue_BadValue ?xx_BadValue_TooLarge ?xx_TooLarge_BadValue ?xx_TooLarge_TooLarge
    (case a0 => k_is)
    (case l0 => k_is)
    (case k0 => k_is)
    (case p0 => k_is)
    (case t0 => k_is)
    (case v0 => rfl)
    (case n0 => rfl)
    (case a1 => k_is)
    (case l1 => k_is)
    (case k1 => k_is)
    (case p1 => k_is)
    (case t1 => k_is)
    (case v1 => rfl)
    (case n1 => rfl)
    (case a2 => k_is)
    (case l2 => k_is)
    (case k2 => k_is)
    (case p2 => k_is)
    (case t2 => k_is)
    (case v2 => rfl)
    (case n2 => rfl)
    (case a3 => k_is)
    (case l3 => k_is)
    (case k3 => k_is)
    (case p3 => k_is)
    (case t3 => k_is)
    (case v3 => rfl)
    (case n3 => rfl)
    (case a4 => k_is)
    (case l4 => k_is)
    (case k4 => k_is)
    (case p4 => k_is)
    (case t4 => k_is)
    (case v4 => rfl)
    (case n4 => rfl)
    (case a5 => k_is)
    (case l5 => k_is)
    (case k5 => k_is)
    (case p5 => k_is)
    (case t5 => k_is)
    (case v5 => rfl)
    (case n5 => rfl)
    (case a6 => k_is)
    (case l6 => k_is)
    (case k6 => k_is)
    (case p6 => k_is)
    (case t6 => k_is)
    (case v6 => rfl)
    (case n6 => rfl)
    (case a7 => k_is)
    (case l7 => k_is)
    (case k7 => k_is)
    (case p7 => k_is)
    (case t7 => k_is)
    (case v7 => rfl)
    (case n7 => rfl)
    (case a8 => k_is)
    (case l8 => k_is)
    (case k8 => k_is)
    (case p8 => k_is)
    (case t8 => k_is)
    (case v8 => rfl)
    (case n8 => rfl)
    (case a9 => k_is)
    (case l9 => k_is)
    (case k9 => k_is)
    (case p9 => k_is)
    (case t9 => k_is)
    (case v9 => rfl)
    (case n9 => rfl)
    (case a10 => k_is)
    (case l10 => k_is)
    (case k10 => k_is)
    (case p10 => k_is)
    (case t10 => k_is)
    (case v10 => rfl)
    (case n10 => rfl)
    (case a11 => k_is)
    (case l11 => k_is)
    (case k11 => k_is)
    (case p11 => k_is)
    (case t11 => k_is)
    (case v11 => rfl)
    (case n11 => rfl)
    (case a12 => k_is)
    (case l12 => k_is)
    (case k12 => k_is)
    (case p12 => k_is)
    (case t12 => k_is)
    (case v12 => rfl)
    (case n12 => rfl)
    (case a13 => k_is)
    (case l13 => k_is)
    (case k13 => k_is)
    (case p13 => k_is)
    (case t13 => k_is)
    (case v13 => rfl)
    (case n13 => rfl)
    (case a14 => k_is)
    (case l14 => k_is)
    (case k14 => k_is)
    (case p14 => k_is)
    (case t14 => k_is)
    (case v14 => rfl)
    (case n14 => rfl)
    (case a15 => k_is)
    (case l15 => k_is)
    (case k15 => k_is)
    (case p15 => k_is)
    (case t15 => k_is)
    (case v15 => rfl)
    (case n15 => rfl)
    (case a16 => k_is)
    (case l16 => k_is)
    (case k16 => k_is)
    (case p16 => k_is)
    (case t16 => k_is)
    (case v16 => rfl)
    (case n16 => rfl)
    (case a17 => k_is)
    (case l17 => k_is)
    (case k17 => k_is)
    (case p17 => k_is)
    (case t17 => k_is)
    (case v17 => rfl)
    (case n17 => rfl)
    (case a18 => k_is)
    (case l18 => k_is)
    (case k18 => k_is)
    (case p18 => k_is)
    (case t18 => k_is)
    (case v18 => rfl)
    (case n18 => rfl)
    (case a19 => k_is)
    (case l19 => k_is)
    (case k19 => k_is)
    (case p19 => k_is)
    (case t19 => k_is)
    (case v19 => rfl)
    (case n19 => rfl)
    (case a20 => k_is)
    (case l20 => k_is)
    (case k20 => k_is)
    (case p20 => k_is)
    (case t20 => k_is)
    (case v20 => rfl)
    (case n20 => rfl)
    (case a21 => k_is)
    (case l21 => k_is)
    (case k21 => k_is)
    (case p21 => k_is)
    (case t21 => k_is)
    (case v21 => rfl)
    (case n21 => rfl)
    (case z_abs => k_is)
    (case z_all => k_is)
    (case z_bool => k_is)
    (case z_int => k_is)
    (case z_isinstance => k_is)
    (case z_len => k_is)
    (case z_list => k_is)
    (case z_range => k_is)
    (case z_str => k_is)
    (case z_tuple => k_is)
    (case y_comb => k_is)
    (case g_MOST_CHARACTERS => k_is)
    (case g_FIRST_CHARACTERS => k_is)
    (case g_CHARACTERS => k_is)
    (case g_AFTER => k_is)
    (case g_BEFORE => k_is)
    (case g_MOST_RULES => k_is)
    (case z_super => k_is)
    (case z_top => first | rfl | decide +kernel)
    (case z_op => k_is)
    (case xa_BadValue => k_is)
    (case xa_TooLarge => k_is)
    (case xl_BadValue => k_is)
    (case xr_BadValue => first | rfl | decide +kernel)
    (case xs_BadValue => k_is)
    (case xe_BadValue => k_is)
    (case xt_BadValue => k_is)
    (case xk_BadValue => k_is)
    (case xu_BadValue => kernel_rfl)
    (case xv_BadValue => k_is)
    (case xi_BadValue => k_is)
    (case xy_BadValue => k_is)
    (case xn_BadValue_name => k_is)
    (case xg_BadValue => k_is)
    (case xh_BadValue => k_is)
    (case xj_BadValue => k_is)
    (case xm_BadValue => k_is)
    (case xp_BadValue => first | rfl | decide +kernel)
    (case xz_BadValue => first | rfl | decide +kernel)
    (case xga_BadValue => k_is)
    (case xgg_BadValue => k_is)
    (case xhd_BadValue => k_is)
    (case xl_TooLarge => k_is)
    (case xr_TooLarge => first | rfl | decide +kernel)
    (case xs_TooLarge => k_is)
    (case xe_TooLarge => k_is)
    (case xt_TooLarge => k_is)
    (case xk_TooLarge => k_is)
    (case xu_TooLarge => kernel_rfl)
    (case xv_TooLarge => k_is)
    (case xi_TooLarge => k_is)
    (case xy_TooLarge => k_is)
    (case xn_TooLarge_what => k_is)
    (case xg_TooLarge => k_is)
    (case xh_TooLarge => k_is)
    (case xj_TooLarge => k_is)
    (case xm_TooLarge => k_is)
    (case xp_TooLarge => first | rfl | decide +kernel)
    (case xz_TooLarge => first | rfl | decide +kernel)
    (case xga_TooLarge => k_is)
    (case xgg_TooLarge => k_is)
    (case xhd_TooLarge => k_is)
    (case xx_BadValue_BadValue => kernel_rfl)
    (case xx_BadValue_TooLarge => kernel_rfl)
    (case xx_TooLarge_BadValue => kernel_rfl)
    (case xx_TooLarge_TooLarge => kernel_rfl)
