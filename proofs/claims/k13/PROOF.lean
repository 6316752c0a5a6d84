import PyProof.Rows.All
import Wide.All
import OpenK.AllK
import Wide.FinOn
import HandS.ForMost
import HandS.AnyAll
import HandS.GenOver
import HandS.GenList
import HandS.TupAny
import HandS.Wide
import HandS.IsInst
import HandS.Deep
import HandS.Conv
import HandS.Codes
import HandS.Style
import HandS.TupLe
import HandS.Dict
import HandS.NoneIn
import KE.DataEq
import KE.KeyNested
import KE.KDictKeyed
import HandS.Exc
import HandS.Words
import HandS.EndTab
import HandS.ExcOwn
import HandS.EndOwn
import KE.KNest
import HandS.ExcIs
import HandS.ExcValue
import HandS.DictComp
import HandS.More
import HandS.SetKeys
import HandS.WordsDict
import HandS.TupLen
import KE.KDictSum
import HandS.Iter
import KE.GoesMore
import PyProof.Rows.SortStr
import HandS.SetFor
import HandS.TupMul
import PyProof.StrBlock2
import PyProof.Rows.StrMul
import KE.KDictCopyH
import PyProof.ReprRoads
import PyProof.ReprBulk
import PySem.Challenge.RW_paperreader_k13_grammars_refused
set_option Elab.async false
set_option linter.all false
set_option maxRecDepth 100000
set_option maxHeartbeats 4000000
namespace Gx
open PySem PySem.Spec PyProof.Rows L2 GenW GxR

/-- the around of a generator expression's frame that a builtin in the def wakes -/
abbrev genA (A : Around) (code : Code) : Around := (A.in1.in1).over code []
/-- the context in which the expression's element runs -/
abbrev Xg (X : Cx) (code : Code) (s : Shared) (H : Hp) (cenv : Env) (fp : List Addr) (pn : List (Addr × Obj)) : Cx :=
  { X with A := genA X.A code, s_0 := s, H_0 := H, env := cenv, outer := X.stack, stack := cenv :: X.stack, ex := fp, fn := fun _ => false, pn := pn, xe := fun _ _ => False }
abbrev gobj (g : Nat) (t1 t2 : Value) : Obj := { cls := .type "generator", data := .fields #[.int g 0, t1, t2] }
section
variable {X : Cx} {pins : List (Addr × Obj)} {σ : L2.St} {H : Hp} {s : Shared}

theorem gen_start {code : Code} {scope : Scope} {own : List (Str × Nat)} {fp : List Addr} {cv : Value} {h' : Heap} {m0 : Str → Option Value} {a g tk : Nat} {t1 t2 : Value} {gs : GenState} {elt tg iter : Expr} {ifs : List Expr} {pos : Pos} {I0 : Addr}
    (hcode : code.isFrame = true) (henv : code.env? = some (genEnv scope (cloFrom X.env.cells scope.names []) s.heap.objs.size cv builtinsNs X.env))
    (I : Inv X pins σ H s) (ok : BlkOk X.N X.env.scope scope own) (hN : X.N.Nodup) (hfp : ∀ b ∈ fp, FpOk X pins H b ∧ b < s.heap.objs.size) (hcell : ∀ y ∈ scope.names, y.2 ≠ .cell)
    (hn : h'.Ns s.heap.objs.size m0) (kp : ∀ b o, s.heap.get? b = some o → h'.get? b = some o) (ha : h'.get? a = some (gobj g t1 t2)) (hag : s.heap.objs.size < a) (hgs : gs.bare = true) :
    Inv (Xg X code s H (genEnv scope (cloFrom X.env.cells scope.names []) s.heap.objs.size cv builtinsNs X.env) fp [(a, gobj g t1 t2)]) [] (wipe σ (own.map (·.2))) H { s with heap := h', gens := s.gens.push gs, toks := tk } := by
  have hfree : ∀ y ∈ scope.names, y.2 = .free → ∃ c, X.env.cells.lookup y.1 = some c := fun y hy e => by
    rcases ok.free y hy e with k | k
    · exact I.ok.has _ (.inl k)
    · exact I.ok.has _ (.inr k)
  generalize hcenv : genEnv scope (cloFrom X.env.cells scope.names []) s.heap.objs.size cv builtinsNs X.env = cenv at henv ⊢
  have hL : cenv.locals = s.heap.objs.size := by rw [← hcenv]; rfl
  have hcl : cenv.cells = cloFrom X.env.cells scope.names [] := by rw [← hcenv]; rfl
  have hsc : cenv.scope = scope := by rw [← hcenv]; rfl
  have cm : ∀ {y c}, (y, c) ∈ cloFrom X.env.cells scope.names [] → X.env.cells.lookup y = some c ∧ c < s.heap.objs.size := fun {y c} hm => by
    rcases cloFrom_mem hm with hm | ⟨h1, rfl⟩
    · cases hm
    · obtain ⟨c, hc⟩ := hfree _ h1 rfl
      rw [hc]
      obtain ⟨w, z⟩ := I.cell _ _ hc
      exact ⟨rfl, z.lt⟩
  have mem : ∀ {y c}, cenv.cells.lookup y = some c → (X.env.cells.lookup y = some c ∧ c < s.heap.objs.size) := fun {y c} e => by
    rw [hcl] at e
    exact cm (PySem.mem_of_lookup e)
  have look : ∀ {y}, scope.names.lookup y = some .free → ∃ c, cenv.cells.lookup y = some c ∧ X.env.cells.lookup y = some c := fun {y} hl => by
    have hy : (y, NameKind.free) ∈ scope.names := PySem.mem_of_lookup hl
    obtain ⟨c', e'⟩ := mem_lookup (cloFrom_has (cells := X.env.cells) (acc := []) hy)
    rw [← hcl] at e'
    exact ⟨c', e', (mem e').1⟩
  have key : ∀ y k, cenv.kindOf y = some k → scope.names.lookup y = some k := fun y k e => by
    unfold Env.kindOf at e
    rw [hsc] at e
    exact e
  have hkind : scope.kind = .function := ok.kind
  have fr : (genA X.A code).frames = some (cenv :: X.stack) := by
    show pushEnvs code.envs (pushEnvs [] X.A.frames) = _
    have e1 : code.envs = [cenv] := by unfold Code.envs; rw [if_pos hcode, henv]; rfl
    rw [e1]
    show Option.map _ X.A.frames = _
    rw [I.ok.frames]
    rfl
  have okB : (Xg X code s H cenv fp [(a, gobj g t1 t2)]).Ok := by
    refine ⟨I.ok.mod, by show cenv.scope.kind = _; rw [hsc]; exact hkind, by show cenv.globals = _; rw [← hcenv]; exact I.ok.glob, by show cenv.builtins = _; rw [← hcenv]; rfl, by show s.heap.objs.size ≤ cenv.locals; rw [hL]; exact Nat.le_refl _,
      fun y z c e1 e2 => I.ok.inj y z c (mem e1).1 (mem e2).1, fun y hy => ?_, fun y c z e => ?_, fun hc => I.ok.hd hc, fr, .inr ⟨rfl, ?_⟩, fun b hb => ⟨?_, fun y c e z => ?_⟩, I.bs, Nat.le_trans I.ok.bsz I.sz, fun b o e hb => ?_, fun b hb z => ?_, I.stack, I.stkFree⟩
    · show ∃ c, cenv.cells.lookup y = some c
      rcases hy with hy | hy
      · exact absurd rfl (hcell _ (PySem.mem_of_lookup (key y _ hy)))
      · obtain ⟨c, h1, _⟩ := look (key y _ hy)
        exact ⟨c, h1⟩
    · cases z
    · show cenv.frame = some cenv.locals
      rw [← hcenv]; rfl
    · show b ≠ cenv.locals
      rw [hL]; exact Nat.ne_of_lt (hfp b hb).2
    · exact (hfp b hb).1.2.2.2.2.1 y c (mem e).1 z
    · rcases (hfp b hb).1.2.2.2.1 with z | z
      · exact I.ok.noex b o e z
      · exact absurd (Nat.lt_of_lt_of_le (Heap.lt_size e) (Nat.le_trans I.ok.bsz z)) (Nat.lt_irrefl _)
    · rcases List.mem_cons.mp (I.stkSub b z) with z | z
      · exact (hfp b hb).1.2.1 z
      · exact (hfp b hb).1.2.2.1 z
  refine ⟨okB, rfl, I.bare.push hgs, Un.kept kp, ⟨m0, ?_, fun i y av e1 e2 e3 => ?_⟩, fun y c e => ?_, ?_, fun y c e => ?_, fun p hp => ?_, I.hok.kept kp, by rw [wipe_length]; exact I.len⟩
  · show Heap.Ns _ cenv.locals _
    rw [hL]
    exact hn
  · obtain ⟨e2, hne⟩ := wipe_some e2
    have hfr : scope.names.lookup y = some .free := by
      have kk : ∀ k, cenv.scope.names.lookup y = some k → k = .local ∨ k = .cell ∨ k = .free → scope.names.lookup y = some .free := fun k hk hk' => by
        rw [hsc] at hk
        have no : ¬ (k = .local ∨ k = .cell) := fun hh => by
          rcases ok.own _ (PySem.mem_of_lookup hk) hh with e' | e'
          · obtain ⟨p, hp, hpy⟩ := List.mem_map.mp e'
            have e3 := ok.ix p hp
            have : p.1 = y := hpy
            rw [this] at e3
            exact hne (List.mem_map.mpr ⟨p, hp, nodup_ix hN e3 e1⟩)
          · exact e' (List.mem_of_getElem? e1)
        rcases hk' with rfl | rfl | rfl
        · exact absurd (.inl rfl) no
        · exact absurd (.inr rfl) no
        · exact hk
      have e3 : Vis cenv.scope y := e3
      rcases e3 with e3 | e3 | e3
      · exact kk _ e3 (.inl rfl)
      · exact kk _ e3 (.inr (.inl rfl))
      · exact kk _ e3 (.inr (.inr rfl))
    obtain ⟨m, hn2, hl⟩ := I.loc
    have hvis : Vis X.env.scope y := (ok.free _ (PySem.mem_of_lookup hfr) rfl).elim (fun k => .inr (.inl k)) (fun k => .inr (.inr k))
    obtain ⟨w, r, q⟩ := hl i y av e1 e2 hvis
    have kf : cenv.kindOf y = some .free := by unfold Env.kindOf; rw [hsc]; exact hfr
    refine ⟨w, r, .inr ⟨.inr kf, ?_⟩⟩
    obtain ⟨c, h1, h2⟩ := look hfr
    rcases q with ⟨k, _⟩ | ⟨_, c', e', z⟩
    · have k : X.env.scope.names.lookup y = some .local := k
      rcases ok.free _ (PySem.mem_of_lookup hfr) rfl with k' | k' <;> rw [show X.env.scope.names.lookup y = _ from k'] at k <;> cases k
    · rw [h2] at e'; cases e'
      exact ⟨c, h1, z.keeps kp⟩
  · obtain ⟨w, z⟩ := I.cell y c (mem e).1
    exact ⟨w, z.keeps kp⟩
  · show H cenv.locals = none
    rw [hL]; exact I.hok.fresh (Nat.le_refl _)
  · exact I.freeC y c (mem e).1
  · have hp' : p = (a, gobj g t1 t2) := by
      have hp2 : p ∈ [(a, gobj g t1 t2)] ++ ([] : List (Addr × Obj)) := hp
      simpa using hp2
    subst hp'
    refine ⟨ha, I.hok.fresh (Nat.le_of_lt hag), ?_, ?_, fun v z => by cases z⟩
    · show a ≠ cenv.locals
      rw [hL]; exact Nat.ne_of_gt hag
    · show a ∉ frs X.stack
      intro hm
      rcases List.mem_cons.mp (I.stkSub a hm) with z | z
      · have := I.lt
        rw [← z] at this
        exact absurd (Nat.lt_trans this hag) (Nat.lt_irrefl _)
      · exact I.nofs (Nat.le_of_lt hag) z
end

/-- the expression's loop code -/
abbrev gLoop (elt tg iter : Expr) (ifs : List Expr) (scope : Scope) (pos : Pos) (it : Addr) (cenv : Env) : Code := .compLoop (.GeneratorExp elt [⟨tg, iter, ifs, 0⟩] scope pos) 0 (.ref it) .none cenv
abbrev gStart (elt tg iter : Expr) (ifs : List Expr) (scope : Scope) (pos : Pos) (it : Addr) (cenv : Env) : Code := .compStart (.GeneratorExp elt [⟨tg, iter, ifs, 0⟩] scope pos) 0 (.ref it) .none cenv

/-- the walk's word: by the turn and a measure; stop: the truth at which the consumer ends -/
def GWord (J : It) (g : TG) (tt : TT) (te : TE) (vs : List Nat) (σ : L2.St) (stop : Bool) (Qd Qs : Hp → Prop) (W : Nat → Nat → Hp → Prop) : Prop :=
  ∀ i m H, W i m H → (J.stop i H ∧ Qd H) ∨ (J.go i H ∧ ∃ Nx : Hp → Prop, (∀ H', Nx H' → ∃ m', m' < m ∧ W (i + 1) m' H') ∧ ∀ x H', J.yld i H x H' → g x (wipe σ vs) H' fun σ2 H2 =>
    wipe σ2 vs = wipe σ vs ∧ tt σ2 H2 fun b H3 => if b = true then te σ2 H3 fun y H4 => ∃ c, y = .bl c ∧ (if c = stop then Qs H4 else Nx H4) else Nx H3)

section
variable {X : Cx} {pn : List (Addr × Obj)} {σ : L2.St} {H : Hp} {s4 : Shared} {elt tg iter : Expr} {ifs : List Expr} {scope : Scope} {pos : Pos} {it : Addr} {cenv : Env} {fp : List Addr} {tn : Nat → Heap → Prop} {J : It} {g : TG} {tt : TT} {te : TE} {vs : List Nat} {stop : Bool} {Qd Qs : Hp → Prop} {W : Nat → Nat → Hp → Prop}

/-- what is handed out -/
def GYx (Y : Cx) (σ0 : L2.St) (fp : List Addr) (tn : Nat → Heap → Prop) (stop : Bool) (Qs : Hp → Prop) (W : Nat → Nat → Hp → Prop) : Protocol := fun n s₀ v s kap =>
  ∃ c H i m, v = Value.bool c ∧ Inv Y [] σ0 H s ∧ (if c = stop then Qs H else W i m H ∧ m < n ∧ ∀ G, AllBare G → kap (.send .none) { s with gens := G })
def GEx (Y : Cx) (σ0 : L2.St) (Qd : Hp → Prop) : Nat → Shared → Shared → Prop := fun _ _ s₁ => ∃ H, Inv Y [] σ0 H s₁ ∧ Qd H
abbrev GRx (Y : Cx) (σ0 : L2.St) (Qd : Hp → Prop) : GenEnd := fun n s₀ r s₁ => r = .ok .next ∧ GEx Y σ0 Qd n s₀ s₁

theorem inv_gens {Y : Cx} {pins : List (Addr × Obj)} {σ0 : L2.St} {s : Shared} {H : Hp} {G : Array GenState} (I : Inv Y pins σ0 H s) (hG : AllBare G) : Inv Y pins σ0 H { s with gens := G } := by
  refine I.step (h' := s.heap) (t' := s.toks) (d' := s.drawn) (ch := []) (fun _ z => nomatch z) (fun _ _ _ _ _ e _ => e) (fun b o _ _ _ e _ => ⟨o.slots, e⟩) (fun _ _ _ _ n => n) (fun b o _ e => ⟨o, e⟩) (fun _ _ e => e) (fun _ _ _ e => e) (fun b ps e => ⟨#[], by rw [e]; simp⟩) (fun m hm => hm) I.hok hG

theorem seg_gen (hc : X.calm = true) (hco : scope.isCoroutine = false) (hsc : cenv.scope = scope) (T : Turn X.prog X.w X.K tg J fp it tn)
    (pg : PG (Xg X (gLoop elt tg iter ifs scope pos it cenv) s4 H cenv fp pn) tg g) (pt : PTs (Xg X (gLoop elt tg iter ifs scope pos it cenv) s4 H cenv fp pn) ifs tt) (pe : PE (Xg X (gLoop elt tg iter ifs scope pos it cenv) s4 H cenv fp pn) elt te)
    (hW : GWord J g tt te vs σ stop Qd Qs W) (hpn : ∀ b ∈ fp, ∀ p ∈ pn, p.1 ≠ b) :
    ∀ (m n i : Nat) (s₀ s : Shared) (H5 : Hp), m < n → Inv (Xg X (gLoop elt tg iter ifs scope pos it cenv) s4 H cenv fp pn) [] (wipe σ vs) H5 s → tn i s.heap → (∀ b ∈ fp, H5 b = none) → W i m H5 →
      Seg (model X.prog X.w) X.A.in1.in1 (GRx (Xg X (gLoop elt tg iter ifs scope pos it cenv) s4 H cenv fp pn) (wipe σ vs) Qd) (GYx (Xg X (gLoop elt tg iter ifs scope pos it cenv) s4 H cenv fp pn) (wipe σ vs) fp tn stop Qs W) n s₀
        (gLoop elt tg iter ifs scope pos it cenv) ((model X.prog X.w).den (gLoop elt tg iter ifs scope pos it cenv)) [] s := by
  generalize hY : Xg X (gLoop elt tg iter ifs scope pos it cenv) s4 H cenv fp pn = Y at pg pt pe ⊢
  have yA : Y.A = X.A.in1.in1.over (gLoop elt tg iter ifs scope pos it cenv) [] := by rw [← hY]
  have yE : Y.env = cenv := by rw [← hY]
  have yX : Y.xe = fun _ _ => False := by rw [← hY]
  have yP : Y.prog = X.prog := by rw [← hY]
  have yw : Y.w = X.w := by rw [← hY]
  have yK : Y.K = X.K := by rw [← hY]
  have yc : Y.calm = true := by rw [← hY]; exact hc
  have yx : Y.ex = fp := by rw [← hY]
  have ypn : Y.pn = pn := by rw [← hY]
  have stat : ∀ {σ' : L2.St} {H' : Hp} {s' : Shared}, Inv Y [] σ' H' s' → (∀ b ∈ fp, H' b = none) → ∀ b ∈ fp, FpOk Y [] H' b := fun {σ' H' s'} I' hn b hb =>
    ⟨hn b hb, (I'.ok.exf b (by rw [yx]; exact hb)).1, I'.ok.exfs b (by rw [yx]; exact hb), .inl (by rw [yx]; exact hb), fun x c e => (I'.ok.exf b (by rw [yx]; exact hb)).2 x c e, fun p hp => by
      rw [ypn] at hp
      rcases List.mem_append.mp hp with z | z
      · exact hpn b hb p z
      · exact absurd z (by simp)⟩
  intro m
  induction m using Nat.strongRecOn with
  | ind m ih =>
    intro n i s₀ s H5 hmn I5 st5 n5 w5
    show Seg _ X.A.in1.in1 _ _ n s₀ _ ((compTurn (.GeneratorExp elt [⟨tg, iter, ifs, 0⟩] scope pos) 0 (.ref it) .none cenv).onRaise (leaving cenv)) [] s
    rw [compTurn_gen, Sem.onRaise_eq_wrap]
    refine seg_bind_wrap (wpAny_standAt ?_)
    rcases hW i m H5 w5 with ⟨stp, qq⟩ | ⟨go, Nx, hNx, step⟩
    · have td := T.done Y yP yw yK yc i [] s _ H5 (fun _ _ => False) I5 (stat I5 n5) st5 stp
      rw [yA] at td
      refine seg_bind_wrap (thnF td fun r s6 ⟨hr, I6⟩ => ?_)
      subst hr
      exact seg_end (.ok .next) ⟨rfl, H5, I6, qq⟩
    · have ti := T.item Y yP yw yK yc i [] s _ H5 (fun _ _ => False) I5 (stat I5 n5) st5 go
      rw [yA] at ti
      refine seg_bind_wrap (thnF ti fun r s6 ⟨u, hr, h6⟩ => ?_)
      subst hr
      refine seg_bind_wrap (thnF h6 fun _ s7 ⟨x, H7, I7, r7, y7, st7, n7⟩ => ?_)
      have I7' := I7.pinned (stat I7 n7) (T.obj _ _ st7)
      have hgr := pg.run _ s7 _ H7 x u _ I7' r7 (step x H7 y7)
      rw [yA, yE, yX, yP, yw] at hgr
      refine seg_bind_wrap (thnF hgr fun _ s8 ⟨σ8, H8, I8, hw8, q8⟩ => ?_)
      have htr := pt.run _ s8 σ8 H8 _ I8 q8
      rw [yA, yE, yX, yP, yw] at htr
      refine seg_bind_wrap (thnF htr fun b s9 ⟨H9, I9, q9⟩ => ?_)
      have fin : ∀ {s' : Shared} {H' : Hp}, Inv Y ([] ++ pinsAt fp s7.heap) σ8 H' s' → Inv Y [] (wipe σ vs) H' s' ∧ tn (i + 1) s'.heap ∧ (∀ b ∈ fp, H' b = none) := fun {s' H'} I' => by
        have pin' : ∀ b ∈ fp, ∀ o, s7.heap.get? b = some o → s'.heap.get? b = some o ∧ H' b = none := fun b hb o e =>
          let z := I'.pin (b, o) (List.mem_append_right _ (List.mem_append_right _ (mem_pinsAt hb e)))
          ⟨z.1, z.2.1⟩
        have hl : (wipe σ vs).length = σ8.length := by rw [← hw8, wipe_length]
        refine ⟨(I'.unpinned (pins := [])).weak hl (fun j v e => ?_), T.keep _ _ _ st7 fun b hb o e => (pin' b hb o e).1, fun b hb => ?_⟩
        · rw [← hw8] at e
          exact (wipe_some e).1
        · obtain ⟨o, e, _⟩ := T.obj _ _ st7 b hb
          exact (pin' b hb o e).2
      cases b with
      | false =>
        simp only [Bool.false_eq_true, if_false] at q9 ⊢
        obtain ⟨m', hm, w'⟩ := hNx _ q9
        obtain ⟨f1, f2, f3⟩ := fin I9
        exact seg_again rfl (ih m' hm n (i + 1) s₀ s9 H9 (Nat.lt_trans hm hmn) f1 f2 f3 w')
      | true =>
        simp only [if_true] at q9 ⊢
        have hy : ∀ v, yieldOut cenv v = yieldValue v := fun v => by simp only [yieldOut, hsc, hco, Bool.false_eq_true, if_false]
        simp only [hy]
        rw [Sem.bind_eq_wrap', Sem.bind_eq_wrap', Sem.wrap_wrap, Sem.wrap_wrap]
        have her := pe.run _ s9 σ8 H9 _ I9 q9
        rw [yA, yE, yX, yP, yw] at her
        refine seg_wrap (thnF her fun z s10 ⟨yv, H10, I10, r10, c, hc10, q10⟩ => ?_)
        subst hc10
        have hz : z = Value.bool c := r10
        subst hz
        obtain ⟨f1, f2, f3⟩ := fin I10
        obtain ⟨n, rfl⟩ : ∃ k, n = k + 1 := ⟨n - 1, by omega⟩
        by_cases hcs : c = stop
        · rw [if_pos hcs] at q10
          refine seg_at (seg_yield rfl rfl rfl ⟨c, H10, i + 1, 0, rfl, f1, ?_⟩)
          rw [if_pos hcs]
          exact q10
        · rw [if_neg hcs] at q10
          obtain ⟨m', hm, w'⟩ := hNx _ q10
          refine seg_at (seg_yield rfl rfl rfl ⟨c, H10, i + 1, m', rfl, f1, ?_⟩)
          rw [if_neg hcs]
          refine ⟨w', by omega, fun G hG => ?_⟩
          exact seg_again rfl (ih m' hm n (i + 1) _ _ H10 (by omega) (inv_gens f1 hG) f2 f3 w')
end

section
variable {X : Cx} {pn : List (Addr × Obj)} {σ : L2.St} {H : Hp} {s4 : Shared} {elt tg iter : Expr} {ifs : List Expr} {scope : Scope} {pos : Pos} {it : Addr} {cenv : Env} {fp : List Addr} {tn : Nat → Heap → Prop} {J : It} {g : TG} {tt : TT} {te : TE} {vs : List Nat} {stop : Bool} {Qd Qs : Hp → Prop} {W : Nat → Nat → Hp → Prop}
theorem seg_start (hc : X.calm = true) (hco : scope.isCoroutine = false) (hsc : cenv.scope = scope) (T : Turn X.prog X.w X.K tg J fp it tn)
    (pg : PG (Xg X (gLoop elt tg iter ifs scope pos it cenv) s4 H cenv fp pn) tg g) (pt : PTs (Xg X (gLoop elt tg iter ifs scope pos it cenv) s4 H cenv fp pn) ifs tt) (pe : PE (Xg X (gLoop elt tg iter ifs scope pos it cenv) s4 H cenv fp pn) elt te)
    (hW : GWord J g tt te vs σ stop Qd Qs W) (hpn : ∀ b ∈ fp, ∀ p ∈ pn, p.1 ≠ b)
    (m n : Nat) (s₀ s : Shared) (H5 : Hp) (hmn : m < n) (I5 : Inv (Xg X (gLoop elt tg iter ifs scope pos it cenv) s4 H cenv fp pn) [] (wipe σ vs) H5 s) (st5 : tn 0 s.heap) (n5 : ∀ b ∈ fp, H5 b = none) (w5 : W 0 m H5) :
      Seg (model X.prog X.w) X.A.in1.in1 (GRx (Xg X (gLoop elt tg iter ifs scope pos it cenv) s4 H cenv fp pn) (wipe σ vs) Qd) (GYx (Xg X (gLoop elt tg iter ifs scope pos it cenv) s4 H cenv fp pn) (wipe σ vs) fp tn stop Qs W) n s₀
        (gStart elt tg iter ifs scope pos it cenv) ((model X.prog X.w).den (gStart elt tg iter ifs scope pos it cenv)) [] s := by
  have loop := seg_gen hc hco hsc T pg pt pe hW hpn m n 0 s₀ s H5 hmn I5 st5 n5 w5
  show Seg _ X.A.in1.in1 _ _ n s₀ _ ((compStart (.GeneratorExp elt [⟨tg, iter, ifs, 0⟩] scope pos) 0 (.ref it) .none cenv).onRaise (leaving cenv)) [] s
  unfold compStart
  rw [Sem.onRaise_eq_wrap]
  show Seg _ X.A.in1.in1 _ _ n s₀ _ ((ask >>= _).wrap _ _ _ _) [] s
  refine seg_bind_wrap (wpAny_askSetting ?_)
  split
  · exact seg_again rfl loop
  · first
      | exact seg_bind_wrap (wpAny_rule (seg_bind_wrap (wpAny_standAt (seg_bind_wrap (T.self _ 0 s _ _ st5 (seg_again rfl loop))))))
      | (refine seg_bind_wrap (wpAny_rule ?_); show Seg _ X.A.in1.in1 _ _ n s₀ _ ((standAt iter.pos >>= _).wrap _ _ _ _) [] s; exact seg_bind_wrap (wpAny_standAt (seg_bind_wrap (T.self _ 0 s _ _ st5 (seg_again rfl loop)))))
end

section
variable {Y : Cx} {P : Program} {w : World} {A : Around} {σ0 : L2.St} {fp : List Addr} {tn : Nat → Heap → Prop} {Qd Qs : Hp → Prop} {W : Nat → Nat → Hp → Prop} {a g : Addr} {t1 t2 : Value} {R : Result → Shared → Prop}

theorem loop_all (hA : A.handled = none) (hroom : A.depth < recursionLimit) (hp : Y.prog = P) (hw : Y.w = w) (hpn : (a, gobj g t1 t2) ∈ Y.pn)
    (hd : ∀ s₁ H' h', Inv Y [] σ0 H' s₁ → Qd H' → g < s₁.gens.size → (∀ b o, s₁.heap.get? b = some o → h'.get? b = some o) → R (.ok (.ret (.bool true))) { s₁.setGen g .finished with heap := h' })
    (hs : ∀ s₁ H' gs', Inv Y [] σ0 H' s₁ → Qs H' → g < s₁.gens.size → gs'.bare = true → R (.ok (.ret (.bool false))) (s₁.setGen g gs')) :
    ∀ (n : Nat) (s : Shared) (gs : GenState), s.gens[g]? = some gs → s.heap.IsGen a g → s.heap.NoLimit → AllBare s.gens →
      gs.Goes (model P w) A.in1.in1 (GRx Y σ0 Qd) (GYx Y σ0 fp tn false Qs W) n (.send .none) (s.setGen g .running) → codeAny (model P w) A (.builtin "all.loop" ⟨[.ref a], []⟩) R s := by
  intro n
  induction n with
  | zero =>
    intro s gs hgs hg hl hb hgo
    have hsz : g + 1 ≤ s.gens.size := (Array.getElem?_eq_some_iff.mp hgs).1
    refine codeAny_builtin F.entry_all_loop ?_
    rw [Around.under_plainId F.plain_all_loop _]
    show wpAny _ A.in1 (pyNext (.ref a) >>= _) _ _ s
    refine wpAny_bind (wpAny_gsz (n := g + 1) hsz (wpAny_pyNext_genexpQ (A := A.in1) hA hl hroom hg hgs hgo (fun v s₁ gs' hb' hv => ?_) (fun s₁ hpp h' hk => ?_)))
    · intro hz
      have hz' : g < s₁.gens.size := by
        have hz1 : g + 1 ≤ (s₁.setGen g gs').gens.size := hz
        rw [GenW.setGen_size] at hz1
        exact hz1
      obtain ⟨c, H', i, m, rfl, I', hq⟩ := hv
      by_cases hcs : c = false
      · rw [if_pos hcs] at hq
        refine wpAny_bind (wpAny_holding (wpAny_truthy_bool ?_))
        refine wpAny_bind (wpAny_letGo ?_)
        subst hcs
        simp only [Bool.false_eq_true, if_false]
        exact wpAny_bind (wpAny_rule (wpAny_pure (hs s₁ H' gs' I' hq hz' hb')))
      · rw [if_neg hcs] at hq
        exact absurd hq.2.1 (Nat.not_lt_zero _)
    · intro hz
      have hz' : g < s₁.gens.size := by
        have hz2 : g + 1 ≤ (s₁.setGen g .finished).gens.size := hz
        rw [GenW.setGen_size] at hz2
        exact hz2
      obtain ⟨H', I', hq⟩ := hpp
      exact wpAny_bind (wpAny_rule (wpAny_pure (hd s₁ H' h' I' hq hz' hk)))
  | succ n ih =>
    intro s gs hgs hg hl hb hgo
    have hsz : g + 1 ≤ s.gens.size := (Array.getElem?_eq_some_iff.mp hgs).1
    refine codeAny_builtin F.entry_all_loop ?_
    rw [Around.under_plainId F.plain_all_loop _]
    show wpAny _ A.in1 (pyNext (.ref a) >>= _) _ _ s
    refine wpAny_bind (wpAny_gsz (n := g + 1) hsz (wpAny_pyNext_genexpQ (A := A.in1) hA hl hroom hg hgs hgo (fun v s₁ gs' hb' hv => ?_) (fun s₁ hpp h' hk => ?_)))
    · intro hz
      have hz' : g < s₁.gens.size := by
        have hz1 : g + 1 ≤ (s₁.setGen g gs').gens.size := hz
        rw [GenW.setGen_size] at hz1
        exact hz1
      obtain ⟨c, H', i, m, rfl, I', hq⟩ := hv
      refine wpAny_bind (wpAny_holding (wpAny_truthy_bool ?_))
      refine wpAny_bind (wpAny_letGo ?_)
      by_cases hcs : c = false
      · rw [if_pos hcs] at hq
        subst hcs
        simp only [Bool.false_eq_true, if_false]
        exact wpAny_bind (wpAny_rule (wpAny_pure (hs s₁ H' gs' I' hq hz' hb')))
      · rw [if_neg hcs] at hq
        have hct : c = true := by cases c with | false => exact absurd rfl hcs | true => rfl
        subst hct
        simp only [if_true]
        have hpin := (I'.pin (a, gobj g t1 t2) (List.mem_append_left _ hpn)).1
        have hbare : AllBare (s₁.setGen g gs').gens := allBare_setGen I'.bare hb'
        refine wpAny_pure ⟨plainId_quiet F.plain_all_loop _, ih (s₁.setGen g gs') gs' (setGen_at hz') ⟨_, _, _, hpin, rfl, rfl, rfl⟩ I'.nolimit hbare ?_⟩
        exact hq.2.2 ((s₁.setGen g gs').setGen g .running).gens (allBare_setGen hbare rfl)
    · intro hz
      have hz' : g < s₁.gens.size := by
        have hz2 : g + 1 ≤ (s₁.setGen g .finished).gens.size := hz
        rw [GenW.setGen_size] at hz2
        exact hz2
      obtain ⟨H', I', hq⟩ := hpp
      exact wpAny_bind (wpAny_rule (wpAny_pure (hd s₁ H' h' I' hq hz' hk)))
theorem loop_any (hA : A.handled = none) (hroom : A.depth < recursionLimit) (hp : Y.prog = P) (hw : Y.w = w) (hpn : (a, gobj g t1 t2) ∈ Y.pn)
    (hd : ∀ s₁ H' h', Inv Y [] σ0 H' s₁ → Qd H' → g < s₁.gens.size → (∀ b o, s₁.heap.get? b = some o → h'.get? b = some o) → R (.ok (.ret (.bool false))) { s₁.setGen g .finished with heap := h' })
    (hs : ∀ s₁ H' gs', Inv Y [] σ0 H' s₁ → Qs H' → g < s₁.gens.size → gs'.bare = true → R (.ok (.ret (.bool true))) (s₁.setGen g gs')) :
    ∀ (n : Nat) (s : Shared) (gs : GenState), s.gens[g]? = some gs → s.heap.IsGen a g → s.heap.NoLimit → AllBare s.gens →
      gs.Goes (model P w) A.in1.in1 (GRx Y σ0 Qd) (GYx Y σ0 fp tn true Qs W) n (.send .none) (s.setGen g .running) → codeAny (model P w) A (.builtin "any.loop" ⟨[.ref a], []⟩) R s := by
  intro n
  induction n with
  | zero =>
    intro s gs hgs hg hl hb hgo
    have hsz : g + 1 ≤ s.gens.size := (Array.getElem?_eq_some_iff.mp hgs).1
    refine codeAny_builtin F.entry_any_loop ?_
    rw [Around.under_plainId F.plain_any_loop _]
    show wpAny _ A.in1 (pyNext (.ref a) >>= _) _ _ s
    refine wpAny_bind (wpAny_gsz (n := g + 1) hsz (wpAny_pyNext_genexpQ (A := A.in1) hA hl hroom hg hgs hgo (fun v s₁ gs' hb' hv => ?_) (fun s₁ hpp h' hk => ?_)))
    · intro hz
      have hz' : g < s₁.gens.size := by
        have hz1 : g + 1 ≤ (s₁.setGen g gs').gens.size := hz
        rw [GenW.setGen_size] at hz1
        exact hz1
      obtain ⟨c, H', i, m, rfl, I', hq⟩ := hv
      by_cases hcs : c = true
      · rw [if_pos hcs] at hq
        refine wpAny_bind (wpAny_holding (wpAny_truthy_bool ?_))
        refine wpAny_bind (wpAny_letGo ?_)
        subst hcs
        simp only [if_true]
        exact wpAny_bind (wpAny_rule (wpAny_pure (hs s₁ H' gs' I' hq hz' hb')))
      · rw [if_neg hcs] at hq
        exact absurd hq.2.1 (Nat.not_lt_zero _)
    · intro hz
      have hz' : g < s₁.gens.size := by
        have hz2 : g + 1 ≤ (s₁.setGen g .finished).gens.size := hz
        rw [GenW.setGen_size] at hz2
        exact hz2
      obtain ⟨H', I', hq⟩ := hpp
      exact wpAny_bind (wpAny_rule (wpAny_pure (hd s₁ H' h' I' hq hz' hk)))
  | succ n ih =>
    intro s gs hgs hg hl hb hgo
    have hsz : g + 1 ≤ s.gens.size := (Array.getElem?_eq_some_iff.mp hgs).1
    refine codeAny_builtin F.entry_any_loop ?_
    rw [Around.under_plainId F.plain_any_loop _]
    show wpAny _ A.in1 (pyNext (.ref a) >>= _) _ _ s
    refine wpAny_bind (wpAny_gsz (n := g + 1) hsz (wpAny_pyNext_genexpQ (A := A.in1) hA hl hroom hg hgs hgo (fun v s₁ gs' hb' hv => ?_) (fun s₁ hpp h' hk => ?_)))
    · intro hz
      have hz' : g < s₁.gens.size := by
        have hz1 : g + 1 ≤ (s₁.setGen g gs').gens.size := hz
        rw [GenW.setGen_size] at hz1
        exact hz1
      obtain ⟨c, H', i, m, rfl, I', hq⟩ := hv
      refine wpAny_bind (wpAny_holding (wpAny_truthy_bool ?_))
      refine wpAny_bind (wpAny_letGo ?_)
      by_cases hcs : c = true
      · rw [if_pos hcs] at hq
        subst hcs
        simp only [if_true]
        exact wpAny_bind (wpAny_rule (wpAny_pure (hs s₁ H' gs' I' hq hz' hb')))
      · rw [if_neg hcs] at hq
        have hct : c = false := by cases c with | true => exact absurd rfl hcs | false => rfl
        subst hct
        simp only [Bool.false_eq_true, if_false]
        have hpin := (I'.pin (a, gobj g t1 t2) (List.mem_append_left _ hpn)).1
        have hbare : AllBare (s₁.setGen g gs').gens := allBare_setGen I'.bare hb'
        refine wpAny_pure ⟨plainId_quiet F.plain_any_loop _, ih (s₁.setGen g gs') gs' (setGen_at hz') ⟨_, _, _, hpin, rfl, rfl, rfl⟩ I'.nolimit hbare ?_⟩
        exact hq.2.2 ((s₁.setGen g gs').setGen g .running).gens (allBare_setGen hbare rfl)
    · intro hz
      have hz' : g < s₁.gens.size := by
        have hz2 : g + 1 ≤ (s₁.setGen g .finished).gens.size := hz
        rw [GenW.setGen_size] at hz2
        exact hz2
      obtain ⟨H', I', hq⟩ := hpp
      exact wpAny_bind (wpAny_rule (wpAny_pure (hd s₁ H' h' I' hq hz' hk)))
end

abbrev cenvOf (X : Cx) (scope : Scope) (C : Addr) (cv : Value) : Env := genEnv scope (cloFrom X.env.cells scope.names []) C cv builtinsNs X.env
abbrev Xgen (X : Cx) (elt tg iter : Expr) (ifs : List Expr) (scope : Scope) (pos : Pos) (s : Shared) (H : Hp) (it : Addr) (cv : Value) (fp : List Addr) (pn : List (Addr × Obj)) : Cx :=
  Xg X (gLoop elt tg iter ifs scope pos it (cenvOf X scope s.heap.objs.size cv)) s H (cenvOf X scope s.heap.objs.size cv) fp pn
theorem room_gen {k : Nat} {A : Around} {elt tg iter : Expr} {ifs : List Expr} {scope : Scope} {pos : Pos} {it : Addr} {cenv : Env} (r : Room (k + 1) A) : Room k (genA A (gLoop elt tg iter ifs scope pos it cenv)) :=
  ⟨r.hd, by have := r.dp; show A.depth + 0 + 1 + 3 * k + 5 < _; omega, by have := r.un; show A.units + 1 + 1 + 0 + 3 + 16 * k + 200 < _; omega⟩

/-- stop: all ends at false, any at true -/
def tAA (P : Addr) (stop : Bool) (wi : TI) (g : TG) (tt : TT) (te : TE) (vs : List Nat) : TE := fun σ H Q => wi σ H fun J H0 => TabG H0 P ∧ ∀ H1, Tabbed P H0 H1 →
  ∃ W : Nat → Nat → Hp → Prop, (∃ m, W 0 m H1) ∧ GWord J g tt te vs σ stop (fun H' => Q (.bl (!stop)) H') (fun H' => Q (.bl stop) H') W
def callId (stop : Bool) : String := if stop then "any" else "all"
section
variable {X : Cx}
theorem gen_call {c P : Addr} {elt tg iter : Expr} {ifs : List Expr} {gpos : Pos} {scope : Scope} {own : List (Str × Nat)} {wi : TI} {g : TG} {tt : TT} {te : TE} {stop : Bool} {pins : List (Addr × Obj)} {s : Shared} {σ : L2.St} {H : Hp} {Q : VK}
    (hr : Room 1 X.A) (TB : TabB X.base X.mg c P) (hcode : X.env.code = .ref c) (hc : X.calm = true) (hN : X.N.Nodup) (hi : PI X tg iter wi) (ok : BlkOk X.N X.env.scope scope own)
    (hco : scope.isCoroutine = false) (hcell : ∀ y ∈ scope.names, y.2 ≠ .cell) (h0 : scope.names.lookup (".0" : Str) = some NameKind.local)
    (pg : ∀ s H it cv fp pn, PG (Xgen X elt tg iter ifs scope gpos s H it cv fp pn) tg g) (pt : ∀ s H it cv fp pn, PTs (Xgen X elt tg iter ifs scope gpos s H it cv fp pn) ifs tt) (pe : ∀ s H it cv fp pn, PE (Xgen X elt tg iter ifs scope gpos s H it cv fp pn) elt te)
    (hs : ∀ v, genFold iter X.env v = pure v) (I : Inv X pins σ H s) (h : tAA P stop wi g tt te (own.map (·.2)) σ H Q) :
    wpAny (model X.prog X.w) X.A (eval (.GeneratorExp elt [⟨tg, iter, ifs, 0⟩] scope gpos) X.env) (fun u s5 => wpAny (model X.prog X.w) X.A (call (.builtin (callId stop)) [u]) (EP X pins σ Q) X.xe s5) X.xe s := by
  have hfree : ∀ y ∈ scope.names, y.2 = .free → ∃ c, X.env.cells.lookup y.1 = some c := fun y hy e => by
    rcases ok.free y hy e with k | k
    · exact I.ok.has _ (.inl k)
    · exact I.ok.has _ (.inr k)
  refine wpAny_GeneratorExp_make hco (closure_ok hfree) hcell h0 ok.kind (by have := hr.dp; omega) ?_ hs
  refine thn (hi.run pins s σ H _ I h) fun xv s1 hx => thn hx fun itv s2 h2 => ?_
  obtain ⟨it, fp, tn, J, H', e, I2, T, st2, f2, ⟨ps, hP, ht⟩, q⟩ := h2
  subst e
  have hPs : s2.heap.get? P = some { cls := .none, data := .fields ps } := I2.hok P _ hP
  have cd : PySem.W.CodeHd s2.heap c P := TB.code.keeps fun b u e => I2.bk b u e
  have nPfp : ∀ b ∈ fp, b ≠ P := fun b hb z => by
    have := (f2 b hb).1
    rw [z, hP] at this
    cases this
  have cont : ∀ (code : Value) (h3 : Heap) (tk : Nat) (ps' : Array Value), Heap.ExtBut P s2.heap h3 → h3.get? P = some { cls := .none, data := .fields ps' } → (∃ more, ps' = ps ++ more) → TriplesOk ps'.toList →
      wpAny (model X.prog X.w) X.A (builtinsFor X.env.globals X.env.builtins) (fun bi s₄ =>
        ∀ h', h'.Ns s₄.heap.objs.size (fun y => if y = ".0" then some (.ref it) else none) → Heap.SameBut s₄.heap.objs.size (s₄.heap.push { cls := .type "frame", data := .dict #[] }) h' →
          wpAny (model X.prog X.w) X.A (call (.builtin (callId stop)) [.ref h'.objs.size]) (EP X pins σ Q) X.xe { s₄ with
            gens := s₄.gens.push (.fresh (gStart elt tg iter ifs scope gpos it (genEnv scope (cloFrom X.env.cells scope.names []) s₄.heap.objs.size code bi X.env))),
            toks := s₄.toks + 1 + 1 + 1,
            heap := h'.push { cls := .type "generator", data := .fields #[.int s₄.gens.size 0, .str "<genexpr>" (s₄.toks + 1), .str (X.env.qual ++ "<genexpr>") (s₄.toks + 1 + 1)] } }) X.xe { s2 with heap := h3, toks := tk } := by
    intro code h3 tk ps' hx hP3 hmore ht3
    obtain ⟨bm, ob, e1, e2, e3, e4, e5, e6, e7, e8⟩ := TB.bm
    obtain ⟨more, em⟩ := hmore
    refine wpAny_builtinsFor (m := X.mg) (by rw [I2.ok.glob]; exact (I2.mod.glob.keeps I2.bk).extBut hx TB.gP) e1 e2 (hx _ _ e4 (I2.bk _ _ e5)) e6 e7 e8 ?_
    have I3 := inv_tab (more := more) (h' := h3) (g' := s2.gens) (d' := s2.drawn) (t' := tk) I2 hP (fun b u hb e => hx b u hb e) (by rw [← em]; exact hP3) I2.bare
    rw [← em] at I3
    generalize hs4 : ({ s2 with heap := h3, gens := s2.gens, drawn := s2.drawn, toks := tk } : Shared) = s4 at I3
    have hh4 : s4.heap = h3 := by rw [← hs4]
    have tabd : Tabbed P H' (upd H' P (.tbl ps')) := ⟨⟨ps', upd_same, ht3⟩, fun b hb => upd_ne hb⟩
    obtain ⟨W, ⟨m0, w0⟩, hW⟩ := q _ tabd
    generalize hH3 : upd H' P (.tbl ps') = H3 at I3 w0 tabd
    have nfp : ∀ b ∈ fp, H3 b = none := fun b hb => by rw [tabd.2 b (nPfp b hb)]; exact (f2 b hb).1
    have st4 : tn 0 s4.heap := by
      rw [hh4]
      exact T.keep _ _ _ st2 fun b hb o e => hx b o (nPfp b hb) e
    have f4 : ∀ b ∈ fp, FpOk X pins H3 b ∧ b < s4.heap.objs.size := fun b hb => by
      obtain ⟨o, e, _⟩ := T.obj _ _ st4 b hb
      exact ⟨⟨nfp b hb, (f2 b hb).2⟩, Heap.lt_size e⟩
    intro h' hn' hs'
    have hsz : h'.objs.size = s4.heap.objs.size + 1 := by rw [hs'.1, Heap.size_push]
    have keep' : ∀ b o, s4.heap.get? b = some o → h'.get? b = some o := fun b o e => hs'.extBut b o (Nat.ne_of_lt (Heap.lt_size e)) (Heap.get?_push_of_some _ e)
    generalize hgo : ({ cls := .type "generator", data := .fields #[.int s4.gens.size 0, .str "<genexpr>" (s4.toks + 1), .str (X.env.qual ++ "<genexpr>") (s4.toks + 1 + 1)] } : Obj) = go
    have hgo' : go = gobj s4.gens.size (.str "<genexpr>" (s4.toks + 1)) (.str (X.env.qual ++ "<genexpr>") (s4.toks + 1 + 1)) := hgo.symm
    have I5 := gen_start (X := X) (code := gLoop elt tg iter ifs scope gpos it (cenvOf X scope s4.heap.objs.size code)) (cv := code) (h' := h'.push go) (a := h'.objs.size) (g := s4.gens.size) (t1 := .str "<genexpr>" (s4.toks + 1)) (t2 := .str (X.env.qual ++ "<genexpr>") (s4.toks + 1 + 1)) (tk := s4.toks + 1 + 1 + 1)
      (gs := .fresh (gStart elt tg iter ifs scope gpos it (cenvOf X scope s4.heap.objs.size code))) (elt := elt) (tg := tg) (iter := iter) (ifs := ifs) (pos := gpos) (I0 := it) rfl rfl I3 ok hN f4 hcell (hn'.push _) (fun b o e => Heap.get?_push_of_some _ (keep' b o e))
      (by rw [hgo']; exact Heap.get?_push_size _ rfl) (by omega) rfl
    generalize hs5 : ({ s4 with heap := h'.push go, gens := s4.gens.push (.fresh (gStart elt tg iter ifs scope gpos it (cenvOf X scope s4.heap.objs.size code))), toks := s4.toks + 1 + 1 + 1 } : Shared) = s5 at I5
    have hg5 : s5.gens = s4.gens.push (.fresh (gStart elt tg iter ifs scope gpos it (cenvOf X scope s4.heap.objs.size code))) := by rw [← hs5]
    have hh5 : s5.heap = h'.push go := by rw [← hs5]
    have hgen : s5.heap.IsGen h'.objs.size s4.gens.size := by
      rw [hh5, hgo']
      exact ⟨_, _, _, Heap.get?_push_size _ rfl, rfl, rfl, rfl⟩
    have hgs : s5.gens[s4.gens.size]? = some (.fresh (gStart elt tg iter ifs scope gpos it (cenvOf X scope s4.heap.objs.size code))) := by
      rw [hg5]
      exact Array.getElem?_push_size ..
    have st5 : tn 0 s5.heap := T.keep _ _ _ st4 fun b _ o e => by rw [hh5]; exact Heap.get?_push_of_some _ (keep' b o e)
    have hpnfp : ∀ b ∈ fp, ∀ p ∈ [(h'.objs.size, gobj s4.gens.size (.str "<genexpr>" (s4.toks + 1)) (.str (X.env.qual ++ "<genexpr>") (s4.toks + 1 + 1)))], p.1 ≠ b := fun b hb p hp => by
      have hp' : p = (h'.objs.size, gobj s4.gens.size (.str "<genexpr>" (s4.toks + 1)) (.str (X.env.qual ++ "<genexpr>") (s4.toks + 1 + 1))) := by simpa using hp
      subst hp'
      have h9 : b < s4.heap.objs.size := (f4 b hb).2
      show h'.objs.size ≠ b
      have h10 : b < h'.objs.size := by rw [hsz]; exact Nat.lt_succ_of_lt h9
      exact Nat.ne_of_gt h10
    have bareR : AllBare (s5.setGen s4.gens.size .running).gens := allBare_setGen I5.bare rfl
    have goes : GenState.Goes (model X.prog X.w) X.A.in1.in1 (GRx (Xgen X elt tg iter ifs scope gpos s4 H3 it code fp [(h'.objs.size, gobj s4.gens.size (.str "<genexpr>" (s4.toks + 1)) (.str (X.env.qual ++ "<genexpr>") (s4.toks + 1 + 1)))]) (wipe σ (own.map (·.2))) (fun H' => Q (.bl (!stop)) H'))
        (GYx (Xgen X elt tg iter ifs scope gpos s4 H3 it code fp [(h'.objs.size, gobj s4.gens.size (.str "<genexpr>" (s4.toks + 1)) (.str (X.env.qual ++ "<genexpr>") (s4.toks + 1 + 1)))]) (wipe σ (own.map (·.2))) fp tn stop (fun H' => Q (.bl stop) H') W) (m0 + 1) (.fresh (gStart elt tg iter ifs scope gpos it (cenvOf X scope s4.heap.objs.size code))) (.send .none) (s5.setGen s4.gens.size .running) :=
      ⟨rfl, seg_start (cenv := cenvOf X scope s4.heap.objs.size code) hc hco rfl T (pg s4 H3 it code fp _) (pt s4 H3 it code fp _) (pe s4 H3 it code fp _) hW hpnfp m0 (m0 + 1) _ _ H3 (Nat.lt_succ_self _) (inv_gens I5 bareR) st5 nfp w0⟩
    have back : ∀ {s₁ : Shared} {H9 : Hp}, Inv (Xgen X elt tg iter ifs scope gpos s4 H3 it code fp [(h'.objs.size, gobj s4.gens.size (.str "<genexpr>" (s4.toks + 1)) (.str (X.env.qual ++ "<genexpr>") (s4.toks + 1 + 1)))]) [] (wipe σ (own.map (·.2))) H9 s₁ → Inv X pins σ H9 s₁ := fun {s₁ H9} I' =>
      I3.call' (ch := fp) I'.os I'.base I'.hok I'.bare fun b hb => ⟨(f4 b hb).1.2.2.2.1, (f4 b hb).1.2.1, (f4 b hb).1.2.2.2.2.1, (f4 b hb).1.2.2.2.2.2⟩
    cases stop with
    | false =>
      refine call_function_tree F.kind_all F.plain_all F.entry_all (F.args_all1 _) ?_
      unfold Builtin.«all»
      refine wpAny_bind (m := oneArg "all" _) (wpAny_pure ?_)
      refine wpAny_bind (wpAny_pyIter_gen hgen ?_)
      refine wpAny_pure ⟨plainId_quiet F.plain_all_loop _, ?_⟩
      refine loop_all (Y := Xgen X elt tg iter ifs scope gpos s4 H3 it code fp [(h'.objs.size, gobj s4.gens.size (.str "<genexpr>" (s4.toks + 1)) (.str (X.env.qual ++ "<genexpr>") (s4.toks + 1 + 1)))]) hr.hd (by have := hr.dp; omega) rfl rfl (List.mem_singleton.mpr rfl) (fun s₁ H9 h9 I' qd hz hk => ?_) (fun s₁ H9 gs' I' qs hz hb => ?_) (m0 + 1) s5 _ hgs hgen I5.nolimit I5.bare goes
      · exact ⟨.bl true, H9, (inv_gens (G := (s₁.setGen s4.gens.size .finished).gens) (back I') (allBare_setGen I'.bare rfl)).kept (t' := s₁.toks) hk, rfl, qd⟩
      · exact ⟨.bl false, H9, inv_gens (G := (s₁.setGen s4.gens.size gs').gens) (back I') (allBare_setGen I'.bare hb), rfl, qs⟩
    | true =>
      refine call_function_tree F.kind_any F.plain_any F.entry_any (F.args_any1 _) ?_
      unfold Builtin.«any»
      refine wpAny_bind (m := oneArg "any" _) (wpAny_pure ?_)
      refine wpAny_bind (wpAny_pyIter_gen hgen ?_)
      refine wpAny_pure ⟨plainId_quiet F.plain_any_loop _, ?_⟩
      refine loop_any (Y := Xgen X elt tg iter ifs scope gpos s4 H3 it code fp [(h'.objs.size, gobj s4.gens.size (.str "<genexpr>" (s4.toks + 1)) (.str (X.env.qual ++ "<genexpr>") (s4.toks + 1 + 1)))]) hr.hd (by have := hr.dp; omega) rfl rfl (List.mem_singleton.mpr rfl) (fun s₁ H9 h9 I' qd hz hk => ?_) (fun s₁ H9 gs' I' qs hz hb => ?_) (m0 + 1) s5 _ hgs hgen I5.nolimit I5.bare goes
      · exact ⟨.bl false, H9, (inv_gens (G := (s₁.setGen s4.gens.size .finished).gens) (back I') (allBare_setGen I'.bare rfl)).kept (t' := s₁.toks) hk, rfl, qd⟩
      · exact ⟨.bl true, H9, inv_gens (G := (s₁.setGen s4.gens.size gs').gens) (back I') (allBare_setGen I'.bare hb), rfl, qs⟩
  refine ⟨I2.nolimit, ?_⟩
  cases hf : codeAmong gpos ps.toList with
  | none =>
    refine wpAny_genexprCodeX hcode (cd.code hPs ht) (cd.tab hPs) hf fun c' h' tk hx hge hlt hco' _ htab' _ => ?_
    obtain ⟨o1, vs, f1, tf, fl, tg', inF, tx, tt', op, _, _, _, _, _, _, _, _, _, htr, _⟩ := hco'
    exact cont _ h' tk _ hx htab'.2 ⟨_, rfl⟩ htr
  | some cv =>
    refine wpAny_genexprCode_hit hcode (cd.code hPs ht) hf ?_
    exact cont cv s2.heap s2.toks ps (Heap.ExtBut.refl _ _) hPs ⟨#[], by simp⟩ ht
theorem pe_aa {c P : Addr} {elt tg iter : Expr} {ifs : List Expr} {p pos gpos : Pos} {scope : Scope} {own : List (Str × Nat)} {wi : TI} {g : TG} {tt : TT} {te : TE} {x : Str} (stop : Bool)
    (hx : x = if stop then ("any" : Str) else ("all" : Str)) (hr : Room 1 X.A) (hgl : Gl X x) (hm : X.mg x = none) (TB : TabB X.base X.mg c P) (hcode : X.env.code = .ref c) (hc : X.calm = true) (hN : X.N.Nodup) (hi : PI X tg iter wi) (ok : BlkOk X.N X.env.scope scope own)
    (hco : scope.isCoroutine = false) (hcell : ∀ y ∈ scope.names, y.2 ≠ .cell) (h0 : scope.names.lookup (".0" : Str) = some NameKind.local)
    (pg : ∀ s H it cv fp pn, PG (Xgen X elt tg iter ifs scope gpos s H it cv fp pn) tg g) (pt : ∀ s H it cv fp pn, PTs (Xgen X elt tg iter ifs scope gpos s H it cv fp pn) ifs tt) (pe : ∀ s H it cv fp pn, PE (Xgen X elt tg iter ifs scope gpos s H it cv fp pn) elt te)
    (hs : ∀ v, genFold iter X.env v = pure v)
    (he : starEach [.GeneratorExp elt [⟨tg, iter, ifs, 0⟩] scope gpos] X.env = (false, eval (.GeneratorExp elt [⟨tg, iter, ifs, 0⟩] scope gpos) X.env) :: starEach [] X.env := by rfl) :
    PE X (.Call (.Name x p) [.GeneratorExp elt [⟨tg, iter, ifs, 0⟩] scope gpos] [] pos) (tAA P stop wi g tt te (own.map (·.2))) := by
  refine ⟨fun pins s σ H Q I h => ?_⟩
  have hv : bootBuiltins x = some (.builtin (callId stop)) := by
    subst hx
    cases stop with
    | false => exact (by decide +kernel : bootBuiltins "all" = some (.builtin "all"))
    | true => exact boot_any
  have hne : x ≠ "__name__" := by subst hx; cases stop <;> decide
  have hdb : (x == ("__debug__" : Str)) = false := by subst hx; cases stop <;> decide
  refine wpAny_Call_Name_kw (ld_blt I hgl hm hv ?_ hne hdb)
  refine PyProof.Rows.callWith_builtin1 ?_ he (by rfl)
  rw [he]
  show wpAny _ _ (spliced ((false, eval (.GeneratorExp elt [⟨tg, iter, ifs, 0⟩] scope gpos) X.env) :: backTo pos (starEach [] X.env))) _ _ s
  refine Calls.spliced_cons (thn (gen_call hr TB hcode hc hN hi ok hco hcell h0 pg pt pe hs I h) fun u s5 h5 => ?_)
  exact Calls.spliced_nil h5
end
end Gx
namespace Tr
open PySem L2 GxR

/-! ### values as trees, things that change by their number -/
inductive T where
  | non | bl (b : Bool) | int (i : Int) | str (s : List Nat) | ty (n : String) | tup (xs : List T) | lst (xs : List T) | dct (kvs : List (T × T)) | obj (c : Str) (fs : List (Str × T)) | ref (i : Nat) | exo (c : Str) | cl (c : Str) | dcN (kvs : List (T × T))
inductive Node where
  | dead | lst (ts : List T) | dct (kvs : List (T × T)) | obj (c : Str) (fs : List (Str × T))
@[reducible] def Node.on : Node → Prop
  | .dead => False
  | _ => True
structure Exc where
  cls : Str
  fs : List (Str × T)
/-- the slots; the things that change -/
structure Env where
  sl : List (Option T)
  mu : List Node
inductive R (α : Type) where
  | ok (a : α) | exc (x : Exc) (ρ : Env) | stk
def R.bind {α β : Type} : R α → (α → R β) → R β
  | .ok a, k => k a
  | .exc x ρ, _ => .exc x ρ
  | .stk, _ => .stk
/-- a thing's look -/
def vw (μ : List Node) : T → T
  | .ref i => match μ[i]? with
    | some (.lst ts) => .lst ts
    | some (.dct kvs) => .dct kvs
    | some (.obj c fs) => .obj c fs
    | _ => .ref i
  | t => t

structure GG where
  K : PySem.W.Frag
  cls : Str → Option Addr
  tabs : List Addr
  exr : Exc → Value → Option Addr → Hp → Prop
  ecl : Str → Option Addr
  prog : Program
  wld : World
/-- what is exclusive; the places of the things that change -/
structure Wd where
  E : Addr → Prop
  al : List Addr

def KL (K : PySem.W.Frag) (a : Addr) (xs : List V) : Prop := ∃ (o : Obj) (its : Array Value) (n : Nat), K.lookup a = some o ∧ o.cls = .type "list" ∧ o.dict = none ∧ o.data = .seq its n ∧ its.size ≤ sizeLine ∧ Vals xs its.toList
abbrev S (l : List Nat) : Str := ⟨l.toArray⟩
/-- a key's tree -/
def kT : Key → T
  | .inl i => .int i
  | .inr x => .str x.cps.toList
/-- a dict's entries -/
inductive DictO : HO → List (T × V) → Prop where
  | k (kvs : List (Key × V)) : DictO (.dK kvs) (kvs.map fun p => (kT p.1, p.2))
mutual
/-- a key of nested tuples -/
def nkOf : T → Option NestedKey
  | .non => some .none
  | .bl b => some (.num (if b = true then 1 else 0))
  | .int i => some (.num i)
  | .str s => some (.text (S s))
  | .tup xs => (nksOf xs).map .tup
  | _ => none
def nksOf : List T → Option (List NestedKey)
  | [] => some []
  | x :: xs => match nkOf x, nksOf xs with
    | some k, some ks => some (k :: ks)
    | _, _ => none
end
/-- what a dict's entries are, its keys being tuples of any kind -/
def NDp (P : Program) (w : World) (a : Addr) (xs : List (NestedKey × Addr × V)) (h : Heap) : Prop :=
  (a == sysModules) = false ∧ ∃ us : List (NestedKey × Addr × Value), Paired (fun (p : NestedKey × Addr × V) (q : NestedKey × Addr × Value) => p.1 = q.1 ∧ p.2.1 = q.2.1 ∧ RelV p.2.2 q.2.2) xs us ∧
    ∃ o es ep, h.get? a = some o ∧ o.ExactDict ∧ o.data = .dict es ep ∧ es.toList = us.map (entryOfKey (nestedKind P w)) ∧ (us.map (·.1)).Nodup
def ND (P : Program) (w : World) (a : Addr) (xs : List (NestedKey × Addr × V)) : HO := .ext (NDp P w a xs)
/-- an exception that was caught and is kept -/
def ExV (a : Addr) (C : Addr) : HO := .ext fun h => ∃ (oe : Obj) (vs : Array Value), h.get? a = some oe ∧ L2.Zc (.ref C) none oe ∧ oe.data = .fields vs
mutual
inductive Rep (G : GG) (w : Wd) (H : Hp) : V → T → Prop where
  | non : Rep G w H .non .non
  | bl (b : Bool) : Rep G w H (.bl b) (.bl b)
  | int (i : Int) : Rep G w H (.int i) (.int i)
  | str (s : List Nat) : Rep G w H (.str (S s)) (.str s)
  | ty (n : String) : Rep G w H (.ty n) (.ty n)
  | tup {a : Addr} {vs : List V} {ts : List T} : ¬ w.E a → Rd H a (.tup vs) → Reps G w H vs ts → Rep G w H (.ref a) (.tup ts)
  | lst {a : Addr} {vs : List V} {ts : List T} : ¬ w.E a → Rd H a (.lst vs) → Reps G w H vs ts → Rep G w H (.ref a) (.lst ts)
  | lstK {a : Addr} {vs : List V} {ts : List T} : KL G.K a vs → Reps G w H vs ts → Rep G w H (.ref a) (.lst ts)
  | dct {a : Addr} {o : HO} {es : List (T × V)} {kvs : List (T × T)} : ¬ w.E a → H a = some o → DictO o es → RepD G w H es kvs → Rep G w H (.ref a) (.dct kvs)
  | obj {a C dx : Addr} {c : Str} {vs : List (Str × V)} {fs : List (Str × T)} : ¬ w.E a → H a = some (.ins C dx vs) → G.cls c = some C → RepF G w H vs fs → Rep G w H (.ref a) (.obj c fs)
  | ref {a : Addr} {i : Nat} : w.al[i]? = some a → Rep G w H (.ref a) (.ref i)
  | dctN {a : Addr} {xs : List (NestedKey × Addr × V)} {kvs : List (T × T)} : ¬ w.E a → H a = some (ND G.prog G.wld a xs) → RepN G w H xs kvs → Rep G w H (.ref a) (.dcN kvs)
  | cl {C : Addr} {c : Str} : G.ecl c = some C → Rep G w H (.ref C) (.cl c)
  | exo {a C : Addr} {c : Str} : ¬ w.E a → H a = some (ExV a C) → G.ecl c = some C → Rep G w H (.ref a) (.exo c)
inductive Reps (G : GG) (w : Wd) (H : Hp) : List V → List T → Prop where
  | nil : Reps G w H [] []
  | cons {v : V} {t : T} {vs : List V} {ts : List T} : Rep G w H v t → Reps G w H vs ts → Reps G w H (v :: vs) (t :: ts)
inductive RepF (G : GG) (w : Wd) (H : Hp) : List (Str × V) → List (Str × T) → Prop where
  | nil : RepF G w H [] []
  | cons {n : Str} {v : V} {t : T} {vs : List (Str × V)} {ts : List (Str × T)} : Rep G w H v t → RepF G w H vs ts → RepF G w H ((n, v) :: vs) ((n, t) :: ts)
inductive RepD (G : GG) (w : Wd) (H : Hp) : List (T × V) → List (T × T) → Prop where
  | nil : RepD G w H [] []
  | cons {n : T} {v : V} {t : T} {vs : List (T × V)} {ts : List (T × T)} : Rep G w H v t → RepD G w H vs ts → RepD G w H ((n, v) :: vs) ((n, t) :: ts)
inductive RepN (G : GG) (w : Wd) (H : Hp) : List (NestedKey × Addr × V) → List (T × T) → Prop where
  | nil : RepN G w H [] []
  | cons {k : NestedKey} {a : Addr} {n : List T} {v : V} {t : T} {vs : List (NestedKey × Addr × V)} {ts : List (T × T)} : Rep G w H (.ref a) (.tup n) → nkOf (.tup n) = some k → Rep G w H v t → RepN G w H vs ts → RepN G w H ((k, a, v) :: vs) ((.tup n, t) :: ts)
end
/-- an object that is no table of code objects -/
def Plain : HO → Prop
  | .tbl _ => False
  | _ => True
theorem DictO.plain {o : HO} {es : List (T × V)} (h : DictO o es) : Plain o := by cases h <;> trivial
section
variable {G : GG} {w w' : Wd} {H H' : Hp}
/-- what is kept, and where nothing becomes exclusive that was not -/
structure Keep (w : Wd) (H : Hp) (w' : Wd) (H' : Hp) : Prop where
  hp : ∀ (a : Addr) (u : HO), ¬ w.E a → H a = some u → Plain u → H' a = some u ∧ ¬ w'.E a
  al : ∀ (i : Nat) (a : Addr), w.al[i]? = some a → w'.al[i]? = some a
theorem Keep.rd (k : Keep w H w' H') {a : Addr} {u : HO} (he : ¬ w.E a) (h : Rd H a u) (pu : Plain u) : Rd H' a u ∧ ¬ w'.E a := by
  rcases h with h | ⟨o, h⟩
  · exact ⟨.inl (k.hp a u he h pu).1, (k.hp a u he h pu).2⟩
  · exact ⟨.inr ⟨o, (k.hp a _ he h trivial).1⟩, (k.hp a _ he h trivial).2⟩
mutual
theorem Rep.stab (k : Keep w H w' H') : ∀ {v : V} {t : T}, Rep G w H v t → Rep G w' H' v t
  | _, _, .non => .non
  | _, _, .bl b => .bl b
  | _, _, .int i => .int i
  | _, _, .str s => .str s
  | _, _, .ty n => .ty n
  | _, _, .tup he h r => .tup (k.rd he h trivial).2 (k.rd he h trivial).1 (Reps.stab k r)
  | _, _, .lst he h r => .lst (k.rd he h trivial).2 (k.rd he h trivial).1 (Reps.stab k r)
  | _, _, .lstK h r => .lstK h (Reps.stab k r)
  | _, _, .dct he h d r => .dct (k.hp _ _ he h d.plain).2 (k.hp _ _ he h d.plain).1 d (RepD.stab k r)
  | _, _, .obj he h c r => .obj (k.hp _ _ he h trivial).2 (k.hp _ _ he h trivial).1 c (RepF.stab k r)
  | _, _, .ref h => .ref (k.al _ _ h)
  | _, _, .dctN he h r => .dctN (k.hp _ _ he h trivial).2 (k.hp _ _ he h trivial).1 (RepN.stab k r)
  | _, _, .cl c => .cl c
  | _, _, .exo he h c => .exo (k.hp _ _ he h trivial).2 (k.hp _ _ he h trivial).1 c
theorem Reps.stab (k : Keep w H w' H') : ∀ {vs : List V} {ts : List T}, Reps G w H vs ts → Reps G w' H' vs ts
  | _, _, .nil => .nil
  | _, _, .cons r rs => .cons (Rep.stab k r) (Reps.stab k rs)
theorem RepF.stab (k : Keep w H w' H') : ∀ {vs : List (Str × V)} {ts : List (Str × T)}, RepF G w H vs ts → RepF G w' H' vs ts
  | _, _, .nil => .nil
  | _, _, .cons r rs => .cons (Rep.stab k r) (RepF.stab k rs)
theorem RepD.stab (k : Keep w H w' H') : ∀ {vs : List (T × V)} {ts : List (T × T)}, RepD G w H vs ts → RepD G w' H' vs ts
  | _, _, .nil => .nil
  | _, _, .cons r rs => .cons (Rep.stab k r) (RepD.stab k rs)
theorem RepN.stab (k : Keep w H w' H') : ∀ {vs : List (NestedKey × Addr × V)} {ts : List (T × T)}, RepN G w H vs ts → RepN G w' H' vs ts
  | _, _, .nil => .nil
  | _, _, .cons q e r rs => .cons (Rep.stab k q) e (Rep.stab k r) (RepN.stab k rs)
end
theorem Keep.refl : Keep w H w H := ⟨fun _ _ he h _ => ⟨h, he⟩, fun _ _ h => h⟩
theorem Keep.trans {w2 : Wd} {H2 : Hp} (k : Keep w H w' H') (k2 : Keep w' H' w2 H2) : Keep w H w2 H2 :=
  ⟨fun a u he h pu => k2.hp a u (k.hp a u he h pu).2 (k.hp a u he h pu).1 pu, fun i a h => k2.al i a (k.al i a h)⟩
theorem Keep.less (h : ∀ a, w'.E a → w.E a) (ha : ∀ (i : Nat) (a : Addr), w.al[i]? = some a → w'.al[i]? = some a) : Keep w H w' H := ⟨fun a _ he q _ => ⟨q, fun z => he (h a z)⟩, ha⟩
/-- a new object -/
theorem Keep.new0 {p : Addr} {o : HO} (hp : H p = none) : Keep w H w (upd H p o) := ⟨fun a u he q _ => ⟨by rw [upd_ne (ne_of_none q hp)]; exact q, he⟩, fun _ _ h => h⟩
/-- an exclusive object is changed -/
theorem Keep.mut {p : Addr} {o : HO} (hp : w.E p) : Keep w H w (upd H p o) := ⟨fun a u he q _ => ⟨by rw [upd_ne fun z => he (by rw [z]; exact hp)]; exact q, he⟩, fun _ _ h => h⟩

theorem Reps.length : ∀ {vs : List V} {ts : List T}, Reps G w H vs ts → vs.length = ts.length
  | _, _, .nil => rfl
  | _, _, .cons _ r => by rw [List.length_cons, List.length_cons, Reps.length r]
theorem Reps.get : ∀ {vs : List V} {ts : List T} {i : Nat} {t : T}, Reps G w H vs ts → ts[i]? = some t → ∃ v, vs[i]? = some v ∧ Rep G w H v t
  | _, _, _, _, .nil, e => by simp at e
  | _, _, 0, _, .cons r _, e => by simp at e; subst e; exact ⟨_, rfl, r⟩
  | _, _, i + 1, _, .cons _ rs, e => by
    obtain ⟨v, h1, h2⟩ := Reps.get (i := i) rs (by simpa using e)
    exact ⟨v, by simpa using h1, h2⟩
theorem Reps.getV : ∀ {vs : List V} {ts : List T} {i : Nat} {v : V}, Reps G w H vs ts → vs[i]? = some v → ∃ t, ts[i]? = some t ∧ Rep G w H v t
  | _, _, _, _, .nil, e => by simp at e
  | _, _, 0, _, .cons r _, e => by simp at e; subst e; exact ⟨_, rfl, r⟩
  | _, _, i + 1, _, .cons _ rs, e => by
    obtain ⟨v, h1, h2⟩ := Reps.getV (i := i) rs (by simpa using e)
    exact ⟨v, by simpa using h1, h2⟩
theorem Reps.append : ∀ {vs ws : List V} {ts us : List T}, Reps G w H vs ts → Reps G w H ws us → Reps G w H (vs ++ ws) (ts ++ us)
  | _, _, _, _, .nil, s => s
  | _, _, _, _, .cons r rs, s => .cons r (Reps.append rs s)
theorem Reps.take : ∀ (n : Nat) {vs : List V} {ts : List T}, Reps G w H vs ts → Reps G w H (vs.take n) (ts.take n)
  | 0, _, _, _ => .nil
  | n + 1, _, _, .nil => .nil
  | n + 1, _, _, .cons r rs => .cons r (Reps.take n rs)
theorem Reps.drop : ∀ (n : Nat) {vs : List V} {ts : List T}, Reps G w H vs ts → Reps G w H (vs.drop n) (ts.drop n)
  | 0, _, _, r => r
  | n + 1, _, _, .nil => .nil
  | n + 1, _, _, .cons _ rs => Reps.drop n rs
theorem Reps.set : ∀ (n : Nat) {v : V} {t : T} {vs : List V} {ts : List T}, Rep G w H v t → Reps G w H vs ts → Reps G w H (vs.set n v) (ts.set n t)
  | _, _, _, _, _, _, .nil => .nil
  | 0, _, _, _, _, r, .cons _ rs => .cons r rs
  | n + 1, _, _, _, _, r, .cons q rs => .cons q (Reps.set n r rs)
theorem Reps.reverse : ∀ {vs : List V} {ts : List T}, Reps G w H vs ts → Reps G w H vs.reverse ts.reverse
  | _, _, .nil => .nil
  | _, _, .cons r rs => by
    rw [List.reverse_cons, List.reverse_cons]
    exact (Reps.reverse rs).append (.cons r .nil)
theorem Reps.ints : ∀ (ns : List Int), Reps G w H (ns.map V.int) (ns.map T.int)
  | [] => .nil
  | n :: r => .cons (.int n) (Reps.ints r)
theorem Reps.strs : ∀ (ns : List (List Nat)), Reps G w H ((ns.map S).map V.str) (ns.map T.str)
  | [] => .nil
  | n :: r => .cons (.str n) (Reps.strs r)
end
/-- .. what stands there now -/
inductive RV (G : GG) (w : Wd) (H : Hp) : V → T → Prop where
  | of {v : V} {t : T} : Rep G w H v t → RV G w H v t
  | lst {a : Addr} {vs : List V} {ts : List T} : H a = some (.lst vs) → Reps G w H vs ts → RV G w H (.ref a) (.lst ts)
  | dct {a : Addr} {o : HO} {es : List (T × V)} {kvs : List (T × T)} : H a = some o → DictO o es → RepD G w H es kvs → RV G w H (.ref a) (.dct kvs)
  | obj {a C dx : Addr} {c : Str} {vs : List (Str × V)} {fs : List (Str × T)} : H a = some (.ins C dx vs) → G.cls c = some C → RepF G w H vs fs → RV G w H (.ref a) (.obj c fs)
inductive RVs (G : GG) (w : Wd) (H : Hp) : List V → List T → Prop where
  | nil : RVs G w H [] []
  | cons {v : V} {t : T} {vs : List V} {ts : List T} : RV G w H v t → RVs G w H vs ts → RVs G w H (v :: vs) (t :: ts)

/-! ### the frame -/
/-- O: exclusive of those around; H0: the heap at the entry; M0: what of it may change; al0: the things that change, at the entry; tmp: values that are held besides the slots; pin: exclusive objects of those around that are held -/
structure Fr where
  O : Addr → Prop
  H0 : Hp
  M0 : Addr → Prop
  al0 : List Addr
  tmp : List (V × T)
  pin : List (Addr × HO)
def onA (α : List Addr) (μ : List Node) (a : Addr) : Prop := ∃ (i : Nat) (n : Node), μ[i]? = some n ∧ n.on ∧ α[i]? = some a
abbrev wd (F : Fr) (α : List Addr) (μ : List Node) : Wd := ⟨fun a => F.O a ∨ onA α μ a, α⟩
def NodeOk (G : GG) (w : Wd) (H : Hp) (a : Addr) : Node → Prop
  | .dead => True
  | .lst ts => ∃ vs, H a = some (.lst vs) ∧ Reps G w H vs ts
  | .dct kvs => ∃ o es, H a = some o ∧ DictO o es ∧ RepD G w H es kvs
  | .obj c fs => ∃ C dx vs, H a = some (.ins C dx vs) ∧ G.cls c = some C ∧ RepF G w H vs fs
def Grown (u : HO) (r : Option HO) : Prop := (Plain u → r = some u) ∧ ∀ ps, u = .tbl ps → ∃ qs, r = some (.tbl qs)
/-- nothing is changed but tables of code objects, that grow -/
structure HExt (G : GG) (H H' : Hp) : Prop where
  keep : ∀ a u, H a = some u → Grown u (H' a)
  tabs : ∀ P ∈ G.tabs, TabG H' P
theorem Grown.refl {u : HO} : Grown u (some u) := ⟨fun _ => rfl, fun ps e => ⟨ps, by rw [e]⟩⟩
theorem Grown.trans {u : HO} {r : Option HO} {H' : Hp} {a : Addr} (h : Grown u r) (k : ∀ w, r = some w → Grown w (H' a)) : Grown u (H' a) := by
  refine ⟨fun p => ?_, fun ps e => ?_⟩
  · exact (k u (h.1 p)).1 p
  · obtain ⟨more, q⟩ := h.2 ps e
    obtain ⟨m2, q2⟩ := (k _ q).2 _ rfl
    exact ⟨m2, q2⟩
structure Rel (G : GG) (F : Fr) (α : List Addr) (ρ : Env) (σ : St) (H : Hp) : Prop where
  len : σ.length = ρ.sl.length
  slot : ∀ (i : Nat) (t : T), ρ.sl[i]? = some (some t) → ∃ x, σ[i]? = some (some x) ∧ Rep G (wd F α ρ.mu) H x t
  alen : α.length = ρ.mu.length
  node : ∀ (i : Nat) (n : Node) (a : Addr), ρ.mu[i]? = some n → α[i]? = some a → NodeOk G (wd F α ρ.mu) H a n
  apart : ∀ a ∈ α, ¬ F.O a
  inj : α.Nodup
  al : F.al0 <+: α
  frame : ∀ a u, F.H0 a = some u → ¬ F.M0 a → Grown u (H a)
  ownf : ∀ a, onA α ρ.mu a → F.M0 a ∨ F.H0 a = none
  tabs : ∀ P ∈ G.tabs, TabG H P
  there : ∀ a ∈ α, ∃ u, H a = some u
  exs : ∀ a, F.O a → ∃ u, H a = some u
  tmp : ∀ p ∈ F.tmp, Rep G (wd F α ρ.mu) H p.1 p.2
  pinP : ∀ p ∈ F.pin, Plain p.2
  pin : ∀ p ∈ F.pin, H p.1 = some p.2 ∧ F.O p.1 ∧ (F.M0 p.1 ∨ F.H0 p.1 = none)
section
variable {G : GG} {F : Fr} {α : List Addr} {ρ ρ' : Env} {σ σ' : St} {H H' : Hp}
theorem HExt.there (h : HExt G H H') {a : Addr} {u : HO} (e : H a = some u) : ∃ w, H' a = some w := by
  cases u with
  | tbl ps => obtain ⟨more, q⟩ := (h.keep a _ e).2 ps rfl; exact ⟨_, q⟩
  | _ => exact ⟨_, (h.keep a _ e).1 trivial⟩
theorem HExt.keepE {w : Wd} (h : HExt G H H') : Keep w H w H' := ⟨fun a u he e pu => ⟨(h.keep a u e).1 pu, he⟩, fun _ _ h => h⟩
theorem HExt.refl (ht : ∀ P ∈ G.tabs, TabG H P) : HExt G H H := ⟨fun a u e => by rw [e]; exact Grown.refl, ht⟩
theorem HExt.new {p : Addr} {o : HO} (ht : ∀ P ∈ G.tabs, TabG H P) (hp : H p = none) : HExt G H (upd H p o) := by
  have nn : ∀ a u, H a = some u → upd H p o a = some u := fun a u e => by rw [upd_ne (ne_of_none e hp)]; exact e
  exact ⟨fun a u e => by rw [nn a u e]; exact Grown.refl, fun P hP => let ⟨ps, h1, h2⟩ := ht P hP; ⟨ps, nn _ _ h1, h2⟩⟩
theorem HExt.trans {H2 : Hp} (h : HExt G H H') (k : HExt G H' H2) : HExt G H H2 := ⟨fun a u e => (h.keep a u e).trans fun w q => k.keep a w q, k.tabs⟩
theorem NodeOk.stab {w w' : Wd} {a : Addr} {n : Node} (k : Keep w H w' H') (e : ∀ u, H a = some u → Plain u → H' a = some u) (h : NodeOk G w H a n) : NodeOk G w' H' a n := by
  cases n with
  | dead => trivial
  | lst ts => obtain ⟨vs, h1, h2⟩ := h; exact ⟨vs, e _ h1 trivial, h2.stab k⟩
  | dct kvs => obtain ⟨o, es, h1, h2, h3⟩ := h; exact ⟨o, es, e _ h1 h2.plain, h2, h3.stab k⟩
  | obj c fs => obtain ⟨C, dx, vs, h1, h2, h3⟩ := h; exact ⟨C, dx, vs, e _ h1 trivial, h2, h3.stab k⟩
theorem Rel.ext (r : Rel G F α ρ σ H) (h : HExt G H H') : Rel G F α ρ σ H' := by
  have k : Keep (wd F α ρ.mu) H (wd F α ρ.mu) H' := h.keepE
  exact ⟨r.len, fun i t e => let ⟨x, h1, h2⟩ := r.slot i t e; ⟨x, h1, h2.stab k⟩, r.alen, fun i n a e ea => (r.node i n a e ea).stab k fun u q pu => (h.keep a u q).1 pu, r.apart, r.inj, r.al,
    fun a u e m => (r.frame a u e m).trans fun w q => h.keep a w q, r.ownf, h.tabs, fun a ha => let ⟨u, e⟩ := r.there a ha; h.there e, fun a ha => let ⟨u, e⟩ := r.exs a ha; h.there e, fun q hq => (r.tmp q hq).stab k, r.pinP,
    fun q hq => ⟨(h.keep _ _ (r.pin q hq).1).1 (r.pinP q hq), (r.pin q hq).2⟩⟩
/-- what holds of the heap at any time -/
structure Wf (G : GG) (w : Wd) (H : Hp) : Prop where
  tabs : ∀ P ∈ G.tabs, TabG H P
  exs : ∀ a, w.E a → ∃ u, H a = Option.some u
  there : ∀ a ∈ w.al, ∃ u, H a = Option.some u
theorem Rel.wf (r : Rel G F α ρ σ H) : Wf G (wd F α ρ.mu) H := ⟨r.tabs, fun a ha => ha.elim (r.exs a) fun ⟨i, n, h1, h2, h3⟩ => r.there a (List.mem_of_getElem? h3), r.there⟩
theorem Wf.new {w : Wd} (h : Wf G w H) {p : Addr} (hp : H p = none) : ¬ w.E p := fun z => by
  obtain ⟨u, e⟩ := h.exs p z
  rw [hp] at e
  cases e
theorem Wf.ext {w : Wd} (k : Wf G w H) (h : HExt G H H') : Wf G w H' := ⟨h.tabs, fun a ha => let ⟨_, e⟩ := k.exs a ha; h.there e, fun a ha => let ⟨_, e⟩ := k.there a ha; h.there e⟩
theorem Rel.new (r : Rel G F α ρ σ H) {p : Addr} {o : HO} (hp : H p = none) : Rel G F α ρ σ (upd H p o) := r.ext (HExt.new r.tabs hp)
/-- what a thing's look says -/
theorem Rel.vw (r : Rel G F α ρ σ H) {v : V} {t : T} (h : Rep G (wd F α ρ.mu) H v t) : RV G (wd F α ρ.mu) H v (vw ρ.mu t) := by
  cases h with
  | @ref a i h =>
    unfold Tr.vw
    split
    · rename_i j e
      cases e
      split
      · rename_i ts e
        obtain ⟨vs, h1, h2⟩ := r.node _ _ a e h
        exact .lst h1 h2
      · rename_i kvs e
        obtain ⟨o, es, h1, h2, h3⟩ := r.node _ _ a e h
        exact .dct h1 h2 h3
      · rename_i c fs e
        obtain ⟨C, dx, vs, h1, h2, h3⟩ := r.node _ _ a e h
        exact .obj h1 h2 h3
      · exact .of (.ref h)
    · rename_i h2
      exact (h2 i rfl).elim
  | non => exact .of .non
  | bl b => exact .of (.bl b)
  | int i => exact .of (.int i)
  | str s => exact .of (.str s)
  | ty s => exact .of (.ty s)
  | tup a b c => exact .of (.tup a b c)
  | lst a b c => exact .of (.lst a b c)
  | lstK a b => exact .of (.lstK a b)
  | dct a b c d => exact .of (.dct a b c d)
  | obj a b c d => exact .of (.obj a b c d)
  | dctN a b c => exact .of (.dctN a b c)
  | exo a b c => exact .of (.exo a b c)
  | cl c => exact .of (.cl c)
theorem Rel.vws (r : Rel G F α ρ σ H) : ∀ {vs : List V} {ts : List T}, Reps G (wd F α ρ.mu) H vs ts → RVs G (wd F α ρ.mu) H vs (ts.map (Tr.vw ρ.mu))
  | _, _, .nil => .nil
  | _, _, .cons h hs => .cons (r.vw h) (Rel.vws r hs)
end

/-! ### what is wanted behind -/
inductive Flow where
  | next (ρ : Env) | ret (t : T) (ρ : Env) | brk (ρ : Env) | cnt (ρ : Env)
section
variable (G : GG) (W : WX) (F : Fr)
def SatX (σ : L2.St) (x : Exc) (ρ' : Env) : Prop := ∀ cls d α H', Rel G F α ρ' σ H' → G.exr x cls d H' → W cls d σ H'
def SatE (σ : L2.St) : R (T × Env) → VK → Prop
  | .ok (p, ρ'), Q => ∀ v α H', Rel G F α ρ' σ H' → Rep G (wd F α ρ'.mu) H' v p → Q v H'
  | .exc x ρ', _ => SatX G W F σ x ρ'
  | .stk, _ => False
def SatA (σ : L2.St) : R (List T × Env) → (List V → Hp → Prop) → Prop
  | .ok (ps, ρ'), Q => ∀ vs α H', Rel G F α ρ' σ H' → Reps G (wd F α ρ'.mu) H' vs ps → Q vs H'
  | .exc x ρ', _ => SatX G W F σ x ρ'
  | .stk, _ => False
def SatB (σ : L2.St) : R (Bool × Env) → (Bool → Hp → Prop) → Prop
  | .ok (b, ρ'), Q => ∀ α H', Rel G F α ρ' σ H' → Q b H'
  | .exc x ρ', _ => SatX G W F σ x ρ'
  | .stk, _ => False
def SatS : R Flow → Ends → Prop
  | .ok (.next ρ'), D => ∀ α σ' H', Rel G F α ρ' σ' H' → D.nx σ' H'
  | .ok (.ret t ρ'), D => ∀ v α σ' H', Rel G F α ρ' σ' H' → Rep G (wd F α ρ'.mu) H' v t → D.rt v H'
  | .ok (.brk ρ'), D => ∀ α σ' H', Rel G F α ρ' σ' H' → D.bk σ' H'
  | .ok (.cnt ρ'), D => ∀ α σ' H', Rel G F α ρ' σ' H' → D.ct σ' H'
  | .exc x ρ', _ => ∀ σ', SatX G W F σ' x ρ'
  | .stk, _ => False
end
abbrev FE := Env → R (T × Env)
abbrev FA := Env → R (List T × Env)
abbrev FB := Env → R (Bool × Env)
abbrev FS := Env → R Flow
section
variable (G : GG) (X : Cx) (W : WX)
def PEf (e : Expr) (f : FE) : Prop := ∃ t, PE X e t ∧ ∀ F α ρ σ H Q, Rel G F α ρ σ H → SatE G W F σ (f ρ) Q → t σ H Q
def PTf (e : Expr) (f : FB) : Prop := ∃ t, PT X e t ∧ ∀ F α ρ σ H Q, Rel G F α ρ σ H → SatB G W F σ (f ρ) Q → t σ H Q
def PAf (es : List Expr) (f : FA) : Prop := ∃ t, PA X es t ∧ ∀ F α ρ σ H Q, Rel G F α ρ σ H → SatA G W F σ (f ρ) Q → t σ H Q
def PSf (st : Stmt) (f : FS) : Prop := ∃ t, PS X st t ∧ ∀ F α ρ σ H D, Rel G F α ρ σ H → SatS G W F (f ρ) D → t D σ H
def PSsf (st : List Stmt) (f : FS) : Prop := ∃ t, PSs X st t ∧ ∀ F α ρ σ H D, Rel G F α ρ σ H → SatS G W F (f ρ) D → t D σ H
end
section
variable {G : GG} {X : Cx} {W : WX} {F : Fr} {α : List Addr} {ρ ρ' : Env} {σ : L2.St} {H : Hp}
abbrev Fr.hold (F : Fr) (v : V) (t : T) : Fr := { F with tmp := (v, t) :: F.tmp }
theorem Rel.hold (r : Rel G F α ρ σ H) {v : V} {t : T} (h : Rep G (wd F α ρ.mu) H v t) : Rel G (F.hold v t) α ρ σ H :=
  { r with tmp := fun p hp => (List.mem_cons.mp hp).elim (fun e => by rw [e]; exact h) (r.tmp p) }
theorem Rel.unhold {v : V} {t : T} (r : Rel G (F.hold v t) α ρ σ H) : Rel G F α ρ σ H :=
  { r with tmp := fun p hp => r.tmp p (List.mem_cons_of_mem _ hp) }
theorem Rel.held {v : V} {t : T} (r : Rel G (F.hold v t) α ρ σ H) : Rep G (wd F α ρ.mu) H v t := r.tmp _ (List.mem_cons_self ..)
/-- what a Sat is: an exception's way -/
structure IsSat (G : GG) (W : WX) (F : Fr) (σ : L2.St) {β : Type} (Sa : R β → Prop) : Prop where
  exc : ∀ x ρ', Sa (.exc x ρ') → SatX G W F σ x ρ'
  stk : ¬ Sa .stk
theorem isE {Q : VK} : IsSat G W F σ (fun r => SatE G W F σ r Q) := ⟨fun _ _ h => h, fun h => h⟩
theorem isA {Q : List V → Hp → Prop} : IsSat G W F σ (fun r => SatA G W F σ r Q) := ⟨fun _ _ h => h, fun h => h⟩
theorem isB {Q : Bool → Hp → Prop} : IsSat G W F σ (fun r => SatB G W F σ r Q) := ⟨fun _ _ h => h, fun h => h⟩
theorem isS {D : Ends} : IsSat G W F σ (fun r => SatS G W F r D) := ⟨fun _ _ h => h σ, fun h => h⟩
theorem satX_hold {v : V} {t : T} {x : Exc} {ρ' : Env} (h : SatX G W F σ x ρ') : SatX G W (F.hold v t) σ x ρ' := fun cls d α H' r q => h cls d α H' r.unhold q
theorem IsSat.hold {β : Type} {Sa : R β → Prop} (s : IsSat G W F σ Sa) {v : V} {t : T} : IsSat G W (F.hold v t) σ Sa := ⟨fun x ρ' h => satX_hold (s.exc x ρ' h), s.stk⟩
theorem satE_bind {β : Type} {f : R (T × Env)} {k : T × Env → R β} {Sa : R β → Prop} {Q : VK} (s : IsSat G W F σ Sa) (h : Sa (f.bind k))
    (hk : ∀ p ρ1 v α1 H1, f = .ok (p, ρ1) → Rel G F α1 ρ1 σ H1 → Rep G (wd F α1 ρ1.mu) H1 v p → Sa (k (p, ρ1)) → Q v H1) : SatE G W F σ f Q := by
  cases f with
  | ok a => obtain ⟨p, ρ1⟩ := a; exact fun v α1 H1 r q => hk p ρ1 v α1 H1 rfl r q h
  | exc x ρ' => exact s.exc x ρ' h
  | stk => exact (s.stk h).elim
theorem satB_bind {β : Type} {f : R (Bool × Env)} {k : Bool × Env → R β} {Sa : R β → Prop} {Q : Bool → Hp → Prop} (s : IsSat G W F σ Sa) (h : Sa (f.bind k))
    (hk : ∀ p ρ1 α1 H1, f = .ok (p, ρ1) → Rel G F α1 ρ1 σ H1 → Sa (k (p, ρ1)) → Q p H1) : SatB G W F σ f Q := by
  cases f with
  | ok a => obtain ⟨p, ρ1⟩ := a; exact fun α1 H1 r => hk p ρ1 α1 H1 rfl r h
  | exc x ρ' => exact s.exc x ρ' h
  | stk => exact (s.stk h).elim
theorem satA_bind {β : Type} {f : R (List T × Env)} {k : List T × Env → R β} {Sa : R β → Prop} {Q : List V → Hp → Prop} (s : IsSat G W F σ Sa) (h : Sa (f.bind k))
    (hk : ∀ ps ρ1 vs α1 H1, f = .ok (ps, ρ1) → Rel G F α1 ρ1 σ H1 → Reps G (wd F α1 ρ1.mu) H1 vs ps → Sa (k (ps, ρ1)) → Q vs H1) : SatA G W F σ f Q := by
  cases f with
  | ok a => obtain ⟨ps, ρ1⟩ := a; exact fun v α1 H1 r q => hk ps ρ1 v α1 H1 rfl r q h
  | exc x ρ' => exact s.exc x ρ' h
  | stk => exact (s.stk h).elim

/-! ### names, constants -/
def fVar (i : Nat) : FE := fun ρ => match ρ.sl[i]? with
  | some (some t) => .ok (t, ρ)
  | _ => .stk
theorem pef_var {e : Expr} {i : Nat} (h : PE X e (tVar i)) : PEf G X W e (fVar i) := by
  refine ⟨_, h, fun F α ρ σ H Q r s => ?_⟩
  unfold fVar at s
  split at s
  · rename_i t hi
    obtain ⟨x, h1, h2⟩ := r.slot i _ hi
    exact ⟨x, h1, s x α H r h2⟩
  · exact s.elim
def fC (t : T) : FE := fun ρ => .ok (t, ρ)
theorem pef_c {e : Expr} {v : V} {t : T} (h : PE X e (tC v)) (hr : ∀ w H, Rep G w H v t) : PEf G X W e (fC t) :=
  ⟨_, h, fun F α ρ σ H Q r s => s v α H r (hr _ _)⟩
theorem pef_int {i : Int} {j pos} : PEf G X W (.Constant (.int i) j pos) (fC (.int i)) := pef_c pe_int fun _ _ => .int i
theorem pef_bl {b : Bool} {j pos} : PEf G X W (.Constant (.bool b) j pos) (fC (.bl b)) := pef_c pe_bl fun _ _ => .bl b
theorem pef_non {j pos} : PEf G X W (.Constant .none j pos) (fC .non) := pef_c pe_non fun _ _ => .non
theorem pef_str {x : Str} {l : List Nat} {j pos} (h : x.cps.toList = l) : PEf G X W (.Constant (.str x) j pos) (fC (.str l)) :=
  pef_c pe_str fun _ _ => by
    have e : x = S l := by cases x; simp only at h; rw [← h]
    rw [e]
    exact .str l
theorem pef_ty {x : Str} {n : String} {pos : Pos} (hg : Gl X x) (hm : X.mg x = none) (hv : bootBuiltins x = some (.type n)) (hn : x ≠ "__name__" := by decide) (hd : (x == ("__debug__" : Str)) = false := by decide) : PEf G X W (.Name x pos) (fC (.ty n)) :=
  pef_c (pe_bltn hg hm hv (show RelV (.ty n) (.type n) from rfl) hn hd) fun _ _ => .ty n

/-! ### operators by values -/
def OpT (G : GG) (X : Cx) (f : Value → Value → Sem Value) (op : T → T → Option T) : Prop :=
  ∃ r, OpR X f r ∧ ∀ (w : Wd) (H : Hp) (Q : VK) (x y : V) (s t c : T), op s t = some c → Wf G w H → RV G w H x s → RV G w H y t →
    (∀ v H', HExt G H H' → Rep G w H' v c → Q v H') → r x y H Q
def fBin (op : T → T → Option T) (fa fb : FE) : FE := fun ρ => (fa ρ).bind fun p => (fb p.2).bind fun q => match op (vw q.2.mu p.1) (vw q.2.mu q.1) with
  | some c => .ok (c, q.2)
  | none => .stk
theorem bin_ok {op : T → T → Option T} {fa fb : FE} {ta tb : TE} {r : R2}
    (ha : ∀ F α ρ σ H Q, Rel G F α ρ σ H → SatE G W F σ (fa ρ) Q → ta σ H Q) (hb : ∀ F α ρ σ H Q, Rel G F α ρ σ H → SatE G W F σ (fb ρ) Q → tb σ H Q)
    (ho : ∀ (w : Wd) (H : Hp) (Q : VK) (x y : V) (s t c : T), op s t = some c → Wf G w H → RV G w H x s → RV G w H y t → (∀ v H', HExt G H H' → Rep G w H' v c → Q v H') → r x y H Q)
    (F α ρ σ H Q) (rl : Rel G F α ρ σ H) (s : SatE G W F σ (fBin op fa fb ρ) Q) : tOp r ta tb σ H Q := by
  refine ha F α ρ σ H _ rl (satE_bind (isE (Q := Q)) s fun p ρ1 v α1 H1 _ r1 q1 s1 => ?_)
  refine hb (F.hold v p) α1 ρ1 σ H1 _ (r1.hold q1) (satE_bind (isE (Q := Q)).hold s1 fun q ρ2 w α2 H2 _ r2 q2 s2 => ?_)
  dsimp only at s2
  split at s2
  · rename_i c hc
    exact ho _ H2 Q v w _ _ c hc r2.unhold.wf (r2.unhold.vw r2.held) (r2.unhold.vw q2) fun z H3 hx hz => s2 z α2 H3 (r2.unhold.ext hx) hz
  · exact s2.elim
theorem pef_bin {op : T → T → Option T} {a b : Expr} {o : Operator} {fa fb : FE} {pos : Pos} (ho : OpT G X (binaryOp o) op) (ha : PEf G X W a fa) (hb : PEf G X W b fb) : PEf G X W (.BinOp a o b pos) (fBin op fa fb) := by
  obtain ⟨ta, pa, ha⟩ := ha
  obtain ⟨tb, pb, hb⟩ := hb
  obtain ⟨r, hr, ho⟩ := ho
  exact ⟨_, pe_op hr pa pb, fun F α ρ σ H Q rl s => bin_ok ha hb ho F α ρ σ H Q rl s⟩
theorem pef_cmp {op : T → T → Option T} {a b : Expr} {o : CmpOp} {fa fb : FE} {pos : Pos} (ho : OpT G X (compareOp o) op) (ha : PEf G X W a fa) (hb : PEf G X W b fb) (hm : behindInMarks o b = false) : PEf G X W (.Compare a [o] [b] pos) (fBin op fa fb) := by
  obtain ⟨ta, pa, ha⟩ := ha
  obtain ⟨tb, pb, hb⟩ := hb
  obtain ⟨r, hr, ho⟩ := ho
  exact ⟨_, pe_cmpR hr pa pb hm, fun F α ρ σ H Q rl s => bin_ok ha hb ho F α ρ σ H Q rl s⟩
end
/-! ### operators -/
def addT : T → T → Option T
  | .int i, .int j => some (.int (i + j))
  | .str a, .str b => if a.length + b.length ≤ 16777216 then some (.str (a ++ b)) else none
  | .lst a, .lst b => if a.length + b.length ≤ 16777216 then some (.lst (a ++ b)) else none
  | .tup a, .tup b => if a.length + b.length ≤ 16777216 then some (.tup (a ++ b)) else none
  | _, _ => none
def subT : T → T → Option T
  | .int i, .int j => some (.int (i - j))
  | _, _ => none
def mulT : T → T → Option T
  | .int i, .int j => if (-(2 ^ 64) < i ∧ i < 2 ^ 64) ∨ (-(2 ^ 64) < j ∧ j < 2 ^ 64) then some (.int (i * j)) else none
  | _, _ => none
def divT : T → T → Option T
  | .int i, .int j => if 0 < j ∧ j.natAbs.log2 < 9000 then some (.int (i / j)) else none
  | _, _ => none
def modT : T → T → Option T
  | .int i, .int j => if 0 < j then some (.int (i % j)) else none
  | _, _ => none
def powT : T → T → Option T
  | .int i, .int j => if 0 ≤ j ∧ j ≤ 1000000 ∧ i.natAbs < 2 ^ 64 then some (.int (i ^ j.toNat)) else none
  | _, _ => none
def ltT : T → T → Option T
  | .int i, .int j => some (.bl (decide (i < j)))
  | .str a, .str b => some (.bl (decide (a < b)))
  | _, _ => none
def leT : T → T → Option T
  | .int i, .int j => some (.bl (decide (i ≤ j)))
  | .str a, .str b => some (.bl (!decide (b < a)))
  | _, _ => none
def gtT : T → T → Option T := fun s t => ltT t s
def geT : T → T → Option T := fun s t => leT t s
mutual
def T.py : T → PyData
  | .non => .none
  | .bl b => .bool b
  | .int i => .int i
  | .str s => .str (S s)
  | .tup xs => .tuple (T.pys xs)
  | .lst xs => .list (T.pys xs)
  | .ty _ => .dict []
  | .dct _ => .dict []
  | .obj _ _ => .dict []
  | .ref _ => .dict []
  | .exo _ => .dict []
  | .cl _ => .dict []
  | .dcN _ => .dict []
def T.pys : List T → List PyData
  | [] => []
  | x :: xs => T.py x :: T.pys xs
end
def eqT (s t : T) : Option T := if s.py.plain = true ∧ t.py.plain = true ∧ min s.py.depth t.py.depth ≤ 60 then some (.bl (PyData.eqv s.py t.py)) else none
def neT (s t : T) : Option T := if s.py.plain = true ∧ t.py.plain = true ∧ min s.py.depth t.py.depth ≤ 60 then some (.bl (!PyData.eqv s.py t.py)) else none
/-- a sign in a text, a thing in a list or a tuple -/
def inT : T → T → Option T
  | .str [c], .str z => some (.bl (decide (c ∈ z)))
  | .str _, .str _ => none
  | s, .lst xs => if s.py.plain = true ∧ (PyData.plainAll (T.pys xs)) = true ∧ min (PyData.depthAll (T.pys xs)) s.py.depth ≤ 60 then some (.bl ((T.pys xs).any fun y => PyData.eqv y s.py)) else none
  | s, .tup xs => if s.py.plain = true ∧ (PyData.plainAll (T.pys xs)) = true ∧ min (PyData.depthAll (T.pys xs)) s.py.depth ≤ 60 then some (.bl ((T.pys xs).any fun y => PyData.eqv y s.py)) else none
  | _, _ => none
def notT : Option T → Option T
  | some (.bl b) => some (.bl (!b))
  | _ => none
def notInT (s t : T) : Option T := notT (inT s t)
def isT : T → T → Option T
  | .bl a, .bl b => some (.bl (decide (a = b)))
  | .non, .non => some (.bl true)
  | .bl _, .non => some (.bl false)
  | .int _, .non => some (.bl false)
  | .str _, .non => some (.bl false)
  | .tup _, .non => some (.bl false)
  | .lst _, .non => some (.bl false)
  | .dct _, .non => some (.bl false)
  | .obj _ _, .non => some (.bl false)
  | .ty _, .non => some (.bl false)
  | .exo _, .non => some (.bl false)
  | .dcN _, .non => some (.bl false)
  | _, _ => none
def isNotT (s t : T) : Option T := notT (isT s t)
section
variable {G : GG} {w : Wd} {H : Hp}
theorem rep_int {v : V} {i : Int} (r : Rep G w H v (.int i)) : v = .int i := by cases r; rfl
theorem rep_bl {v : V} {i : Bool} (r : Rep G w H v (.bl i)) : v = .bl i := by cases r; rfl
theorem rep_str {v : V} {i : List Nat} (r : Rep G w H v (.str i)) : v = .str (S i) := by cases r; rfl
theorem rep_non {v : V} (r : Rep G w H v .non) : v = .non := by cases r; rfl
theorem rep_lst {v : V} {ts : List T} (r : Rep G w H v (.lst ts)) : ∃ a vs, v = .ref a ∧ SqL G.K H a vs ∧ Reps G w H vs ts := by
  cases r with
  | lst _ h q => exact ⟨_, _, rfl, .inl h, q⟩
  | lstK h q => exact ⟨_, _, rfl, .inr h, q⟩
theorem rep_tup {v : V} {ts : List T} (r : Rep G w H v (.tup ts)) : ∃ a vs, v = .ref a ∧ SqT G.K H a vs ∧ Reps G w H vs ts ∧ ¬ w.E a ∧ Rd H a (.tup vs) := by
  cases r with
  | tup n h q => exact ⟨_, _, rfl, .inl h, q, n, h⟩
theorem S_length (a : List Nat) : (S a).length = a.length := by
  show (S a).cps.size = _
  simp
theorem S_append (a b : List Nat) : S a ++ S b = S (a ++ b) := by
  show (⟨(S a).cps ++ (S b).cps⟩ : Str) = _
  simp
theorem new_lst {p : Addr} {vs : List V} {ts : List T} (hp : H p = none) (hE : ¬ w.E p) (q : Reps G w H vs ts) : Rep G w (upd H p (.lst vs)) (.ref p) (.lst ts) :=
  .lst hE (.inl upd_same) (q.stab (Keep.new0 hp))
theorem new_tup {p : Addr} {vs : List V} {ts : List T} (hp : H p = none) (hE : ¬ w.E p) (q : Reps G w H vs ts) : Rep G w (upd H p (.tup vs)) (.ref p) (.tup ts) :=
  .tup hE (.inl upd_same) (q.stab (Keep.new0 hp))
mutual
theorem rep_dp : ∀ {v : V} {t : T}, Rep G w H v t → t.py.plain = true → Dp G.K H v t.py
  | _, _, .non, _ => .non
  | _, _, .bl b, _ => .bl b
  | _, _, .int i, _ => .int i
  | _, _, .str s, _ => .str _
  | _, _, .ty _, hp => by cases hp
  | _, _, .tup _ h r, hp => .tup (.inl h) (reps_dp r hp)
  | _, _, .lst _ h r, hp => .lst (.inl h) (reps_dp r hp)
  | _, _, .lstK h r, hp => .lst (.inr h) (reps_dp r hp)
  | _, _, .dct _ _ _ _, hp => by cases hp
  | _, _, .obj _ _ _ _, hp => by cases hp
  | _, _, .ref _, hp => by cases hp
  | _, _, .dctN _ _ _, hp => by cases hp
  | _, _, .exo _ _ _, hp => by cases hp
  | _, _, .cl _, hp => by cases hp
theorem reps_dp : ∀ {vs : List V} {ts : List T}, Reps G w H vs ts → PyData.plainAll (T.pys ts) = true → DpAll G.K H vs (T.pys ts)
  | _, _, .nil, _ => .nil
  | _ :: _, t :: ts, .cons r rs, hp => by
    have h : t.py.plain = true ∧ PyData.plainAll (T.pys ts) = true := by
      rw [T.pys] at hp
      simpa [PyData.plainAll] using hp
    exact .cons (rep_dp r h.1) (reps_dp rs h.2)
end
theorem rv_int {v : V} {i : Int} (r : RV G w H v (.int i)) : v = .int i := by cases r with | of r => exact rep_int r
theorem rv_bl {v : V} {i : Bool} (r : RV G w H v (.bl i)) : v = .bl i := by cases r with | of r => exact rep_bl r
theorem rv_str {v : V} {i : List Nat} (r : RV G w H v (.str i)) : v = .str (S i) := by cases r with | of r => exact rep_str r
theorem rv_non {v : V} (r : RV G w H v .non) : v = .non := by cases r with | of r => exact rep_non r
theorem rv_ty {v : V} {n : String} (r : RV G w H v (.ty n)) : v = .ty n := by cases r with | of r => cases r; rfl
theorem rv_lst {v : V} {ts : List T} (r : RV G w H v (.lst ts)) : ∃ a vs, v = .ref a ∧ SqL G.K H a vs ∧ Reps G w H vs ts := by
  cases r with
  | of r => exact rep_lst r
  | lst h q => exact ⟨_, _, rfl, .inl (.inl h), q⟩
theorem rv_tup {v : V} {ts : List T} (r : RV G w H v (.tup ts)) : Rep G w H v (.tup ts) ∧ ∃ a vs, v = .ref a ∧ SqT G.K H a vs ∧ Reps G w H vs ts ∧ ¬ w.E a ∧ Rd H a (.tup vs) := by
  cases r with | of r => exact ⟨r, rep_tup r⟩
theorem rv_dct {v : V} {kvs : List (T × T)} (r : RV G w H v (.dct kvs)) : ∃ (a : Addr) (kv : List (Key × V)), v = .ref a ∧ H a = some (.dK kv) ∧ RepD G w H (kv.map fun p => (kT p.1, p.2)) kvs := by
  cases r with
  | of r => cases r with | dct _ h d q => cases d; exact ⟨_, _, rfl, h, q⟩
  | dct h d q => cases d; exact ⟨_, _, rfl, h, q⟩
theorem rv_dcN {v : V} {kvs : List (T × T)} (r : RV G w H v (.dcN kvs)) : ∃ a xs, v = .ref a ∧ H a = some (ND G.prog G.wld a xs) ∧ RepN G w H xs kvs := by
  cases r with | of r => cases r with | dctN _ h q => exact ⟨_, _, rfl, h, q⟩
theorem rv_obj {v : V} {c : Str} {fs : List (Str × T)} (r : RV G w H v (.obj c fs)) : ∃ a C dx vs, v = .ref a ∧ H a = some (.ins C dx vs) ∧ G.cls c = some C ∧ RepF G w H vs fs := by
  cases r with
  | of r => cases r with | obj _ h d q => exact ⟨_, _, _, _, rfl, h, d, q⟩
  | obj h d q => exact ⟨_, _, _, _, rfl, h, d, q⟩
theorem rv_dp {v : V} {t : T} (r : RV G w H v t) (hp : t.py.plain = true) : Dp G.K H v t.py := by
  cases r with
  | of r => exact rep_dp r hp
  | lst h q => exact .lst (.inl (.inl h)) (reps_dp q hp)
  | dct h d q => cases hp
  | obj h d q => cases hp
end
section
variable {G : GG} {X : Cx}
theorem op_int {f : Value → Value → Sem Value} {C : Int → Int → Prop} {g : Int → Int → V} (h : OpR X f (rI C g)) {op : T → T → Option T}
    (hop : ∀ s t c, op s t = some c → ∃ i j, s = .int i ∧ t = .int j ∧ C i j ∧ ∀ w H, Rep G w H (g i j) c) : OpT G X f op :=
  ⟨_, h, fun w H Q x y s t c e wf rx ry q => by
    obtain ⟨i, j, rfl, rfl, hc, hr⟩ := hop s t c e
    exact ⟨i, j, rv_int rx, rv_int ry, hc, q _ H (HExt.refl wf.tabs) (hr w H)⟩⟩
theorem op_sub_t : OpT G X (binaryOp .Sub) subT := by
  refine ⟨_, op_sub, fun w H Q x y s t c e wf rx ry q => ?_⟩
  unfold subT at e
  split at e
  · cases e
    exact ⟨_, _, rv_int rx, rv_int ry, q _ H (HExt.refl wf.tabs) (.int _)⟩
  · cases e
theorem op_mul_t : OpT G X (binaryOp .Mult) mulT := op_int (C := CMul) op_mul fun s t c e => by
  unfold mulT at e
  split at e
  · split at e
    · rename_i i j h
      cases e
      exact ⟨i, j, rfl, rfl, h, fun _ _ => .int _⟩
    · cases e
  · cases e
theorem op_div_t : OpT G X (binaryOp .FloorDiv) divT := op_int (C := CDivW) op_fdivW fun s t c e => by
  unfold divT at e
  split at e
  · split at e
    · rename_i i j h
      cases e
      exact ⟨i, j, rfl, rfl, h, fun _ _ => .int _⟩
    · cases e
  · cases e
theorem op_mod_t : OpT G X (binaryOp .Mod) modT := op_int op_mod fun s t c e => by
  unfold modT at e
  split at e
  · split at e
    · rename_i i j h
      cases e
      exact ⟨i, j, rfl, rfl, h, fun _ _ => .int _⟩
    · cases e
  · cases e
theorem op_pow_t : OpT G X (binaryOp .Pow) powT := op_int (C := CPow) op_pow fun s t c e => by
  unfold powT at e
  split at e
  · split at e
    · rename_i i j h
      cases e
      exact ⟨i, j, rfl, rfl, h, fun _ _ => .int _⟩
    · cases e
  · cases e
/-- list + list, whatever stands for them -/
def rCatS (K : PySem.W.Frag) : R2 := fun x y H Q => ∃ l b xs zs, x = .ref l ∧ y = .ref b ∧ SqL K H l xs ∧ SqL K H b zs ∧ xs.length + zs.length ≤ sizeLine ∧ ∀ p, H p = none → Q (.ref p) (upd H p (.lst (xs ++ zs)))
theorem op_catS : OpR X (binaryOp .Add) (rCatS X.K) := by
  intro pins s σ H x y v u Q I rx ry h
  obtain ⟨l, b, xs, zs, rfl, rfl, hH, hB, hz, q⟩ := h
  cases rx
  cases ry
  obtain ⟨its, r, ⟨⟨cls, dd, data, sl⟩, n, ho, hc, _, hd⟩, _⟩ := I.list hH
  obtain ⟨its2, r2, ⟨⟨cls2, dd2, data2, sl2⟩, n2, ho2, hc2, _, hd2⟩, _⟩ := I.list hB
  simp only at hc hd hc2 hd2
  subst hc hd hc2 hd2
  have e : its.toArray ++ its2.toArray = (its ++ its2).toArray := by simp
  have l1 := r.length
  have l2 := r2.length
  refine PySem.concat_meets ⟨_, ho, rfl⟩ ⟨_, ho2, rfl⟩ PySem.noFill_list_add PySem.seq_list_add PySem.F.slot_list_add PySem.F.entry_list_add (PySem.F.args_list_add_2 _ _) (PyProof.Rows.list_addW l b its.toArray its2.toArray n n2 dd dd2 sl sl2 (by rw [List.size_toArray, List.size_toArray]; omega)) ⟨ho, ho2, ?_⟩
  rw [e]
  exact ⟨.ref _, _, I.lnew (t' := s.toks) (r.append r2) (by rw [List.length_append]; omega), rfl, q _ I.fresh⟩
theorem op_add_t (hK : G.K = X.K) : OpT G X (binaryOp .Add) addT := by
  refine ⟨_, OpR.or op_add (OpR.or op_add_str (OpR.or op_catS op_catA)), fun w H Q x y s t c e wf rx ry q => ?_⟩
  unfold addT at e
  split at e
  · cases e
    exact .inl ⟨_, _, rv_int rx, rv_int ry, q _ H (HExt.refl wf.tabs) (.int _)⟩
  · split at e
    · rename_i a b h
      cases e
      refine .inr (.inl ⟨_, _, rv_str rx, rv_str ry, by rw [S_length, S_length]; exact h, ?_⟩)
      rw [S_append]
      exact q _ H (HExt.refl wf.tabs) (.str _)
    · cases e
  · split at e
    · rename_i a b h
      cases e
      obtain ⟨l, vs, rfl, h1, h2⟩ := rv_lst rx
      obtain ⟨m, ws, rfl, h3, h4⟩ := rv_lst ry
      rw [hK] at h1 h3
      refine .inr (.inr (.inl ⟨l, m, vs, ws, rfl, rfl, h1, h3, by rw [h2.length, h4.length]; exact h, fun p hp => ?_⟩))
      exact q _ _ (HExt.new wf.tabs hp) (new_lst hp (wf.new hp) (h2.append h4))
    · cases e
  · split at e
    · rename_i a b h
      cases e
      obtain ⟨tx, l, vs, rfl, h1, h2, h5, h6⟩ := rv_tup rx
      obtain ⟨ty, m, ws, rfl, h3, h4, h7, h8⟩ := rv_tup ry
      have h1' := h1
      have h3' := h3
      rw [hK] at h1' h3'
      refine .inr (.inr (.inr ⟨l, m, vs, ws, rfl, rfl, h1', h3', by rw [h2.length, h4.length]; exact h, fun e => ?_, fun _ e => ?_, fun _ _ p hp => ?_⟩))
      · subst e
        cases h2
        exact q _ H (HExt.refl wf.tabs) ty
      · subst e
        cases h4
        exact q _ H (HExt.refl wf.tabs) (by rw [List.append_nil]; exact tx)
      · exact q _ _ (HExt.new wf.tabs hp) (new_tup hp (wf.new hp) (h2.append h4))
    · cases e
  · cases e

theorem op_lt_t : OpT G X (compareOp .Lt) ltT := by
  refine ⟨_, OpR.or op_lt op_lt_str, fun w H Q x y s t c e wf rx ry q => ?_⟩
  unfold ltT at e
  split at e
  · cases e
    exact .inl ⟨_, _, rv_int rx, rv_int ry, q _ H (HExt.refl wf.tabs) (.bl _)⟩
  · cases e
    exact .inr ⟨_, _, rv_str rx, rv_str ry, by rw [List.toList_toArray, List.toList_toArray]; exact q _ H (HExt.refl wf.tabs) (.bl _)⟩
  · cases e
theorem op_le_t : OpT G X (compareOp .LtE) leT := by
  refine ⟨_, OpR.or op_le op_le_str, fun w H Q x y s t c e wf rx ry q => ?_⟩
  unfold leT at e
  split at e
  · cases e
    exact .inl ⟨_, _, rv_int rx, rv_int ry, q _ H (HExt.refl wf.tabs) (.bl _)⟩
  · cases e
    exact .inr ⟨_, _, rv_str rx, rv_str ry, by rw [List.toList_toArray, List.toList_toArray]; exact q _ H (HExt.refl wf.tabs) (.bl _)⟩
  · cases e
theorem op_gt_t : OpT G X (compareOp .Gt) gtT := by
  refine ⟨_, OpR.or op_gt op_gt_str, fun w H Q x y s t c e wf rx ry q => ?_⟩
  unfold gtT ltT at e
  split at e
  · cases e
    exact .inl ⟨_, _, rv_int rx, rv_int ry, q _ H (HExt.refl wf.tabs) (.bl _)⟩
  · cases e
    exact .inr ⟨_, _, rv_str rx, rv_str ry, by rw [List.toList_toArray, List.toList_toArray]; exact q _ H (HExt.refl wf.tabs) (.bl _)⟩
  · cases e
theorem op_ge_t : OpT G X (compareOp .GtE) geT := by
  refine ⟨_, OpR.or op_ge op_ge_str, fun w H Q x y s t c e wf rx ry q => ?_⟩
  unfold geT leT at e
  split at e
  · cases e
    exact .inl ⟨_, _, rv_int rx, rv_int ry, q _ H (HExt.refl wf.tabs) (.bl _)⟩
  · cases e
    exact .inr ⟨_, _, rv_str rx, rv_str ry, by rw [List.toList_toArray, List.toList_toArray]; exact q _ H (HExt.refl wf.tabs) (.bl _)⟩
  · cases e
def rEqP (K : PySem.W.Frag) (neg : Bool) : R2 := fun x y H Q => ∃ d e, Dp K H x d ∧ Dp K H y e ∧ d.plain = true ∧ e.plain = true ∧ min d.depth e.depth ≤ 60 ∧ Q (.bl (if neg then !PyData.eqv d e else PyData.eqv d e)) H
theorem op_eqP (hu : X.A.units + 64 < cLine) : OpR X (compareOp .Eq) (rEqP X.K false) := by
  intro pins s σ H x y v u Q I rx ry h
  obtain ⟨d, e, hd, he, sd, se, dp, q⟩ := h
  obtain ⟨as, r1⟩ := Dp.reads I d x v hd rx
  obtain ⟨bs, r2⟩ := Dp.reads I e y u he ry
  exact PySem.SeqAt.eq_plain r1 r2 sd se (by omega) ⟨.bl _, H, I, rfl, q⟩
theorem op_neP (hu : X.A.units + 64 < cLine) : OpR X (compareOp .NotEq) (rEqP X.K true) := by
  intro pins s σ H x y v u Q I rx ry h
  obtain ⟨d, e, hd, he, sd, se, dp, q⟩ := h
  obtain ⟨as, r1⟩ := Dp.reads I d x v hd rx
  obtain ⟨bs, r2⟩ := Dp.reads I e y u he ry
  exact PySem.SeqAt.ne_plain r1 r2 sd se (by omega) ⟨.bl _, H, I, rfl, q⟩
theorem op_eq_t (hK : G.K = X.K) (hu : X.A.units + 64 < cLine) : OpT G X (compareOp .Eq) eqT := by
  refine ⟨_, op_eqP hu, fun w H Q x y s t c e wf rx ry q => ?_⟩
  unfold eqT at e
  split at e
  · rename_i h
    cases e
    rw [← hK]
    exact ⟨_, _, rv_dp rx h.1, rv_dp ry h.2.1, h.1, h.2.1, h.2.2, q _ H (HExt.refl wf.tabs) (.bl _)⟩
  · cases e
theorem op_ne_t (hK : G.K = X.K) (hu : X.A.units + 64 < cLine) : OpT G X (compareOp .NotEq) neT := by
  refine ⟨_, op_neP hu, fun w H Q x y s t c e wf rx ry q => ?_⟩
  unfold neT at e
  split at e
  · rename_i h
    cases e
    rw [← hK]
    exact ⟨_, _, rv_dp rx h.1, rv_dp ry h.2.1, h.1, h.2.1, h.2.2, q _ H (HExt.refl wf.tabs) (.bl _)⟩
  · cases e
def rInP (K : PySem.W.Frag) (neg : Bool) : R2 := fun x y H Q => ∃ d ds, Dp K H x d ∧ (Dp K H y (.list ds) ∨ Dp K H y (.tuple ds)) ∧ d.plain = true ∧ PyData.plainAll ds = true ∧ min (PyData.depthAll ds) d.depth ≤ 60 ∧
  Q (.bl (if neg then !ds.any fun z => PyData.eqv z d else ds.any fun z => PyData.eqv z d)) H
theorem op_inP (hu : X.A.units + 65 < cLine) : OpR X (compareOp .In) (rInP X.K false) := by
  intro pins s σ H x y v u Q I rx ry h
  obtain ⟨d, ds, hd, he, sd, se, dp, q⟩ := h
  obtain ⟨as, r1⟩ := Dp.reads I d x v hd rx
  rcases he with he | he
  · obtain ⟨bs, r2⟩ := Dp.reads I _ y u he ry
    exact PySem.SeqAt.in_list_data r2 r1 se sd (by omega) ⟨.bl _, H, I, rfl, q⟩
  · obtain ⟨bs, r2⟩ := Dp.reads I _ y u he ry
    exact PySem.SeqAt.in_tuple_data r2 r1 se sd (by omega) ⟨.bl _, H, I, rfl, q⟩
theorem op_notInP (hu : X.A.units + 65 < cLine) : OpR X (compareOp .NotIn) (rInP X.K true) := by
  intro pins s σ H x y v u Q I rx ry h
  obtain ⟨d, ds, hd, he, sd, se, dp, q⟩ := h
  obtain ⟨as, r1⟩ := Dp.reads I d x v hd rx
  rcases he with he | he
  · obtain ⟨bs, r2⟩ := Dp.reads I _ y u he ry
    exact PySem.SeqAt.notIn_list_data r2 r1 se sd (by omega) ⟨.bl _, H, I, rfl, q⟩
  · obtain ⟨bs, r2⟩ := Dp.reads I _ y u he ry
    exact PySem.SeqAt.notIn_tuple_data r2 r1 se sd (by omega) ⟨.bl _, H, I, rfl, q⟩
theorem op_in_t (hK : G.K = X.K) (hu : X.A.units + 65 < cLine) : OpT G X (compareOp .In) inT := by
  refine ⟨_, OpR.or op_in_sign (op_inP hu), fun w H Q x y s t c e wf rx ry q => ?_⟩
  unfold inT at e
  split at e
  · cases e
    exact .inl ⟨_, _, rv_str rx, rv_str ry, by rw [List.toList_toArray]; exact q _ H (HExt.refl wf.tabs) (.bl _)⟩
  · cases e
  · split at e
    · rename_i h
      cases e
      rw [← hK]
      exact .inr ⟨_, _, rv_dp rx h.1, .inl (rv_dp ry (by rw [T.py]; exact h.2.1)), h.1, h.2.1, h.2.2, q _ H (HExt.refl wf.tabs) (.bl _)⟩
    · cases e
  · split at e
    · rename_i h
      cases e
      rw [← hK]
      exact .inr ⟨_, _, rv_dp rx h.1, .inr (rv_dp ry (by rw [T.py]; exact h.2.1)), h.1, h.2.1, h.2.2, q _ H (HExt.refl wf.tabs) (.bl _)⟩
    · cases e
  · cases e
theorem notT_some {o : Option T} {c : T} (h : notT o = some c) : ∃ b, o = some (.bl b) ∧ c = .bl (!b) := by
  unfold notT at h
  split at h
  · cases h; exact ⟨_, rfl, rfl⟩
  · cases h
theorem op_notIn_t (hK : G.K = X.K) (hu : X.A.units + 65 < cLine) : OpT G X (compareOp .NotIn) notInT := by
  refine ⟨_, OpR.or op_notIn_sign (op_notInP hu), fun w H Q x y s t c e wf rx ry q => ?_⟩
  have e' := notT_some (show notT (inT s t) = some c from e)
  clear e
  obtain ⟨b, e, rfl⟩ := e'
  unfold inT at e
  split at e
  · cases e
    exact .inl ⟨_, _, rv_str rx, rv_str ry, by rw [List.toList_toArray]; exact q _ H (HExt.refl wf.tabs) (.bl _)⟩
  · cases e
  · split at e
    · rename_i h
      cases e
      rw [← hK]
      exact .inr ⟨_, _, rv_dp rx h.1, .inl (rv_dp ry (by rw [T.py]; exact h.2.1)), h.1, h.2.1, h.2.2, q _ H (HExt.refl wf.tabs) (.bl _)⟩
    · cases e
  · split at e
    · rename_i h
      cases e
      rw [← hK]
      exact .inr ⟨_, _, rv_dp rx h.1, .inr (rv_dp ry (by rw [T.py]; exact h.2.1)), h.1, h.2.1, h.2.2, q _ H (HExt.refl wf.tabs) (.bl _)⟩
    · cases e
  · cases e
def T.isNon : T → Bool
  | .non => true
  | _ => false
theorem rep_isnon {w : Wd} {H : Hp} {v : V} {t : T} (r : RV G w H v t) : decide (v = V.non) = t.isNon := by
  cases r with
  | of r => cases r <;> rfl
  | _ => rfl
theorem op_is_t : OpT G X (compareOp .Is) isT := by
  refine ⟨_, OpR.or op_isN op_isBl, fun w H Q x y s t c e wf rx ry q => ?_⟩
  unfold isT at e
  split at e
  · cases e
    exact .inr ⟨_, _, rv_bl rx, rv_bl ry, q _ H (HExt.refl wf.tabs) (.bl _)⟩
  all_goals first
    | (cases e; exact .inl ⟨rv_non ry, by rw [rep_isnon rx]; exact q _ H (HExt.refl wf.tabs) (.bl _)⟩)
    | cases e
theorem op_isNot_t : OpT G X (compareOp .IsNot) isNotT := by
  refine ⟨_, OpR.or op_notN op_isnot_bl, fun w H Q x y s t c e wf rx ry q => ?_⟩
  have e' := notT_some (show notT (isT s t) = some c from e)
  clear e
  obtain ⟨b, e, rfl⟩ := e'
  unfold isT at e
  split at e
  · cases e
    exact .inr ⟨_, _, rv_bl rx, rv_bl ry, q _ H (HExt.refl wf.tabs) (.bl _)⟩
  all_goals first
    | (cases e; exact .inl ⟨rv_non ry, by rw [rep_isnon rx]; exact q _ H (HExt.refl wf.tabs) (.bl _)⟩)
    | cases e
end
end Tr
namespace Tr
open PySem L2 GxR
/-! ### tests -/
def truT : T → Option Bool
  | .non => some false
  | .bl b => some b
  | .int i => some (i != 0)
  | .str s => if s.length ≤ 16777216 then some (!s.isEmpty) else none
  | .tup xs => some (!xs.isEmpty)
  | .lst xs => some (!xs.isEmpty)
  | _ => none
def fTruth (fa : FE) : FB := fun ρ => (fa ρ).bind fun p => match truT (vw p.2.mu p.1) with
  | some b => .ok (b, p.2)
  | none => .stk
def fTest (fa : FE) : FB := fun ρ => (fa ρ).bind fun p => match p.1 with
  | .bl b => .ok (b, p.2)
  | _ => .stk
def fAnd (fa fb : FB) : FB := fun ρ => (fa ρ).bind fun p => if p.1 = true then fb p.2 else .ok (false, p.2)
def fOr (fa fb : FB) : FB := fun ρ => (fa ρ).bind fun p => if p.1 = true then .ok (true, p.2) else fb p.2
def fNot (fa : FB) : FB := fun ρ => (fa ρ).bind fun p => .ok (!p.1, p.2)
/-- .. as values -/
def fAndV (fa fb : FE) : FE := fun ρ => (fa ρ).bind fun p => match p.1 with
  | .bl b => if b = true then fb p.2 else .ok (.bl false, p.2)
  | _ => .stk
def fOrV (fa fb : FE) : FE := fun ρ => (fa ρ).bind fun p => match p.1 with
  | .bl b => if b = true then .ok (.bl true, p.2) else fb p.2
  | _ => .stk
def fNotV (fa : FE) : FE := fun ρ => (fa ρ).bind fun p => match p.1 with
  | .bl b => .ok (.bl (!b), p.2)
  | _ => .stk
def fIf (fc : FB) (fa fb : FE) : FE := fun ρ => (fc ρ).bind fun p => if p.1 = true then fa p.2 else fb p.2
def fChain (op op' : T → T → Option T) (fa fb fc : FE) : FE := fun ρ => (fa ρ).bind fun p => (fb p.2).bind fun q => match op (vw q.2.mu p.1) (vw q.2.mu q.1) with
  | some (.bl k) => if k = true then (fc q.2).bind fun r => (match op' (vw r.2.mu q.1) (vw r.2.mu r.1) with
      | some c => .ok (c, r.2)
      | none => .stk) else .ok (.bl false, q.2)
  | _ => .stk
section
variable {G : GG} {X : Cx} {W : WX}
def PWf (G : GG) (X : Cx) (W : WX) (e : Expr) (f : FB) : Prop := ∃ t, PW X e t ∧ ∀ F α ρ σ H Q, Rel G F α ρ σ H → SatB G W F σ (f ρ) Q → t σ H Q
theorem PWf.pt {e : Expr} {f : FB} (h : PWf G X W e f) : PTf G X W e f := let ⟨t, p, q⟩ := h; ⟨t, p.pt, q⟩
theorem rep_tru {w : Wd} {H : Hp} {v : V} {t : T} {b : Bool} (hK : G.K = X.K) (r : RV G w H v t) (h : truT t = some b) : TruV X.K v H b := by
  cases r with
  | lst h1 h2 =>
    cases h
    refine .inl ⟨_, .inl (.inl h1), ?_⟩
    cases h2 <;> rfl
  | dct h1 h2 h3 => cases h
  | obj _ _ _ => cases h
  | of r =>
  cases r with
  | non => cases h; rfl
  | bl b' => cases h; rfl
  | int i => cases h; rfl
  | str s =>
    have h : (if s.length ≤ 16777216 then some (!s.isEmpty) else none) = some b := h
    split at h
    · rename_i hl
      cases h
      refine ⟨by rw [S_length]; exact hl, ?_⟩
      rw [S_length]
      cases s with
      | nil => rfl
      | cons c r =>
        have : (((c :: r).length : Nat) : Int) ≠ 0 := by simp; omega
        simp [bne]
        omega
    · cases h
  | tup n h1 h2 =>
    cases h
    refine .inr (.inl ⟨_, .inl h1, ?_⟩)
    have := h2.length
    cases h2 <;> rfl
  | lst n h1 h2 =>
    cases h
    refine .inl ⟨_, .inl h1, ?_⟩
    cases h2 <;> rfl
  | lstK h1 h2 =>
    cases h
    refine .inl ⟨_, .inr (by rw [← hK]; exact h1), ?_⟩
    cases h2 <;> rfl
  | dct _ h1 h2 h3 => cases h
  | ty _ => cases h
  | ref _ => cases h
  | obj _ _ _ _ => cases h
  | dctN _ _ _ => cases h
  | exo _ _ _ => cases h
  | cl _ => cases h
theorem ptf_truth {e : Expr} {fa : FE} (hK : G.K = X.K) (ha : PEf G X W e fa) (he : ∀ whole, isTrue e X.env whole = (do let v ← whole; standAt e.pos; holding [v] (truthy v)) := by intro _; rfl) : PTf G X W e (fTruth fa) := by
  obtain ⟨t, p, q⟩ := ha
  refine ⟨_, pt_truth p he, fun F α ρ σ H Q r s => ?_⟩
  refine q F α ρ σ H _ r (satE_bind (isB (Q := Q)) s fun t ρ1 v α1 H1 _ r1 q1 s1 => ?_)
  dsimp only at s1
  split at s1
  · rename_i b hb
    exact ⟨b, rep_tru hK (r1.vw q1) hb, s1 α1 H1 r1⟩
  · exact s1.elim
theorem tb_ok {fa : FE} {ta : TE} (ha : ∀ F α ρ σ H Q, Rel G F α ρ σ H → SatE G W F σ (fa ρ) Q → ta σ H Q) (F α ρ σ H Q) (r : Rel G F α ρ σ H) (s : SatB G W F σ (fTest fa ρ) Q) : (ta σ H fun x H1 => ∃ c, x = .bl c ∧ Q c H1) := by
  refine ha F α ρ σ H _ r (satE_bind (isB (Q := Q)) s fun t ρ1 v α1 H1 _ r1 q1 s1 => ?_)
  dsimp only at s1
  split at s1
  · exact ⟨_, rep_bl q1, s1 α1 H1 r1⟩
  · exact s1.elim
/-- an expression whose value is a bool, as a test -/
theorem ptf_val {e : Expr} {fa : FE} (ha : PEf G X W e fa) (he : ∀ whole, isTrue e X.env whole = (do let v ← whole; standAt e.pos; holding [v] (truthy v)) := by intro _; rfl) : PTf G X W e (fTest fa) := by
  obtain ⟨t, p, q⟩ := ha
  exact ⟨_, pt_val p he, tb_ok q⟩
theorem ptf_cmp {op : T → T → Option T} {a b : Expr} {o : CmpOp} {fa fb : FE} {pos : Pos} (ho : OpT G X (compareOp o) op) (ha : PEf G X W a fa) (hb : PEf G X W b fb) (hm : behindInMarks o b = false) : PTf G X W (.Compare a [o] [b] pos) (fTest (fBin op fa fb)) := by
  obtain ⟨ta, pa, ha⟩ := ha
  obtain ⟨tb, pb, hb⟩ := hb
  obtain ⟨r, hr, ho⟩ := ho
  exact ⟨_, pt_cmpR hr pa pb hm, tb_ok fun F α ρ σ H Q rl s => bin_ok ha hb ho F α ρ σ H Q rl s⟩
theorem chain_ok {op op' : T → T → Option T} {fa fb fc : FE} {ta tb tc : TE} {r r' : R2}
    (ha : ∀ F α ρ σ H Q, Rel G F α ρ σ H → SatE G W F σ (fa ρ) Q → ta σ H Q) (hb : ∀ F α ρ σ H Q, Rel G F α ρ σ H → SatE G W F σ (fb ρ) Q → tb σ H Q) (hc : ∀ F α ρ σ H Q, Rel G F α ρ σ H → SatE G W F σ (fc ρ) Q → tc σ H Q)
    (ho : ∀ (w : Wd) (H : Hp) (Q : VK) (x y : V) (s t c : T), op s t = some c → Wf G w H → RV G w H x s → RV G w H y t → (∀ v H', HExt G H H' → Rep G w H' v c → Q v H') → r x y H Q)
    (ho' : ∀ (w : Wd) (H : Hp) (Q : VK) (x y : V) (s t c : T), op' s t = some c → Wf G w H → RV G w H x s → RV G w H y t → (∀ v H', HExt G H H' → Rep G w H' v c → Q v H') → r' x y H Q)
    (F α ρ σ H Q) (rl : Rel G F α ρ σ H) (s : SatE G W F σ (fChain op op' fa fb fc ρ) Q) : tChain r r' ta tb tc σ H Q := by
  refine ha F α ρ σ H _ rl (satE_bind (isE (Q := Q)) s fun p ρ1 v α1 H1 _ r1 q1 s1 => ?_)
  refine hb (F.hold v p) α1 ρ1 σ H1 _ (r1.hold q1) (satE_bind (isE (Q := Q)).hold s1 fun q ρ2 w α2 H2 _ r2 q2 s2 => ?_)
  dsimp only at s2
  split at s2
  · rename_i k hk
    refine ho _ H2 _ v w _ _ _ hk r2.unhold.wf (r2.unhold.vw r2.held) (r2.unhold.vw q2) fun z H3 hx hz => ⟨k, rep_bl hz, ?_⟩
    cases k with
    | false => exact s2 _ α2 H3 (r2.unhold.ext hx) (.bl _)
    | true =>
      rw [if_pos rfl] at s2 ⊢
      refine hc (F.hold w q) α2 ρ2 σ H3 _ (((r2.unhold).ext hx).hold (q2.stab hx.keepE)) (satE_bind (isE (Q := Q)).hold s2 fun r ρ3 y α3 H4 _ r3 q3 s3 => ?_)
      dsimp only at s3
      split at s3
      · rename_i c hc'
        exact ho' _ H4 Q w y _ _ c hc' r3.unhold.wf (r3.unhold.vw r3.held) (r3.unhold.vw q3) fun z H5 hx hz => s3 z α3 H5 (r3.unhold.ext hx) hz
      · exact s3.elim
  · exact s2.elim
theorem pef_chain {op op' : T → T → Option T} {a b c : Expr} {o o' : CmpOp} {fa fb fc : FE} {pos : Pos} (ho : OpT G X (compareOp o) op) (ho' : OpT G X (compareOp o') op') (ha : PEf G X W a fa) (hb : PEf G X W b fb) (hc : PEf G X W c fc)
    (hm : lastMarks [o, o'] [b, c] = false := by with_unfolding_all rfl) : PEf G X W (.Compare a [o, o'] [b, c] pos) (fChain op op' fa fb fc) := by
  obtain ⟨ta, pa, ha⟩ := ha
  obtain ⟨tb, pb, hb⟩ := hb
  obtain ⟨tc, pc, hc⟩ := hc
  obtain ⟨r, hr, ho⟩ := ho
  obtain ⟨r', hr', ho'⟩ := ho'
  exact ⟨_, pe_chain hr hr' pa pb pc hm, chain_ok ha hb hc ho ho'⟩
theorem ptf_chain {op op' : T → T → Option T} {a b c : Expr} {o o' : CmpOp} {fa fb fc : FE} {pos : Pos} (ho : OpT G X (compareOp o) op) (ho' : OpT G X (compareOp o') op') (ha : PEf G X W a fa) (hb : PEf G X W b fb) (hc : PEf G X W c fc)
    (hm : lastMarks [o, o'] [b, c] = false := by with_unfolding_all rfl) : PTf G X W (.Compare a [o, o'] [b, c] pos) (fTest (fChain op op' fa fb fc)) := by
  obtain ⟨ta, pa, ha⟩ := ha
  obtain ⟨tb, pb, hb⟩ := hb
  obtain ⟨tc, pc, hc⟩ := hc
  obtain ⟨r, hr, ho⟩ := ho
  obtain ⟨r', hr', ho'⟩ := ho'
  exact ⟨_, pt_chain hr hr' pa pb pc hm, tb_ok (chain_ok ha hb hc ho ho')⟩
theorem and_ok {fa fb : FB} {ta tb : TT} (ha : ∀ F α ρ σ H Q, Rel G F α ρ σ H → SatB G W F σ (fa ρ) Q → ta σ H Q) (hb : ∀ F α ρ σ H Q, Rel G F α ρ σ H → SatB G W F σ (fb ρ) Q → tb σ H Q) (F α ρ σ H Q) (r : Rel G F α ρ σ H) (s : SatB G W F σ (fAnd fa fb ρ) Q) : tAnd ta tb σ H Q := by
  refine ha F α ρ σ H _ r (satB_bind (isB (Q := Q)) s fun b ρ1 α1 H1 _ r1 s1 => ?_)
  dsimp only at s1
  split at s1
  · rename_i h
    rw [if_pos h]
    exact hb F α1 ρ1 σ H1 Q r1 s1
  · rename_i h
    rw [if_neg h]
    exact s1 α1 H1 r1
theorem or_ok {fa fb : FB} {ta tb : TT} (ha : ∀ F α ρ σ H Q, Rel G F α ρ σ H → SatB G W F σ (fa ρ) Q → ta σ H Q) (hb : ∀ F α ρ σ H Q, Rel G F α ρ σ H → SatB G W F σ (fb ρ) Q → tb σ H Q) (F α ρ σ H Q) (r : Rel G F α ρ σ H) (s : SatB G W F σ (fOr fa fb ρ) Q) : tOr ta tb σ H Q := by
  refine ha F α ρ σ H _ r (satB_bind (isB (Q := Q)) s fun b ρ1 α1 H1 _ r1 s1 => ?_)
  dsimp only at s1
  split at s1
  · rename_i h
    rw [if_pos h]
    exact s1 α1 H1 r1
  · rename_i h
    rw [if_neg h]
    exact hb F α1 ρ1 σ H1 Q r1 s1
variable {a b : Expr} {rest : List Expr} {fa fb : FB} {va vb : FE} {pos : Pos}
theorem pwf_and1 (ha : PTf G X W a fa) : PWf G X W (.BoolOp .And [a] pos) fa := let ⟨t, p, q⟩ := ha; ⟨t, pw_and1 p, q⟩
theorem pwf_or1 (ha : PTf G X W a fa) : PWf G X W (.BoolOp .Or [a] pos) fa := let ⟨t, p, q⟩ := ha; ⟨t, pw_or1 p, q⟩
theorem pwf_and (ha : PTf G X W a fa) (hb : PWf G X W (.BoolOp .And (b :: rest) pos) fb) : PWf G X W (.BoolOp .And (a :: b :: rest) pos) (fAnd fa fb) :=
  let ⟨_, p, q⟩ := ha; let ⟨_, p2, q2⟩ := hb; ⟨_, pw_and p p2, and_ok q q2⟩
theorem pwf_or (ha : PTf G X W a fa) (hb : PWf G X W (.BoolOp .Or (b :: rest) pos) fb) : PWf G X W (.BoolOp .Or (a :: b :: rest) pos) (fOr fa fb) :=
  let ⟨_, p, q⟩ := ha; let ⟨_, p2, q2⟩ := hb; ⟨_, pw_or p p2, or_ok q q2⟩
theorem ptf_not (ha : PTf G X W a fa) : PTf G X W (.UnaryOp .Not a pos) (fNot fa) := by
  obtain ⟨t, p, q⟩ := ha
  exact ⟨_, pt_not p, fun F α ρ σ H Q r s => q F α ρ σ H _ r (satB_bind (isB (Q := Q)) s fun b ρ1 α1 H1 _ r1 s1 => s1 α1 H1 r1)⟩
theorem pef_one {o : BoolOp} (ha : PEf G X W a va) : PEf G X W (.BoolOp o [a] pos) va := let ⟨t, p, q⟩ := ha; ⟨t, pe_one p, q⟩
theorem pef_and (ha : PEf G X W a va) (hb : PEf G X W (.BoolOp .And (b :: rest) pos) vb) : PEf G X W (.BoolOp .And (a :: b :: rest) pos) (fAndV va vb) := by
  obtain ⟨ta, pa, ha⟩ := ha
  obtain ⟨tb, pb, hb⟩ := hb
  refine ⟨_, pe_and pa pb, fun F α ρ σ H Q r s => ha F α ρ σ H _ r (satE_bind (isE (Q := Q)) s fun t ρ1 v α1 H1 e0 r1 q1 s1 => ?_)⟩
  dsimp only at s1
  split at s1
  · rename_i k
    refine ⟨k, rep_bl q1, ?_⟩
    cases k with
    | true => exact hb F α1 ρ1 σ H1 Q r1 s1
    | false => exact s1 _ α1 H1 r1 (.bl _)
  · exact s1.elim
theorem pef_or (ha : PEf G X W a va) (hb : PEf G X W (.BoolOp .Or (b :: rest) pos) vb) : PEf G X W (.BoolOp .Or (a :: b :: rest) pos) (fOrV va vb) := by
  obtain ⟨ta, pa, ha⟩ := ha
  obtain ⟨tb, pb, hb⟩ := hb
  refine ⟨_, pe_or pa pb, fun F α ρ σ H Q r s => ha F α ρ σ H _ r (satE_bind (isE (Q := Q)) s fun t ρ1 v α1 H1 e0 r1 q1 s1 => ?_)⟩
  dsimp only at s1
  split at s1
  · rename_i k
    refine ⟨k, rep_bl q1, ?_⟩
    cases k with
    | true => exact s1 _ α1 H1 r1 (.bl _)
    | false => exact hb F α1 ρ1 σ H1 Q r1 s1
  · exact s1.elim
theorem pef_not (ha : PEf G X W a va) : PEf G X W (.UnaryOp .Not a pos) (fNotV va) := by
  obtain ⟨ta, pa, ha⟩ := ha
  refine ⟨_, pe_not pa, fun F α ρ σ H Q r s => ha F α ρ σ H _ r (satE_bind (isE (Q := Q)) s fun t ρ1 v α1 H1 e0 r1 q1 s1 => ?_)⟩
  dsimp only at s1
  split at s1
  · exact ⟨_, rep_bl q1, s1 _ α1 H1 r1 (.bl _)⟩
  · exact s1.elim
theorem pef_ifExp {c : Expr} (hc : PTf G X W c fa) (ha : PEf G X W a va) (hb : PEf G X W b vb) : PEf G X W (.IfExp c a b pos) (fIf fa va vb) := by
  obtain ⟨tc, pc, hc⟩ := hc
  obtain ⟨ta, pa, ha⟩ := ha
  obtain ⟨tb, pb, hb⟩ := hb
  refine ⟨_, pe_ifExp pc pa pb, fun F α ρ σ H Q r s => hc F α ρ σ H _ r (satB_bind (isE (Q := Q)) s fun k ρ1 α1 H1 _ r1 s1 => ?_)⟩
  dsimp only at s1
  split at s1
  · rename_i h
    rw [if_pos h]
    exact ha F α1 ρ1 σ H1 Q r1 s1
  · rename_i h
    rw [if_neg h]
    exact hb F α1 ρ1 σ H1 Q r1 s1
end
/-! ### places, slices, displays, calls of built-ins -/
def ixT : T → T → Option T
  | .lst xs, .int i => atI xs i
  | .tup xs, .int i => atI xs i
  | .str s, .int i => if s.length ≤ 16777216 then (atI s i).map fun c => .str [c] else none
  | _, _ => none
def cutL {α : Type} (xs : List α) (lo hi : Option Int) : List α := (xs.drop (HT.sIx xs.length 0 lo)).take (HT.sIx xs.length xs.length hi - HT.sIx xs.length 0 lo)
def cutT (t : T) (lo hi : Option Int) : Option T := match t with
  | .lst xs => some (.lst (cutL xs lo hi))
  | .tup xs => some (.tup (cutL xs lo hi))
  | .str s => if s.length ≤ 16777216 then some (.str (cutL s lo hi)) else none
  | _ => none
abbrev FO := Env → R (Option Int × Env)
def fNoPart : FO := fun ρ => .ok (none, ρ)
def fPart (fa : FE) : FO := fun ρ => (fa ρ).bind fun p => match p.1 with
  | .int i => .ok (some i, p.2)
  | _ => .stk
def fSlice (fa : FE) (fl fh : FO) : FE := fun ρ => (fa ρ).bind fun p => (fl p.2).bind fun l => (fh l.2).bind fun h => match cutT (vw h.2.mu p.1) l.1 h.1 with
  | some c => .ok (c, h.2)
  | none => .stk
def fNil : FA := fun ρ => .ok ([], ρ)
def fCons (fa : FE) (fas : FA) : FA := fun ρ => (fa ρ).bind fun p => (fas p.2).bind fun q => .ok (p.1 :: q.1, q.2)
def fTup (fas : FA) : FE := fun ρ => (fas ρ).bind fun p => if p.1.length ≤ 16777216 then .ok (.tup p.1, p.2) else .stk
def fLst (fas : FA) : FE := fun ρ => (fas ρ).bind fun p => if p.1.length ≤ 16777216 then .ok (.lst p.1, p.2) else .stk
def fCall (op : List T → Option T) (fas : FA) : FE := fun ρ => (fas ρ).bind fun p => match op (p.1.map (vw p.2.mu)) with
  | some c => .ok (c, p.2)
  | none => .stk
section
variable {G : GG} {X : Cx} {W : WX}
theorem atI_reps {w : Wd} {H : Hp} {vs : List V} {ts : List T} {i : Int} {t : T} (r : Reps G w H vs ts) (h : atI ts i = some t) : ∃ v, atI vs i = some v ∧ Rep G w H v t := by
  unfold atI at h ⊢
  rw [r.length]
  cases e : ixN ts.length i with
  | none => rw [e] at h; cases h
  | some j =>
    rw [e] at h
    obtain ⟨v, h1, h2⟩ := r.get (show ts[j]? = some t from h)
    exact ⟨v, h1, h2⟩
theorem pef_ix {a b : Expr} {fa fb : FE} {pos : Pos} (hK : G.K = X.K) (ha : PEf G X W a fa) (hb : PEf G X W b fb) (hs : PlainIx b := by intro _ _; rfl) : PEf G X W (.Subscript a b pos) (fBin ixT fa fb) := by
  obtain ⟨ta, pa, ha⟩ := ha
  obtain ⟨tb, pb, hb⟩ := hb
  refine ⟨_, pe_ix ix_seq pa pb hs, fun F α ρ σ H Q rl s => bin_ok ha hb (fun w H Q x y s t c e wf rx ry q => ?_) F α ρ σ H Q rl s⟩
  unfold ixT at e
  split at e
  · obtain ⟨l, vs, rfl, h1, h2⟩ := rv_lst rx
    obtain ⟨v, h3, h4⟩ := atI_reps h2 e
    rw [hK] at h1
    exact .inl ⟨l, vs, _, v, rfl, rv_int ry, h1, h3, q v H (HExt.refl wf.tabs) h4⟩
  · obtain ⟨l, vs, rfl, h1, h2, _⟩ := (rv_tup rx).2
    obtain ⟨v, h3, h4⟩ := atI_reps h2 e
    rw [hK] at h1
    exact .inr (.inl ⟨l, vs, _, v, rfl, rv_int ry, h1, h3, q v H (HExt.refl wf.tabs) h4⟩)
  · split at e
    · rename_i z i hl
      cases hc : atI z i with
      | none => rw [hc] at e; cases e
      | some k =>
        rw [hc] at e
        cases e
        exact .inr (.inr ⟨_, _, k, rv_str rx, rv_int ry, by rw [S_length]; exact hl, by rw [List.toList_toArray]; exact hc, q _ H (HExt.refl wf.tabs) (.str [k])⟩)
    · cases e
  · cases e
def SatO (G : GG) (W : WX) (F : Fr) (σ : L2.St) : R (Option Int × Env) → (Option Int → Hp → Prop) → Prop
  | .ok (o, ρ'), Q => ∀ α H', Rel G F α ρ' σ H' → Q o H'
  | .exc x ρ', _ => SatX G W F σ x ρ'
  | .stk, _ => False
def POf (G : GG) (X : Cx) (W : WX) (e : Option Expr) (f : FO) : Prop := ∃ t, PO X e t ∧ ∀ F α ρ σ H Q, Rel G F α ρ σ H → SatO G W F σ (f ρ) Q → t σ H Q
theorem isO {F : Fr} {σ : L2.St} {Q : Option Int → Hp → Prop} : IsSat G W F σ (fun r => SatO G W F σ r Q) := ⟨fun _ _ h => h, fun h => h⟩
theorem satO_bind {F : Fr} {σ : L2.St} {β : Type} {f : R (Option Int × Env)} {k : Option Int × Env → R β} {Sa : R β → Prop} {Q : Option Int → Hp → Prop} (s : IsSat G W F σ Sa) (h : Sa (f.bind k))
    (hk : ∀ p ρ1 α1 H1, Rel G F α1 ρ1 σ H1 → Sa (k (p, ρ1)) → Q p H1) : SatO G W F σ f Q := by
  cases f with
  | ok a => obtain ⟨p, ρ1⟩ := a; exact fun α1 H1 r => hk p ρ1 α1 H1 r h
  | exc x ρ' => exact s.exc x ρ' h
  | stk => exact (s.stk h).elim
theorem pof_none : POf G X W none fNoPart := ⟨_, L2.po_none, fun F α ρ σ H Q r s => s α H r⟩
theorem pof_some {e : Expr} {fa : FE} (ha : PEf G X W e fa) : POf G X W (some e) (fPart fa) := by
  obtain ⟨ta, pa, ha⟩ := ha
  refine ⟨_, L2.po_some pa, fun F α ρ σ H Q r s => ha F α ρ σ H _ r (satE_bind (isO (Q := Q)) s fun t ρ1 v α1 H1 _ r1 q1 s1 => ?_)⟩
  dsimp only at s1
  split at s1
  · exact ⟨_, rep_int q1, s1 α1 H1 r1⟩
  · exact s1.elim
theorem cutL_reps {w : Wd} {H : Hp} {vs : List V} {ts : List T} (r : Reps G w H vs ts) (lo hi : Option Int) : Reps G w H (cutV vs lo hi) (cutL ts lo hi) := by
  unfold cutV cutL
  rw [r.length]
  exact (r.drop _).take _
theorem cutV_whole {α : Type} {xs : List α} {lo hi : Option Int} (h : HT.sIx xs.length 0 lo = 0 ∧ HT.sIx xs.length xs.length hi = xs.length) : cutL xs lo hi = xs := by
  unfold cutL
  rw [h.1, h.2]
  simp
theorem pef_slice {a : Expr} {lo hi : Option Expr} {fa : FE} {fl fh : FO} {pos p2 : Pos} (hK : G.K = X.K) (ha : PEf G X W a fa) (hl : POf G X W lo fl) (hh : POf G X W hi fh) : PEf G X W (.Subscript a (.Slice lo hi none p2) pos) (fSlice fa fl fh) := by
  obtain ⟨ta, pa, ha⟩ := ha
  obtain ⟨tl, pl, hl⟩ := hl
  obtain ⟨th, ph, hh⟩ := hh
  refine ⟨_, pe_slice (sl_list.or (sl_tupA.or sl_str)) pa pl ph, fun F α ρ σ H Q r s => ha F α ρ σ H _ r (satE_bind (isE (Q := Q)) s fun t ρ1 v α1 H1 e0 r1 q1 s1 => ?_)⟩
  refine hl (F.hold v t) α1 ρ1 σ H1 _ (r1.hold q1) (satO_bind (isE (Q := Q)).hold s1 fun l ρ2 α2 H2 r2 s2 => ?_)
  refine hh (F.hold v t) α2 ρ2 σ H2 _ r2 (satO_bind (isE (Q := Q)).hold s2 fun h ρ3 α3 H3 r3 s3 => ?_)
  dsimp only at s3
  have w := r3.unhold.wf
  have rv := r3.unhold.vw r3.held
  split at s3
  · rename_i c hc
    unfold cutT at hc
    generalize vw ρ3.mu t = u at hc rv
    split at hc
    · cases hc
      obtain ⟨p, vs, rfl, h1, h2⟩ := rv_lst rv
      rw [hK] at h1
      exact .inl ⟨p, vs, rfl, h1, fun p hp => s3 _ α3 _ (r3.unhold.new hp) (new_lst hp (w.new hp) (cutL_reps h2 l h))⟩
    · cases hc
      obtain ⟨tv, p, vs, rfl, h1, h2, _⟩ := rv_tup rv
      rw [hK] at h1
      refine .inr (.inl ⟨p, vs, rfl, h1, fun e => ?_, fun _ p hp => s3 _ α3 _ (r3.unhold.new hp) (new_tup hp (w.new hp) (cutL_reps h2 l h))⟩)
      rw [h2.length] at e
      exact s3 _ α3 H3 r3.unhold (by rw [cutV_whole e]; exact tv)
    · split at hc
      · rename_i z hz
        cases hc
        refine .inr (.inr ⟨_, rv_str rv, by rw [S_length]; exact hz, ?_⟩)
        have e : cutS (S z) l h = S (cutL z l h) := by
          unfold cutS cutL
          rw [S_length, List.toList_toArray]
        rw [e]
        exact s3 _ α3 H3 r3.unhold (.str _)
      · cases hc
    · cases hc
  · exact s3.elim
theorem paf_nil : PAf G X W [] fNil := ⟨_, pa_nil, fun F α ρ σ H Q r s => s [] α H r .nil⟩
theorem paf_cons {e : Expr} {es : List Expr} {fa : FE} {fas : FA} (ha : PEf G X W e fa) (hs : PAf G X W es fas) (h1 : starEach (e :: es) X.env = (false, eval e X.env) :: starEach es X.env := by rfl) : PAf G X W (e :: es) (fCons fa fas) := by
  obtain ⟨ta, pa, ha⟩ := ha
  obtain ⟨ts, ps, hs⟩ := hs
  refine ⟨_, pa_cons pa ps h1, fun F α ρ σ H Q r s => ha F α ρ σ H _ r (satE_bind (isA (Q := Q)) s fun t ρ1 v α1 H1 _ r1 q1 s1 => ?_)⟩
  refine hs (F.hold v t) α1 ρ1 σ H1 _ (r1.hold q1) (satA_bind (isA (Q := Q)).hold s1 fun us ρ2 vs α2 H2 _ r2 q2 s2 => ?_)
  exact s2 _ α2 H2 r2.unhold (.cons r2.held q2)
theorem pef_tup {es : List Expr} {fas : FA} {k pos} (hs : PAf G X W es fas) : PEf G X W (.Tuple es k pos) (fTup fas) := by
  obtain ⟨ts, ps, hs⟩ := hs
  refine ⟨_, pe_tup ps, fun F α ρ σ H Q r s => hs F α ρ σ H _ r (satA_bind (isE (Q := Q)) s fun us ρ1 vs α1 H1 _ r1 q1 s1 => ?_)⟩
  dsimp only at s1
  split at s1
  · rename_i hl
    exact ⟨by rw [q1.length]; exact hl, fun p hp => s1 _ α1 _ (r1.new hp) (new_tup hp (r1.wf.new hp) q1)⟩
  · exact s1.elim
theorem pef_lst {es : List Expr} {fas : FA} {pos} (hs : PAf G X W es fas) : PEf G X W (.List es pos) (fLst fas) := by
  obtain ⟨ts, ps, hs⟩ := hs
  refine ⟨_, pe_lst ps, fun F α ρ σ H Q r s => hs F α ρ σ H _ r (satA_bind (isE (Q := Q)) s fun us ρ1 vs α1 H1 _ r1 q1 s1 => ?_)⟩
  dsimp only at s1
  split at s1
  · rename_i hl
    exact ⟨by rw [q1.length]; exact hl, fun p hp => s1 _ α1 _ (r1.new hp) (new_lst hp (r1.wf.new hp) q1)⟩
  · exact s1.elim
theorem pef_dct0 {pos} : PEf G X W (.Dict [] [] pos) (fC (.dct [])) :=
  ⟨_, pe_dnewK, fun F α ρ σ H Q r s p hp => s _ α _ (r.new hp) (.dct (r.wf.new hp) upd_same (.k []) .nil)⟩
/-- a call by values -/
def CallT (G : GG) (X : Cx) (f : Value) (op : List T → Option T) : Prop :=
  ∃ r, CallR X f r ∧ ∀ (w : Wd) (H : Hp) (Q : VK) (vs : List V) (ts : List T) (c : T), op ts = some c → Wf G w H → RVs G w H vs ts → (∀ v H', HExt G H H' → Rep G w H' v c → Q v H') → r vs H Q
theorem call_ok {op : List T → Option T} {fas : FA} {ts : TA} {r : List V → Hp → VK → Prop} (hs : ∀ F α ρ σ H Q, Rel G F α ρ σ H → SatA G W F σ (fas ρ) Q → ts σ H Q)
    (hr : ∀ (w : Wd) (H : Hp) (Q : VK) (vs : List V) (ts : List T) (c : T), op ts = some c → Wf G w H → RVs G w H vs ts → (∀ v H', HExt G H H' → Rep G w H' v c → Q v H') → r vs H Q)
    (F α ρ σ H Q) (rl : Rel G F α ρ σ H) (s : SatE G W F σ (fCall op fas ρ) Q) : tCB r ts σ H Q := by
  refine hs F α ρ σ H _ rl (satA_bind (isE (Q := Q)) s fun us ρ1 vs α1 H1 _ r1 q1 s1 => ?_)
  dsimp only at s1
  split at s1
  · rename_i c hc
    exact hr _ H1 Q vs _ c hc r1.wf (r1.vws q1) fun v H2 hx hv => s1 v α1 H2 (r1.ext hx) hv
  · exact s1.elim
theorem pef_callB {op : List T → Option T} {id : String} {x : Str} {e : Expr} {es : List Expr} {fas : FA} {p pos : Pos} (hc : CallT G X (.builtin id) op) (hg : Gl X x) (hm : X.mg x = none) (hv : bootBuiltins x = some (.builtin id)) (hs : PAf G X W (e :: es) fas)
    (hn : x ≠ "__name__" := by decide) (hdb : (x == ("__debug__" : Str)) = false := by decide)
    (he : starEach (e :: es) X.env = (false, eval e X.env) :: starEach es X.env := by rfl) (hpl : (backTo pos (starEach es X.env)).any (·.1) = false := by rfl) : PEf G X W (.Call (.Name x p) (e :: es) [] pos) (fCall op fas) := by
  obtain ⟨r, hr, ho⟩ := hc
  obtain ⟨ts, ps, hs⟩ := hs
  exact ⟨_, pe_callB hr hg hm hv ps hn hdb he hpl, call_ok hs ho⟩
theorem pef_callTy {op : List T → Option T} {id : String} {x : Str} {e : Expr} {es : List Expr} {fas : FA} {p pos : Pos} (hc : CallT G X (.type id) op) (hg : Gl X x) (hm : X.mg x = none) (hv : bootBuiltins x = some (.type id)) (hs : PAf G X W (e :: es) fas)
    (hn : x ≠ "__name__" := by decide) (hdb : (x == ("__debug__" : Str)) = false := by decide)
    (he : starEach (e :: es) X.env = (false, eval e X.env) :: starEach es X.env := by rfl) (hpl : (backTo pos (starEach es X.env)).any (·.1) = false := by rfl) : PEf G X W (.Call (.Name x p) (e :: es) [] pos) (fCall op fas) := by
  obtain ⟨r, hr, ho⟩ := hc
  obtain ⟨ts, ps, hs⟩ := hs
  exact ⟨_, pe_callTy hr hg hm hv ps hn hdb he hpl, call_ok hs ho⟩
def lenT : List T → Option T
  | [.str s] => if s.length ≤ 16777216 then some (.int s.length) else none
  | [.lst xs] => some (.int xs.length)
  | [.tup xs] => some (.int xs.length)
  | _ => none
def absT : List T → Option T
  | [.int i] => some (.int (if i < 0 then -i else i))
  | _ => none
def listT : List T → Option T
  | [.lst xs] => some (.lst xs)
  | [.tup xs] => some (.lst xs)
  | _ => none
def tupleT : List T → Option T
  | [.lst xs] => some (.tup xs)
  | [.tup xs] => some (.tup xs)
  | _ => none
theorem reps1 {w : Wd} {H : Hp} {vs : List V} {t : T} (r : Reps G w H vs [t]) : ∃ v, vs = [v] ∧ Rep G w H v t := by
  cases r with
  | cons r rs => cases rs; exact ⟨_, rfl, r⟩
theorem rvs1 {w : Wd} {H : Hp} {vs : List V} {t : T} (r : RVs G w H vs [t]) : ∃ v, vs = [v] ∧ RV G w H v t := by
  cases r with
  | cons r rs => cases rs; exact ⟨_, rfl, r⟩
theorem rvs2 {w : Wd} {H : Hp} {vs : List V} {t u : T} (r : RVs G w H vs [t, u]) : ∃ v v', vs = [v, v'] ∧ RV G w H v t ∧ RV G w H v' u := by
  cases r with
  | cons r rs => obtain ⟨v', rfl, h⟩ := rvs1 rs; exact ⟨_, _, rfl, r, h⟩
theorem call_len_t (hK : G.K = X.K) : CallT G X (.builtin "len") lenT := by
  refine ⟨_, CallR.or call_len_str call_len_seq, fun w H Q vs ts c e wf rs q => ?_⟩
  unfold lenT at e
  split at e
  · obtain ⟨v, rfl, r⟩ := rvs1 rs
    split at e
    · rename_i hl
      cases e
      exact .inl ⟨_, by rw [rv_str r], by rw [S_length]; exact hl, by rw [S_length]; exact q _ H (HExt.refl wf.tabs) (.int _)⟩
    · cases e
  · obtain ⟨v, rfl, r⟩ := rvs1 rs
    cases e
    obtain ⟨p, vs, rfl, h1, h2⟩ := rv_lst r
    rw [hK] at h1
    exact .inr ⟨p, vs, rfl, .inl h1, by rw [h2.length]; exact q _ H (HExt.refl wf.tabs) (.int _)⟩
  · obtain ⟨v, rfl, r⟩ := rvs1 rs
    cases e
    obtain ⟨p, vs, rfl, h1, h2, _⟩ := (rv_tup r).2
    rw [hK] at h1
    exact .inr ⟨p, vs, rfl, .inr h1, by rw [h2.length]; exact q _ H (HExt.refl wf.tabs) (.int _)⟩
  · cases e
theorem call_abs_t : CallT G X (.builtin "abs") absT := by
  refine ⟨_, call_abs, fun w H Q vs ts c e wf rs q => ?_⟩
  unfold absT at e
  split at e
  · obtain ⟨v, rfl, r⟩ := rvs1 rs
    cases e
    exact ⟨_, by rw [rv_int r], q _ H (HExt.refl wf.tabs) (.int _)⟩
  · cases e
theorem call_list_t (hK : G.K = X.K) : CallT G X (.type "list") listT := by
  refine ⟨_, call_list_of, fun w H Q vs ts c e wf rs q => ?_⟩
  unfold listT at e
  split at e
  · obtain ⟨v, rfl, r⟩ := rvs1 rs
    cases e
    obtain ⟨p, vs, rfl, h1, h2⟩ := rv_lst r
    rw [hK] at h1
    exact ⟨p, vs, rfl, .inl h1, fun p hp => q _ _ (HExt.new wf.tabs hp) (new_lst hp (wf.new hp) h2)⟩
  · obtain ⟨v, rfl, r⟩ := rvs1 rs
    cases e
    obtain ⟨p, vs, rfl, h1, h2, _⟩ := (rv_tup r).2
    rw [hK] at h1
    exact ⟨p, vs, rfl, .inr h1, fun p hp => q _ _ (HExt.new wf.tabs hp) (new_lst hp (wf.new hp) h2)⟩
  · cases e
theorem call_tuple_t (hK : G.K = X.K) : CallT G X (.type "tuple") tupleT := by
  refine ⟨_, call_tuple_of, fun w H Q vs ts c e wf rs q => ?_⟩
  unfold tupleT at e
  split at e
  · obtain ⟨v, rfl, r⟩ := rvs1 rs
    cases e
    obtain ⟨p, vs, rfl, h1, h2⟩ := rv_lst r
    rw [hK] at h1
    exact ⟨p, vs, rfl, .inl ⟨h1, fun p hp => q _ _ (HExt.new wf.tabs hp) (new_tup hp (wf.new hp) h2)⟩⟩
  · obtain ⟨v, rfl, r⟩ := rvs1 rs
    cases e
    obtain ⟨p, vs, rfl, h1, h2, _⟩ := (rv_tup r).2
    rw [hK] at h1
    exact ⟨p, vs, rfl, .inr ⟨h1, q _ H (HExt.refl wf.tabs) (rv_tup r).1⟩⟩
  · cases e
end
end Tr
namespace Tr
open PySem L2 GxR Gx

/-! ### the same tree -/
mutual
def T.beq : T → T → Bool
  | .non, .non => true
  | .bl a, .bl b => a == b
  | .int a, .int b => a == b
  | .str a, .str b => a == b
  | .ty a, .ty b => a == b
  | .tup a, .tup b => T.beqs a b
  | .lst a, .lst b => T.beqs a b
  | .dct a, .dct b => T.beqd a b
  | .obj c a, .obj d b => decide (c = d) && T.beqf a b
  | .ref a, .ref b => a == b
  | .exo a, .exo b => decide (a = b)
  | .cl a, .cl b => decide (a = b)
  | .dcN a, .dcN b => T.beqd a b
  | _, _ => false
def T.beqs : List T → List T → Bool
  | [], [] => true
  | x :: xs, y :: ys => T.beq x y && T.beqs xs ys
  | _, _ => false
def T.beqd : List (T × T) → List (T × T) → Bool
  | [], [] => true
  | (a, x) :: xs, (b, y) :: ys => T.beq a b && (T.beq x y && T.beqd xs ys)
  | _, _ => false
def T.beqf : List (Str × T) → List (Str × T) → Bool
  | [], [] => true
  | (a, x) :: xs, (b, y) :: ys => decide (a = b) && (T.beq x y && T.beqf xs ys)
  | _, _ => false
end
mutual
theorem T.beq_eq : ∀ {a b : T}, T.beq a b = true → a = b
  | .non, b, h => by cases b <;> simp [T.beq] at h ⊢
  | .bl _, b, h => by cases b <;> simp_all [T.beq]
  | .int _, b, h => by cases b <;> simp_all [T.beq]
  | .str _, b, h => by cases b <;> simp_all [T.beq]
  | .ty _, b, h => by cases b <;> simp_all [T.beq]
  | .tup xs, b, h => by cases b <;> first | (simp only [T.beq] at h; rw [T.beqs_eq h]) | (simp [T.beq] at h)
  | .lst xs, b, h => by cases b <;> first | (simp only [T.beq] at h; rw [T.beqs_eq h]) | (simp [T.beq] at h)
  | .dct xs, b, h => by cases b <;> first | (simp only [T.beq] at h; rw [T.beqd_eq h]) | (simp [T.beq] at h)
  | .obj c xs, b, h => by
    cases b <;> first
      | (simp only [T.beq, Bool.and_eq_true, decide_eq_true_eq] at h; rw [h.1, T.beqf_eq h.2])
      | (simp [T.beq] at h)
  | .ref _, b, h => by cases b <;> simp_all [T.beq]
  | .exo _, b, h => by cases b <;> simp_all [T.beq]
  | .cl _, b, h => by cases b <;> simp_all [T.beq]
  | .dcN xs, b, h => by cases b <;> first | (simp only [T.beq] at h; rw [T.beqd_eq h]) | (simp [T.beq] at h)
theorem T.beqs_eq : ∀ {a b : List T}, T.beqs a b = true → a = b
  | [], b, h => by cases b <;> simp [T.beqs] at h ⊢
  | x :: xs, b, h => by
    cases b with
    | nil => simp [T.beqs] at h
    | cons y ys =>
      simp only [T.beqs, Bool.and_eq_true] at h
      rw [T.beq_eq h.1, T.beqs_eq h.2]
theorem T.beqd_eq : ∀ {a b : List (T × T)}, T.beqd a b = true → a = b
  | [], b, h => by cases b <;> simp [T.beqd] at h ⊢
  | (n, x) :: xs, b, h => by
    cases b with
    | nil => simp [T.beqd] at h
    | cons y ys =>
      obtain ⟨m, y⟩ := y
      simp only [T.beqd, Bool.and_eq_true] at h
      rw [T.beq_eq h.1, T.beq_eq h.2.1, T.beqd_eq h.2.2]
theorem T.beqf_eq : ∀ {a b : List (Str × T)}, T.beqf a b = true → a = b
  | [], b, h => by cases b <;> simp [T.beqf] at h ⊢
  | (n, x) :: xs, b, h => by
    cases b with
    | nil => simp [T.beqf] at h
    | cons y ys =>
      obtain ⟨m, y⟩ := y
      simp only [T.beqf, Bool.and_eq_true, decide_eq_true_eq] at h
      rw [h.1, T.beq_eq h.2.1, T.beqf_eq h.2.2]
end
mutual
theorem T.beq_refl : ∀ a : T, T.beq a a = true
  | .non => by simp [T.beq]
  | .bl _ => by simp [T.beq]
  | .int _ => by simp [T.beq]
  | .str _ => by simp [T.beq]
  | .ty _ => by simp [T.beq]
  | .tup xs => by simp only [T.beq]; exact T.beqs_refl xs
  | .lst xs => by simp only [T.beq]; exact T.beqs_refl xs
  | .dct xs => by simp only [T.beq]; exact T.beqd_refl xs
  | .obj c xs => by simp only [T.beq, Bool.and_eq_true, decide_eq_true_eq, true_and]; exact T.beqf_refl xs
  | .ref _ => by simp [T.beq]
  | .exo _ => by simp [T.beq]
  | .cl _ => by simp [T.beq]
  | .dcN xs => by simp only [T.beq]; exact T.beqd_refl xs
theorem T.beqs_refl : ∀ a : List T, T.beqs a a = true
  | [] => by simp [T.beqs]
  | x :: xs => by simp only [T.beqs, Bool.and_eq_true]; exact ⟨T.beq_refl x, T.beqs_refl xs⟩
theorem T.beqd_refl : ∀ a : List (T × T), T.beqd a a = true
  | [] => by simp [T.beqd]
  | (n, x) :: xs => by simp only [T.beqd, Bool.and_eq_true]; exact ⟨T.beq_refl n, T.beq_refl x, T.beqd_refl xs⟩
theorem T.beqf_refl : ∀ a : List (Str × T), T.beqf a a = true
  | [] => by simp [T.beqf]
  | (n, x) :: xs => by simp only [T.beqf, Bool.and_eq_true, decide_eq_true_eq, true_and]; exact ⟨T.beq_refl x, T.beqf_refl xs⟩
end
/-- what is walked is what it was -/
def stays (μ : List Node) (t u : T) : Bool := match t with
  | .ref i => T.beq (vw μ (.ref i)) u
  | _ => true
theorem vw_same {μ : List Node} {t : T} (h : ∀ i, t ≠ .ref i) : vw μ t = t := by
  cases t <;> first | rfl | exact (h _ rfl).elim
theorem stays_eq {μ ν : List Node} {t u : T} (hu : vw μ t = u) (h : stays ν t u = true) : vw ν t = u := by
  cases t with
  | ref i => exact T.beq_eq h
  | _ => exact hu

/-! ### exclusive objects of those around -/
abbrev Fr.add (F : Fr) (D : Addr) : Fr := { F with O := fun a => F.O a ∨ a = D }
section
variable {G : GG} {F : Fr} {α : List Addr} {ρ ρ' : Env} {σ σ' : L2.St} {H H' : Hp} {D : Addr}
/-- a smaller frame's word -/
theorem Rel.less {F' : Fr} (r : Rel G F' α ρ σ H) (hO : ∀ a, F.O a → F'.O a) (h0 : F.H0 = F'.H0) (hM : F.M0 = F'.M0) (hal : F.al0 = F'.al0) (ht : ∀ p ∈ F.tmp, p ∈ F'.tmp) (hp : ∀ p ∈ F.pin, p ∈ F'.pin ∧ F.O p.1) : Rel G F α ρ σ H := by
  have k : Keep (wd F' α ρ.mu) H (wd F α ρ.mu) H := Keep.less (fun a ha => ha.elim (fun z => .inl (hO a z)) .inr) fun _ _ h => h
  exact ⟨r.len, fun i t e => let ⟨x, h1, h2⟩ := r.slot i t e; ⟨x, h1, h2.stab k⟩, r.alen, fun i n a e ea => (r.node i n a e ea).stab k fun u q _ => q, fun a ha z => r.apart a ha (hO a z), r.inj, by rw [hal]; exact r.al,
    fun a u e m => r.frame a u (by rw [← h0]; exact e) (by rw [← hM]; exact m), fun a ha => by rw [h0, hM]; exact r.ownf a ha, r.tabs, r.there, fun a ha => r.exs a (hO a ha), fun p q => (r.tmp p (ht p q)).stab k, fun p q => r.pinP p (hp p q).1,
    fun p q => ⟨(r.pin p (hp p q).1).1, (hp p q).2, by rw [h0, hM]; exact (r.pin p (hp p q).1).2.2⟩⟩
theorem Rel.unadd (r : Rel G (F.add D) α ρ σ H) (hp : ∀ p ∈ F.pin, F.O p.1) : Rel G F α ρ σ H := r.less (fun a h => .inl h) rfl rfl rfl (fun p h => h) fun p h => ⟨h, hp p h⟩
/-- a new object is laid that is exclusive to those around -/
theorem Rel.addNew (r : Rel G F α ρ σ H) {o : HO} (hD : H D = none) : Rel G (F.add D) α ρ σ (upd H D o) := by
  have k : Keep (wd F α ρ.mu) H (wd (F.add D) α ρ.mu) (upd H D o) := ⟨fun a u he e _ => ⟨by rw [upd_ne (ne_of_none e hD)]; exact e, fun z => by
    rcases z with z | z
    · rcases z with z | z
      · exact he (.inl z)
      · exact ne_of_none e hD z
    · exact he (.inr z)⟩, fun _ _ h => h⟩
  have nn : ∀ a u, H a = some u → upd H D o a = some u := fun a u e => by rw [upd_ne (ne_of_none e hD)]; exact e
  refine ⟨r.len, fun i t e => let ⟨x, h1, h2⟩ := r.slot i t e; ⟨x, h1, h2.stab k⟩, r.alen, fun i n a e ea => (r.node i n a e ea).stab k fun u q _ => nn _ _ q, fun a ha z => ?_, r.inj, r.al,
    fun a u e m => (r.frame a u e m).trans fun w q => by rw [nn a w q]; exact Grown.refl, r.ownf, fun P hP => let ⟨ps, h1, h2⟩ := r.tabs P hP; ⟨ps, nn _ _ h1, h2⟩, fun a ha => let ⟨u, e⟩ := r.there a ha; ⟨u, nn _ _ e⟩, fun a ha => ?_, fun p hp => (r.tmp p hp).stab k, r.pinP, fun p hp => ⟨nn _ _ (r.pin p hp).1, .inl (r.pin p hp).2.1, (r.pin p hp).2.2⟩⟩
  · rcases z with z | z
    · exact r.apart a ha z
    · obtain ⟨u, q⟩ := r.there a ha
      exact ne_of_none q hD z
  · rcases ha with ha | ha
    · obtain ⟨u, e⟩ := r.exs a ha
      exact ⟨u, nn _ _ e⟩
    · rw [ha]; exact ⟨o, upd_same⟩
theorem Rel.fresh0 (r : Rel G F α ρ σ H) (hD : H D = none) : F.M0 D ∨ F.H0 D = none := by
  by_cases m : F.M0 D
  · exact .inl m
  · refine .inr ?_
    cases e : F.H0 D with
    | none => rfl
    | some u =>
      have g := r.frame D u e m
      cases u with
      | tbl ps => obtain ⟨qs, q⟩ := g.2 ps rfl; rw [hD] at q; cases q
      | _ => have q := g.1 trivial; rw [hD] at q; cases q
theorem Rel.ntab (r : Rel G F α ρ σ H) {u : HO} (hu : H D = some u) (pu : Plain u) : ∀ P ∈ G.tabs, P ≠ D := fun P hP z => by
  obtain ⟨ps, h1, _⟩ := r.tabs P hP
  rw [z, hu] at h1
  cases h1
  exact pu
/-- an exclusive object of those around is changed -/
theorem Rel.mutO (r : Rel G F α ρ σ H) {u o : HO} (hO : F.O D) (hu : H D = some u) (pu : Plain u) (hf : F.M0 D ∨ F.H0 D = none) (hpin : ∀ p ∈ F.pin, p.1 ≠ D) : Rel G F α ρ σ (upd H D o) := by
  have k : Keep (wd F α ρ.mu) H (wd F α ρ.mu) (upd H D o) := Keep.mut (.inl hO)
  have nt := r.ntab hu pu
  refine ⟨r.len, fun i t e => let ⟨x, h1, h2⟩ := r.slot i t e; ⟨x, h1, h2.stab k⟩, r.alen, fun i n a e ea => ?_, r.apart, r.inj, r.al, fun a w e m => ?_, r.ownf, fun P hP => let ⟨ps, h1, h2⟩ := r.tabs P hP; ⟨ps, by rw [upd_ne (nt P hP)]; exact h1, h2⟩, fun a ha => ?_, fun a ha => ?_, fun p hp => (r.tmp p hp).stab k, r.pinP, fun p hp => ⟨by rw [upd_ne (hpin p hp)]; exact (r.pin p hp).1, (r.pin p hp).2⟩⟩
  · have h := r.node i n a e ea
    cases n with
    | dead => trivial
    | _ => exact h.stab k fun u q _ => by rw [upd_ne fun z => r.apart a (List.mem_of_getElem? ea) (by rw [z]; exact hO)]; exact q
  · have nD : a ≠ D := fun z => by
      rcases hf with q | q
      · exact m (by rw [z]; exact q)
      · rw [z, q] at e; cases e
    rw [upd_ne nD]
    exact r.frame a w e m
  · by_cases z : a = D
    · rw [z]; exact ⟨o, upd_same⟩
    · rw [upd_ne z]; exact r.there a ha
  · by_cases z : a = D
    · rw [z]; exact ⟨o, upd_same⟩
    · rw [upd_ne z]; exact r.exs a ha

/-! ### things that change -/
/-- a new object becomes a thing that changes -/
theorem Rel.own (r : Rel G (F.add D) α ρ σ H) {n : Node} (hD : NodeOk G (wd (F.add D) α ρ.mu) H D n) (hO : ¬ F.O D) (hA : D ∉ α) (on : n.on) (hf : F.M0 D ∨ F.H0 D = none) (hp : ∀ p ∈ F.pin, F.O p.1) (hx : ∃ u, H D = some u) :
    Rel G F (α ++ [D]) ⟨ρ.sl, ρ.mu ++ [n]⟩ σ H ∧ Rep G (wd F (α ++ [D]) (ρ.mu ++ [n])) H (.ref D) (.ref ρ.mu.length) := by
  have al : α.length = ρ.mu.length := r.alen
  have split : ∀ (i : Nat) (m : Node) (a : Addr), (ρ.mu ++ [n])[i]? = some m → (α ++ [D])[i]? = some a → (ρ.mu[i]? = some m ∧ α[i]? = some a) ∨ (i = ρ.mu.length ∧ m = n ∧ a = D) := fun i m a e ea => by
    by_cases h : i < ρ.mu.length
    · rw [List.getElem?_append_left h] at e
      rw [List.getElem?_append_left (by omega)] at ea
      exact .inl ⟨e, ea⟩
    · rw [List.getElem?_append_right (by omega)] at e
      rw [List.getElem?_append_right (by omega)] at ea
      have h1 : i - ρ.mu.length = 0 := by
        cases q : i - ρ.mu.length with
        | zero => rfl
        | succ j => rw [q] at e; simp at e
      rw [h1] at e
      rw [show i - α.length = 0 by omega] at ea
      cases e; cases ea
      exact .inr ⟨by omega, rfl, rfl⟩
  have on2 : ∀ a, onA (α ++ [D]) (ρ.mu ++ [n]) a → onA α ρ.mu a ∨ a = D := fun a ⟨i, m, h1, h2, h3⟩ => by
    rcases split i m a h1 h3 with ⟨q1, q2⟩ | ⟨_, _, q⟩
    · exact .inl ⟨i, m, q1, h2, q2⟩
    · exact .inr q
  have k : Keep (wd (F.add D) α ρ.mu) H (wd F (α ++ [D]) (ρ.mu ++ [n])) H := Keep.less (fun a ha => by
    rcases ha with ha | ha
    · exact .inl (.inl ha)
    · rcases on2 a ha with q | q
      · exact .inr q
      · exact .inl (.inr q)) fun i a h => by
        show (α ++ [D])[i]? = some a
        have : i < α.length := (List.getElem?_eq_some_iff.mp h).1
        rw [List.getElem?_append_left this]
        exact h
  refine ⟨⟨r.len, fun i t e => let ⟨x, h1, h2⟩ := r.slot i t e; ⟨x, h1, h2.stab k⟩, by simp [al], fun i m a e ea => ?_, fun a ha z => ?_, ?_, ?_, r.frame, fun a ha => ?_, r.tabs, fun a ha => ?_, fun a ha => r.exs a (.inl ha), fun p q => (r.tmp p q).stab k, r.pinP, fun p q => ⟨(r.pin p q).1, hp p q, (r.pin p q).2.2⟩⟩, .ref ?_⟩
  · rcases split i m a e ea with ⟨q1, q2⟩ | ⟨_, q1, q2⟩
    · exact (r.node i m a q1 q2).stab k fun u q _ => q
    · rw [q1, q2]; exact hD.stab k fun u q _ => q
  · rcases List.mem_append.mp ha with q | q
    · exact r.apart a q (.inl z)
    · rw [List.mem_singleton] at q; exact hO (by rw [← q]; exact z)
  · rw [List.nodup_append]
    exact ⟨r.inj, by simp, fun a ha b hb => fun z => hA (by rw [List.mem_singleton] at hb; rw [← hb, ← z]; exact ha)⟩
  · exact r.al.trans (List.prefix_append ..)
  · rcases on2 a ha with q | q
    · exact r.ownf a q
    · rw [q]; exact hf
  · rcases List.mem_append.mp ha with q | q
    · exact r.there a q
    · rw [List.mem_singleton] at q; rw [q]; exact hx
  · show (α ++ [D])[ρ.mu.length]? = some D
    rw [← al, List.getElem?_append_right (Nat.le_refl _)]
    simp
/-- a thing is changed -/
theorem Rel.put (r : Rel G F α ρ σ H) {i : Nat} {n m : Node} {o u : HO} (hi : ρ.mu[i]? = some n) (hD : α[i]? = some D) (on : n.on) (hu : H D = some u) (pu : Plain u) (hok : NodeOk G (wd F α ρ.mu) (upd H D o) D m) : Rel G F α ⟨ρ.sl, ρ.mu.set i m⟩ σ (upd H D o) := by
  have ex : (wd F α ρ.mu).E D := .inr ⟨i, n, hi, on, hD⟩
  have k1 : Keep (wd F α ρ.mu) H (wd F α ρ.mu) (upd H D o) := Keep.mut ex
  have lt : i < ρ.mu.length := (List.getElem?_eq_some_iff.mp hi).1
  have at' : ∀ (j : Nat) (x : Node), (ρ.mu.set i m)[j]? = some x → (j = i ∧ x = m) ∨ (j ≠ i ∧ ρ.mu[j]? = some x) := fun j x e => by
    by_cases z : i = j
    · subst z; rw [List.getElem?_set_self lt] at e; cases e; exact .inl ⟨rfl, rfl⟩
    · rw [List.getElem?_set_ne z] at e; exact .inr ⟨fun y => z y.symm, e⟩
  have ona : ∀ a, onA α (ρ.mu.set i m) a → onA α ρ.mu a := fun a ⟨j, x, h1, h2, h3⟩ => by
    rcases at' j x h1 with ⟨q1, q2⟩ | ⟨q1, q2⟩
    · rw [q1] at h3; exact ⟨i, n, hi, on, h3⟩
    · exact ⟨j, x, q2, h2, h3⟩
  have k2 : Keep (wd F α ρ.mu) (upd H D o) (wd F α (ρ.mu.set i m)) (upd H D o) := Keep.less (fun a ha => ha.imp id (ona a)) fun _ _ h => h
  have k := k1.trans k2
  have nt := r.ntab hu pu
  have here : ∀ a, (∃ w, H a = some w) → ∃ w, upd H D o a = some w := fun a h => by
    by_cases z : a = D
    · rw [z]; exact ⟨o, upd_same⟩
    · rw [upd_ne z]; exact h
  refine ⟨r.len, fun i t e => let ⟨x, h1, h2⟩ := r.slot i t e; ⟨x, h1, h2.stab k⟩, by rw [List.length_set]; exact r.alen, fun j x a e ea => ?_, r.apart, r.inj, r.al, fun a w e mm => ?_, fun a ha => r.ownf a (ona a ha), fun P hP => let ⟨ps, h1, h2⟩ := r.tabs P hP; ⟨ps, by rw [upd_ne (nt P hP)]; exact h1, h2⟩, fun a ha => here a (r.there a ha), fun a ha => here a (r.exs a ha), fun p q => (r.tmp p q).stab k, r.pinP, fun p q => ⟨?_, (r.pin p q).2⟩⟩
  · rcases at' j x e with ⟨q1, q2⟩ | ⟨q1, q2⟩
    · rw [q1, hD] at ea
      cases ea
      rw [q2]
      exact hok.stab k2 fun u q _ => q
    · have na : a ≠ D := fun z => by
        exact q1 ((List.getElem?_inj (List.getElem?_eq_some_iff.mp ea).1 r.inj).mp (by rw [ea, hD, z]))
      exact (r.node j x a q2 ea).stab k fun u q _ => by rw [upd_ne na]; exact q
  · have nD : a ≠ D := fun z => by
      rcases r.ownf D ⟨i, n, hi, on, hD⟩ with q | q
      · exact mm (by rw [z]; exact q)
      · rw [z, q] at e; cases e
    rw [upd_ne nD]
    exact r.frame a w e mm
  · have : p.1 ≠ D := fun z => r.apart D (List.mem_of_getElem? hD) (by rw [← z]; exact (r.pin p q).2.1)
    rw [upd_ne this]
    exact (r.pin p q).1
end
end Tr
namespace Tr
open PySem L2 GxR Gx
section
variable {G : GG} {F : Fr} {α : List Addr} {ρ ρ' : Env} {σ σ' : L2.St} {H H' : Hp} {D : Addr}
/-! ### slots forgotten and set -/
def wipeL (l : List (Option T)) : List Nat → List (Option T)
  | [] => l
  | v :: vs => (wipeL l vs).set v none
def wipeE (ρ : Env) (vs : List Nat) : Env := ⟨wipeL ρ.sl vs, ρ.mu⟩
theorem wipeL_length (l : List (Option T)) : ∀ vs : List Nat, (wipeL l vs).length = l.length
  | [] => rfl
  | v :: vs => by unfold wipeL; rw [List.length_set, wipeL_length l vs]
theorem wipeL_get {l : List (Option T)} {i : Nat} {t : T} : ∀ {vs : List Nat}, (wipeL l vs)[i]? = some (some t) → l[i]? = some (some t) ∧ i ∉ vs
  | [], h => ⟨h, by simp⟩
  | v :: vs, h => by
    unfold wipeL at h
    by_cases hi : v = i
    · subst hi
      by_cases hv : v < (wipeL l vs).length
      · rw [List.getElem?_set_self hv] at h; cases h
      · rw [List.getElem?_eq_none (by simpa using hv)] at h; cases h
    · rw [List.getElem?_set_ne hi] at h
      obtain ⟨h1, h2⟩ := wipeL_get h
      exact ⟨h1, by simp only [List.mem_cons, not_or]; exact ⟨fun e => hi e.symm, h2⟩⟩
theorem wipe_keep {σ : L2.St} {i : Nat} : ∀ {vs : List Nat}, i ∉ vs → (wipe σ vs)[i]? = σ[i]?
  | [], _ => rfl
  | v :: vs, h => by
    unfold wipe
    rw [List.getElem?_set_ne (fun e => h (by rw [e]; exact List.mem_cons_self ..)), wipe_keep fun m => h (List.mem_cons_of_mem _ m)]
/-- other slots, other values: what matters is kept -/
theorem Rel.slots (r : Rel G F α ρ σ H) {sl' : List (Option T)} (hl : σ'.length = sl'.length) (hs : ∀ (i : Nat) (t : T), sl'[i]? = some (some t) → ρ.sl[i]? = some (some t) ∧ σ'[i]? = σ[i]?) : Rel G F α ⟨sl', ρ.mu⟩ σ' H :=
  ⟨hl, fun i t e => let ⟨h1, h2⟩ := hs i t e; let ⟨x, h3, h4⟩ := r.slot i t h1; ⟨x, by rw [h2]; exact h3, h4⟩, r.alen, r.node, r.apart, r.inj, r.al, r.frame, r.ownf, r.tabs, r.there, r.exs, r.tmp, r.pinP, r.pin⟩
theorem Rel.wiped (r : Rel G F α ρ σ H) (vs : List Nat) : Rel G F α (wipeE ρ vs) (wipe σ vs) H := r.slots (by rw [wipe_length, wipeL_length]; exact r.len) fun i t e => let ⟨h1, h2⟩ := wipeL_get e; ⟨h1, wipe_keep h2⟩
/-- back from a block -/
theorem Rel.unwiped {vs : List Nat} (r : Rel G F α ρ (wipe σ vs) H) : Rel G F α (wipeE ρ vs) σ H :=
  r.slots (by rw [wipeL_length, ← r.len, wipe_length]) fun i t e => let ⟨h1, h2⟩ := wipeL_get e; ⟨h1, (wipe_keep h2).symm⟩
theorem Rel.rewiped {vs : List Nat} (r : Rel G F α ρ σ' H) (hw : wipe σ' vs = wipe σ vs) : Rel G F α (wipeE ρ vs) (wipe σ vs) H := by
  rw [← hw]; exact r.wiped vs
theorem Rel.toOuter {σ2 : L2.St} {vs : List Nat} (r : Rel G F α ρ σ2 H) (hout : ∀ i, i ∉ vs → σ2[i]? = (wipe σ vs)[i]?) (hl : σ2.length = (wipe σ vs).length) : Rel G F α (wipeE ρ vs) σ H :=
  r.slots (by rw [wipeL_length, ← r.len, hl, wipe_length]) fun i t e => let ⟨h1, h2⟩ := wipeL_get e; ⟨h1, by rw [hout i h2, wipe_keep h2]⟩
def Env.put (ρ : Env) (i : Nat) (t : T) : Env := ⟨ρ.sl.set i (some t), ρ.mu⟩
theorem Rel.set (r : Rel G F α ρ σ H) {i : Nat} {v : V} {t : T} (hi : i < ρ.sl.length) (hv : Rep G (wd F α ρ.mu) H v t) : Rel G F α (ρ.put i t) (σ.set i (some v)) H := by
  have hiσ : i < σ.length := by rw [r.len]; exact hi
  refine ⟨by rw [List.length_set]; exact r.len.trans (List.length_set ..).symm, fun j s e => ?_, r.alen, r.node, r.apart, r.inj, r.al, r.frame, r.ownf, r.tabs, r.there, r.exs, r.tmp, r.pinP, r.pin⟩
  have e : (ρ.sl.set i (some t))[j]? = some (some s) := e
  by_cases e0 : i = j
  · subst e0
    rw [List.getElem?_set_self hi] at e
    cases e
    exact ⟨v, List.getElem?_set_self hiσ, hv⟩
  · rw [List.getElem?_set_ne e0] at e ⊢
    exact r.slot j s e
/-- values that are held together -/
theorem Rel.holds (r : Rel G F α ρ σ H) {ps : List (V × T)} (h : ∀ p ∈ ps, Rep G (wd F α ρ.mu) H p.1 p.2) : Rel G { F with tmp := ps ++ F.tmp } α ρ σ H :=
  { r with tmp := fun p hp => (List.mem_append.mp hp).elim (h p) (r.tmp p) }
theorem Rel.unholds {ps : List (V × T)} (r : Rel G { F with tmp := ps ++ F.tmp } α ρ σ H) : Rel G F α ρ σ H := { r with tmp := fun p hp => r.tmp p (List.mem_append_right _ hp) }
theorem zip_reps {w : Wd} {H : Hp} : ∀ {vs : List V} {ts : List T}, Reps G w H vs ts → ∀ p ∈ vs.zip ts, Rep G w H p.1 p.2
  | _, _, .nil, p, hp => by simp at hp
  | _, _, .cons r rs, p, hp => by
    rw [List.zip_cons_cons] at hp
    rcases List.mem_cons.mp hp with e | hp
    · rw [e]; exact r
    · exact zip_reps rs p hp
theorem reps_zip {w w' : Wd} {H H' : Hp} : ∀ {vs : List V} {ts : List T}, Reps G w H vs ts → (∀ p ∈ vs.zip ts, Rep G w' H' p.1 p.2) → Reps G w' H' vs ts
  | _, _, .nil, _ => .nil
  | _, _, .cons r rs, h => .cons (h _ (by rw [List.zip_cons_cons]; exact List.mem_cons_self ..)) (reps_zip rs fun p hp => h p (by rw [List.zip_cons_cons]; exact List.mem_cons_of_mem _ hp))
end

/-! ### targets -/
abbrev FG := T → Env → R Env
abbrev FGs := List T → Env → R Env
def SatG (G : GG) (W : WX) (F : Fr) (σ : L2.St) : R Env → (L2.St → Hp → Prop) → Prop
  | .ok ρ', Q => ∀ α σ' H', Rel G F α ρ' σ' H' → Q σ' H'
  | .exc x ρ', _ => False
  | .stk, _ => False
/-- no exception leaves -/
def W0 : WX := fun _ _ _ _ => False
abbrev Only (σ : L2.St) (vs : List Nat) (Q : L2.St → Hp → Prop) : L2.St → Hp → Prop := fun σ' H' => (∀ i, i ∉ vs → σ'[i]? = σ[i]?) → σ'.length = σ.length → Q σ' H'
/-- vs: the slots that are set -/
def PGf (G : GG) (X : Cx) (W : WX) (tg : Expr) (vs : List Nat) (f : FG) : Prop := ∃ t, PG X tg t ∧ ∀ F α ρ σ H v p (Q : L2.St → Hp → Prop), Rel G F α ρ σ H → Rep G (wd F α ρ.mu) H v p →
  SatG G W F σ (f p ρ) (Only σ vs Q) → t v σ H Q
def PGsf (G : GG) (X : Cx) (W : WX) (tgs : List Expr) (vs : List Nat) (f : FGs) : Prop := ∃ t, PGs X tgs t ∧ ∀ F α ρ σ H xs ps (Q : L2.St → Hp → Prop), Rel G F α ρ σ H → Reps G (wd F α ρ.mu) H xs ps →
  SatG G W F σ (f ps ρ) (Only σ vs Q) → t xs σ H Q
def fSet (i : Nat) : FG := fun p ρ => if i < ρ.sl.length then .ok (ρ.put i p) else .stk
def fGNil : FGs := fun ps ρ => match ps with
  | [] => .ok ρ
  | _ => .stk
def fGCons (g : FG) (gs : FGs) : FGs := fun ps ρ => match ps with
  | p :: ps => (g p ρ).bind fun ρ1 => gs ps ρ1
  | [] => .stk
def fGTup (n : Nat) (gs : FGs) : FG := fun p ρ => match vw ρ.mu p with
  | .tup ts => if ts.length = n then gs ts ρ else .stk
  | .lst ts => if ts.length = n then gs ts ρ else .stk
  | _ => .stk
theorem pg_or {X : Cx} {e : Expr} {t t' : TG} (h : PG X e t) (h' : PG X e t') : PG X e (fun v σ H Q => t v σ H Q ∨ t' v σ H Q) := ⟨fun pins s σ H v u Q I r hw => hw.elim (h.run pins s σ H v u Q I r) (h'.run pins s σ H v u Q I r)⟩
theorem satG_bind {G : GG} {β : Type} {F : Fr} {W : WX} {σ : L2.St} {f : R Env} {k : Env → R β} {Sa : R β → Prop} {Q' : L2.St → Hp → Prop} (hx : ∀ x ρ, ¬ Sa (.exc x ρ)) (hs : ¬ Sa .stk) (h : Sa (f.bind k)) (hk : ∀ ρ1, f = .ok ρ1 → ∀ α σ' H', Rel G F α ρ1 σ' H' → Sa (k ρ1) → Q' σ' H') : SatG G W F σ f Q' := by
  cases f with
  | ok ρ1 => exact fun α σ' H' r => hk ρ1 rfl α σ' H' r h
  | exc x ρ => exact (hx x ρ h).elim
  | stk => exact (hs h).elim
section
variable {G : GG} {X : Cx} {W : WX}
theorem pgf_name {i : Nat} {tg : Expr} (h : PG X tg (gName i)) : PGf G X W tg [i] (fSet i) := by
  refine ⟨_, h, fun F α ρ σ H v p Q r rv s => ?_⟩
  unfold fSet at s
  split at s
  · rename_i hi
    exact s α _ H (r.set hi rv) (fun j hj => List.getElem?_set_ne fun e => hj (by rw [e]; simp)) (List.length_set ..)
  · exact s.elim
theorem pgsf_nil : PGsf G X W [] [] fGNil := ⟨_, pgs_nil, fun F α ρ σ H xs ps Q r rv s => by
  unfold fGNil at s
  cases rv with
  | nil => exact ⟨rfl, s α σ H r (fun _ _ => rfl) rfl⟩
  | cons _ _ => exact s.elim⟩
theorem pgsf_cons {e : Expr} {es : List Expr} {g : FG} {gs : FGs} {vs us : List Nat} (h : PGf G X W e vs g) (hs : PGsf G X W es us gs) (hl : (assignEach (e :: es) X.env).map (·.2) = assign e X.env :: (assignEach es X.env).map (·.2) := by rfl) : PGsf G X W (e :: es) (vs ++ us) (fGCons g gs) := by
  obtain ⟨t, p, q⟩ := h
  obtain ⟨u, ps', qs⟩ := hs
  refine ⟨_, pgs_cons p ps' hl, fun F α ρ σ H xs ps Q r rv s => ?_⟩
  cases rv with
  | nil => exact s.elim
  | @cons v t vs' ts r1 r2 =>
    refine ⟨v, vs', rfl, q { F with tmp := vs'.zip ts ++ F.tmp } α ρ σ H v t _ (r.holds (zip_reps r2)) r1 (satG_bind (Sa := fun x => SatG G W F σ x _) (fun _ _ h => h) (fun h => h) s fun ρ1 e1 α1 σ1 H1 rl s1 h1 h2 => ?_)⟩
    have q2 : Reps G (wd F α1 ρ1.mu) H1 vs' ts := reps_zip r2 fun p hp => rl.tmp p (List.mem_append_left _ hp)
    refine qs F α1 ρ1 σ1 H1 vs' ts Q rl.unholds q2 ?_
    have s1 : SatG G W F σ (gs ts ρ1) (Only σ (vs ++ us) Q) := s1
    cases hg : gs ts ρ1 with
    | ok ρ2 =>
      rw [hg] at s1
      exact fun α2 σ2 H2 r2 h3 h4 => s1 α2 σ2 H2 r2 (fun i hi => by rw [h3 i fun m => hi (List.mem_append_right _ m), h1 i fun m => hi (List.mem_append_left _ m)]) (h4.trans h2)
    | exc x ρ2 => rw [hg] at s1; exact s1.elim
    | stk => rw [hg] at s1; exact s1.elim
theorem pgf_tup {es : List Expr} {k n : Nat} {pos : Pos} {gs : FGs} {vs : List Nat} (hK : G.K = X.K) (hc : X.calm = true) (h : PGsf G X W es vs gs)
    (hn : (assignEach es X.env).length = n := by rfl) (hst : (assignEach es X.env).findIdx? (·.1) = none := by rfl) : PGf G X W (.Tuple es k pos) vs (fGTup n gs) := by
  obtain ⟨t, p, q⟩ := h
  refine ⟨_, pg_or (pg_tup hc p hn hst) (pg_unl hc p hn hst), fun F α ρ σ H v p Q r rv s => ?_⟩
  unfold fGTup at s
  have rw' := r.vw rv
  generalize vw ρ.mu p = u at s rw'
  split at s
  · split at s
    · rename_i ts hl
      obtain ⟨_, a, xs, rfl, h1, h2, _⟩ := rv_tup rw'
      exact .inl ⟨a, xs, rfl, by rw [← hK]; exact h1, by rw [h2.length]; exact hl, q F α ρ σ H xs ts Q r h2 s⟩
    · exact s.elim
  · split at s
    · rename_i ts hl
      obtain ⟨a, xs, rfl, h1, h2⟩ := rv_lst rw'
      exact .inr ⟨a, xs, rfl, by rw [← hK]; exact h1, by rw [h2.length]; exact hl, q F α ρ σ H xs ts Q r h2 s⟩
    · exact s.elim
  · exact s.elim

/-! ### what is walked: the things, what is walked, its look -/
structure Wk where
  ts : List T
  t0 : T
  u : T
abbrev FI := Env → R (Wk × Env)
def JOk (G : GG) (J : It) (ts : List T) (v0 : V) (u : T) : Prop := ∀ (w : Wd) (H : Hp), Wf G w H → RV G w H v0 u → ∀ i : Nat,
  (ts.length ≤ i → J.stop i H) ∧ ∀ t, ts[i]? = some t → J.go i H ∧ ∀ x H2, J.yld i H x H2 → HExt G H H2 ∧ Rep G w H2 x t
def SatI (G : GG) (W : WX) (F : Fr) (σ : L2.St) : R (Wk × Env) → (It → Hp → Prop) → Prop
  | .ok (k, ρ'), Rr => ∀ J α H' v0, Rel G F α ρ' σ H' → Rep G (wd F α ρ'.mu) H' v0 k.t0 → vw ρ'.mu k.t0 = k.u → JOk G J k.ts v0 k.u → Rr J H'
  | .exc x ρ', _ => SatX G W F σ x ρ'
  | .stk, _ => False
def PIf (G : GG) (X : Cx) (W : WX) (tg iter : Expr) (f : FI) : Prop := ∃ wi, PI X tg iter wi ∧ ∀ F α ρ σ H Rr, Rel G F α ρ σ H → SatI G W F σ (f ρ) Rr → wi σ H Rr
theorem isI {F : Fr} {σ : L2.St} {Rr : It → Hp → Prop} : IsSat G W F σ (fun r => SatI G W F σ r Rr) := ⟨fun _ _ h => h, fun h => h⟩
def fItL (fa : FE) : FI := fun ρ => (fa ρ).bind fun p => match vw p.2.mu p.1 with
  | .lst ts => .ok (⟨ts, p.1, .lst ts⟩, p.2)
  | _ => .stk
def fItT (fa : FE) : FI := fun ρ => (fa ρ).bind fun p => match vw p.2.mu p.1 with
  | .tup ts => .ok (⟨ts, p.1, .tup ts⟩, p.2)
  | _ => .stk
def fItS (fa : FE) : FI := fun ρ => (fa ρ).bind fun p => match p.1 with
  | .str s => .ok (⟨s.map fun c => T.str [c], .non, .non⟩, p.2)
  | _ => .stk
def fRange1 (fas : FA) : FI := fun ρ => (fas ρ).bind fun p => match p.1 with
  | [.int j] => if -(2 ^ 62) ≤ j ∧ j < 2 ^ 62 then .ok (⟨(List.range j.toNat).map fun (k : Nat) => T.int ((0 : Int) + (k : Int)), .non, .non⟩, p.2) else .stk
  | _ => .stk
def fRange2 (fas : FA) : FI := fun ρ => (fas ρ).bind fun p => match p.1 with
  | [.int i, .int j] => if -(2 ^ 62) ≤ i ∧ i < 2 ^ 62 ∧ -(2 ^ 62) ≤ j ∧ j < 2 ^ 62 then .ok (⟨(List.range (j - i).toNat).map fun (k : Nat) => T.int (i + (k : Int)), .non, .non⟩, p.2) else .stk
  | _ => .stk
theorem jok_list {a : Addr} {ts : List T} (hK : G.K = X.K) : JOk G (Itl X.K a) ts (.ref a) (.lst ts) := fun w H wf r i => by
  obtain ⟨b, vs, e, h1, h2⟩ := rv_lst r
  cases e
  rw [hK] at h1
  refine ⟨fun hi => ⟨vs, h1, by rw [h2.length]; exact hi⟩, fun t ht => ?_⟩
  obtain ⟨v, h3, h4⟩ := h2.get ht
  refine ⟨⟨vs, v, h1, h3⟩, fun x H2 ⟨e1, e2⟩ => ?_⟩
  subst e1
  have h5 := e2 vs h1
  rw [h3] at h5
  cases h5
  exact ⟨HExt.refl wf.tabs, h4⟩
theorem jok_tup {a : Addr} {ts : List T} (hK : G.K = X.K) : JOk G (Itt X.K a) ts (.ref a) (.tup ts) := fun w H wf r i => by
  obtain ⟨_, b, vs, e, h1, h2, _⟩ := rv_tup r
  cases e
  rw [hK] at h1
  refine ⟨fun hi => ⟨vs, h1, by rw [h2.length]; exact hi⟩, fun t ht => ?_⟩
  obtain ⟨v, h3, h4⟩ := h2.get ht
  refine ⟨⟨vs, v, h1, h3⟩, fun x H2 ⟨e1, e2⟩ => ?_⟩
  subst e1
  have h5 := e2 vs h1
  rw [h3] at h5
  cases h5
  exact ⟨HExt.refl wf.tabs, h4⟩
theorem jok_str {s : List Nat} {v0 : V} {t0 : T} : JOk G (Its (S s)) (s.map fun c => T.str [c]) v0 t0 := fun w H wf r i => by
  refine ⟨fun hi => ?_, fun t ht => ?_⟩
  · show (s.toArray).size ≤ i
    simpa using hi
  · rw [List.getElem?_map] at ht
    cases e : s[i]? with
    | none => rw [e] at ht; cases ht
    | some c =>
      rw [e] at ht
      cases ht
      refine ⟨?_, fun x H2 ⟨e1, c', e2, e3⟩ => ?_⟩
      · show i < (s.toArray).size
        simpa using (List.getElem?_eq_some_iff.mp e).1
      · subst e1 e3
        have e2 : s.toArray[i]? = some c' := e2
        rw [List.getElem?_toArray, e] at e2
        cases e2
        exact ⟨HExt.refl wf.tabs, .str [c]⟩
theorem jok_range {lo : Int} {n : Nat} {v0 : V} {t0 : T} : JOk G (Itr lo n) ((List.range n).map fun (k : Nat) => T.int (lo + (k : Int))) v0 t0 := fun w H wf r i => by
  refine ⟨fun hi => ?_, fun t ht => ?_⟩
  · show n ≤ i
    simpa using hi
  · rw [List.getElem?_map] at ht
    cases e : (List.range n)[i]? with
    | none => rw [e] at ht; cases ht
    | some c =>
      rw [e] at ht
      cases ht
      obtain ⟨h1, h2⟩ := List.getElem?_eq_some_iff.mp e
      rw [List.getElem_range] at h2
      subst h2
      refine ⟨by show i < n; simpa using h1, fun x H2 ⟨e1, e2⟩ => ?_⟩
      subst e1 e2
      exact ⟨HExt.refl wf.tabs, .int _⟩
variable {tg : Expr}
theorem pif_list {e : Expr} {fa : FE} (hK : G.K = X.K) (ha : PEf G X W e fa) : PIf G X W tg e (fItL fa) := by
  obtain ⟨ta, pa, ha⟩ := ha
  refine ⟨_, pi_list pa, fun F α ρ σ H Rr r s => ha F α ρ σ H _ r (satE_bind (isI (Rr := Rr)) s fun t ρ1 v α1 H1 e0 r1 q1 s1 => ?_)⟩
  dsimp only at s1
  split at s1
  · rename_i ts hu
    have q2 := r1.vw q1
    rw [hu] at q2
    obtain ⟨a, vs, rfl, h1, h2⟩ := rv_lst q2
    exact ⟨a, rfl, ⟨vs, by rw [← hK]; exact h1⟩, s1 _ α1 H1 _ r1 q1 hu (jok_list hK)⟩
  · exact s1.elim
theorem pif_tup {e : Expr} {fa : FE} (hK : G.K = X.K) (ha : PEf G X W e fa) : PIf G X W tg e (fItT fa) := by
  obtain ⟨ta, pa, ha⟩ := ha
  refine ⟨_, pi_tup pa, fun F α ρ σ H Rr r s => ha F α ρ σ H _ r (satE_bind (isI (Rr := Rr)) s fun t ρ1 v α1 H1 e0 r1 q1 s1 => ?_)⟩
  dsimp only at s1
  split at s1
  · rename_i ts hu
    have q2 := r1.vw q1
    rw [hu] at q2
    obtain ⟨_, a, vs, rfl, h1, h2, _⟩ := rv_tup q2
    exact ⟨a, rfl, ⟨vs, by rw [← hK]; exact h1⟩, s1 _ α1 H1 _ r1 q1 hu (jok_tup hK)⟩
  · exact s1.elim
theorem pif_str {e : Expr} {fa : FE} (ha : PEf G X W e fa) : PIf G X W tg e (fItS fa) := by
  obtain ⟨ta, pa, ha⟩ := ha
  refine ⟨_, pi_str pa, fun F α ρ σ H Rr r s => ha F α ρ σ H _ r (satE_bind (isI (Rr := Rr)) s fun t ρ1 v α1 H1 e0 r1 q1 s1 => ?_)⟩
  dsimp only at s1
  split at s1
  · exact ⟨_, rep_str q1, s1 _ α1 H1 .non r1 .non rfl jok_str⟩
  · exact s1.elim
theorem pif_range1 {a : Expr} {fas : FA} {p pos : Pos} (hg : Gl X "range") (hm : X.mg "range" = none) (ha : PAf G X W [a] fas) (hs : starEach [a] X.env = [(false, eval a X.env)] := by rfl) : PIf G X W tg (.Call (.Name "range" p) [a] [] pos) (fRange1 fas) := by
  obtain ⟨ta, pa, ha⟩ := ha
  refine ⟨_, pi_range1 hg hm pa hs, fun F α ρ σ H Rr r s => ha F α ρ σ H _ r (satA_bind (isI (Rr := Rr)) s fun us ρ1 vs α1 H1 e0 r1 q1 s1 => ?_)⟩
  dsimp only at s1
  split at s1
  · split at s1
    · rename_i hj
      obtain ⟨v, rfl, rv⟩ := reps1 q1
      rw [rep_int rv]
      exact ⟨_, rfl, hj.1, hj.2, s1 _ α1 H1 .non r1 .non rfl jok_range⟩
    · exact s1.elim
  · exact s1.elim
theorem pif_range2 {a b : Expr} {fas : FA} {p pos : Pos} (hg : Gl X "range") (hm : X.mg "range" = none) (ha : PAf G X W [a, b] fas) (hs : starEach [a, b] X.env = [(false, eval a X.env), (false, eval b X.env)] := by rfl) (hs2 : starEach [b] X.env = [(false, eval b X.env)] := by rfl) : PIf G X W tg (.Call (.Name "range" p) [a, b] [] pos) (fRange2 fas) := by
  obtain ⟨ta, pa, ha⟩ := ha
  refine ⟨_, pi_range2 hg hm pa hs hs2, fun F α ρ σ H Rr r s => ha F α ρ σ H _ r (satA_bind (isI (Rr := Rr)) s fun us ρ1 vs α1 H1 e0 r1 q1 s1 => ?_)⟩
  dsimp only at s1
  split at s1
  · split at s1
    · rename_i hj
      cases q1 with
      | cons r1' q1 =>
        obtain ⟨v, rfl, rv⟩ := reps1 q1
        rw [rep_int rv, rep_int r1']
        exact ⟨_, _, rfl, hj, s1 _ α1 H1 .non r1 .non rfl jok_range⟩
    · exact s1.elim
  · exact s1.elim
end

/-! ### new lists -/
abbrev FN := Env → R (List T × Env)
/-- a list that nothing else has yet -/
def SatN (G : GG) (W : WX) (F : Fr) (σ : L2.St) : R (List T × Env) → VK → Prop
  | .ok (ts, ρ'), Q => ∀ D vs α H', Rel G (F.add D) α ρ' σ H' → H' D = some (.lst vs) → Reps G (wd (F.add D) α ρ'.mu) H' vs ts → ¬ F.O D → D ∉ α → (F.M0 D ∨ F.H0 D = none) → Q (.ref D) H'
  | .exc x ρ', _ => SatX G W F σ x ρ'
  | .stk, _ => False
def PNf (G : GG) (X : Cx) (W : WX) (e : Expr) (f : FN) : Prop := ∃ t, PE X e t ∧ ∀ F α ρ σ H Q, Rel G F α ρ σ H → (∀ p ∈ F.pin, F.O p.1) → SatN G W F σ (f ρ) Q → t σ H Q
/-- it is never changed -/
def fFrz (f : FN) : FE := fun ρ => (f ρ).bind fun p => .ok (.lst p.1, p.2)
/-- it will be changed -/
def fOwn (f : FN) : FE := fun ρ => (f ρ).bind fun p => .ok (.ref p.2.mu.length, ⟨p.2.sl, p.2.mu ++ [.lst p.1]⟩)
section
variable {G : GG} {X : Cx} {W : WX}
theorem satN_frz {F : Fr} {σ : L2.St} {r : R (List T × Env)} {Q : VK} (hp : ∀ p ∈ F.pin, F.O p.1) (s : SatE G W F σ (r.bind fun p => .ok (.lst p.1, p.2)) Q) : SatN G W F σ r Q := by
  cases r with
  | exc x ρ => exact s
  | stk => exact s
  | ok p =>
    obtain ⟨ts, ρ⟩ := p
    intro D vs α H rl hD hs hO hA hf
    have k : Keep (wd (F.add D) α ρ.mu) H (wd F α ρ.mu) H := Keep.less (fun a ha => ha.imp .inl id) fun _ _ h => h
    refine s _ α H (rl.unadd hp) (.lst (fun z => ?_) (.inl hD) (hs.stab k))
    rcases z with z | ⟨i, n, _, _, h3⟩
    · exact hO z
    · exact hA (List.mem_of_getElem? h3)
theorem satN_own {F : Fr} {σ : L2.St} {r : R (List T × Env)} {Q : VK} (hp : ∀ p ∈ F.pin, F.O p.1) (s : SatE G W F σ (r.bind fun p => .ok (.ref p.2.mu.length, ⟨p.2.sl, p.2.mu ++ [.lst p.1]⟩)) Q) : SatN G W F σ r Q := by
  cases r with
  | exc x ρ => exact s
  | stk => exact s
  | ok p =>
    obtain ⟨ts, ρ⟩ := p
    intro D vs α H rl hD hs hO hA hf
    obtain ⟨r2, q2⟩ := rl.own (n := .lst ts) ⟨vs, hD, hs⟩ hO hA trivial hf hp ⟨_, hD⟩
    exact s _ _ H r2 q2
theorem PNf.frz {e : Expr} {f : FN} (h : PNf G X W e f) : PEf G X W e (fFrz f) := by
  obtain ⟨t, p, q⟩ := h
  exact ⟨t, p, fun F α ρ σ H Q r s => q F α ρ σ H Q r (fun p hp => (r.pin p hp).2.1) (satN_frz (fun p hp => (r.pin p hp).2.1) s)⟩
theorem PNf.own {e : Expr} {f : FN} (h : PNf G X W e f) : PEf G X W e (fOwn f) := by
  obtain ⟨t, p, q⟩ := h
  exact ⟨t, p, fun F α ρ σ H Q r s => q F α ρ σ H Q r (fun p hp => (r.pin p hp).2.1) (satN_own (fun p hp => (r.pin p hp).2.1) s)⟩
theorem isN {F : Fr} {σ : L2.St} {Q : VK} : IsSat G W F σ (fun r => SatN G W F σ r Q) := ⟨fun _ _ h => h, fun h => h⟩
/-- a list that was just laid -/
theorem new_n {F : Fr} {α : List Addr} {ρ : Env} {σ : L2.St} {H : Hp} {ts : List T} {vs : List V} {Q : VK} {D : Addr} (r : Rel G F α ρ σ H) (q : Reps G (wd F α ρ.mu) H vs ts) (s : SatN G W F σ (.ok (ts, ρ)) Q) (hD : H D = none) : Q (.ref D) (upd H D (.lst vs)) := by
  have k : Keep (wd F α ρ.mu) H (wd (F.add D) α ρ.mu) (upd H D (.lst vs)) := ⟨fun a u he e _ => ⟨by rw [upd_ne (ne_of_none e hD)]; exact e, fun z => by
    rcases z with (z | z) | z
    · exact he (.inl z)
    · exact ne_of_none e hD z
    · exact he (.inr z)⟩, fun _ _ h => h⟩
  refine s D vs α _ (r.addNew hD) upd_same (q.stab k) (fun z => ?_) (fun z => ?_) (r.fresh0 hD)
  · obtain ⟨u, e⟩ := r.exs D z; rw [hD] at e; cases e
  · obtain ⟨u, e⟩ := r.there D z; rw [hD] at e; cases e
def fLstN (fas : FA) : FN := fun ρ => (fas ρ).bind fun p => if p.1.length ≤ 16777216 then .ok (p.1, p.2) else .stk
theorem pnf_lst {es : List Expr} {fas : FA} {pos} (hs : PAf G X W es fas) : PNf G X W (.List es pos) (fLstN fas) := by
  obtain ⟨ts, ps, hs⟩ := hs
  refine ⟨_, pe_lst ps, fun F α ρ σ H Q r hp s => hs F α ρ σ H _ r (satA_bind (isN (Q := Q)) s fun us ρ1 vs α1 H1 e0 r1 q1 s1 => ?_)⟩
  dsimp only at s1
  split at s1
  · rename_i hl
    exact ⟨by rw [q1.length]; exact hl, fun p hp => new_n r1 q1 s1 hp⟩
  · exact s1.elim
/-- a call of a built-in whose value is a new list -/
def CallN (G : GG) (X : Cx) (f : Value) (op : List T → Option (List T)) : Prop :=
  ∃ r, CallR X f r ∧ ∀ (w : Wd) (H : Hp) (Q : VK) (vs : List V) (ts c : List T), op ts = some c → Wf G w H → RVs G w H vs ts → (∀ p xs H', HExt G H H' → H' p = none → Reps G w H' xs c → Q (.ref p) (upd H' p (.lst xs))) → r vs H Q
def fCallN (op : List T → Option (List T)) (fas : FA) : FN := fun ρ => (fas ρ).bind fun p => match op (p.1.map (vw p.2.mu)) with
  | some c => .ok (c, p.2)
  | none => .stk
theorem callN_ok {op : List T → Option (List T)} {fas : FA} {ts : TA} {r : List V → Hp → VK → Prop} (hs : ∀ F α ρ σ H Q, Rel G F α ρ σ H → SatA G W F σ (fas ρ) Q → ts σ H Q)
    (hr : ∀ (w : Wd) (H : Hp) (Q : VK) (vs : List V) (ts c : List T), op ts = some c → Wf G w H → RVs G w H vs ts → (∀ p xs H', HExt G H H' → H' p = none → Reps G w H' xs c → Q (.ref p) (upd H' p (.lst xs))) → r vs H Q)
    (F α ρ σ H Q) (rl : Rel G F α ρ σ H) (hp : ∀ p ∈ F.pin, F.O p.1) (s : SatN G W F σ (fCallN op fas ρ) Q) : tCB r ts σ H Q := by
  refine hs F α ρ σ H _ rl (satA_bind (isN (Q := Q)) s fun us ρ1 vs α1 H1 _ r1 q1 s1 => ?_)
  dsimp only at s1
  split at s1
  · rename_i c hc
    exact hr _ H1 Q vs _ c hc r1.wf (r1.vws q1) fun p xs H2 hx hp2 hv => new_n (r1.ext hx) hv s1 hp2
  · exact s1.elim
theorem pnf_callB {op : List T → Option (List T)} {id : String} {x : Str} {e : Expr} {es : List Expr} {fas : FA} {p pos : Pos} (hc : CallN G X (.builtin id) op) (hg : Gl X x) (hm : X.mg x = none) (hv : bootBuiltins x = some (.builtin id)) (hs : PAf G X W (e :: es) fas)
    (hn : x ≠ "__name__" := by decide) (hdb : (x == ("__debug__" : Str)) = false := by decide)
    (he : starEach (e :: es) X.env = (false, eval e X.env) :: starEach es X.env := by rfl) (hpl : (backTo pos (starEach es X.env)).any (·.1) = false := by rfl) : PNf G X W (.Call (.Name x p) (e :: es) [] pos) (fCallN op fas) := by
  obtain ⟨r, hr, ho⟩ := hc
  obtain ⟨ts, ps, hs⟩ := hs
  exact ⟨_, pe_callB hr hg hm hv ps hn hdb he hpl, callN_ok hs ho⟩
theorem pnf_callTy {op : List T → Option (List T)} {id : String} {x : Str} {e : Expr} {es : List Expr} {fas : FA} {p pos : Pos} (hc : CallN G X (.type id) op) (hg : Gl X x) (hm : X.mg x = none) (hv : bootBuiltins x = some (.type id)) (hs : PAf G X W (e :: es) fas)
    (hn : x ≠ "__name__" := by decide) (hdb : (x == ("__debug__" : Str)) = false := by decide)
    (he : starEach (e :: es) X.env = (false, eval e X.env) :: starEach es X.env := by rfl) (hpl : (backTo pos (starEach es X.env)).any (·.1) = false := by rfl) : PNf G X W (.Call (.Name x p) (e :: es) [] pos) (fCallN op fas) := by
  obtain ⟨r, hr, ho⟩ := hc
  obtain ⟨ts, ps, hs⟩ := hs
  exact ⟨_, pe_callTy hr hg hm hv ps hn hdb he hpl, callN_ok hs ho⟩
def listN : List T → Option (List T)
  | [.lst xs] => some xs
  | [.tup xs] => some xs
  | _ => none
theorem calln_list (hK : G.K = X.K) : CallN G X (.type "list") listN := by
  refine ⟨_, call_list_of, fun w H Q vs ts c e wf rs q => ?_⟩
  unfold listN at e
  split at e
  · obtain ⟨v, rfl, r⟩ := rvs1 rs
    cases e
    obtain ⟨p, vs, rfl, h1, h2⟩ := rv_lst r
    rw [hK] at h1
    exact ⟨p, vs, rfl, .inl h1, fun p hp => q p vs H (HExt.refl wf.tabs) hp h2⟩
  · obtain ⟨v, rfl, r⟩ := rvs1 rs
    cases e
    obtain ⟨_, p, vs, rfl, h1, h2, _⟩ := rv_tup r
    rw [hK] at h1
    exact ⟨p, vs, rfl, .inr h1, fun p hp => q p vs H (HExt.refl wf.tabs) hp h2⟩
  · cases e
end
end Tr
namespace Tr
open PySem L2 GxR Gx
/-! ### comprehensions -/
/-- a clause's tests -/
def PTsf (G : GG) (X : Cx) (W : WX) (ifs : List Expr) (f : FB) : Prop := ∃ t, PTs X ifs t ∧ ∀ F α ρ σ H Q, Rel G F α ρ σ H → SatB G W F σ (f ρ) Q → t σ H Q
def fYes : FB := fun ρ => .ok (true, ρ)
def lcLoop (vs : List Nat) (g : FG) (ft : FB) (fe : FE) (t0 u : T) : List T → Env → List T → R (List T × Env)
  | [], ρ, acc => if stays ρ.mu t0 u = true then .ok (acc, ρ) else .stk
  | t :: ts, ρ, acc => if stays ρ.mu t0 u = true then (g t ρ).bind fun ρ1 => (ft ρ1).bind fun b => if b.1 = true then (fe b.2).bind fun p => if acc.length < 16777216 then lcLoop vs g ft fe t0 u ts (wipeE p.2 vs) (acc ++ [p.1]) else .stk
    else lcLoop vs g ft fe t0 u ts (wipeE b.2 vs) acc
    else .stk
def noExc {α : Type} : R α → R α
  | .exc _ _ => .stk
  | r => r
def fLc (vs : List Nat) (fi : FI) (g : FG) (ft : FB) (fe : FE) : FN := fun ρ => (fi ρ).bind fun p => (noExc (lcLoop vs g ft fe p.1.t0 p.1.u p.1.ts (wipeE p.2 vs) [])).bind fun q => .ok (q.1, wipeE q.2 vs)
section
variable {G : GG} {X : Cx} {W : WX}
theorem ptsf_nil : PTsf G X W [] fYes := ⟨_, pts_nil, fun F α ρ σ H Q r s => s α H r⟩
theorem ptsf_one {c : Expr} {f : FB} (h : PTf G X W c f) : PTsf G X W [c] f := let ⟨_, p, q⟩ := h; ⟨_, pts_one p, q⟩
/-- what the loop still has to do -/
def SatL (G : GG) (F : Fr) (σ : L2.St) (D : Addr) (Q : VK) : R (List T × Env) → Prop
  | .ok (ats, ρ') => ∀ α H' acc, H' D = some (.lst acc) → Rel G (F.add D) α ρ' σ H' → Reps G (wd (F.add D) α ρ'.mu) H' acc ats → Q (.ref D) H'
  | .exc _ _ => False
  | .stk => False
/-- the frame within a turn: the new list D stands, what it has is held -/
abbrev FT (F : Fr) (D : Addr) (acc : List V) (ats : List T) (v0 : V) (t0 : T) : Fr :=
  { (F.add D) with tmp := acc.zip ats ++ ((v0, t0) :: F.tmp), pin := (D, .lst acc) :: F.pin }
theorem ft_in {F : Fr} {α : List Addr} {ρ : Env} {σ : L2.St} {H : Hp} {D : Addr} {acc : List V} {ats : List T} {v0 : V} {t0 : T} (r : Rel G ((F.add D).hold v0 t0) α ρ σ H) (hD : H D = some (.lst acc)) (ha : Reps G (wd (F.add D) α ρ.mu) H acc ats)
    (hf : F.M0 D ∨ F.H0 D = none) : Rel G (FT F D acc ats v0 t0) α ρ σ H := by
  have r2 := r.holds (ps := acc.zip ats) (zip_reps ha)
  exact { r2 with
    pinP := fun p hp => (List.mem_cons.mp hp).elim (fun e => by rw [e]; trivial) (r.pinP p)
    pin := fun p hp => (List.mem_cons.mp hp).elim (fun e => by rw [e]; exact ⟨hD, .inr rfl, hf⟩) (r.pin p) }
theorem ft_out {F : Fr} {α : List Addr} {ρ : Env} {σ : L2.St} {H : Hp} {D : Addr} {acc : List V} {ats : List T} {v0 : V} {t0 : T} (r : Rel G (FT F D acc ats v0 t0) α ρ σ H) (hpin : ∀ p ∈ F.pin, F.O p.1) :
    Rel G ((F.add D).hold v0 t0) α ρ σ H ∧ H D = some (.lst acc) ∧ ∀ p ∈ acc.zip ats, Rep G (wd (F.add D) α ρ.mu) H p.1 p.2 := by
  refine ⟨r.less (fun _ h => h) rfl rfl rfl (fun p hp => List.mem_append_right _ hp) (fun p hp => ⟨List.mem_cons_of_mem _ hp, .inl (hpin p hp)⟩), (r.pin _ (List.mem_cons_self ..)).1, fun p hp => r.tmp p (List.mem_append_left _ hp)⟩
theorem isL {F F' : Fr} {σ σL : L2.St} {D : Addr} {Q : VK} : IsSat G W0 F σ (fun r => SatL G F' σL D Q r) := ⟨fun _ _ h => h.elim, fun h => h⟩
theorem wipe_at {σ : L2.St} {i : Nat} : ∀ {vs : List Nat}, (wipe σ vs)[i]? = if i ∈ vs then (if i < σ.length then some none else none) else σ[i]?
  | [] => by simp [wipe]
  | v :: vs => by
    unfold wipe
    by_cases e : v = i
    · subst e
      rw [if_pos (List.mem_cons_self ..)]
      by_cases h : v < σ.length
      · rw [if_pos h, List.getElem?_set_self (by rw [wipe_length]; exact h)]
      · rw [if_neg h, List.getElem?_eq_none]
        rw [List.length_set, wipe_length]
        exact Nat.le_of_not_lt h
    · rw [List.getElem?_set_ne e, wipe_at]
      by_cases h : i ∈ vs
      · rw [if_pos h, if_pos (List.mem_cons_of_mem _ h)]
      · rw [if_neg h, if_neg (fun m => (List.mem_cons.mp m).elim (fun z => e z.symm) h)]
theorem wipe_eq {σ σ2 : L2.St} {vs : List Nat} (h : ∀ i, i ∉ vs → σ2[i]? = (wipe σ vs)[i]?) (hl : σ2.length = (wipe σ vs).length) : wipe σ2 vs = wipe σ vs := by
  refine List.ext_getElem? fun i => ?_
  rw [wipe_length] at hl
  rw [wipe_at, wipe_at, hl]
  by_cases m : i ∈ vs
  · rw [if_pos m, if_pos m]
  · rw [if_neg m, if_neg m, h i m, wipe_keep m]
theorem lc_ok {vs : List Nat} {wi : TI} {g : TG} {tt : TT} {te : TE} {fi : FI} {fg : FG} {ft : FB} {fe : FE}
    (hi : ∀ F α ρ σ H Rr, Rel G F α ρ σ H → SatI G W F σ (fi ρ) Rr → wi σ H Rr)
    (hg : ∀ F α ρ σ H v p (Q : L2.St → Hp → Prop), Rel G F α ρ σ H → Rep G (wd F α ρ.mu) H v p → SatG G W0 F σ (fg p ρ) (Only σ vs Q) → g v σ H Q)
    (ht : ∀ F α ρ σ H Q, Rel G F α ρ σ H → SatB G W0 F σ (ft ρ) Q → tt σ H Q) (he : ∀ F α ρ σ H Q, Rel G F α ρ σ H → SatE G W0 F σ (fe ρ) Q → te σ H Q)
    (F α ρ σ H Q) (r : Rel G F α ρ σ H) (hpinO : ∀ p ∈ F.pin, F.O p.1) (s : SatN G W F σ (fLc vs fi fg ft fe ρ) Q) : tLc wi g tt te vs σ H Q := by
  refine hi F α ρ σ H _ r ?_
  unfold fLc at s
  cases hfi : fi ρ with
  | exc x ρ' => rw [hfi] at s; exact s
  | stk => rw [hfi] at s; exact s
  | ok p =>
    obtain ⟨⟨ts, t0, u⟩, ρ1⟩ := p
    rw [hfi] at s
    intro J α1 H1 v0 r1 q1 hu jok D hD
    have hpinD : ∀ p ∈ F.pin, p.1 ≠ D := fun p hp z => by
      have := (r1.pin p hp).1
      rw [z, hD] at this
      cases this
    have hfD := r1.fresh0 hD
    have sL : SatL G F (wipe σ vs) D Q (lcLoop vs fg ft fe t0 u ts (wipeE ρ1 vs) []) := by
      have s : SatN G W F σ ((noExc (lcLoop vs fg ft fe t0 u ts (wipeE ρ1 vs) [])).bind fun q => .ok (q.1, wipeE q.2 vs)) Q := s
      cases hl : lcLoop vs fg ft fe t0 u ts (wipeE ρ1 vs) [] with
      | exc x ρ' => rw [hl] at s; exact s
      | stk => rw [hl] at s; exact s
      | ok q =>
        obtain ⟨ats, ρ2⟩ := q
        rw [hl] at s
        intro α2 H' acc hD' r2 q2
        refine s D acc α2 H' r2.unwiped hD' q2 (fun z => ?_) (fun z => r2.apart D z (.inr rfl)) hfD
        obtain ⟨x, e⟩ := r1.exs D z
        rw [hD] at e
        cases e
    have start : Rel G ((F.add D).hold v0 t0) α1 (wipeE ρ1 vs) (wipe σ vs) (upd H1 D (.lst [])) := ((r1.hold q1).addNew hD).wiped vs
    refine ⟨fun i m H => i ≤ ts.length ∧ m = ts.length - i ∧ ∃ αc ρc ats acc, H D = some (.lst acc) ∧ Rel G ((F.add D).hold v0 t0) αc ρc (wipe σ vs) H ∧ Reps G (wd (F.add D) αc ρc.mu) H acc ats ∧ SatL G F (wipe σ vs) D Q (lcLoop vs fg ft fe t0 u (ts.drop i) ρc ats),
      ⟨ts.length, Nat.zero_le _, rfl, _, _, [], [], upd_same, start, .nil, by rw [List.drop_zero]; exact sL⟩, ?_⟩
    rintro i m H ⟨hile, rfl, αc, ρc, ats, acc, hDacc, rc, qa, sl⟩
    have st : stays ρc.mu t0 u = true := by
      cases e : stays ρc.mu t0 u with
      | true => rfl
      | false =>
        exfalso
        cases hd : ts.drop i with
        | nil => rw [hd] at sl; unfold lcLoop at sl; rw [e] at sl; exact sl
        | cons x xs => rw [hd] at sl; unfold lcLoop at sl; rw [e] at sl; exact sl
    have jk := jok _ H rc.unhold.wf (by rw [← stays_eq hu st]; exact rc.unhold.vw rc.held) i
    by_cases hlt : i < ts.length
    · have ed : ts.drop i = ts[i] :: ts.drop (i + 1) := List.drop_eq_getElem_cons hlt
      rw [ed] at sl
      unfold lcLoop at sl
      rw [if_pos st] at sl
      have hti : ts[i]? = some ts[i] := List.getElem?_eq_getElem hlt
      obtain ⟨go, yl⟩ := jk.2 _ hti
      refine .inr ⟨go, fun H' => ∃ αc ρc ats acc, H' D = some (.lst acc) ∧ Rel G ((F.add D).hold v0 t0) αc ρc (wipe σ vs) H' ∧ Reps G (wd (F.add D) αc ρc.mu) H' acc ats ∧ SatL G F (wipe σ vs) D Q (lcLoop vs fg ft fe t0 u (ts.drop (i + 1)) ρc ats),
        fun H' h => ⟨ts.length - (i + 1), by omega, hlt, rfl, h⟩, fun x H' hy => ?_⟩
      obtain ⟨hx, rx⟩ := yl x H' hy
      have rc2 := rc.ext hx
      have hD2 : H' D = some (.lst acc) := (hx.keep _ _ hDacc).1 trivial
      have qa2 : Reps G (wd (F.add D) αc ρc.mu) H' acc ats := qa.stab hx.keepE
      have rT := ft_in rc2 hD2 qa2 hfD
      refine hg (FT F D acc ats v0 t0) αc ρc (wipe σ vs) H' x ts[i] _ rT rx (satG_bind (Sa := fun r => SatL G F (wipe σ vs) D Q r) (fun _ _ h => h) (fun h => h) sl fun ρd ed αd σ2 H2 rd sd hout hlen => ?_)
      have hw := wipe_eq hout hlen
      refine ⟨hw, ht (FT F D acc ats v0 t0) αd ρd σ2 H2 _ rd (satB_bind (Sa := fun r => SatL G F (wipe σ vs) D Q r) isL sd fun b ρe αe H3 eb rb sb => ?_)⟩
      dsimp only at sb
      split at sb
      · rename_i hb
        rw [if_pos hb]
        refine he (FT F D acc ats v0 t0) αe ρe σ2 H3 _ rb (satE_bind (Sa := fun r => SatL G F (wipe σ vs) D Q r) isL sb fun p ρf y αf H4 ep rp qp sp => ?_)
        dsimp only at sp
        split at sp
        · rename_i hacc
          obtain ⟨o1, o2, o3⟩ := ft_out rp hpinO
          have qacc : Reps G (wd (F.add D) αf ρf.mu) H4 acc ats := reps_zip qa2 o3
          have qy : Reps G (wd (F.add D) αf ρf.mu) H4 (acc ++ [y]) (ats ++ [p]) := qacc.append (.cons qp .nil)
          refine ⟨acc, o2, by rw [qa2.length]; exact hacc, αf, wipeE ρf vs, ats ++ [p], acc ++ [y], upd_same, ?_, ?_, sp⟩
          · exact (o1.rewiped hw).mutO (.inr rfl) o2 trivial hfD hpinD
          · have ex : (wd (F.add D) αf ρf.mu).E D := .inl (.inr rfl)
            exact qy.stab (Keep.mut ex)
        · exact sp.elim
      · rename_i hb
        rw [if_neg hb]
        obtain ⟨o1, o2, o3⟩ := ft_out rb hpinO
        have qacc : Reps G (wd (F.add D) αe ρe.mu) H3 acc ats := reps_zip qa2 o3
        exact ⟨αe, wipeE ρe vs, ats, acc, o2, o1.rewiped hw, qacc, sb⟩
    · have e : i = ts.length := by omega
      subst e
      rw [List.drop_length] at sl
      unfold lcLoop at sl
      rw [if_pos st] at sl
      exact .inl ⟨jk.1 (Nat.le_refl _), sl αc H acc hDacc rc.unhold qa⟩

/-! ### the readings that stand for such functions, whatever the context -/
def tE (G : GG) (W : WX) (f : FE) : TE := fun σ H Q => ∃ F α ρ, Rel G F α ρ σ H ∧ SatE G W F σ (f ρ) Q
def tB' (G : GG) (W : WX) (f : FB) : TT := fun σ H Q => ∃ F α ρ, Rel G F α ρ σ H ∧ SatB G W F σ (f ρ) Q
def tG' (G : GG) (W : WX) (vs : List Nat) (f : FG) : TG := fun v σ H Q => ∃ F α ρ p, Rel G F α ρ σ H ∧ Rep G (wd F α ρ.mu) H v p ∧ SatG G W F σ (f p ρ) (Only σ vs Q)
theorem PEf.pe {e : Expr} {f : FE} (h : PEf G X W e f) : PE X e (tE G W f) := let ⟨_, p, q⟩ := h; ⟨fun pins s σ H Q I ⟨F, α, ρ, r, sa⟩ => p.run pins s σ H Q I (q F α ρ σ H Q r sa)⟩
theorem PTf.pt {e : Expr} {f : FB} (h : PTf G X W e f) : PT X e (tB' G W f) := let ⟨_, p, q⟩ := h; ⟨fun pins s σ H Q I ⟨F, α, ρ, r, sa⟩ => p.run pins s σ H Q I (q F α ρ σ H Q r sa)⟩
theorem PTsf.pts {ifs : List Expr} {f : FB} (h : PTsf G X W ifs f) : PTs X ifs (tB' G W f) := let ⟨_, p, q⟩ := h; ⟨fun pins s σ H Q I ⟨F, α, ρ, r, sa⟩ => p.run pins s σ H Q I (q F α ρ σ H Q r sa)⟩
theorem PGf.pg {tg : Expr} {vs : List Nat} {f : FG} (h : PGf G X W tg vs f) : PG X tg (tG' G W vs f) := let ⟨_, p, q⟩ := h; ⟨fun pins s σ H v u Q I rv ⟨F, α, ρ, t, r, rp, sa⟩ => p.run pins s σ H v u Q I rv (q F α ρ σ H v t Q r rp sa)⟩
theorem pnf_lc {elt tg iter : Expr} {ifs : List Expr} {scope : Scope} {own : List (Str × Nat)} {pos : Pos} {fi : FI} {fg : FG} {ft : FB} {fe : FE} (hc : X.calm = true) (hN : X.N.Nodup) (hi : PIf G X W tg iter fi) (ok : BlkOk X.N X.env.scope scope own)
    (hg : ∀ (s : Shared) (H : Hp) (C : Addr) (cl : List (Str × Addr)) (fp : List Addr), PGf G (X.blk s H scope (compEnvC scope cl C X.env) fp) W0 tg (own.map (·.2)) fg)
    (ht : ∀ (s : Shared) (H : Hp) (C : Addr) (cl : List (Str × Addr)) (fp : List Addr), PTsf G (X.blk s H scope (compEnvC scope cl C X.env) fp) W0 ifs ft)
    (he : ∀ (s : Shared) (H : Hp) (C : Addr) (cl : List (Str × Addr)) (fp : List Addr), PEf G (X.blk s H scope (compEnvC scope cl C X.env) fp) W0 elt fe)
    (hs : ∀ x, foldedSetIterable iter X.env x = pure x := by intro _; rfl) : PNf G X W (.ListComp elt [⟨tg, iter, ifs, 0⟩] scope pos) (fLc (own.map (·.2)) fi fg ft fe) := by
  obtain ⟨wi, pi, hi⟩ := hi
  exact ⟨_, pe_lc hc hN pi ok (fun s H C cl fp => (hg s H C cl fp).pg) (fun s H C cl fp => (ht s H C cl fp).pts) (fun s H C cl fp => (he s H C cl fp).pe) hs,
    lc_ok hi (fun F α ρ σ H v p Q r rp sa => ⟨F, α, ρ, p, r, rp, sa⟩) (fun F α ρ σ H Q r sa => ⟨F, α, ρ, r, sa⟩) (fun F α ρ σ H Q r sa => ⟨F, α, ρ, r, sa⟩)⟩

/-! ### all, any of a generator expression -/
def aaLoop (stop : Bool) (vs : List Nat) (g : FG) (ft : FB) (fe : FE) (t0 u : T) : List T → Env → R (Bool × Env)
  | [], ρ => if stays ρ.mu t0 u = true then .ok (!stop, ρ) else .stk
  | t :: ts, ρ => if stays ρ.mu t0 u = true then (g t ρ).bind fun ρ1 => (ft ρ1).bind fun b => if b.1 = true then (fe b.2).bind fun p => (match p.1 with
      | .bl c => if c = stop then .ok (stop, p.2) else aaLoop stop vs g ft fe t0 u ts (wipeE p.2 vs)
      | _ => .stk)
    else aaLoop stop vs g ft fe t0 u ts (wipeE b.2 vs)
    else .stk
def fAA (stop : Bool) (vs : List Nat) (fi : FI) (g : FG) (ft : FB) (fe : FE) : FE := fun ρ => (fi ρ).bind fun p => (noExc (aaLoop stop vs g ft fe p.1.t0 p.1.u p.1.ts (wipeE p.2 vs))).bind fun q => .ok (.bl q.1, wipeE q.2 vs)
def SatAA (G : GG) (F : Fr) (σ : L2.St) (vs : List Nat) (Q : VK) : R (Bool × Env) → Prop
  | .ok (b, ρ') => ∀ α H', Rel G F α (wipeE ρ' vs) σ H' → Q (.bl b) H'
  | .exc _ _ => False
  | .stk => False
theorem isAA {F F' : Fr} {σ σL : L2.St} {vs : List Nat} {Q : VK} : IsSat G W0 F σ (fun r => SatAA G F' σL vs Q r) := ⟨fun _ _ h => h.elim, fun h => h⟩
theorem tabbed_ext {P : Addr} {w : Wd} {H0 H1 : Hp} (wf : Wf G w H0) (h : Tabbed P H0 H1) (h0 : TabG H0 P) : HExt G H0 H1 := by
  obtain ⟨h1, h2⟩ := h
  obtain ⟨ps, e0, _⟩ := h0
  obtain ⟨qs, e1, t1⟩ := h1
  refine ⟨fun a u e => ?_, fun P' hP' => ?_⟩
  · by_cases z : a = P
    · subst z
      rw [e0] at e
      cases e
      exact ⟨fun p => p.elim, fun _ _ => ⟨qs, e1⟩⟩
    · rw [h2 a z, e]
      exact Grown.refl
  · by_cases z : P' = P
    · rw [z]; exact ⟨qs, e1, t1⟩
    · obtain ⟨rs, e, t⟩ := wf.tabs P' hP'
      exact ⟨rs, by rw [h2 P' z]; exact e, t⟩
theorem aa_ok {stop : Bool} {P : Addr} {vs : List Nat} {wi : TI} {g : TG} {tt : TT} {te : TE} {fi : FI} {fg : FG} {ft : FB} {fe : FE} (hP : P ∈ G.tabs)
    (hi : ∀ F α ρ σ H Rr, Rel G F α ρ σ H → SatI G W F σ (fi ρ) Rr → wi σ H Rr)
    (hg : ∀ F α ρ σ H v p (Q : L2.St → Hp → Prop), Rel G F α ρ σ H → Rep G (wd F α ρ.mu) H v p → SatG G W0 F σ (fg p ρ) (Only σ vs Q) → g v σ H Q)
    (ht : ∀ F α ρ σ H Q, Rel G F α ρ σ H → SatB G W0 F σ (ft ρ) Q → tt σ H Q) (he : ∀ F α ρ σ H Q, Rel G F α ρ σ H → SatE G W0 F σ (fe ρ) Q → te σ H Q)
    (F α ρ σ H Q) (r : Rel G F α ρ σ H) (s : SatE G W F σ (fAA stop vs fi fg ft fe ρ) Q) : tAA P stop wi g tt te vs σ H Q := by
  refine hi F α ρ σ H _ r ?_
  unfold fAA at s
  cases hfi : fi ρ with
  | exc x ρ' => rw [hfi] at s; exact s
  | stk => rw [hfi] at s; exact s
  | ok p =>
    obtain ⟨⟨ts, t0, u⟩, ρ1⟩ := p
    rw [hfi] at s
    intro J α0 H0 v0 r0 q0 hu jok
    refine ⟨r0.tabs P hP, fun H1 htab => ?_⟩
    have hx0 := tabbed_ext r0.wf htab (r0.tabs P hP)
    have r1 := r0.ext hx0
    have q1 := q0.stab hx0.keepE
    have sL : SatAA G F σ vs Q (aaLoop stop vs fg ft fe t0 u ts (wipeE ρ1 vs)) := by
      have s : SatE G W F σ ((noExc (aaLoop stop vs fg ft fe t0 u ts (wipeE ρ1 vs))).bind fun q => .ok (.bl q.1, wipeE q.2 vs)) Q := s
      cases hl : aaLoop stop vs fg ft fe t0 u ts (wipeE ρ1 vs) with
      | exc x ρ' => rw [hl] at s; exact s
      | stk => rw [hl] at s; exact s
      | ok q =>
        obtain ⟨b, ρ2⟩ := q
        rw [hl] at s
        exact fun α' H' r2 => s _ α' H' r2 (.bl _)
    have start : Rel G (F.hold v0 t0) α0 (wipeE ρ1 vs) (wipe σ vs) H1 := (r1.hold q1).wiped vs
    refine ⟨fun i m H => i ≤ ts.length ∧ m = ts.length - i ∧ ∃ αc ρc, Rel G (F.hold v0 t0) αc ρc (wipe σ vs) H ∧ SatAA G F σ vs Q (aaLoop stop vs fg ft fe t0 u (ts.drop i) ρc),
      ⟨ts.length, Nat.zero_le _, rfl, _, _, start, by rw [List.drop_zero]; exact sL⟩, ?_⟩
    rintro i m H ⟨hile, rfl, αc, ρc, rc, sl⟩
    have st : stays ρc.mu t0 u = true := by
      cases e : stays ρc.mu t0 u with
      | true => rfl
      | false =>
        exfalso
        cases hd : ts.drop i with
        | nil => rw [hd] at sl; unfold aaLoop at sl; rw [e] at sl; exact sl
        | cons x xs => rw [hd] at sl; unfold aaLoop at sl; rw [e] at sl; exact sl
    have jk := jok _ H rc.unhold.wf (by rw [← stays_eq hu st]; exact rc.unhold.vw rc.held) i
    by_cases hlt : i < ts.length
    · have ed : ts.drop i = ts[i] :: ts.drop (i + 1) := List.drop_eq_getElem_cons hlt
      rw [ed] at sl
      unfold aaLoop at sl
      rw [if_pos st] at sl
      have hti : ts[i]? = some ts[i] := List.getElem?_eq_getElem hlt
      obtain ⟨go, yl⟩ := jk.2 _ hti
      refine .inr ⟨go, fun H' => ∃ αc ρc, Rel G (F.hold v0 t0) αc ρc (wipe σ vs) H' ∧ SatAA G F σ vs Q (aaLoop stop vs fg ft fe t0 u (ts.drop (i + 1)) ρc), fun H' h => ⟨ts.length - (i + 1), by omega, hlt, rfl, h⟩, fun x H' hy => ?_⟩
      obtain ⟨hx, rx⟩ := yl x H' hy
      have rc2 := rc.ext hx
      refine hg (F.hold v0 t0) αc ρc (wipe σ vs) H' x ts[i] _ rc2 rx (satG_bind (Sa := fun r => SatAA G F σ vs Q r) (fun _ _ h => h) (fun h => h) sl fun ρd ed αd σ2 H2 rd sd hout hlen => ?_)
      have hw := wipe_eq hout hlen
      refine ⟨hw, ht (F.hold v0 t0) αd ρd σ2 H2 _ rd (satB_bind (Sa := fun r => SatAA G F σ vs Q r) isAA sd fun b ρe αe H3 eb rb sb => ?_)⟩
      dsimp only at sb
      split at sb
      · rename_i hb
        rw [if_pos hb]
        refine he (F.hold v0 t0) αe ρe σ2 H3 _ rb (satE_bind (Sa := fun r => SatAA G F σ vs Q r) isAA sb fun p ρf y αf H4 ep rp qp sp => ?_)
        dsimp only at sp
        split at sp
        · rename_i ec
          refine ⟨ec, rep_bl qp, ?_⟩
          split at sp
          · rename_i hcs
            rw [if_pos hcs]
            exact sp αf H4 (rp.unhold.toOuter hout hlen)
          · rename_i hcs
            rw [if_neg hcs]
            exact ⟨_, _, rp.rewiped hw, sp⟩
        · exact sp.elim
      · rename_i hb
        rw [if_neg hb]
        exact ⟨_, _, rb.rewiped hw, sb⟩
    · have e : i = ts.length := by omega
      subst e
      rw [List.drop_length] at sl
      unfold aaLoop at sl
      rw [if_pos st] at sl
      exact .inl ⟨jk.1 (Nat.le_refl _), sl αc H rc.unhold.unwiped⟩
theorem pef_aa {c P : Addr} {elt tg iter : Expr} {ifs : List Expr} {p pos gpos : Pos} {scope : Scope} {own : List (Str × Nat)} {fi : FI} {fg : FG} {ft : FB} {fe : FE} {x : Str} (stop : Bool)
    (hx : x = if stop then ("any" : Str) else ("all" : Str)) (hP : P ∈ G.tabs) (hr : Room 1 X.A) (hgl : Gl X x) (hm : X.mg x = none) (TB : TabB X.base X.mg c P) (hcode : X.env.code = .ref c) (hc : X.calm = true) (hN : X.N.Nodup) (hi : PIf G X W tg iter fi) (ok : BlkOk X.N X.env.scope scope own)
    (hco : scope.isCoroutine = false) (hcell : ∀ y ∈ scope.names, y.2 ≠ .cell) (h0 : scope.names.lookup (".0" : Str) = some NameKind.local)
    (hg : ∀ s H it cv fp pn, PGf G (Xgen X elt tg iter ifs scope gpos s H it cv fp pn) W0 tg (own.map (·.2)) fg) (ht : ∀ s H it cv fp pn, PTsf G (Xgen X elt tg iter ifs scope gpos s H it cv fp pn) W0 ifs ft) (he : ∀ s H it cv fp pn, PEf G (Xgen X elt tg iter ifs scope gpos s H it cv fp pn) W0 elt fe)
    (hs : ∀ v, genFold iter X.env v = pure v := by intro _; rfl)
    (hst : starEach [.GeneratorExp elt [⟨tg, iter, ifs, 0⟩] scope gpos] X.env = (false, eval (.GeneratorExp elt [⟨tg, iter, ifs, 0⟩] scope gpos) X.env) :: starEach [] X.env := by rfl) :
    PEf G X W (.Call (.Name x p) [.GeneratorExp elt [⟨tg, iter, ifs, 0⟩] scope gpos] [] pos) (fAA stop (own.map (·.2)) fi fg ft fe) := by
  obtain ⟨wi, pi, hi⟩ := hi
  exact ⟨_, pe_aa stop hx hr hgl hm TB hcode hc hN pi ok hco hcell h0 (fun s H it cv fp pn => (hg s H it cv fp pn).pg) (fun s H it cv fp pn => (ht s H it cv fp pn).pts) (fun s H it cv fp pn => (he s H it cv fp pn).pe) hs hst,
    aa_ok hP hi (fun F α ρ σ H v p Q r rp sa => ⟨F, α, ρ, p, r, rp, sa⟩) (fun F α ρ σ H Q r sa => ⟨F, α, ρ, r, sa⟩) (fun F α ρ σ H Q r sa => ⟨F, α, ρ, r, sa⟩)⟩
end
end Tr
namespace Tr
open PySem L2 GxR Gx
/-! ### statements -/
section
variable {G : GG} {X : Cx} {W : WX}
theorem satS_hold {F : Fr} {v : V} {t : T} {r : R Flow} {D : Ends} (s : SatS G W F r D) : SatS G W (F.hold v t) r D := by
  cases r with
  | exc x ρ => exact fun σ => satX_hold (s σ)
  | stk => exact s
  | ok f =>
    cases f with
    | next ρ => exact fun α σ H r => s α σ H r.unhold
    | ret t ρ => exact fun v α σ H r q => s v α σ H r.unhold q
    | brk ρ => exact fun α σ H r => s α σ H r.unhold
    | cnt ρ => exact fun α σ H r => s α σ H r.unhold
def fNext : FS := fun ρ => .ok (.next ρ)
def fSeq (f g : FS) : FS := fun ρ => (f ρ).bind fun fl => match fl with
  | .next ρ' => g ρ'
  | fl => .ok fl
def fIfS (c : FB) (f g : FS) : FS := fun ρ => (c ρ).bind fun b => if b.1 = true then f b.2 else g b.2
def fRet (fa : FE) : FS := fun ρ => (fa ρ).bind fun p => .ok (.ret p.1 p.2)
def fRetN : FS := fun ρ => .ok (.ret .non ρ)
def fBrk : FS := fun ρ => .ok (.brk ρ)
def fCnt : FS := fun ρ => .ok (.cnt ρ)
def fDrop (fa : FE) : FS := fun ρ => (fa ρ).bind fun p => .ok (.next p.2)
def fAsg (i : Nat) (fa : FE) : FS := fun ρ => (fa ρ).bind fun p => if i < p.2.sl.length then .ok (.next (p.2.put i p.1)) else .stk
def fAsgG (g : FG) (fa : FE) : FS := fun ρ => (fa ρ).bind fun p => (noExc (g p.1 p.2)).bind fun ρ1 => .ok (.next ρ1)
def fPar (i j : Nat) (fas : FA) : FS := fun ρ => (fas ρ).bind fun p => match p.1 with
  | [a, b] => if i < p.2.sl.length ∧ j < p.2.sl.length then .ok (.next ((p.2.put i a).put j b)) else .stk
  | _ => .stk
def fAugI (op : Int → Int → Int) (i : Nat) (fa : FE) : FS := fun ρ => match ρ.sl[i]? with
  | some (some (.int a)) => (fa ρ).bind fun p => (match p.1 with
      | .int b => .ok (.next (p.2.put i (.int (op a b))))
      | _ => .stk)
  | _ => .stk
def forLoop (g : FG) (fb : FS) (t0 u : T) : List T → Env → R Flow
  | [], ρ => if stays ρ.mu t0 u = true then .ok (.next ρ) else .stk
  | t :: ts, ρ => if stays ρ.mu t0 u = true then (noExc (g t ρ)).bind fun ρ1 => (fb ρ1).bind fun fl => (match fl with
      | .next ρ2 => forLoop g fb t0 u ts ρ2
      | .cnt ρ2 => forLoop g fb t0 u ts ρ2
      | .brk ρ2 => .ok (.next ρ2)
      | .ret t ρ2 => .ok (.ret t ρ2))
    else .stk
def fFor (fi : FI) (g : FG) (fb : FS) : FS := fun ρ => (fi ρ).bind fun p => forLoop g fb p.1.t0 p.1.u p.1.ts p.2
theorem pss_nilf : PSsf G X W [] fNext := ⟨_, pss_nil, fun F α ρ σ H D r s => s α σ H r⟩
theorem seq_ok {f g : FS} {t u : TS} (hf : ∀ F α ρ σ H D, Rel G F α ρ σ H → SatS G W F (f ρ) D → t D σ H) (hg : ∀ F α ρ σ H D, Rel G F α ρ σ H → SatS G W F (g ρ) D → u D σ H)
    (F α ρ σ H D) (r : Rel G F α ρ σ H) (s : SatS G W F (fSeq f g ρ) D) : tSeq t u D σ H := by
  unfold fSeq at s
  refine hf F α ρ σ H _ r ?_
  cases hfr : f ρ with
  | exc x ρ' => rw [hfr] at s; exact s
  | stk => rw [hfr] at s; exact s
  | ok fl =>
    rw [hfr] at s
    cases fl with
    | next ρ' => exact fun α' σ' H' r' => hg F α' ρ' σ' H' D r' s
    | ret t ρ' => exact s
    | brk ρ' => exact s
    | cnt ρ' => exact s
theorem pss_consf {st : Stmt} {rest : List Stmt} {f g : FS} (h : PSf G X W st f) (hs : PSsf G X W rest g) : PSsf G X W (st :: rest) (fSeq f g) := by
  obtain ⟨t, p, q⟩ := h
  obtain ⟨u, p2, q2⟩ := hs
  exact ⟨_, pss_cons p p2, seq_ok q q2⟩
theorem pss_onef {st : Stmt} {f : FS} (h : PSf G X W st f) : PSsf G X W [st] f := let ⟨t, p, q⟩ := h; ⟨t, pss_one p, q⟩
theorem ps_passf {pos : Pos} : PSf G X W (.Pass pos) fNext := ⟨_, ps_pass, fun F α ρ σ H D r s => s α σ H r⟩
theorem ps_breakf {pos : Pos} : PSf G X W (.Break pos) fBrk := ⟨_, ps_break, fun F α ρ σ H D r s => s α σ H r⟩
theorem ps_contf {pos : Pos} : PSf G X W (.Continue pos) fCnt := ⟨_, ps_continue, fun F α ρ σ H D r s => s α σ H r⟩
theorem ps_docf {x j pos pos'} : PSf G X W (.Expr (.Constant (.str x) j pos) pos') fNext := ⟨_, ps_doc, fun F α ρ σ H D r s => s α σ H r⟩
theorem ps_iff {c : Expr} {a b : List Stmt} {pos : Pos} {fc : FB} {f g : FS} (hc : PTf G X W c fc) (ha : PSsf G X W a f) (hb : PSsf G X W b g) : PSf G X W (.If c a b pos) (fIfS fc f g) := by
  obtain ⟨tc, pc, qc⟩ := hc
  obtain ⟨t, p, q⟩ := ha
  obtain ⟨u, p2, q2⟩ := hb
  refine ⟨_, ps_if pc p p2, fun F α ρ σ H D r s => qc F α ρ σ H _ r (satB_bind (isS (σ := σ) (D := D)) s fun b ρ1 α1 H1 _ r1 s1 => ?_)⟩
  dsimp only at s1
  split at s1
  · rename_i h; rw [if_pos h]; exact q F α1 ρ1 σ H1 D r1 s1
  · rename_i h; rw [if_neg h]; exact q2 F α1 ρ1 σ H1 D r1 s1
theorem ps_retf {e : Expr} {pos : Pos} {fa : FE} (h : PEf G X W e fa) : PSf G X W (.Return (some e) pos) (fRet fa) := by
  obtain ⟨t, p, q⟩ := h
  exact ⟨_, ps_ret p, fun F α ρ σ H D r s => q F α ρ σ H _ r (satE_bind (isS (σ := σ) (D := D)) s fun b ρ1 v α1 H1 _ r1 q1 s1 => s1 v α1 σ H1 r1 q1)⟩
theorem ps_retNf {pos : Pos} : PSf G X W (.Return none pos) fRetN := ⟨_, ps_retN, fun F α ρ σ H D r s => s .non α σ H r .non⟩
theorem ps_exprf {e : Expr} {pos : Pos} {fa : FE} (h : PEf G X W e fa) (hs : swapsWith e none pos.line X.env = pure false := by rfl) : PSf G X W (.Expr e pos) (fDrop fa) := by
  obtain ⟨t, p, q⟩ := h
  exact ⟨_, ps_expr p hs, fun F α ρ σ H D r s => q F α ρ σ H _ r (satE_bind (isS (σ := σ) (D := D)) s fun b ρ1 v α1 H1 _ r1 q1 s1 => s1 α1 σ H1 r1)⟩
theorem satG_noExc {β : Type} {F : Fr} {σ : L2.St} {f : R Env} {k : Env → R β} {Sa : R β → Prop} {Q' : L2.St → Hp → Prop} (hs : ¬ Sa .stk) (h : Sa ((noExc f).bind k)) (hk : ∀ ρ1, f = .ok ρ1 → ∀ α σ' H', Rel G F α ρ1 σ' H' → Sa (k ρ1) → Q' σ' H') : SatG G W F σ f Q' := by
  cases f with
  | ok ρ1 => exact fun α σ' H' r => hk ρ1 rfl α σ' H' r h
  | exc x ρ => exact (hs h).elim
  | stk => exact (hs h).elim
/-- what an assignment to a name asks of the expression -/
theorem asg_sat {F : Fr} {σ : L2.St} {ρ : Env} {i : Nat} {fa : FE} {D : Ends} (s : SatS G W F (fAsg i fa ρ) D) : SatE G W F σ (fa ρ) (fun x H1 => D.nx (σ.set i (some x)) H1) := by
  refine satE_bind (isS (σ := σ) (D := D)) s fun b ρ1 v α1 H1 _ r1 q1 s1 => ?_
  dsimp only at s1
  split at s1
  · rename_i hi; exact s1 α1 _ H1 (r1.set hi q1)
  · exact s1.elim
theorem ps_setf {i : Nat} {x : Str} {e : Expr} {fa : FE} {pos' pos : Pos} (hN : X.N.Nodup) (hi : X.N[i]? = some x) (hx : Loc X.env.scope x) (h : PEf G X W e fa) (hs : swapsWith e (some (.Name x pos')) pos.line X.env = pure false := by rfl) (hf : X.fn x = true ∨ X.env.scope.names.lookup x = some .local := by first | exact .inl rfl | exact .inr rfl | assumption) :
    PSf G X W (.Assign [.Name x pos'] e pos) (fAsg i fa) := by
  obtain ⟨t, p, q⟩ := h
  exact ⟨_, ps_set hN hi hx p hs hf, fun F α ρ σ H D r s => q F α ρ σ H _ r (asg_sat s)⟩
theorem ps_asgf {tg e : Expr} {pos : Pos} {fa : FE} {g : FG} {vs : List Nat} (h : PEf G X W e fa) (hg : PGf G X W tg vs g) (hs : swapsWithSole [tg] e pos.line X.env = pure false := by rfl) (hw : swappedStores [tg] e X.env = pure none := by rfl)
    (h1 : (assignEach [tg] X.env).map (·.2) = [assign tg X.env] := by rfl) : PSf G X W (.Assign [tg] e pos) (fAsgG g fa) := by
  obtain ⟨t, p, q⟩ := h
  obtain ⟨tg', pg, qg⟩ := hg
  refine ⟨_, ps_asg p pg hs hw h1, fun F α ρ σ H D r s => q F α ρ σ H _ r (satE_bind (isS (σ := σ) (D := D)) s fun b ρ1 v α1 H1 _ r1 q1 s1 => ?_)⟩
  exact qg F α1 ρ1 σ H1 v b _ r1 q1 (satG_noExc (Sa := fun r => SatS G W F r D) (fun h => h) s1 fun ρ2 _ α2 σ2 H2 r2 s2 _ _ => s2 α2 σ2 H2 r2)
theorem sw_used {elt tg iter : Expr} {ifs : List Expr} {scope : Scope} {pos py : Pos} {y : Str} {line : Nat} (h : swapsWith (.ListComp elt [⟨tg, iter, ifs, 0⟩] scope pos) (some (.Name y py)) line X.env = pure true) : True := trivial
theorem ps_setLcf {i : Nat} {y : Str} {py : Pos} {elt tg iter : Expr} {ifs : List Expr} {scope : Scope} {own : List (Str × Nat)} {pos spos : Pos} {fi : FI} {fg : FG} {ft : FB} {fe : FE} (own' : Bool) (hc : X.calm = true) (hN : X.N.Nodup) (hy : X.N[i]? = some y) (hyl : X.env.scope.names.lookup y = some .local)
    (hsw : swapsWith (.ListComp elt [⟨tg, iter, ifs, 0⟩] scope pos) (some (.Name y py)) spos.line X.env = pure true) (hi : PIf G X W tg iter fi) (ok : BlkOk X.N X.env.scope scope own)
    (hg : ∀ (s : Shared) (H : Hp) (C : Addr) (cl : List (Str × Addr)) (fp : List Addr), PGf G (X.blk s H scope (compEnvC scope cl C X.env) fp) W0 tg (own.map (·.2)) fg)
    (ht : ∀ (s : Shared) (H : Hp) (C : Addr) (cl : List (Str × Addr)) (fp : List Addr), PTsf G (X.blk s H scope (compEnvC scope cl C X.env) fp) W0 ifs ft)
    (he : ∀ (s : Shared) (H : Hp) (C : Addr) (cl : List (Str × Addr)) (fp : List Addr), PEf G (X.blk s H scope (compEnvC scope cl C X.env) fp) W0 elt fe)
    (hs : ∀ x, foldedSetIterable iter X.env x = pure x := by intro _; rfl) :
    PSf G X W (.Assign [.Name y py] (.ListComp elt [⟨tg, iter, ifs, 0⟩] scope pos) spos) (fAsg i (if own' then fOwn (fLc (own.map (·.2)) fi fg ft fe) else fFrz (fLc (own.map (·.2)) fi fg ft fe))) := by
  obtain ⟨wi, pi, hi⟩ := hi
  refine ⟨_, ps_setLc hc hN hy hyl hsw pi ok (fun s H C cl fp => (hg s H C cl fp).pg) (fun s H C cl fp => (ht s H C cl fp).pts) (fun s H C cl fp => (he s H C cl fp).pe) hs, fun F α ρ σ H D r s => ?_⟩
  refine lc_ok hi (fun F α ρ σ H v p Q r rp sa => ⟨F, α, ρ, p, r, rp, sa⟩) (fun F α ρ σ H Q r sa => ⟨F, α, ρ, r, sa⟩) (fun F α ρ σ H Q r sa => ⟨F, α, ρ, r, sa⟩) F α ρ σ H _ r (fun p hp => (r.pin p hp).2.1) ?_
  have s1 := asg_sat (σ := σ) s
  cases own' with
  | true => exact satN_own (fun p hp => (r.pin p hp).2.1) s1
  | false => exact satN_frz (fun p hp => (r.pin p hp).2.1) s1
theorem ps_parf {i j : Nat} {x y : Str} {a b : Expr} {fas : FA} {px py pt pos : Pos} {kt k2 pt2} (hc : X.calm = true) (hN : X.N.Nodup) (hi : X.N[i]? = some x) (hj : X.N[j]? = some y) (hij : i ≠ j)
    (hx : X.env.scope.names.lookup x = some .local) (hy : X.env.scope.names.lookup y = some .local) (ha : PAf G X W [a, b] fas)
    (hw : swappedStores [.Tuple [.Name x px, .Name y py] kt pt] (.Tuple [a, b] k2 pt2) X.env = pure (some [x, y]))
    (hs : swapsWithSole [.Tuple [.Name x px, .Name y py] kt pt] (.Tuple [a, b] k2 pt2) pos.line X.env = pure false := by rfl) :
    PSf G X W (.Assign [.Tuple [.Name x px, .Name y py] kt pt] (.Tuple [a, b] k2 pt2) pos) (fPar i j fas) := by
  obtain ⟨t, p, q⟩ := ha
  refine ⟨_, ps_par hc hN hi hj hij hx hy p hw hs, fun F α ρ σ H D r s => q F α ρ σ H _ r (satA_bind (isS (σ := σ) (D := D)) s fun us ρ1 vs α1 H1 _ r1 q1 s1 => ?_)⟩
  dsimp only at s1
  split at s1
  · split at s1
    · rename_i h
      cases q1 with
      | cons qa q1 =>
        obtain ⟨w, rfl, qb⟩ := reps1 q1
        exact ⟨_, w, rfl, s1 α1 _ H1 ((r1.set h.1 qa).set (by show j < (List.set _ _ _).length; rw [List.length_set]; exact h.2) qb)⟩
    · exact s1.elim
  · exact s1.elim
theorem ps_augf {i : Nat} {x : Str} {e : Expr} {fa : FE} {op : Operator} {pos' pos : Pos} {f : Int → Int → Int} (ho : PIp X op (ipI f)) (hN : X.N.Nodup) (hi : X.N[i]? = some x) (hx : Loc X.env.scope x) (h : PEf G X W e fa) (hf : X.fn x = true ∨ X.env.scope.names.lookup x = some .local := by first | exact .inl rfl | exact .inr rfl | assumption) :
    PSf G X W (.AugAssign (.Name x pos') op e pos) (fAugI f i fa) := by
  obtain ⟨t, p, q⟩ := h
  refine ⟨_, ps_aug hN hi hx p ho hf, fun F α ρ σ H D r s => ?_⟩
  unfold fAugI at s
  split at s
  · rename_i a ha
    obtain ⟨v, h1, h2⟩ := r.slot i _ ha
    refine ⟨v, h1, q F α ρ σ H _ r (satE_bind (isS (σ := σ) (D := D)) s fun b ρ1 v1 α1 H1 _ r1 q1 s1 => ?_)⟩
    dsimp only at s1
    split at s1
    · have hl : i < ρ1.sl.length := by rw [← r1.len, r.len]; exact (List.getElem?_eq_some_iff.mp ha).1
      exact ⟨a, _, rep_int h2, rep_int q1, s1 α1 _ H1 (r1.set hl (.int _))⟩
    · exact s1.elim
  · exact s.elim
theorem for_ok {wi : TI} {g : TG} {tb : TS} {fi : FI} {fg : FG} {fb : FS} {vs : List Nat}
    (hi : ∀ F α ρ σ H Rr, Rel G F α ρ σ H → SatI G W F σ (fi ρ) Rr → wi σ H Rr)
    (hg : ∀ F α ρ σ H v p (Q : L2.St → Hp → Prop), Rel G F α ρ σ H → Rep G (wd F α ρ.mu) H v p → SatG G W F σ (fg p ρ) (Only σ vs Q) → g v σ H Q)
    (hb : ∀ F α ρ σ H D, Rel G F α ρ σ H → SatS G W F (fb ρ) D → tb D σ H)
    (F α ρ σ H D) (r : Rel G F α ρ σ H) (s : SatS G W F (fFor fi fg fb ρ) D) : tFor wi g tb D σ H := by
  refine hi F α ρ σ H _ r ?_
  unfold fFor at s
  cases hfi : fi ρ with
  | exc x ρ' => rw [hfi] at s; exact s σ
  | stk => rw [hfi] at s; exact s
  | ok p =>
    obtain ⟨⟨ts, t0, u⟩, ρ1⟩ := p
    rw [hfi] at s
    intro J α1 H1 v0 r1 q1 hu jok
    refine ⟨fun i m σ H => i ≤ ts.length ∧ m = ts.length - i ∧ ∃ αc ρc, Rel G (F.hold v0 t0) αc ρc σ H ∧ SatS G W F (forLoop fg fb t0 u (ts.drop i) ρc) D,
      ⟨ts.length, Nat.zero_le _, rfl, _, _, r1.hold q1, by rw [List.drop_zero]; exact s⟩, ?_⟩
    rintro i m σ H ⟨hile, rfl, αc, ρc, rc, sl⟩
    have st : stays ρc.mu t0 u = true := by
      cases e : stays ρc.mu t0 u with
      | true => rfl
      | false =>
        exfalso
        cases hd : ts.drop i with
        | nil => rw [hd] at sl; unfold forLoop at sl; rw [e] at sl; exact sl
        | cons x xs => rw [hd] at sl; unfold forLoop at sl; rw [e] at sl; exact sl
    have jk := jok _ H rc.unhold.wf (by rw [← stays_eq hu st]; exact rc.unhold.vw rc.held) i
    by_cases hlt : i < ts.length
    · have ed : ts.drop i = ts[i] :: ts.drop (i + 1) := List.drop_eq_getElem_cons hlt
      rw [ed] at sl
      unfold forLoop at sl
      rw [if_pos st] at sl
      have hti : ts[i]? = some ts[i] := List.getElem?_eq_getElem hlt
      obtain ⟨go, yl⟩ := jk.2 _ hti
      refine .inr ⟨go, fun σ' H' => ∃ αc ρc, Rel G (F.hold v0 t0) αc ρc σ' H' ∧ SatS G W F (forLoop fg fb t0 u (ts.drop (i + 1)) ρc) D,
        fun σ' H' h => ⟨ts.length - (i + 1), by omega, hlt, rfl, h⟩, fun x H' hy => ?_⟩
      obtain ⟨hx, rx⟩ := yl x H' hy
      have rc2 := rc.ext hx
      refine hg (F.hold v0 t0) αc ρc σ H' x ts[i] _ rc2 rx (satG_noExc (Sa := fun r => SatS G W F r D) (fun h => h) sl fun ρd _ αd σ2 H2 rd sd _ _ => ?_)
      refine hb (F.hold v0 t0) αd ρd σ2 H2 _ rd ?_
      cases hfb : fb ρd with
      | exc x ρ' => rw [hfb] at sd; exact fun σ' => satX_hold (sd σ')
      | stk => rw [hfb] at sd; exact sd
      | ok fl =>
        rw [hfb] at sd
        cases fl with
        | next ρ2 => exact fun α' σ' H' r' => ⟨α', ρ2, r', sd⟩
        | cnt ρ2 => exact fun α' σ' H' r' => ⟨α', ρ2, r', sd⟩
        | brk ρ2 => exact fun α' σ' H' r' => sd α' σ' H' r'.unhold
        | ret t ρ2 => exact fun v α' σ' H' r' q => sd v α' σ' H' r'.unhold q
    · have e : i = ts.length := by omega
      subst e
      rw [List.drop_length] at sl
      unfold forLoop at sl
      rw [if_pos st] at sl
      exact .inl ⟨jk.1 (Nat.le_refl _), sl αc σ H rc.unhold⟩
theorem ps_forf {tg iter : Expr} {body : List Stmt} {pos : Pos} {fi : FI} {fg : FG} {fb : FS} {vs : List Nat} (hp : PassesOwn (model X.prog X.w) X.A X.env X.xe) (hc : X.calm = true) (hi : PIf G X W tg iter fi) (hg : PGf G X W tg vs fg) (hb : PSsf G X W body fb)
    (hs : ∀ x, foldedSetIterable iter X.env x = pure x := by intro _; rfl) : PSf G X W (.For tg iter body [] pos) (fFor fi fg fb) := by
  obtain ⟨wi, pi, hi⟩ := hi
  obtain ⟨g, pg, hg⟩ := hg
  obtain ⟨t, pb, hb⟩ := hb
  exact ⟨_, ps_for hp hc pi pg pb hs, for_ok hi hg hb⟩

/-! ### while -/
def whileR (c : FB) (fb : FS) : Nat → Env → Option (R Flow)
  | 0, _ => none
  | n + 1, ρ => match c ρ with
    | .ok (true, ρ1) => (match fb ρ1 with
      | .ok (.next ρ2) => whileR c fb n ρ2
      | .ok (.cnt ρ2) => whileR c fb n ρ2
      | .ok (.brk ρ2) => some (.ok (.next ρ2))
      | .ok (.ret t ρ2) => some (.ok (.ret t ρ2))
      | .exc x ρ2 => some (.exc x ρ2)
      | .stk => some .stk)
    | .ok (false, ρ1) => some (.ok (.next ρ1))
    | .exc x ρ1 => some (.exc x ρ1)
    | .stk => some .stk
open Classical in
noncomputable def fWhile (c : FB) (fb : FS) : FS := fun ρ => if h : ∃ n r, whileR c fb n ρ = some r then h.choose_spec.choose else .stk
theorem whileR_mono {c : FB} {fb : FS} : ∀ {n : Nat} {ρ : Env} {r : R Flow} (k : Nat), whileR c fb n ρ = some r → whileR c fb (n + k) ρ = some r
  | 0, _, _, _, h => by cases h
  | n + 1, ρ, r, k, h => by
    rw [show n + 1 + k = n + k + 1 by omega]
    unfold whileR at h ⊢
    split <;> rename_i e <;> rw [e] at h
    · dsimp only at h ⊢
      split <;> rename_i e2 <;> rw [e2] at h
      · exact whileR_mono k h
      · exact whileR_mono k h
      all_goals exact h
    all_goals exact h
theorem fWhile_of {c : FB} {fb : FS} {n : Nat} {ρ : Env} {r : R Flow} (h : whileR c fb n ρ = some r) : fWhile c fb ρ = r := by
  have h1 : ∃ n r, whileR c fb n ρ = some r := ⟨n, r, h⟩
  unfold fWhile
  rw [dif_pos h1]
  have h2 := h1.choose_spec.choose_spec
  have a := whileR_mono n h2
  have b := whileR_mono h1.choose h
  rw [Nat.add_comm] at a
  rw [a] at b
  exact Option.some.inj b
theorem fWhile_run {c : FB} {fb : FS} {ρ : Env} (h : fWhile c fb ρ ≠ .stk) : ∃ n, whileR c fb n ρ = some (fWhile c fb ρ) := by
  unfold fWhile at h ⊢
  split at h
  · rename_i h1
    rw [dif_pos h1]
    exact ⟨_, h1.choose_spec.choose_spec⟩
  · exact (h rfl).elim
theorem while_ok {tc : TT} {tb : TS} {c : FB} {fb : FS} (hc : ∀ F α ρ σ H Q, Rel G F α ρ σ H → SatB G W F σ (c ρ) Q → tc σ H Q) (hb : ∀ F α ρ σ H D, Rel G F α ρ σ H → SatS G W F (fb ρ) D → tb D σ H)
    (F α ρ σ H D) (r : Rel G F α ρ σ H) (s : SatS G W F (fWhile c fb ρ) D) : tWhile tc tb D σ H := by
  have hn : fWhile c fb ρ ≠ .stk := fun z => by rw [z] at s; exact s
  obtain ⟨n, hn⟩ := fWhile_run hn
  generalize fWhile c fb ρ = R at s hn
  refine ⟨fun m σ H => ∃ αc ρc, Rel G F αc ρc σ H ∧ whileR c fb m ρc = some R, ⟨n, α, ρ, r, hn⟩, ?_⟩
  rintro m σ H ⟨αc, ρc, rc, hm⟩
  cases m with
  | zero => cases hm
  | succ m =>
    unfold whileR at hm
    refine hc F αc ρc σ H _ rc ?_
    split at hm
    · rename_i ρ1 e
      rw [e]
      intro α1 H1 r1
      rw [if_pos rfl]
      refine ⟨fun σ' H' => ∃ αc ρc, Rel G F αc ρc σ' H' ∧ whileR c fb m ρc = some R, fun σ' H' h => ⟨m, Nat.lt_succ_self m, h⟩, hb F α1 ρ1 σ H1 _ r1 ?_⟩
      split at hm
      · rename_i ρ2 e2; rw [e2]; exact fun α' σ' H' r' => ⟨α', ρ2, r', hm⟩
      · rename_i ρ2 e2; rw [e2]; exact fun α' σ' H' r' => ⟨α', ρ2, r', hm⟩
      · rename_i ρ2 e2; rw [e2]; cases hm; exact fun α' σ' H' r' => s α' σ' H' r'
      · rename_i t ρ2 e2; rw [e2]; cases hm; exact fun v α' σ' H' r' q => s v α' σ' H' r' q
      · rename_i x ρ2 e2; rw [e2]; cases hm; exact fun σ' => s σ'
      · cases hm; exact s.elim
    · rename_i ρ1 e
      rw [e]
      cases hm
      intro α1 H1 r1
      rw [if_neg (by simp)]
      exact s α1 σ H1 r1
    · rename_i x ρ1 e; rw [e]; cases hm; exact s σ
    · cases hm; exact s.elim
theorem ps_whilef {c : Expr} {body : List Stmt} {pos : Pos} {fc : FB} {fb : FS} (hp : PassesOwn (model X.prog X.w) X.A X.env X.xe) (hc : PTf G X W c fc) (hb : PSsf G X W body fb) : PSf G X W (.While c body [] pos) (fWhile fc fb) := by
  obtain ⟨tc, pc, hc⟩ := hc
  obtain ⟨t, pb, hb⟩ := hb
  exact ⟨_, ps_while hp pc pb, while_ok hc hb⟩
end
end Tr
namespace Tr
open PySem L2 GxR Gx
/-! ### trees without things that change -/
mutual
def T.nr : T → Bool
  | .tup xs => T.nrs xs
  | .lst xs => T.nrs xs
  | .dct kvs => T.nrd kvs
  | .dcN kvs => T.nrd kvs
  | .obj _ fs => T.nrf fs
  | .ref _ => false
  | _ => true
def T.nrs : List T → Bool
  | [] => true
  | x :: xs => T.nr x && T.nrs xs
def T.nrd : List (T × T) → Bool
  | [] => true
  | (_, x) :: xs => T.nr x && T.nrd xs
def T.nrf : List (Str × T) → Bool
  | [] => true
  | (_, x) :: xs => T.nr x && T.nrf xs
end
mutual
theorem nk_nr : ∀ {t : T} {k : NestedKey}, nkOf t = some k → t.nr = true
  | .non, _, _ => by simp [T.nr]
  | .bl _, _, _ => by simp [T.nr]
  | .int _, _, _ => by simp [T.nr]
  | .str _, _, _ => by simp [T.nr]
  | .tup xs, k, h => by
    rw [nkOf] at h
    cases e : nksOf xs with
    | none => rw [e] at h; cases h
    | some ks => rw [T.nr]; exact nks_nrs e
  | .ty _, _, h => by simp [nkOf] at h
  | .lst _, _, h => by simp [nkOf] at h
  | .dct _, _, h => by simp [nkOf] at h
  | .obj _ _, _, h => by simp [nkOf] at h
  | .ref _, _, h => by simp [nkOf] at h
  | .exo _, _, h => by simp [nkOf] at h
  | .cl _, _, h => by simp [nkOf] at h
  | .dcN _, _, h => by simp [nkOf] at h
theorem nks_nrs : ∀ {ts : List T} {ks : List NestedKey}, nksOf ts = some ks → T.nrs ts = true
  | [], _, _ => by simp [T.nrs]
  | x :: xs, ks, h => by
    rw [nksOf] at h
    split at h
    · rename_i k ks' e1 e2
      rw [T.nrs, nk_nr e1, nks_nrs e2]
      rfl
    · cases h
end
section
variable {G : GG} {w w' : Wd} {H H' : Hp}
/-- .. their places don't matter -/
structure KeepN (w : Wd) (H : Hp) (w' : Wd) (H' : Hp) : Prop where
  hp : ∀ (a : Addr) (u : HO), ¬ w.E a → H a = some u → Plain u → H' a = some u ∧ ¬ w'.E a
theorem KeepN.rd (k : KeepN w H w' H') {a : Addr} {u : HO} (he : ¬ w.E a) (h : Rd H a u) (pu : Plain u) : Rd H' a u ∧ ¬ w'.E a := by
  rcases h with h | ⟨o, h⟩
  · exact ⟨.inl (k.hp a u he h pu).1, (k.hp a u he h pu).2⟩
  · exact ⟨.inr ⟨o, (k.hp a _ he h trivial).1⟩, (k.hp a _ he h trivial).2⟩
mutual
theorem Rep.nr (k : KeepN w H w' H') : ∀ {v : V} {t : T}, t.nr = true → Rep G w H v t → Rep G w' H' v t
  | _, _, _, .non => .non
  | _, _, _, .bl b => .bl b
  | _, _, _, .int i => .int i
  | _, _, _, .str s => .str s
  | _, _, _, .ty n => .ty n
  | _, _, n, .tup he h r => .tup (k.rd he h trivial).2 (k.rd he h trivial).1 (Reps.nr k (by rw [T.nr] at n; exact n) r)
  | _, _, n, .lst he h r => .lst (k.rd he h trivial).2 (k.rd he h trivial).1 (Reps.nr k (by rw [T.nr] at n; exact n) r)
  | _, _, n, .lstK h r => .lstK h (Reps.nr k (by rw [T.nr] at n; exact n) r)
  | _, _, n, .dct he h d r => .dct (k.hp _ _ he h d.plain).2 (k.hp _ _ he h d.plain).1 d (RepD.nr k (by rw [T.nr] at n; exact n) r)
  | _, _, n, .obj he h c r => .obj (k.hp _ _ he h trivial).2 (k.hp _ _ he h trivial).1 c (RepF.nr k (by rw [T.nr] at n; exact n) r)
  | _, _, n, .ref h => by rw [T.nr] at n; cases n
  | _, _, n, .dctN he h r => .dctN (k.hp _ _ he h trivial).2 (k.hp _ _ he h trivial).1 (RepN.nr k (by rw [T.nr] at n; exact n) r)
  | _, _, _, .cl c => .cl c
  | _, _, _, .exo he h c => .exo (k.hp _ _ he h trivial).2 (k.hp _ _ he h trivial).1 c
theorem Reps.nr (k : KeepN w H w' H') : ∀ {vs : List V} {ts : List T}, T.nrs ts = true → Reps G w H vs ts → Reps G w' H' vs ts
  | _, _, _, .nil => .nil
  | _, _, n, .cons r rs => by
    rw [T.nrs, Bool.and_eq_true] at n
    exact .cons (Rep.nr k n.1 r) (Reps.nr k n.2 rs)
theorem RepF.nr (k : KeepN w H w' H') : ∀ {vs : List (Str × V)} {ts : List (Str × T)}, T.nrf ts = true → RepF G w H vs ts → RepF G w' H' vs ts
  | _, _, _, .nil => .nil
  | _, _, n, .cons r rs => by
    rw [T.nrf, Bool.and_eq_true] at n
    exact .cons (Rep.nr k n.1 r) (RepF.nr k n.2 rs)
theorem RepD.nr (k : KeepN w H w' H') : ∀ {vs : List (T × V)} {ts : List (T × T)}, T.nrd ts = true → RepD G w H vs ts → RepD G w' H' vs ts
  | _, _, _, .nil => .nil
  | _, _, n, .cons r rs => by
    rw [T.nrd, Bool.and_eq_true] at n
    exact .cons (Rep.nr k n.1 r) (RepD.nr k n.2 rs)
theorem RepN.nr (k : KeepN w H w' H') : ∀ {vs : List (NestedKey × Addr × V)} {ts : List (T × T)}, T.nrd ts = true → RepN G w H vs ts → RepN G w' H' vs ts
  | _, _, _, .nil => .nil
  | _, _, n, .cons q e r rs => by
    rw [T.nrd, Bool.and_eq_true] at n
    exact .cons (Rep.nr k (nk_nr e) q) e (Rep.nr k n.1 r) (RepN.nr k n.2 rs)
end
theorem KeepN.refl (h : ∀ a, w'.E a → w.E a) : KeepN w H w' H := ⟨fun a u he q _ => ⟨q, fun z => he (h a z)⟩⟩
end
/-- what changed is given away for good -/
def mapO {α β : Type} (f : α → Option β) : List α → Option (List β)
  | [] => some []
  | x :: xs => match f x, mapO f xs with
    | some y, some ys => some (y :: ys)
    | _, _ => none
def fz (μ : List Node) : Nat → T → Option T
  | 0, t => if t.nr = true then some t else none
  | k + 1, t => if t.nr = true then some t else match t with
    | .tup ts => (mapO (fz μ k) ts).map .tup
    | .ref i => (match μ[i]? with
      | some (.lst ts) => (mapO (fz μ k) ts).map .lst
      | some (.dct kvs) => (mapO (fun p => (fz μ k p.2).map fun y => (p.1, y)) kvs).map .dct
      | some (.obj c fs) => (mapO (fun p => (fz μ k p.2).map fun y => (p.1, y)) fs).map (.obj c)
      | _ => none)
    | _ => none
section
variable {G : GG} {F : Fr} {α : List Addr} {ρ : Env} {σ : L2.St} {H : Hp}
theorem Rep.out (al : List Addr) {v : V} {t : T} (h : Rep G (wd F α ρ.mu) H v t) (n : t.nr = true) : Rep G ⟨F.O, al⟩ H v t := Rep.nr (KeepN.refl fun a (ha : F.O a) => Or.inl ha) n h
theorem mapO_reps {w w' : Wd} {f : T → Option T} (hf : ∀ {v : V} {t u : T}, Rep G w H v t → f t = some u → Rep G w' H v u) : ∀ {vs : List V} {ts us : List T}, Reps G w H vs ts → mapO f ts = some us → Reps G w' H vs us
  | _, _, _, .nil, h => by simp only [mapO] at h; cases h; exact .nil
  | _, _, _, .cons r rs, h => by
    simp only [mapO] at h
    split at h
    · rename_i y ys e1 e2
      cases h
      exact .cons (hf r e1) (mapO_reps hf rs e2)
    · cases h
theorem mapO_repD {w w' : Wd} {f : T → Option T} (hf : ∀ {v : V} {t u : T}, Rep G w H v t → f t = some u → Rep G w' H v u) : ∀ {vs : List (T × V)} {ts us : List (T × T)}, RepD G w H vs ts → mapO (fun p => (f p.2).map fun y => (p.1, y)) ts = some us → RepD G w' H vs us
  | _, _, _, .nil, h => by simp only [mapO] at h; cases h; exact .nil
  | _, _, _, .cons (t := t) r rs, h => by
    simp only [mapO] at h
    split at h
    · rename_i y ys e1 e2
      cases h
      cases q : f t with
      | none => rw [q] at e1; cases e1
      | some z => rw [q] at e1; cases e1; exact .cons (hf r q) (mapO_repD hf rs e2)
    · cases h
theorem mapO_repN {w w' : Wd} {f : T → Option T} (hf : ∀ {v : V} {t u : T}, Rep G w H v t → f t = some u → Rep G w' H v u) (hk : ∀ {v : V} {t : T}, Rep G w H v t → t.nr = true → Rep G w' H v t) : ∀ {vs : List (NestedKey × Addr × V)} {ts us : List (T × T)}, RepN G w H vs ts → mapO (fun p => (f p.2).map fun y => (p.1, y)) ts = some us → RepN G w' H vs us
  | _, _, _, .nil, h => by simp only [mapO] at h; cases h; exact .nil
  | _, _, _, .cons (t := t) k e r rs, h => by
    simp only [mapO] at h
    split at h
    · rename_i y ys e1 e2
      cases h
      cases q : f t with
      | none => rw [q] at e1; cases e1
      | some z => rw [q] at e1; cases e1; exact .cons (hk k (nk_nr e)) e (hf r q) (mapO_repN hf hk rs e2)
    · cases h
theorem mapO_repF {w w' : Wd} {f : T → Option T} (hf : ∀ {v : V} {t u : T}, Rep G w H v t → f t = some u → Rep G w' H v u) : ∀ {vs : List (Str × V)} {ts us : List (Str × T)}, RepF G w H vs ts → mapO (fun p => (f p.2).map fun y => (p.1, y)) ts = some us → RepF G w' H vs us
  | _, _, _, .nil, h => by simp only [mapO] at h; cases h; exact .nil
  | _, _, _, .cons (t := t) r rs, h => by
    simp only [mapO] at h
    split at h
    · rename_i y ys e1 e2
      cases h
      cases q : f t with
      | none => rw [q] at e1; cases e1
      | some z => rw [q] at e1; cases e1; exact .cons (hf r q) (mapO_repF hf rs e2)
    · cases h
theorem fz_rep (r : Rel G F α ρ σ H) (al : List Addr) : ∀ (k : Nat) {v : V} {t t' : T}, Rep G (wd F α ρ.mu) H v t → fz ρ.mu k t = some t' → Rep G ⟨F.O, al⟩ H v t'
  | 0, v, t, t', h, e => by
    unfold fz at e
    split at e
    · rename_i n; cases e; exact h.out al n
    · cases e
  | k + 1, v, t, t', h, e => by
    unfold fz at e
    split at e
    · rename_i n; cases e; exact h.out al n
    · split at e
      · rename_i ts _
        cases q : mapO (fz ρ.mu k) ts with
        | none => rw [q] at e; cases e
        | some us =>
          rw [q] at e
          cases e
          cases h with
          | tup n h1 h2 => exact .tup (fun z => n (.inl z)) h1 (mapO_reps (fun a b => fz_rep r al k a b) h2 q)
      · rename_i i _
        cases h with
        | @ref a _ ha =>
          have na := r.apart a (List.mem_of_getElem? ha)
          split at e
          · rename_i ts en
            cases q : mapO (fz ρ.mu k) ts with
            | none => rw [q] at e; cases e
            | some us =>
              rw [q] at e
              cases e
              obtain ⟨vs, h1, h2⟩ := r.node _ _ a en ha
              exact .lst na (.inl h1) (mapO_reps (fun a b => fz_rep r al k a b) h2 q)
          · rename_i kvs en
            cases q : mapO (fun p => (fz ρ.mu k p.2).map fun y => (p.1, y)) kvs with
            | none => rw [q] at e; cases e
            | some us =>
              rw [q] at e
              cases e
              obtain ⟨o, es, h1, h2, h3⟩ := r.node _ _ a en ha
              exact .dct na h1 h2 (mapO_repD (fun a b => fz_rep r al k a b) h3 q)
          · rename_i c fs en
            cases q : mapO (fun p => (fz ρ.mu k p.2).map fun y => (p.1, y)) fs with
            | none => rw [q] at e; cases e
            | some us =>
              rw [q] at e
              cases e
              obtain ⟨C, dx, vs, h1, h2, h3⟩ := r.node _ _ a en ha
              exact .obj na h1 h2 (mapO_repF (fun a b => fz_rep r al k a b) h3 q)
          · cases e
      · cases e
end

/-! ### defs -/
inductive RD where
  | ok (t : T) | exc (x : Exc) | stk
def initE (n : Nat) (ts : List T) : Env := ⟨ts.map some ++ List.replicate (n - ts.length) none, []⟩
/-- a def's own function: from its arguments' trees to its value's -/
def runD (n : Nat) (fb : FS) (ts : List T) : RD := match fb (initE n ts) with
  | .ok (.next _) => .ok .non
  | .ok (.ret t ρ) => (match fz ρ.mu 8 t with
    | some t' => .ok t'
    | none => .stk)
  | .exc x _ => if T.nrf x.fs = true then .exc x else .stk
  | _ => .stk
def RD.noX : RD → RD
  | .exc _ => .stk
  | r => r
/-- what a def promises -/
def SpT (G : GG) (n : Nat) (D : List T → RD) : Sp := fun vs H Q E => ∃ (ts : List T) (O : Addr → Prop), Reps G ⟨O, []⟩ H vs ts ∧ ts.length = n ∧ (∀ P ∈ G.tabs, TabG H P) ∧ (∀ a, O a → ∃ u, H a = some u) ∧
  match D ts with
  | .ok c => ∀ v H', HExt G H H' → Rep G ⟨O, []⟩ H' v c → Q v H'
  | .exc x => ∀ cls d H', HExt G H H' → G.exr x cls d H' → E cls d H'
  | .stk => False
theorem SpT.len {G : GG} {n : Nat} {D : List T → RD} {vs : List V} {H : Hp} {Q : VK} {E : XK} (h : SpT G n D vs H Q E) : vs.length = n := by
  obtain ⟨ts, O, r, e, _⟩ := h
  rw [r.length, e]
theorem start_get {vs : List V} {N : List Str} {i : Nat} {v : V} (h : vs[i]? = some v) : (L2.start N vs)[i]? = some (some v) := by
  unfold L2.start
  rw [List.getElem?_append_left (by rw [List.length_map]; exact (List.getElem?_eq_some_iff.mp h).1), List.getElem?_map, h]
  rfl
/-- the state at a def's entry -/
theorem rel_start {G : GG} {O : Addr → Prop} {H : Hp} {vs : List V} {ts : List T} {N : List Str} (r : Reps G ⟨O, []⟩ H vs ts) (tb : ∀ P ∈ G.tabs, TabG H P) (ex : ∀ a, O a → ∃ u, H a = some u) :
    Rel G ⟨O, H, fun _ => False, [], [], []⟩ [] (initE N.length ts) (L2.start N vs) H := by
  have k0 : Keep (⟨O, []⟩ : Wd) H (wd ⟨O, H, fun _ => False, [], [], []⟩ [] []) H := by
    refine Keep.less (fun a ha => ?_) fun _ _ h => h
    rcases ha with ha | ⟨i, n, h1, _⟩
    · exact ha
    · simp at h1
  have hw : ∀ {v : V} {t : T}, Rep G ⟨O, []⟩ H v t → Rep G (wd ⟨O, H, fun _ => False, [], [], []⟩ [] []) H v t := fun h => h.stab k0
  refine ⟨?_, fun i t e => ?_, rfl, fun i n a e => ?_, fun a ha => ?_, List.nodup_nil, List.prefix_refl _, fun a u e _ => (by have e : H a = some u := e; rw [e]; exact Grown.refl), fun a ⟨i, n, h1, _⟩ => ?_, tb, fun a ha => ?_, ex, fun p hp => ?_, fun p hp => ?_, fun p hp => ?_⟩
  · show (L2.start N vs).length = (ts.map some ++ List.replicate (N.length - ts.length) none).length
    unfold L2.start
    rw [List.length_append, List.length_append, List.length_map, List.length_map, List.length_replicate, List.length_replicate, r.length]
  · have e : (ts.map some ++ List.replicate (N.length - ts.length) none)[i]? = some (some t) := e
    by_cases hi : i < ts.length
    · rw [List.getElem?_append_left (by rw [List.length_map]; exact hi), List.getElem?_map] at e
      cases q : ts[i]? with
      | none => rw [q] at e; cases e
      | some y =>
        rw [q] at e
        cases e
        obtain ⟨v, h1, h2⟩ := r.get q
        exact ⟨v, start_get h1, hw h2⟩
    · rw [List.getElem?_append_right (by rw [List.length_map]; omega), List.getElem?_replicate] at e
      split at e <;> cases e
  · have e : ([] : List Node)[i]? = some n := e
    simp at e
  · exact absurd ha (by simp)
  · have h1 : ([] : List Node)[i]? = some n := h1
    simp at h1
  · exact absurd ha (by simp)
  · exact absurd hp (by simp)
  · exact absurd hp (by simp)
  · exact absurd hp (by simp)
/-- a def that raises nothing -/
theorem fn_pure {P : Program} {w : World} {K : PySem.W.Frag} {mg : Str → Option Value} {base : Heap} {G : GG} {x qual : Str} {st : Stmt} {f : Addr} {fd : FuncData} {N ps : List Str} {k : Nat} {fb : FS} (F : Fun K x qual st f fd) (S : FnScope N ps (defScope st))
    (hb : ∀ (cdv : Value) (A : Around) (outer : List PySem.Env) (s : Shared) (H : Hp) (E : XK), fd.code = cdv → Room k (A.deeper (PyProof.Rows.envOfC qual (defScope st) s.heap.objs.size f cdv)) →
      PSsf G (cxOf (L2.CX P w) P w K mg base N qual (defScope st) f cdv A outer s H E).nox W0 (defBody st) fb) : FnOk P w K mg base (L2.CX P w) (k + 1) f fd ps (SpT G ps.length fun ts => (runD N.length fb ts).noX) := by
  obtain ⟨oc, od, kV, doc, pm, an, cdv, ct, osl, rfl, lk, hcd⟩ := F.ex
  refine fn_of lk hcd S (fun vs H Q E h => h.len) fun A outer s H vs Q E hr hsp => ?_
  obtain ⟨ts, O, r, hl, tb, ex, hD⟩ := hsp
  obtain ⟨t, p, q⟩ := hb cdv A outer s H E rfl hr
  refine ⟨t, p.nox, q ⟨O, H, fun _ => False, [], [], []⟩ [] (initE N.length ts) _ H _ (rel_start r tb ex) ?_⟩
  dsimp only at hD
  unfold runD at hD
  have hx : ∀ {α : List Addr} {ρ : Env} {σ : L2.St} {H' : Hp}, Rel G ⟨O, H, fun _ => False, [], [], []⟩ α ρ σ H' → HExt G H H' := fun rl => ⟨fun a u e => rl.frame a u e fun z => z, rl.tabs⟩
  cases hf : fb (initE N.length ts) with
  | exc x ρ =>
    rw [hf] at hD
    dsimp only at hD
    by_cases hn : T.nrf x.fs = true
    · rw [if_pos hn] at hD; exact hD.elim
    · rw [if_neg hn] at hD; exact hD.elim
  | stk => rw [hf] at hD; exact hD
  | ok fl =>
    rw [hf] at hD
    cases fl with
    | next ρ => exact fun α σ H' rl => hD .non H' (hx rl) .non
    | ret t ρ =>
      intro v α σ H' rl hv
      dsimp only at hD
      cases et : fz ρ.mu 8 t with
      | none => rw [et] at hD; exact hD.elim
      | some t' =>
        rw [et] at hD
        exact hD v H' (hx rl) (fz_rep rl [] 8 hv et)
    | brk ρ => exact hD.elim
    | cnt ρ => exact hD.elim
theorem cx_no {P : Program} {w : World} {outer : List PySem.Env} {H : Hp} {s : Shared} {e : Value} {s' : Shared} (h : L2.CX P w outer H s (fun _ _ _ => False) e s') : False := by
  obtain ⟨_, _, _, _, _, _, _, _, _, _, _, _, z⟩ := h
  exact z
theorem passQ {X : Cx} : Passes (L2.CX X.prog X.w) X (fun _ _ _ => False) := fun _ _ _ _ _ _ _ h => (cx_no h).elim
end Tr
namespace Tr
open PySem L2 GxR Gx
/-! ### calls of defs -/
def fCallD (D : List T → RD) (n : Nat) (fas : FA) : FE := fun ρ => (fas ρ).bind fun p => if p.1.length = n ∧ T.nrs p.1 = true then (match D p.1 with
    | .ok c => if c.nr = true then .ok (c, p.2) else .stk
    | _ => .stk) else .stk
section
variable {G : GG} {X : Cx} {W : WX}
theorem reps_in {w : Wd} {H : Hp} {vs : List V} {ts : List T} (al : List Addr) (n : T.nrs ts = true) (h : Reps G w H vs ts) : Reps G ⟨w.E, al⟩ H vs ts :=
  have k : KeepN w H ⟨w.E, al⟩ H := ⟨fun a u he q _ => ⟨q, he⟩⟩
  Reps.nr k n h
theorem rep_back {w : Wd} {H : Hp} {v : V} {t : T} {al : List Addr} (n : t.nr = true) (h : Rep G ⟨w.E, al⟩ H v t) : Rep G w H v t :=
  have k : KeepN ⟨w.E, al⟩ H w H := ⟨fun a u he q _ => ⟨q, he⟩⟩
  Rep.nr k n h
theorem callD_ok {D : List T → RD} {n : Nat} {fas : FA} {ts : TA} {E : XK} (hs : ∀ F α ρ σ H Q, Rel G F α ρ σ H → SatA G W F σ (fas ρ) Q → ts σ H Q)
    (F α ρ σ H Q) (rl : Rel G F α ρ σ H) (s : SatE G W F σ (fCallD D n fas ρ) Q) : tCall (SpT G n D) [] E ts σ H Q := by
  refine hs F α ρ σ H _ rl (satA_bind (isE (Q := Q)) s fun us ρ1 vs α1 H1 _ r1 q1 s1 => ?_)
  dsimp only at s1
  split at s1
  · rename_i hn
    rw [List.append_nil]
    refine ⟨us, (wd F α1 ρ1.mu).E, reps_in [] hn.2 q1, hn.1, r1.tabs, r1.wf.exs, ?_⟩
    cases hD : D us with
    | ok c =>
      rw [hD] at s1
      dsimp only at s1
      split at s1
      · rename_i hc
        exact fun v H' hx hv => s1 v α1 H' (r1.ext hx) (rep_back hc hv)
      · exact s1.elim
    | exc x => rw [hD] at s1; exact s1.elim
    | stk => rw [hD] at s1; exact s1.elim
  · exact s1.elim
theorem pef_callD {D : List T → RD} {n k : Nat} {f : Addr} {fd : FuncData} {ps : List Str} {x : Str} {e : Expr} {es : List Expr} {fas : FA} {p pos : Pos} (F : FnOk X.prog X.w X.K X.mg X.base (L2.CX X.prog X.w) k f fd ps (SpT G n D)) (hr : Room k X.A) (hg : Gl X x) (hm : X.mg x = some (.ref f)) (hk : PySem.W.keepIn X.K (.ref f) = true) (hb : Binds X.K fd ps [])
    (hs : PAf G X W (e :: es) fas) (hdb : (x == ("__debug__" : Str)) = false := by decide) (he : starEach (e :: es) X.env = (false, eval e X.env) :: starEach es X.env := by rfl) (hpl : (backTo pos (starEach es X.env)).any (·.1) = false := by rfl) :
    PEf G X W (.Call (.Name x p) (e :: es) [] pos) (fCallD D n fas) := by
  obtain ⟨ts, ps', hs⟩ := hs
  exact ⟨_, pe_call (E := fun _ _ _ => False) F hr hg hm hk hb .nil passQ ps' hdb he hpl, callD_ok hs⟩

/-! ### isinstance -/
def tyN : T → Option String
  | .non => some "NoneType"
  | .bl _ => some "bool"
  | .int _ => some "int"
  | .str _ => some "str"
  | .tup _ => some "tuple"
  | .lst _ => some "list"
  | .dct _ => some "dict"
  | .dcN _ => some "dict"
  | _ => none
/-- a dict whose keys are tuples of any kind, asked for its kind -/
def rIsiN (P : Program) (w : World) (K : PySem.W.Frag) : List V → Hp → VK → Prop := fun xs H Q => ∃ (a : Addr) (ys : List (NestedKey × Addr × V)) (c : V) (u : Value) (b : Bool), xs = [.ref a, c] ∧ ClsV c u ∧ H a = some (ND P w a ys) ∧ PySem.W.kitOne K (.type "dict") u = some b ∧ Q (.bl b) H
theorem call_isiN {X : Cx} : CallR X (.builtin "isinstance") (rIsiN X.prog X.w X.K) := by
  intro pins s σ H xs us Q I r h
  obtain ⟨a, ys, c, u, b, rfl, hc, hH, hk, q⟩ := h
  obtain ⟨x1, x2, rfl, r1, r2⟩ := vals2 r
  obtain rfl : x1 = Value.ref a := r1
  have ec := hc.eq r2
  rw [ec]
  obtain ⟨⟨_, us2, _, o, es, ep, h1, h2, _⟩, _⟩ := (show ObjOk X.prog X.w H s.heap a (ND X.prog X.w a ys) from I.hok a _ hH)
  exact PySem.W.kia_one PySem.W.kitx_dict I.kIn ⟨o, h1, h2.1⟩ hk (fun z => nomatch z) fun tk => ⟨V.bl b, H, I.tok tk, rfl, q⟩
theorem rv_tyx {w : Wd} {H : Hp} {v : V} {t : T} {n : String} (hK : G.K = X.K) (r : RV G w H v t) (h : tyN t = some n) : TyX X.K H v (.type n) ∨ n = "dict" ∧ ∃ a ys, v = .ref a ∧ H a = some (ND G.prog G.wld a ys) := by
  cases t with
  | non => cases h; rw [rv_non r]; exact .inl <| .base .non
  | bl b => cases h; rw [rv_bl r]; exact .inl <| .base (.bl b)
  | int i => cases h; rw [rv_int r]; exact .inl <| .base (.int i)
  | str s => cases h; rw [rv_str r]; exact .inl <| .base (.str _)
  | tup xs =>
    cases h
    obtain ⟨_, a, vs, rfl, _, _, _, h⟩ := rv_tup r
    rcases h with h | ⟨o, h⟩
    · exact .inl <| .base (.tup h)
    · exact .inl <| .fTuple h
  | lst xs =>
    cases h
    obtain ⟨a, vs, rfl, h, _⟩ := rv_lst r
    rcases h with (h | ⟨o, h⟩) | ⟨o, its, m, h, hc, _⟩
    · exact .inl <| .base (.lst h)
    · exact .inl <| .base (.frz h)
    · rw [hK] at h; exact .inl <| .kList h hc
  | dct kvs =>
    cases h
    obtain ⟨a, kv, rfl, h, _⟩ := rv_dct r
    exact .inl <| .base (.dK h)
  | dcN kvs =>
    cases h
    obtain ⟨a, xs, rfl, h, _⟩ := rv_dcN r
    exact .inr ⟨rfl, a, xs, rfl, h⟩
  | ty _ => cases h
  | obj _ _ => cases h
  | ref _ => cases h
  | exo _ => cases h
  | cl _ => cases h
def isiT : List T → Option T
  | [t, .ty n] => match tyN t with
    | some a => (kitB a n).map .bl
    | none => none
  | _ => none
theorem call_isi_t (hK : G.K = X.K) (hP : G.prog = X.prog := by rfl) (hW : G.wld = X.w := by rfl) : CallT G X (.builtin "isinstance") isiT := by
  refine ⟨_, CallR.or call_isi call_isiN, fun w H Q vs ts c e wf rs q => ?_⟩
  unfold isiT at e
  split at e
  · rename_i t n
    obtain ⟨v, u, rfl, r1, r2⟩ := rvs2 rs
    split at e
    · rename_i a ha
      cases hb : kitB a n with
      | none => rw [hb] at e; cases e
      | some b =>
        rw [hb] at e
        cases e
        rw [rv_ty r2]
        rcases rv_tyx hK r1 ha with h1 | ⟨rfl, p, ys, rfl, h1⟩
        · exact .inl ⟨v, .ty n, .type a, .type n, b, rfl, .ty n, h1, kit_ty hb, q _ H (HExt.refl wf.tabs) (.bl b)⟩
        · exact .inr ⟨p, ys, .ty n, .type n, b, rfl, .ty n, by rw [← hP, ← hW]; exact h1, kit_ty hb, q _ H (HExt.refl wf.tabs) (.bl b)⟩
    · cases e
  · cases e
/-! ### texts -/
def strsOf : List T → Option (List (List Nat))
  | [] => some []
  | .str s :: r => (strsOf r).map (s :: ·)
  | _ => none
theorem strsOf_reps {w : Wd} {H : Hp} : ∀ {vs : List V} {ts : List T} {ss : List (List Nat)}, Reps G w H vs ts → strsOf ts = some ss → vs = (ss.map S).map V.str
  | _, [], _, r, h => by cases r; cases h; rfl
  | _, .str s :: r', ss, r, h => by
    cases r with
    | cons r1 r2 =>
      unfold strsOf at h
      cases q : strsOf r' with
      | none => rw [q] at h; cases h
      | some zs =>
        rw [q] at h
        cases h
        rw [rep_str r1, strsOf_reps r2 q]
        rfl
  | _, .non :: _, _, _, h => by cases h
  | _, .bl _ :: _, _, _, h => by cases h
  | _, .int _ :: _, _, _, h => by cases h
  | _, .ty _ :: _, _, _, h => by cases h
  | _, .tup _ :: _, _, _, h => by cases h
  | _, .lst _ :: _, _, _, h => by cases h
  | _, .dct _ :: _, _, _, h => by cases h
  | _, .obj _ _ :: _, _, _, h => by cases h
  | _, .ref _ :: _, _, _, h => by cases h
  | _, .exo _ :: _, _, _, h => by cases h
  | _, .cl _ :: _, _, _, h => by cases h
  | _, .dcN _ :: _, _, _, h => by cases h
def joinT (a : List Nat) (t : T) : Option T := match t with
  | .lst ts => (match strsOf ts with
    | some ss => if (ss.map List.length).sum + ss.length * a.length ≤ 16777216 then some (.str (TL.joinL a ss)) else none
    | none => none)
  | .tup ts => (match strsOf ts with
    | some ss => if (ss.map List.length).sum + ss.length * a.length ≤ 16777216 then some (.str (TL.joinL a ss)) else none
    | none => none)
  | _ => none
def fJoin (fo fa : FE) : FE := fun ρ => (fo ρ).bind fun p => match p.1 with
  | .str a => (fa p.2).bind fun q => (match joinT a (vw q.2.mu q.1) with
    | some c => .ok (c, q.2)
    | none => .stk)
  | _ => .stk
theorem joinS (a : List Nat) (ss : List (List Nat)) : Txt.join (S a) (ss.map S) = S (TL.joinL a ss) := SX.join_S a ss
theorem lens (ss : List (List Nat)) : (ss.map S).map (·.length) = ss.map List.length := by
  induction ss with
  | nil => rfl
  | cons s r ih => rw [List.map_cons, List.map_cons, List.map_cons, ih, S_length]
theorem pef_join {o e : Expr} {fo fa : FE} {apos pos : Pos} (hK : G.K = X.K) (ho : PEf G X W o fo) (ha : PEf G X W e fa) (hs : starEach [e] X.env = [(false, eval e X.env)] := by rfl) (hbase : attributeBase o "join" X.env (eval o X.env) = eval o X.env := by rfl) (hline : (apos.endLine == pos.line) = true := by rfl) :
    PEf G X W (.Call (.Attribute o "join" apos) [e] [] pos) (fJoin fo fa) := by
  obtain ⟨to, po, qo⟩ := ho
  obtain ⟨ta, pa, qa⟩ := ha
  refine ⟨_, pe_join po pa hs hbase hline, fun F α ρ σ H Q r s => qo F α ρ σ H _ r (satE_bind (isE (Q := Q)) s fun t ρ1 v α1 H1 _ r1 q1 s1 => ?_)⟩
  dsimp only at s1
  split at s1
  · rename_i a e0
    have ev := rep_str q1
    refine ⟨⟨_, ev⟩, qa F α1 ρ1 σ H1 _ r1 (satE_bind (isE (Q := Q)) s1 fun t2 ρ2 v2 α2 H2 _ r2 q2 s2 => ?_)⟩
    dsimp only at s2
    have rv := r2.vw q2
    generalize vw ρ2.mu t2 = u at s2 rv
    split at s2
    · rename_i c hc
      unfold joinT at hc
      split at hc
      · obtain ⟨l, vs, rfl, h1, h2⟩ := rv_lst rv
        split at hc
        · rename_i ss hss
          split at hc
          · rename_i hl
            cases hc
            refine ⟨_, l, ss.map S, ev, rfl, .inl ?_, by rw [lens, S_length, List.length_map]; exact hl, ?_⟩
            · rw [← strsOf_reps h2 hss, ← hK]; exact h1
            · rw [joinS]; exact s2 _ α2 H2 r2 (.str _)
          · cases hc
        · cases hc
      · obtain ⟨_, l, vs, rfl, h1, h2, _⟩ := rv_tup rv
        split at hc
        · rename_i ss hss
          split at hc
          · rename_i hl
            cases hc
            refine ⟨_, l, ss.map S, ev, rfl, .inr ?_, by rw [lens, S_length, List.length_map]; exact hl, ?_⟩
            · rw [← strsOf_reps h2 hss, ← hK]; exact h1
            · rw [joinS]; exact s2 _ α2 H2 r2 (.str _)
          · cases hc
        · cases hc
      · cases hc
    · exact s2.elim
  · exact s1.elim
/-! ### all, any of a list of bools -/
def blsOf : List T → Option (List Bool)
  | [] => some []
  | .bl s :: r => (blsOf r).map (s :: ·)
  | _ => none
theorem blsOf_reps {w : Wd} {H : Hp} : ∀ {vs : List V} {ts : List T} {ss : List Bool}, Reps G w H vs ts → blsOf ts = some ss → vs = ss.map V.bl
  | _, [], _, r, h => by cases r; cases h; rfl
  | _, .bl s :: r', ss, r, h => by
    cases r with
    | cons r1 r2 =>
      unfold blsOf at h
      cases q : blsOf r' with
      | none => rw [q] at h; cases h
      | some zs =>
        rw [q] at h
        cases h
        rw [rep_bl r1, blsOf_reps r2 q]
        rfl
  | _, .non :: _, _, _, h => by cases h
  | _, .str _ :: _, _, _, h => by cases h
  | _, .int _ :: _, _, _, h => by cases h
  | _, .ty _ :: _, _, _, h => by cases h
  | _, .tup _ :: _, _, _, h => by cases h
  | _, .lst _ :: _, _, _, h => by cases h
  | _, .dct _ :: _, _, _, h => by cases h
  | _, .obj _ _ :: _, _, _, h => by cases h
  | _, .exo _ :: _, _, _, h => by cases h
  | _, .cl _ :: _, _, _, h => by cases h
  | _, .dcN _ :: _, _, _, h => by cases h
  | _, .ref _ :: _, _, _, h => by cases h
def allT : List T → Option T
  | [.lst ts] => (blsOf ts).map fun bs => .bl (bs.all id)
  | _ => none
def anyT : List T → Option T
  | [.lst ts] => (blsOf ts).map fun bs => .bl (bs.any id)
  | _ => none
theorem call_all_t (hK : G.K = X.K) (hc : X.calm = true) : CallT G X (.builtin "all") allT := by
  refine ⟨_, cr_all hc, fun w H Q vs ts c e wf rs q => ?_⟩
  unfold allT at e
  split at e
  · rename_i ts
    obtain ⟨v, rfl, r⟩ := rvs1 rs
    cases hb : blsOf ts with
    | none => rw [hb] at e; cases e
    | some bs =>
      rw [hb] at e
      cases e
      obtain ⟨l, vs, rfl, h1, h2⟩ := rv_lst r
      rw [blsOf_reps h2 hb, hK] at h1
      exact ⟨l, bs, rfl, h1, q _ H (HExt.refl wf.tabs) (.bl _)⟩
  · cases e
theorem call_any_t (hK : G.K = X.K) (hc : X.calm = true) : CallT G X (.builtin "any") anyT := by
  refine ⟨_, cr_any hc, fun w H Q vs ts c e wf rs q => ?_⟩
  unfold anyT at e
  split at e
  · rename_i ts
    obtain ⟨v, rfl, r⟩ := rvs1 rs
    cases hb : blsOf ts with
    | none => rw [hb] at e; cases e
    | some bs =>
      rw [hb] at e
      cases e
      obtain ⟨l, vs, rfl, h1, h2⟩ := rv_lst r
      rw [blsOf_reps h2 hb, hK] at h1
      exact ⟨l, bs, rfl, h1, q _ H (HExt.refl wf.tabs) (.bl _)⟩
  · cases e

/-! ### lists that change -/
def mulist (μ : List Node) (t : T) : Option (Nat × List T) := match t with
  | .ref i => (match μ[i]? with
    | some (.lst ts) => some (i, ts)
    | _ => none)
  | _ => none
theorem mulist_at {F : Fr} {α : List Addr} {ρ : Env} {σ : L2.St} {H : Hp} {v : V} {t : T} {i : Nat} {ts : List T} (r : Rel G F α ρ σ H) (h : Rep G (wd F α ρ.mu) H v t) (e : mulist ρ.mu t = some (i, ts)) :
    ∃ a vs, v = .ref a ∧ t = .ref i ∧ α[i]? = some a ∧ ρ.mu[i]? = some (.lst ts) ∧ H a = some (.lst vs) ∧ Reps G (wd F α ρ.mu) H vs ts := by
  unfold mulist at e
  split at e
  · split at e
    · rename_i j us hm
      cases e
      cases h with
      | ref ha =>
        obtain ⟨vs, h1, h2⟩ := r.node _ _ _ hm ha
        exact ⟨_, vs, rfl, rfl, ha, hm, h1, h2⟩
    · cases e
  · cases e
/-- xs.append(e) -/
def fAppend (fo fa : FE) : FE := fun ρ => (fo ρ).bind fun p => match mulist p.2.mu p.1 with
  | some _ => (fa p.2).bind fun q => (match mulist q.2.mu p.1 with
    | some (i, ts) => if ts.length < 16777216 then .ok (.non, ⟨q.2.sl, q.2.mu.set i (.lst (ts ++ [q.1]))⟩) else .stk
    | none => .stk)
  | none => .stk
theorem Rel.setLst {F : Fr} {α : List Addr} {ρ : Env} {σ : L2.St} {H : Hp} {a : Addr} {i : Nat} {ts us : List T} {vs ws : List V} (r : Rel G F α ρ σ H) (ha : α[i]? = some a) (hm : ρ.mu[i]? = some (.lst ts)) (h1 : H a = some (.lst vs)) (h2 : Reps G (wd F α ρ.mu) H ws us) :
    Rel G F α ⟨ρ.sl, ρ.mu.set i (.lst us)⟩ σ (upd H a (.lst ws)) := by
  have ex : (wd F α ρ.mu).E a := .inr ⟨i, .lst ts, hm, trivial, ha⟩
  exact r.put hm ha trivial h1 trivial ⟨ws, upd_same, h2.stab (Keep.mut ex)⟩
theorem pef_append {o e : Expr} {fo fa : FE} {apos cpos : Pos} (ho : PEf G X W o fo) (ha : PEf G X W e fa)
    (hbase : attributeBase o "append" X.env (eval o X.env) = eval o X.env := by rfl)
    (hfew : ((backTo cpos (starEach [e] X.env)).all (fun x => !x.1) && (backToKw cpos (keywordEach [] X.env)).all (fun x => x.1.isSome)
      && decide ([e].length + ([] : List Keyword).length + (if ([] : List Keyword).isEmpty then 0 else 1) < 30)) = true := by rfl)
    (hline : (apos.endLine == cpos.line) = true := by rfl) (hs : starEach [e] X.env = (false, eval e X.env) :: starEach [] X.env := by rfl) (hplain : (backTo cpos (starEach [] X.env)).any (·.1) = false := by rfl) :
    PEf G X W (.Call (.Attribute o "append" apos) [e] [] cpos) (fAppend fo fa) := by
  obtain ⟨to, po, qo⟩ := ho
  obtain ⟨ta, pa, qa⟩ := ha
  refine ⟨_, pe_bm PySem.F.plainAttrs_list PySem.F.slot_list_append PySem.F.type_list_append mt_append po (pa_cons pa pa_nil hs) hbase hfew hline hs hplain, fun F α ρ σ H Q r s => qo F α ρ σ H _ r (satE_bind (isE (Q := Q)) s fun t ρ1 v α1 H1 _ r1 q1 s1 => ?_)⟩
  dsimp only at s1
  split at s1
  · rename_i p0 hp0
    obtain ⟨i0, ts0⟩ := p0
    obtain ⟨a0, vs0, rfl, rfl, h1, h2, h3, h4⟩ := mulist_at r1 q1 hp0
    refine ⟨.inl ⟨rfl, _, SqL.of h3⟩, qa (F.hold _ _) α1 ρ1 σ H1 _ (r1.hold q1) (satE_bind (isE (Q := Q)).hold s1 fun t2 ρ2 v2 α2 H2 _ r2 q2 s2 => ?_)⟩
    dsimp only at s2
    split at s2
    · rename_i i ts hm
      obtain ⟨a, vs, e1, e2, g1, g2, g3, g4⟩ := mulist_at r2.unhold r2.held hm
      cases e1
      split at s2
      · rename_i hl
        exact ⟨a0, vs, v2, rfl, rfl, g3, by rw [g4.length]; exact hl, s2 _ α2 _ (r2.unhold.setLst g1 g2 g3 (g4.append (.cons q2 .nil))) .non⟩
      · exact s2.elim
    · exact s2.elim
  · exact s1.elim
/-- xs[i] = v -/
def fSubL (fo fi : FE) : FG := fun v ρ => noExc ((fo ρ).bind fun o => (fi o.2).bind fun i => match mulist i.2.mu o.1, i.1 with
  | some (n, ts), .int k => (match ixN ts.length k with
    | some j => .ok ⟨i.2.sl, i.2.mu.set n (.lst (ts.set j v))⟩
    | none => .stk)
  | _, _ => .stk)
theorem pgf_subL {o i : Expr} {fo fi : FE} {pos : Pos} (ho : PEf G X W0 o fo) (hi : PEf G X W0 i fi)
    (ha : ∀ v, assign (.Subscript o i pos) X.env v = (do
      let ov ← holding [v] (eval o X.env)
      let iv ← holding [v, ov] (eval i X.env)
      standAt pos
      holding [v, ov, iv] (setItem ov iv v)
      release [v, ov, iv] []) := by intro _; rfl) : PGf G X W0 (.Subscript o i pos) [] (fSubL fo fi) := by
  obtain ⟨to, po, qo⟩ := ho
  obtain ⟨ti, pi, qi⟩ := hi
  refine ⟨_, pg_sub po pi set_list ha, fun F α ρ σ H v p Q r rv s => ?_⟩
  unfold fSubL at s
  have nx : ∀ {f : R Env}, SatG G W0 F σ (noExc f) (Only σ [] Q) → SatG G W0 F σ f (Only σ [] Q) := fun {f} h => by cases f <;> exact h
  have s := nx s
  refine qo (F.hold v p) α ρ σ H _ (r.hold rv) (satE_bind (Sa := fun r => SatG G W0 F σ r (Only σ [] Q)) ⟨fun _ _ h => h.elim, fun h => h⟩ s fun t ρ1 v1 α1 H1 _ r1 q1 s1 => ?_)
  refine qi ((F.hold v p).hold v1 t) α1 ρ1 σ H1 _ (r1.hold q1) (satE_bind (Sa := fun r => SatG G W0 F σ r (Only σ [] Q)) ⟨fun _ _ h => h.elim, fun h => h⟩ s1 fun t2 ρ2 v2 α2 H2 _ r2 q2 s2 => ?_)
  dsimp only at s2
  split at s2
  · rename_i n ts k hm _
    obtain ⟨a, vs, rfl, rfl, g1, g2, g3, g4⟩ := mulist_at r2.unhold r2.held hm
    split at s2
    · rename_i j hj
      refine ⟨a, vs, k, j, rfl, rep_int q2, g3, by rw [g4.length]; exact hj, ?_⟩
      exact s2 α2 σ _ (r2.unhold.unhold.setLst g1 g2 g3 (g4.set j r2.unhold.held)) (fun _ _ => rfl) rfl
    · exact s2.elim
  · exact s2.elim
end
end Tr
namespace Tr
open PySem L2 GxR Gx
/-! ### what a text tells of its names -/
section
variable {G : GG} {X : Cx} {W : WX}
theorem pef_gint {x : Str} {n : Int} {pos : Pos} (hg : Gl X x) (h : ∃ t, X.mg x = some (.int n t)) (hd : (x == ("__debug__" : Str)) = false := by decide) : PEf G X W (.Name x pos) (fC (.int n)) := by
  obtain ⟨t, h⟩ := h
  exact pef_c (pe_glob hg h (show RelV (.int n) (.int n t) from ⟨t, rfl⟩) hd) fun _ _ => .int n
theorem pef_gstr {x : Str} {l : List Nat} {pos : Pos} (hg : Gl X x) (h : ∃ t, X.mg x = some (.str (S l) t)) (hd : (x == ("__debug__" : Str)) = false := by decide) : PEf G X W (.Name x pos) (fC (.str l)) := by
  obtain ⟨t, h⟩ := h
  exact pef_c (pe_glob hg h (show RelV (.str (S l)) (.str (S l) t) from ⟨t, rfl⟩) hd) fun _ _ => .str l
end
/-- a def that may be called -/
structure CalD (P : Program) (w : World) (K : PySem.W.Frag) (mg : Str → Option Value) (base : Heap) (G : GG) (k : Nat) (x : Str) (n : Nat) (D : List T → RD) : Prop where
  ex : ∃ (f : Addr) (fd : FuncData) (ps : List Str), FnOk P w K mg base (L2.CX P w) k f fd ps (SpT G n D) ∧ mg x = some (.ref f) ∧ PySem.W.keepIn K (.ref f) = true ∧ Binds K fd ps []
section
variable {G : GG} {X : Cx} {W : WX}
theorem pef_calld {D : List T → RD} {n k : Nat} {x : Str} {e : Expr} {es : List Expr} {fas : FA} {p pos : Pos} (c : CalD X.prog X.w X.K X.mg X.base G k x n D) (hr : Room k X.A) (hg : Gl X x)
    (hs : PAf G X W (e :: es) fas) (hdb : (x == ("__debug__" : Str)) = false := by decide) (he : starEach (e :: es) X.env = (false, eval e X.env) :: starEach es X.env := by rfl) (hpl : (backTo pos (starEach es X.env)).any (·.1) = false := by rfl) :
    PEf G X W (.Call (.Name x p) (e :: es) [] pos) (fCallD D n fas) := by
  obtain ⟨f, fd, ps, F, hm, hk, hb⟩ := c.ex
  exact pef_callD F hr hg hm hk hb hs hdb he hpl
end
theorem hu64 {k : Nat} {A : Around} (r : Room k A) : A.units + 64 < cLine := r.units
theorem hu65 {k : Nat} {A : Around} (r : Room k A) : A.units + 65 < cLine := by have := r.un; omega
end Tr
namespace Tr
open PySem PySem.Spec PyProof.Rows L2
/-- the tables of the defs that have them -/
def TabsOf (q : Program) (mg : Str → Option Value) (h : Heap) : Prop := ∀ e ∈ recsOf q, ∃ (a : Addr) (o : Obj) (fd : FuncData) (c P : Addr), mg e.name = some (.ref a) ∧ h.get? a = some o ∧ o.data = .func fd ∧ fd.code = .ref c ∧ PySem.W.CodeHd h c P ∧ h.get? P = some { cls := .none, data := .fields #[] }
theorem walk_tabs {l : PySem.W.OpenLaw} {n k : Nat} {q : Program} {loose : List Str} {XP : (Str → Option Value) → Heap → Prop} {YP : World → Heap → Prop} {d : DefRec} {K : Params → PySem.W.Frag} {CX : World → CXT} {x : Str}
    (hn : l.most = some n) (hn2 : n ≤ sizeLine) (hdf : d.params.defaults = []) (hr : Room k callerA) (hY : ∀ (w : World) (h : Heap), YP w h → (K w.params).In h)
    (F : ∀ (w : World) (mg : Str → Option Value) (fa : Addr) (h : Heap), YP w h → (K w.params).In h → h.Ns mainGlobals mg → mg d.name = some (.ref fa) → TabsOf q mg h → LamX.LawAtS l w (K w.params) (CX w) k n x mg fa h)
    (hCX : ∀ (w : World) (H : Hp) (s : Shared) (e : Value) (s' : Shared), CX w [] H s (fun _ _ _ => False) e s' → False) :
    PySem.W.WalkO q loose XP YP l.row.toRowW d [] (fun f vs => PySem.call f vs) := by
  refine Att.attach_callB hn hdf fun w s₀ s₁ mg mb fa o pm cd doc a vs ns G Y ho hd hcd hmg hobj hints hlen hbits hg => ?_
  have KX := hY w _ Y
  have tabs : TabsOf q mg s₁.heap := fun e he => by
    obtain ⟨a', o', fd', c', P', h1, h2, h3, h4, h5, h6⟩ := G.T.tab e he
    exact ⟨a', o', fd', c', P', h1, h2, h3, h4, PySem.W.CodeHd.of h5 h6, h6.2⟩
  obtain ⟨fd, cs, sp, hT, nT, C, hb, hsp, hF⟩ := F w mg fa _ Y KX G.T.g hmg tabs
  exact LamX.law_callTs KX G.T.g G.T.b G.T.builtins G.T.nolimit hg hT nT C G.T.bmain hobj hints (Nat.le_trans hlen hn2) hr hF hb (fun H hH hS => hsp H a ns hlen hbits hH hS) fun H e s' => hCX w H s₁ e s'
theorem tab_at {q : Program} {K : PySem.W.Frag} {h : Heap} {mg : Str → Option Value} {x : Str} {f : Addr} {oc : Value} {od : Option Addr} {fd : FuncData} {sl : Array (Option Value)} (X : K.In h) (tabs : TabsOf q mg h) (hx : ((recsOf q).any fun e => e.name == x) = true) (hm : mg x = some (.ref f)) (l : K.lookup f = some ⟨oc, od, .func fd, sl⟩) :
    ∃ c P, fd.code = .ref c ∧ PySem.W.CodeHd h c P ∧ h.get? P = some { cls := .none, data := .fields #[] } := by
  obtain ⟨d, hd, hn⟩ := List.any_eq_true.mp hx
  have hn : d.name = x := beq_iff_eq.mp hn
  obtain ⟨a, o, fd', c, P, h1, h2, h3, h4, h5, h6⟩ := tabs d hd
  rw [hn, hm] at h1
  cases h1
  have e := X _ _ l
  rw [e] at h2
  cases h2
  cases h3
  exact ⟨c, P, h4, h5, h6⟩
theorem mem_look {a : Addr} {o : Obj} : ∀ {l : List (Addr × Obj)}, l.lookup a = some o → (a, o) ∈ l
  | [], h => by cases h
  | (b, u) :: r, h => by
    by_cases e : a = b
    · subst e
      rw [List.lookup_cons_self] at h
      cases h
      exact List.mem_cons_self ..
    · rw [List.lookup_cons, show (a == b) = false from by simpa using e] at h
      exact List.mem_cons_of_mem _ (mem_look h)
theorem tabB_of {base : Heap} {mg : Str → Option Value} {c P : Addr} (h : LamX.TabB base mg c P) : GxR.TabB base mg c P := ⟨h.code, h.bm, h.gP⟩
def noTabK (K : PySem.W.Frag) : Bool := K.all fun p => match p.2.data with
  | .fields vs => vs.size != 0
  | _ => true
theorem noTab {K : PySem.W.Frag} {h : Heap} (X : K.In h) (n : noTabK K = true) (a : Addr) (e : h.get? a = some { cls := .none, data := .fields #[] }) : K.lookup a = none := by
  cases q : K.lookup a with
  | none => rfl
  | some o =>
    have g := X _ _ q
    rw [e] at g
    cases g
    have m := List.all_eq_true.mp n _ (mem_look q)
    simp at m
def exrOf (ecl : Str → Option Addr) : Exc → Value → Option Addr → Hp → Prop := fun x cls d _ => x.fs = [] ∧ d = none ∧ ∃ C, ecl x.cls = some C ∧ cls = .ref C
abbrev GG0 (P : Program) (w : World) (K : PySem.W.Frag) (cls ecl : Str → Option Addr) (tabs : List Addr) : GG := ⟨K, cls, tabs, exrOf ecl, ecl, P, w⟩
theorem spT_law {P : Program} {w : World} {cls ecl : Str → Option Addr} {K : PySem.W.Frag} {D : List T → RD} {cs : List (Addr × Addr)} {H : Hp} {a : Addr} {ns : List Int} (hS : SqL K H a (ns.map V.int)) (hT : ∀ p ∈ cs, H p.2 = some (.tbl #[])) (hD : D [.lst (ns.map .int)] = .ok (.bl true)) :
    SpT (GG0 P w K cls ecl (cs.map (·.2))) 1 D [.ref a] H (fun v _ => v = .bl true) fun _ _ _ => False := by
  have hr : Rep (GG0 P w K cls ecl (cs.map (·.2))) ⟨fun _ => False, []⟩ H (.ref a) (.lst (ns.map .int)) := by
    rcases hS with h | h
    · exact .lst (fun z => z) h (Reps.ints ns)
    · exact .lstK h (Reps.ints ns)
  refine ⟨[.lst (ns.map .int)], fun _ => False, .cons hr .nil, rfl, fun P hP => ?_, fun a z => z.elim, ?_⟩
  · obtain ⟨p, hp, e⟩ := List.mem_map.mp hP
    refine ⟨#[], by rw [← e]; exact hT p hp, ?_⟩
    first | exact .nil | trivial | simp [TriplesOk]
  · rw [hD]
    exact fun v H' _ r => rep_bl r
end Tr
namespace Tr
open PySem L2 GxR Gx
/-! ### what is raised -/
def fRaise (x : Str) : FS := fun ρ => .exc ⟨x, []⟩ ρ
def fDead : FS := fun _ => .stk
def fDeadE : FE := fun _ => .stk
abbrev mroVE : List Value := [.type "ValueError", .type "Exception", .type "BaseException", .type "object"]
/-- a class of errors of the text -/
structure ExcK (K : PySem.W.Frag) (mg : Str → Option Value) (x : Str) (C : Addr) : Prop where
  gl : mg x = some (.ref C)
  q : PySem.W.excIn K C mroVE "ValueError.__new__" = true
  kp : PySem.W.keepIn K (.ref C) = true
  sb : PySem.W.subIn K (.ref C) (.type "BaseException") = some true
  ty : PySem.W.typeIn K (.ref C) = some (.type "type")
section
variable {G : GG} {X : Cx} {W : WX}
theorem ps_dead {st : Stmt} : PSf G X W st fDead := ⟨fun _ _ _ => False, ⟨fun _ _ _ _ _ _ h => h.elim⟩, fun F α ρ σ H D r s => s⟩
theorem pe_dead {e : Expr} : PEf G X W e fDeadE := ⟨fun _ _ _ => False, ⟨fun _ _ _ _ _ _ h => h.elim⟩, fun F α ρ σ H Q r s => s⟩
theorem ps_raisef {x m : Str} {j} {p p2 pos pos2 : Pos} {C : Addr} (hc : X.calm = true) (tk : Takes X W) (k : ExcK X.K X.mg x C) (hg : Gl X x) (hx : ∀ H, G.exr ⟨x, []⟩ (.ref C) none H) (hdb : (x == ("__debug__" : Str)) = false := by decide) :
    PSf G X W (.Raise (some (.Call (.Name x p) [.Constant (.str m) j p2] [] pos)) none pos2) (fRaise x) :=
  ⟨_, L2.ps_raise hc tk (L2.pmk_own PySem.F.excBase_ValueError k.q k.gl k.kp (L2.raises_own k.sb k.ty) hg hdb), fun F α ρ σ H D r s => s σ (.ref C) none α H r (hx H)⟩
/-- a call of a def that may raise -/
def fCallX (D : List T → RD) (n : Nat) (fas : FA) : FE := fun ρ => (fas ρ).bind fun p => if p.1.length = n ∧ T.nrs p.1 = true then (match D p.1 with
    | .ok c => if c.nr = true then .ok (c, p.2) else .stk
    | .exc x => .exc x p.2
    | .stk => .stk) else .stk
theorem callX_ok {D : List T → RD} {n : Nat} {fas : FA} {ts : TA} (hs : ∀ F α ρ σ H Q, Rel G F α ρ σ H → SatA G W F σ (fas ρ) Q → ts σ H Q)
    (F α ρ σ H Q) (rl : Rel G F α ρ σ H) (s : SatE G W F σ (fCallX D n fas ρ) Q) : tCallS (SpT G n D) (WE W) ts σ H Q := by
  refine hs F α ρ σ H _ rl (satA_bind (isE (Q := Q)) s fun us ρ1 vs α1 H1 _ r1 q1 s1 => ?_)
  dsimp only at s1
  split at s1
  · rename_i hn
    refine ⟨us, (wd F α1 ρ1.mu).E, reps_in [] hn.2 q1, hn.1, r1.tabs, r1.wf.exs, ?_⟩
    cases hD : D us with
    | ok c =>
      rw [hD] at s1
      dsimp only at s1
      split at s1
      · rename_i hc
        exact fun v H' hx hv => s1 v α1 H' (r1.ext hx) (rep_back hc hv)
      · exact s1.elim
    | exc x =>
      rw [hD] at s1
      exact fun cls d H' hx he => s1 cls d α1 H' (r1.ext hx) he
    | stk => rw [hD] at s1; exact s1.elim
  · exact s1.elim
theorem pef_callx {D : List T → RD} {n k : Nat} {x : Str} {e : Expr} {es : List Expr} {fas : FA} {p pos : Pos} (tk : Takes X W) (c : CalD X.prog X.w X.K X.mg X.base G k x n D) (hr : Room k X.A) (hg : Gl X x)
    (hs : PAf G X W (e :: es) fas) (hdb : (x == ("__debug__" : Str)) = false := by decide) (he : starEach (e :: es) X.env = (false, eval e X.env) :: starEach es X.env := by rfl) (hpl : (backTo pos (starEach es X.env)).any (·.1) = false := by rfl) :
    PEf G X W (.Call (.Name x p) (e :: es) [] pos) (fCallX D n fas) := by
  obtain ⟨f, fd, ps, F, hm, hk, hb⟩ := c.ex
  obtain ⟨ts, ps', hs⟩ := hs
  exact ⟨_, L2.pe_callS F hr hg hm hk hb (fun σ => L2.passAt tk σ) ps' hdb he hpl, callX_ok hs⟩
end
/-- a def that may raise -/
theorem fn_exc {P : Program} {w : World} {K : PySem.W.Frag} {mg : Str → Option Value} {base : Heap} {G : GG} {x qual : Str} {st : Stmt} {f : Addr} {fd : FuncData} {N ps : List Str} {k : Nat} {fb : FS} (F : Fun K x qual st f fd) (S : FnScope N ps (defScope st))
    (hb : ∀ (cdv : Value) (A : Around) (outer : List PySem.Env) (s : Shared) (H : Hp) (E : XK), fd.code = cdv → Room k (A.deeper (PyProof.Rows.envOfC qual (defScope st) s.heap.objs.size f cdv)) →
      Takes (cxOf (L2.CX P w) P w K mg base N qual (defScope st) f cdv A outer s H E) (fun cls d _ H => E cls d H) →
      PSsf G (cxOf (L2.CX P w) P w K mg base N qual (defScope st) f cdv A outer s H E) (fun cls d _ H => E cls d H) (defBody st) fb) : FnOk P w K mg base (L2.CX P w) (k + 1) f fd ps (SpT G ps.length (runD N.length fb)) := by
  obtain ⟨oc, od, kV, doc, pm, an, cdv, ct, osl, rfl, lk, hcd⟩ := F.ex
  refine fn_of lk hcd S (fun vs H Q E h => h.len) fun A outer s H vs Q E hr hsp => ?_
  obtain ⟨ts, O, r, hl, tb, ex, hD⟩ := hsp
  obtain ⟨t, p, q⟩ := hb cdv A outer s H E rfl hr (L2.takes_of rfl rfl rfl rfl)
  refine ⟨t, p, q ⟨O, H, fun _ => False, [], [], []⟩ [] (initE N.length ts) _ H _ (rel_start r tb ex) ?_⟩
  unfold runD at hD
  have hx : ∀ {α : List Addr} {ρ : Env} {σ : L2.St} {H' : Hp}, Rel G ⟨O, H, fun _ => False, [], [], []⟩ α ρ σ H' → HExt G H H' := fun rl => ⟨fun a u e => rl.frame a u e fun z => z, rl.tabs⟩
  cases hf : fb (initE N.length ts) with
  | exc x ρ =>
    rw [hf] at hD
    dsimp only at hD
    by_cases hn : T.nrf x.fs = true
    · rw [if_pos hn] at hD
      exact fun σ' cls d α H' rl he => hD cls d H' (hx rl) he
    · rw [if_neg hn] at hD; exact hD.elim
  | stk => rw [hf] at hD; exact hD
  | ok fl =>
    rw [hf] at hD
    cases fl with
    | next ρ => exact fun α σ H' rl => hD .non H' (hx rl) .non
    | ret t ρ =>
      intro v α σ H' rl hv
      dsimp only at hD
      cases et : fz ρ.mu 8 t with
      | none => rw [et] at hD; exact hD.elim
      | some t' =>
        rw [et] at hD
        exact hD v H' (hx rl) (fz_rep rl [] 8 hv et)
    | brk ρ => exact hD.elim
    | cnt ρ => exact hD.elim
/-- .. where it raises nothing -/
theorem CalD.noX {P : Program} {w : World} {K : PySem.W.Frag} {mg : Str → Option Value} {base : Heap} {G : GG} {k n : Nat} {x : Str} {D : List T → RD} (c : CalD P w K mg base G k x n D) : CalD P w K mg base G k x n (fun ts => (D ts).noX) := by
  obtain ⟨f, fd, ps, F, hm, hk, hb⟩ := c.ex
  refine ⟨f, fd, ps, F.imp fun vs H Q E h => ?_, hm, hk, hb⟩
  obtain ⟨ts, O, r, hl, tb, ex, hD⟩ := h
  refine ⟨ts, O, r, hl, tb, ex, ?_⟩
  dsimp only at hD
  cases e : D ts with
  | ok c => rw [e] at hD; exact hD
  | exc x => rw [e] at hD; exact hD.elim
  | stk => rw [e] at hD; exact hD.elim
end Tr
namespace Tr
open PySem L2 GxR Gx
/-! ### instances of the text's classes -/
def putT (f : Str) (v : T) : List (Str × T) → List (Str × T)
  | [] => [(f, v)]
  | (g, x) :: r => if g = f then (g, v) :: r else (g, x) :: putT f v r
section
variable {G : GG} {w : Wd} {H : Hp}
theorem RepF.put {f : Str} {v : V} {t : T} (h : Rep G w H v t) : ∀ {vs : List (Str × V)} {ts : List (Str × T)}, RepF G w H vs ts → RepF G w H (putF f v vs) (putT f t ts)
  | _, _, .nil => .cons h .nil
  | _, _, .cons (n := n) q qs => by
    unfold putF putT
    by_cases e : n = f
    · rw [if_pos e, if_pos e]; exact .cons h qs
    · rw [if_neg e, if_neg e]; exact .cons q (RepF.put h qs)
theorem RepF.length : ∀ {vs : List (Str × V)} {ts : List (Str × T)}, RepF G w H vs ts → vs.length = ts.length
  | _, _, .nil => rfl
  | _, _, .cons _ r => by rw [List.length_cons, List.length_cons, RepF.length r]
theorem RepF.look {f : Str} {t : T} : ∀ {vs : List (Str × V)} {ts : List (Str × T)}, RepF G w H vs ts → ts.lookup f = some t → ∃ v, vs.lookup f = some v ∧ Rep G w H v t
  | _, _, .nil, h => by cases h
  | _, _, .cons (n := n) q qs, h => by
    by_cases e : (f == n) = true
    · rw [List.lookup_cons, e] at h
      cases h
      exact ⟨_, by rw [List.lookup_cons, e], q⟩
    · have e : (f == n) = false := by simpa using e
      rw [List.lookup_cons, e] at h
      obtain ⟨v, h1, h2⟩ := RepF.look qs h
      exact ⟨v, by rw [List.lookup_cons, e]; exact h1, h2⟩
theorem RepF.lookN {f : Str} : ∀ {vs : List (Str × V)} {ts : List (Str × T)}, RepF G w H vs ts → ts.lookup f = none → vs.lookup f = none
  | _, _, .nil, _ => rfl
  | _, _, .cons (n := n) q qs, h => by
    by_cases e : (f == n) = true
    · rw [List.lookup_cons, e] at h; cases h
    · have e : (f == n) = false := by simpa using e
      rw [List.lookup_cons, e] at h ⊢
      exact RepF.lookN qs h
end
/-- e.f of an instance of c -/
def fFld (c f : Str) (fa : FE) : FE := fun ρ => (fa ρ).bind fun p => match vw p.2.mu p.1 with
  | .obj d fs => if d = c then (match fs.lookup f with
    | some t => .ok (t, p.2)
    | none => .stk) else .stk
  | _ => .stk
def muobj (μ : List Node) (t : T) : Option (Nat × Str × List (Str × T)) := match t with
  | .ref i => (match μ[i]? with
    | some (.obj c fs) => some (i, c, fs)
    | _ => none)
  | _ => none
/-- o.f = e -/
def fPutF (c f : Str) (fo fv : FE) : FS := fun ρ => (fv ρ).bind fun p => (fo p.2).bind fun o => match muobj o.2.mu o.1 with
  | some (i, d, fs) => if d = c ∧ fs.length < 1000 then .ok (.next ⟨o.2.sl, o.2.mu.set i (.obj d (putT f p.1 fs))⟩) else .stk
  | none => .stk
/-- o.m(..) -/
def fMeth (c m : Str) (D : List T → RD) (n : Nat) (fo : FE) (fas : FA) : FE := fun ρ => (fo ρ).bind fun o => match o.1 with
  | .obj d fs => if d = c ∧ fs.lookup m = none then (fas o.2).bind fun p => (if p.1.length + 1 = n ∧ T.nrs (o.1 :: p.1) = true then (match D (o.1 :: p.1) with
    | .ok r => if r.nr = true then .ok (r, p.2) else .stk
    | _ => .stk) else .stk) else .stk
  | _ => .stk
/-- a new instance -/
def fMake (D : List T → RD) (n : Nat) (fas : FA) : FE := fun ρ => (fas ρ).bind fun p => if p.1.length = n ∧ T.nrs p.1 = true then (match D p.1 with
    | .ok c => if c.nr = true then .ok (c, p.2) else .stk
    | .exc x => .exc x p.2
    | .stk => .stk) else .stk
section
variable {G : GG} {X : Cx} {W : WX}
theorem pef_fld {e : Expr} {fa : FE} {c f : Str} {pos : Pos} (hK : G.K = X.K) (hc : ∀ C, G.cls c = some C → Cls X.K C ∧ NoAttr X.K C f) (ha : PEf G X W e fa) (hb : attributeBase e f X.env (eval e X.env) = eval e X.env := by rfl) :
    PEf G X W (.Attribute e f pos) (fFld c f fa) := by
  obtain ⟨ta, pa, qa⟩ := ha
  refine ⟨_, L2.pe_fld pa hb, fun F α ρ σ H Q r s => qa F α ρ σ H _ r (satE_bind (isE (Q := Q)) s fun t ρ1 v α1 H1 _ r1 q1 s1 => ?_)⟩
  dsimp only at s1
  have rv := r1.vw q1
  generalize vw ρ1.mu t = u at s1 rv
  split at s1
  · split at s1
    · rename_i d fs e
      subst e
      split at s1
      · rename_i t' hl
        obtain ⟨a, C, dx, vs, rfl, h1, h2, h3⟩ := rv_obj rv
        obtain ⟨v', h4, h5⟩ := h3.look hl
        exact ⟨a, C, dx, vs, v', rfl, h1, (hc C h2).1, (hc C h2).2, h4, s1 v' α1 H1 r1 h5⟩
      · exact s1.elim
    · exact s1.elim
  · exact s1.elim
theorem muobj_at {F : Fr} {α : List Addr} {ρ : Env} {σ : L2.St} {H : Hp} {v : V} {t : T} {i : Nat} {c : Str} {fs : List (Str × T)} (r : Rel G F α ρ σ H) (h : Rep G (wd F α ρ.mu) H v t) (e : muobj ρ.mu t = some (i, c, fs)) :
    ∃ a C dx vs, v = .ref a ∧ α[i]? = some a ∧ ρ.mu[i]? = some (.obj c fs) ∧ H a = some (.ins C dx vs) ∧ G.cls c = some C ∧ RepF G (wd F α ρ.mu) H vs fs := by
  unfold muobj at e
  split at e
  · split at e
    · rename_i j d us hm
      cases e
      cases h with
      | ref ha =>
        obtain ⟨C, dx, vs, h1, h2, h3⟩ := r.node _ _ _ hm ha
        exact ⟨_, C, dx, vs, rfl, ha, hm, h1, h2, h3⟩
    · cases e
  · cases e
theorem ps_putf {o e : Expr} {fo fv : FE} {c f : Str} {pos pos' : Pos} (hc : ∀ C, G.cls c = some C → Cls X.K C ∧ NoAttr X.K C f) (ho : PEf G X W o fo) (hv : PEf G X W e fv)
    (hs : swapsWith e (some (.Attribute o f pos')) pos.line X.env = pure false := by rfl) : PSf G X W (.Assign [.Attribute o f pos'] e pos) (fPutF c f fo fv) := by
  obtain ⟨to, po, qo⟩ := ho
  obtain ⟨tv, pv, qv⟩ := hv
  refine ⟨_, L2.ps_fld po pv hs, fun F α ρ σ H D r s => qv F α ρ σ H _ r (satE_bind (isS (σ := σ) (D := D)) s fun t ρ1 v α1 H1 _ r1 q1 s1 => ?_)⟩
  refine qo (F.hold v t) α1 ρ1 σ H1 _ (r1.hold q1) (satE_bind (isS (σ := σ) (D := D)).hold s1 fun t2 ρ2 v2 α2 H2 _ r2 q2 s2 => ?_)
  dsimp only at s2
  split at s2
  · rename_i i d fs hm
    split at s2
    · rename_i hd
      obtain ⟨rfl, hl⟩ := hd
      obtain ⟨a, C, dx, vs, rfl, g1, g2, g3, g4, g5⟩ := muobj_at r2.unhold q2 hm
      refine ⟨a, C, dx, vs, rfl, g3, (hc C g4).1, (hc C g4).2, by rw [g5.length]; exact hl, s2 α2 σ _ ?_⟩
      have ex : (wd F α2 ρ2.mu).E a := .inr ⟨i, .obj d fs, g2, trivial, g1⟩
      have rp : RepF G (wd F α2 ρ2.mu) H2 (putF f v vs) (putT f t fs) := g5.put r2.held
      exact r2.unhold.put g2 g1 trivial g3 trivial ⟨C, dx, putF f v vs, upd_same, g4, rp.stab (Keep.mut ex)⟩
    · exact s2.elim
  · exact s2.elim
end
/-! ### a method that is called -/
structure MetD (P : Program) (w : World) (K : PySem.W.Frag) (mg : Str → Option Value) (base : Heap) (G : GG) (k : Nat) (c m : Str) (n : Nat) (D : List T → RD) : Prop where
  ex : ∀ C, G.cls c = some C → Cls K C ∧ ∃ (f : Addr) (fd : FuncData) (ps : List Str), FnOk P w K mg base (L2.CX P w) k f fd ps (SpT G n D) ∧ Meth K C m f ∧ Binds K fd ps []
section
variable {G : GG} {X : Cx} {W : WX}
theorem pef_meth {D : List T → RD} {n k : Nat} {c m : Str} {C : Addr} {o e : Expr} {es : List Expr} {fo : FE} {fas : FA} {apos pos : Pos} (hC : G.cls c = some C) (cm : MetD X.prog X.w X.K X.mg X.base G k c m n D) (hr : Room k X.A) (ho : PEf G X W o fo) (hs : PAf G X W (e :: es) fas)
    (hst : starEach (e :: es) X.env = (false, eval e X.env) :: starEach es X.env := by rfl) (hpl : (backTo pos (starEach es X.env)).any (·.1) = false := by rfl)
    {pl : Sem Bool} (ht : eval (.Call (.Attribute o m apos) (e :: es) [] pos) X.env = (do
      let ov ← eval o X.env
      standAt apos.atName
      let (f, first) ← holding [ov] (getMethod ov m pl)
      callWith pos f first (backTo pos (starEach (e :: es) X.env)) (backToKw pos (keywordEach [] X.env))) := by rfl) : PEf G X W (.Call (.Attribute o m apos) (e :: es) [] pos) (fMeth c m D n fo fas) := by
  obtain ⟨hcl, f, fd, ps, Fn, hm, hb⟩ := cm.ex C hC
  obtain ⟨to, po, qo⟩ := ho
  obtain ⟨ts, ps', hs⟩ := hs
  refine ⟨_, L2.pe_meth (pl := pl) (E := fun _ _ _ => False) po hcl hm Fn hr hb .nil passQ ps' hst hpl ht, fun F α ρ σ H Q r s => qo F α ρ σ H _ r (satE_bind (isE (Q := Q)) s fun t ρ1 v α1 H1 _ r1 q1 s1 => ?_)⟩
  dsimp only at s1
  split at s1
  · rename_i d fs e0
    split at s1
    · rename_i hd
      obtain ⟨rfl, hl⟩ := hd
      cases q1 with
      | @obj a C' dx _ vs _ he hH hc' hf =>
        rw [hC] at hc'
        cases hc'
        refine ⟨a, dx, vs, rfl, hH, hf.lookN hl, ?_⟩
        refine hs (F.hold (.ref a) (.obj d fs)) α1 ρ1 σ H1 _ (r1.hold (.obj he hH hC hf)) (satA_bind (isE (Q := Q)).hold s1 fun us ρ2 ws α2 H2 _ r2 q2 s2 => ?_)
        dsimp only at s2
        split at s2
        · rename_i hn
          rw [List.append_nil]
          refine ⟨.obj d fs :: us, (wd F α2 ρ2.mu).E, reps_in [] hn.2 (.cons r2.held q2), hn.1, r2.tabs, r2.unhold.wf.exs, ?_⟩
          cases hD : D (.obj d fs :: us) with
          | ok c =>
            rw [hD] at s2
            dsimp only at s2
            split at s2
            · rename_i hc
              exact fun v H' hx hv => s2 v α2 H' (r2.unhold.ext hx) (rep_back hc hv)
            · exact s2.elim
          | exc x => rw [hD] at s2; exact s2.elim
          | stk => rw [hD] at s2; exact s2.elim
        · exact s2.elim
    · exact s1.elim
  · exact s1.elim
end
/-! ### an instance that is made -/
def initO (n : Nat) (c : Str) (ts : List T) : Env := ⟨some (.ref 0) :: (ts.map some ++ List.replicate (n - (ts.length + 1)) none), [.obj c []]⟩
/-- an __init__'s function: from its arguments' trees to the instance's -/
def runI (n : Nat) (c : Str) (fb : FS) (ts : List T) : RD := match fb (initO n c ts) with
  | .ok (.next ρ) => (match fz ρ.mu 9 (.ref 0) with
    | some t => .ok t
    | none => .stk)
  | .exc x _ => if T.nrf x.fs = true then .exc x else .stk
  | _ => .stk
def HBut (G : GG) (x : Addr) (H H' : Hp) : Prop := (∀ a u, H a = some u → a ≠ x → Grown u (H' a)) ∧ ∀ P ∈ G.tabs, TabG H' P
/-- what an __init__ promises -/
def SpI (G : GG) (c : Str) (n : Nat) (D : List T → RD) : Sp := fun vs H Q E => ∃ (x C dx : Addr) (ws : List V) (ts : List T) (O : Addr → Prop), vs = .ref x :: ws ∧ H x = some (.ins C dx []) ∧ G.cls c = some C ∧ ¬ O x ∧ Reps G ⟨fun a => O a ∨ a = x, []⟩ H ws ts ∧ ts.length = n ∧
  (∀ P ∈ G.tabs, TabG H P) ∧ (∀ a, O a → ∃ u, H a = some u) ∧
  match D ts with
  | .ok c => ∀ H', HBut G x H H' → Rep G ⟨O, []⟩ H' (.ref x) c → Q .non H'
  | .exc e => ∀ cls d H', HBut G x H H' → G.exr e cls d H' → E cls d H'
  | .stk => False
theorem SpI.len {G : GG} {c : Str} {n : Nat} {D : List T → RD} {vs : List V} {H : Hp} {Q : VK} {E : XK} (h : SpI G c n D vs H Q E) : vs.length = n + 1 := by
  obtain ⟨x, C, dx, ws, ts, O, rfl, _, _, _, r, e, _⟩ := h
  rw [List.length_cons, r.length, e]
theorem rel_startI {G : GG} {O : Addr → Prop} {H : Hp} {x C dx : Addr} {c : Str} {vs : List V} {ts : List T} {N : List Str} (hx : H x = some (.ins C dx [])) (hc : G.cls c = some C) (hO : ¬ O x) (r : Reps G ⟨fun a => O a ∨ a = x, []⟩ H vs ts) (tb : ∀ P ∈ G.tabs, TabG H P) (ex : ∀ a, O a → ∃ u, H a = some u) :
    Rel G ⟨O, H, fun a => a = x, [x], [], []⟩ [x] (initO N.length c ts) (L2.start N (.ref x :: vs)) H := by
  have k0 : Keep (⟨fun a => O a ∨ a = x, []⟩ : Wd) H (wd ⟨O, H, fun a => a = x, [x], [], []⟩ [x] [.obj c []]) H := by
    refine Keep.less (fun a ha => ?_) fun i a h => by simp at h
    rcases ha with ha | ⟨i, n, h1, _, h3⟩
    · exact .inl ha
    · cases i with
      | zero => simp at h3; exact .inr h3.symm
      | succ i => simp at h3
  have hw : ∀ {v : V} {t : T}, Rep G ⟨fun a => O a ∨ a = x, []⟩ H v t → Rep G (wd ⟨O, H, fun a => a = x, [x], [], []⟩ [x] [.obj c []]) H v t := fun h => h.stab k0
  have one : ∀ {a : Addr} {i : Nat}, ([x] : List Addr)[i]? = some a → i = 0 ∧ a = x := fun {a i} h => by
    cases i with
    | zero => simp at h; exact ⟨rfl, h.symm⟩
    | succ i => simp at h
  refine ⟨?_, fun i t e => ?_, rfl, fun i n a e ea => ?_, fun a ha => ?_, by simp, List.prefix_refl _, fun a u e _ => (by have e : H a = some u := e; rw [e]; exact Grown.refl), fun a ⟨i, n, h1, _, h3⟩ => .inl (one h3).2, tb, fun a ha => ?_, ex, fun p hp => absurd hp (by simp), fun p hp => absurd hp (by simp), fun p hp => absurd hp (by simp)⟩
  · show (L2.start N (.ref x :: vs)).length = (some (T.ref 0) :: (ts.map some ++ List.replicate (N.length - (ts.length + 1)) none)).length
    unfold L2.start
    rw [List.length_append, List.length_map, List.length_replicate, List.length_cons, List.length_cons, List.length_append, List.length_map, List.length_replicate, r.length]
    omega
  · have e : (some (T.ref 0) :: (ts.map some ++ List.replicate (N.length - (ts.length + 1)) none))[i]? = some (some t) := e
    cases i with
    | zero => simp at e; subst e; exact ⟨.ref x, start_get (by rfl), .ref (by rfl)⟩
    | succ i =>
      rw [List.getElem?_cons_succ] at e
      by_cases hi : i < ts.length
      · rw [List.getElem?_append_left (by rw [List.length_map]; exact hi), List.getElem?_map] at e
        cases q : ts[i]? with
        | none => rw [q] at e; cases e
        | some y =>
          rw [q] at e
          cases e
          obtain ⟨v, h1, h2⟩ := r.get q
          exact ⟨v, start_get (by rw [List.getElem?_cons_succ]; exact h1), hw h2⟩
      · rw [List.getElem?_append_right (by rw [List.length_map]; omega), List.getElem?_replicate] at e
        split at e <;> cases e
  · have e : ([Node.obj c []] : List Node)[i]? = some n := e
    obtain ⟨rfl, rfl⟩ := one ea
    simp at e
    subst e
    exact ⟨C, dx, [], hx, hc, .nil⟩
  · rw [List.mem_singleton] at ha; rw [ha]; exact hO
  · rw [List.mem_singleton] at ha; rw [ha]; exact ⟨_, hx⟩
theorem fn_init {P : Program} {w : World} {K : PySem.W.Frag} {mg : Str → Option Value} {base : Heap} {G : GG} {c x qual p0 : Str} {st : Stmt} {f : Addr} {fd : FuncData} {N ps : List Str} {k : Nat} {fb : FS} (F : Fun K x qual st f fd) (S : FnScope N (p0 :: ps) (defScope st))
    (hb : ∀ (cdv : Value) (A : Around) (outer : List PySem.Env) (s : Shared) (H : Hp) (E : XK), fd.code = cdv → Room k (A.deeper (PyProof.Rows.envOfC qual (defScope st) s.heap.objs.size f cdv)) →
      Takes (cxOf (L2.CX P w) P w K mg base N qual (defScope st) f cdv A outer s H E) (fun cls d _ H => E cls d H) →
      PSsf G (cxOf (L2.CX P w) P w K mg base N qual (defScope st) f cdv A outer s H E) (fun cls d _ H => E cls d H) (defBody st) fb) : FnOk P w K mg base (L2.CX P w) (k + 1) f fd (p0 :: ps) (SpI G c ps.length (runI N.length c fb)) := by
  obtain ⟨oc, od, kV, doc, pm, an, cdv, ct, osl, rfl, lk, hcd⟩ := F.ex
  refine fn_of lk hcd S (fun vs H Q E h => h.len) fun A outer s H vs Q E hr hsp => ?_
  obtain ⟨x, C, dx, ws, ts, O, rfl, hx, hc, hO, r, hl, tb, ex, hD⟩ := hsp
  obtain ⟨t, p, q⟩ := hb cdv A outer s H E rfl hr (L2.takes_of rfl rfl rfl rfl)
  refine ⟨t, p, q ⟨O, H, fun a => a = x, [x], [], []⟩ [x] (initO N.length c ts) _ H _ (rel_startI hx hc hO r tb ex) ?_⟩
  unfold runI at hD
  have hx : ∀ {α : List Addr} {ρ : Env} {σ : L2.St} {H' : Hp}, Rel G ⟨O, H, fun a => a = x, [x], [], []⟩ α ρ σ H' → HBut G x H H' := fun rl => ⟨fun a u e n => rl.frame a u e n, rl.tabs⟩
  cases hf : fb (initO N.length c ts) with
  | exc e ρ =>
    rw [hf] at hD
    dsimp only at hD
    by_cases hn : T.nrf e.fs = true
    · rw [if_pos hn] at hD
      exact fun σ' cls d α H' rl he => hD cls d H' (hx rl) he
    · rw [if_neg hn] at hD; exact hD.elim
  | stk => rw [hf] at hD; exact hD
  | ok fl =>
    rw [hf] at hD
    cases fl with
    | next ρ =>
      intro α σ H' rl
      dsimp only at hD
      cases et : fz ρ.mu 9 (.ref 0) with
      | none => rw [et] at hD; exact hD.elim
      | some t' =>
        rw [et] at hD
        have a0 : α[0]? = some x := by
          obtain ⟨β, hβ⟩ := rl.al
          rw [← hβ]
          rfl
        exact hD H' (hx rl) (fz_rep rl [] 9 (.ref a0) et)
    | ret t ρ => exact hD.elim
    | brk ρ => exact hD.elim
    | cnt ρ => exact hD.elim
section
variable {X : Cx} {k : Nat} {f C : Addr} {fd : FuncData} {ps : List Str} {sp : Sp}
/-- an instance is made, what is raised being asked for at these slots -/
theorem make_at {pins : List (Addr × Obj)} {σ : L2.St} {H : Hp} {s : Shared} {Q : VK} {E : XK} {as : List Value} {ws : List V} (m : Mk X.K C f) (fn : FnOk X.prog X.w X.K X.mg X.base (L2.CX X.prog X.w) k f fd ps sp) (room : Room (k + 1) X.A) (bi : Binds X.K fd ps [])
    (out : PassesAt (L2.CX X.prog X.w) X σ E) (J : Inv X pins σ H s) (rel : Vals ws as)
    (want : ∀ x dx, H x = none → H dx = none → dx ≠ x → sp (.ref x :: ws) (upd (upd H dx (.own x)) x (.ins C dx [])) (fun v H2 => v = .non ∧ Q (.ref x) H2) E) :
    wpAny (model X.prog X.w) X.A (call (.ref C) as) (EP X pins σ Q) X.xe s := by
  have J2 := Inv.made (C := C) J
  generalize hn : s.heap.objs.size = n at J2
  have w0 := want (n + 1) n (J.hok.fresh (by rw [hn]; exact Nat.le_succ n)) (J.hok.fresh (by rw [hn]; exact Nat.le_refl n)) (Nat.ne_of_lt (Nat.lt_succ_self n))
  have all : Vals (V.ref (n + 1) :: ws) (Value.ref (n + 1) :: as) := .cons rfl rel
  have len : (Value.ref (n + 1) :: as).length = ps.length := all.length.symm.trans (fn.len _ _ _ _ w0)
  have bd := bi _ (Value.ref (n + 1) :: as) J2.kIn (by rw [List.append_nil]; exact len)
  rw [List.append_nil] at bd
  have body := fn.run _ X.stack _ _ ⟨Value.ref (n + 1) :: as, []⟩ (Value.ref (n + 1) :: as) (V.ref (n + 1) :: ws) _ E (room.make C as []) (J2.env0.make C as []) bd all w0
  subst hn
  refine wpAny_call (make_map (f := f) J.kIn m.makes m.init (beq_iff_eq.mp m.fn) (codeAny_mono body fun res s2 done => ?_))
  cases res with
  | error e => exact out pins _ _ e s2 J2 done
  | ok fl =>
    cases fl with
    | ret u =>
      obtain ⟨v, H3, J3, rv, hv, q⟩ := J2.after done
      rw [hv] at rv
      exact ⟨rv, V.ref _, H3, J3, rfl, q⟩
    | next => exact done.elim
    | brk => exact done.elim
    | cont => exact done.elim
end
/-- a class that is made by the text's __init__ -/
structure MakD (P : Program) (w : World) (K : PySem.W.Frag) (mg : Str → Option Value) (base : Heap) (G : GG) (k : Nat) (c : Str) (n : Nat) (D : List T → RD) : Prop where
  ex : ∃ (C f : Addr) (fd : FuncData) (ps : List Str), FnOk P w K mg base (L2.CX P w) k f fd ps (SpI G c n D) ∧ Mk K C f ∧ mg c = some (.ref C) ∧ G.cls c = some C ∧ Binds K fd ps []
section
variable {G : GG} {X : Cx} {W : WX}
def tMakeS (C : Addr) (sp : Sp) (E : L2.St → XK) (t : TA) : TE := fun σ H Q => t σ H fun vs H1 => ∀ x dx, H1 x = none → H1 dx = none → dx ≠ x → sp (.ref x :: vs) (upd (upd H1 dx (.own x)) x (.ins C dx [])) (fun v H2 => v = .non ∧ Q (.ref x) H2) (E σ)
theorem pe_makeS {k : Nat} {f C : Addr} {fd : FuncData} {ps : List Str} {sp : Sp} {E : L2.St → XK} {x : Str} {p pos : Pos} {e : Expr} {es : List Expr} {t : TA} (m : Mk X.K C f) (fn : FnOk X.prog X.w X.K X.mg X.base (L2.CX X.prog X.w) k f fd ps sp) (room : Room (k + 1) X.A) (hg : Gl X x) (hm : X.mg x = some (.ref C)) (bi : Binds X.K fd ps [])
    (out : ∀ σ, PassesAt (L2.CX X.prog X.w) X σ (E σ)) (ha : PA X (e :: es) t) (hdb : (x == ("__debug__" : Str)) = false := by decide) (he : starEach (e :: es) X.env = (false, eval e X.env) :: starEach es X.env := by rfl) (hpl : (backTo pos (starEach es X.env)).any (·.1) = false := by rfl) :
    PE X (.Call (.Name x p) (e :: es) [] pos) (tMakeS C sp E t) := by
  refine ⟨fun pins s σ H Q J want => wpAny_Call_Name_kw (ld_glob J hg hm ?_ hdb)⟩
  exact PySem.W.callWith_K (h₀ := X.base) J.ok.mod.kin m.kp (thn (ha.run pos pins s σ H _ J want) fun as s1 ⟨ws, H1, J1, rel, q⟩ => ⟨J1.kIn, make_at m fn room bi (out σ) J1 rel q⟩) he hpl
theorem make_ok {c : Str} {C : Addr} {D : List T → RD} {n : Nat} {fas : FA} {ts : TA} (hC : G.cls c = some C) (hs : ∀ F α ρ σ H Q, Rel G F α ρ σ H → SatA G W F σ (fas ρ) Q → ts σ H Q)
    (F α ρ σ H Q) (rl : Rel G F α ρ σ H) (s : SatE G W F σ (fMake D n fas ρ) Q) : tMakeS C (SpI G c n D) (WE W) ts σ H Q := by
  refine hs F α ρ σ H _ rl (satA_bind (isE (Q := Q)) s fun us ρ1 vs α1 H1 _ r1 q1 s1 => ?_)
  dsimp only at s1
  split at s1
  · rename_i hn
    intro x dx hx hdx hne
    have nE : ¬ (wd F α1 ρ1.mu).E x := r1.wf.new hx
    have up : ∀ a u, H1 a = some u → (upd (upd H1 dx (.own x)) x (.ins C dx [])) a = some u := fun a u e => by rw [upd_ne (ne_of_none e hx), upd_ne (ne_of_none e hdx)]; exact e
    have tb : ∀ P ∈ G.tabs, TabG (upd (upd H1 dx (.own x)) x (.ins C dx [])) P := fun P hP => let ⟨ps, h1, h2⟩ := r1.tabs P hP; ⟨ps, up _ _ h1, h2⟩
    have kn : KeepN (wd F α1 ρ1.mu) H1 ⟨fun a => (wd F α1 ρ1.mu).E a ∨ a = x, []⟩ (upd (upd H1 dx (.own x)) x (.ins C dx [])) := ⟨fun a u he e _ => ⟨up a u e, fun z => z.elim he fun z => ne_of_none e hx z⟩⟩
    refine ⟨x, C, dx, vs, us, (wd F α1 ρ1.mu).E, rfl, upd_same, hC, nE, Reps.nr kn hn.2 q1, hn.1, tb, fun a ha => let ⟨u, e⟩ := r1.wf.exs a ha; ⟨u, up a u e⟩, ?_⟩
    have ext : ∀ H', HBut G x (upd (upd H1 dx (.own x)) x (.ins C dx [])) H' → HExt G H1 H' := fun H' hb => ⟨fun a u e => hb.1 a u (up a u e) (ne_of_none e hx), hb.2⟩
    cases hD : D us with
    | ok r =>
      rw [hD] at s1
      dsimp only at s1
      split at s1
      · rename_i hc
        exact fun H' hb hv => ⟨rfl, s1 (.ref x) α1 H' (r1.ext (ext H' hb)) (rep_back hc hv)⟩
      · exact s1.elim
    | exc y =>
      rw [hD] at s1
      exact fun cls d H' hb he => s1 cls d α1 H' (r1.ext (ext H' hb)) he
    | stk => rw [hD] at s1; exact s1.elim
  · exact s1.elim
theorem pef_make {D : List T → RD} {n k : Nat} {c : Str} {e : Expr} {es : List Expr} {fas : FA} {p pos : Pos} (tk : Takes X W) (md : MakD X.prog X.w X.K X.mg X.base G k c n D) (hr : Room (k + 1) X.A) (hg : Gl X c)
    (hs : PAf G X W (e :: es) fas) (hdb : (c == ("__debug__" : Str)) = false := by decide) (he : starEach (e :: es) X.env = (false, eval e X.env) :: starEach es X.env := by rfl) (hpl : (backTo pos (starEach es X.env)).any (·.1) = false := by rfl) :
    PEf G X W (.Call (.Name c p) (e :: es) [] pos) (fMake D n fas) := by
  obtain ⟨C, f, fd, ps, F, M, hm, hC, hb⟩ := md.ex
  obtain ⟨ts, ps', hs⟩ := hs
  exact ⟨_, pe_makeS M F hr hg hm hb (fun σ => L2.passAt tk σ) ps' hdb he hpl, make_ok hC hs⟩
end
end Tr
namespace Tr
open PySem L2 GxR Gx
/-! ### an exception that is caught and kept -/
section
variable {X : Cx} {pins : List (Addr × Obj)} {σ : L2.St} {H : Hp} {s : Shared}
theorem exv_ok {P : Program} {w : World} {H : Hp} {h : Heap} {a C : Addr} {oe : Obj} {vs : Array Value} (e : h.get? a = some oe) (z : L2.Zc (.ref C) none oe) (d : oe.data = .fields vs) : ObjOk P w H h a (ExV a C) :=
  ⟨⟨oe, vs, e, z, d⟩, ⟨oe, e⟩, fun _ _ ⟨o, v, q, r⟩ k => ⟨o, v, k o q, r⟩⟩
/-- it is tracked from now on -/
theorem track {a C : Addr} {oe : Obj} {vs : Array Value} (I : Inv X ((a, oe) :: pins) σ H s) (hz : L2.Zc (.ref C) none oe) (hd : oe.data = .fields vs) (new : X.s_0.heap.get? a = none) (np : ∀ p ∈ X.pn ++ pins, p.1 ≠ a) : Inv X pins σ (upd H a (ExV a C)) s := by
  obtain ⟨ha, hn, nL, nF, ncell⟩ := I.pin (a, oe) (List.mem_append_right _ (List.mem_cons_self ..))
  have no : ∀ {b : Addr} {o : HO}, H b = some o → b ≠ a := fun e z => by rw [z, hn] at e; cases e
  refine ⟨I.ok, I.os, I.bare, ⟨I.base.keep, I.base.slot, fun b o e n hx => ?_, I.base.there, fun b xs e => ?_, fun b o u e => ?_, fun b ps e => ?_⟩, I.loc, I.cell, ?_, fun y c e => ?_, fun p hp => ?_, I.hok.laidN (fun _ _ z => z) hn (exv_ok ha hz hd), I.len⟩
  · rw [upd_ne fun z => by rw [z, new] at e; cases e]
    exact I.base.free b o e n hx
  · have q := I.base.tups b xs e
    rw [upd_ne (no q)]; exact q
  · have q := I.base.frzs b o u e
    rw [upd_ne (no q)]; exact q
  · obtain ⟨more, q⟩ := I.base.tbls b ps e
    exact ⟨more, by rw [upd_ne (no q)]; exact q⟩
  · rw [upd_ne fun z => nL z.symm]; exact I.free
  · rw [upd_ne fun z => ?_]
    · exact I.freeC y c e
    · obtain ⟨v, o, h1, h2⟩ := I.cell y c e
      rw [z, ha] at h1
      cases h1
      exact ncell v h2
  · have hp' : p ∈ X.pn ++ (a, oe) :: pins := by
      rcases List.mem_append.mp hp with q | q
      · exact List.mem_append_left _ q
      · exact List.mem_append_right _ (List.mem_cons_of_mem _ q)
    obtain ⟨q1, q2, q3⟩ := I.pin p hp'
    exact ⟨q1, by rw [upd_ne (np p hp)]; exact q2, q3⟩
end
/-- what 'except x as n: y = n' wishes: n's slot i, y's slot j -/
def wKeep (K : PySem.W.Frag) (c : Value) (i j : Nat) (Wo : WX) (D : Ends) : WX := fun cls d σ H =>
  ∃ b, PySem.W.exmOne K cls c = some b ∧ (b = true → ∃ C, cls = .ref C ∧ d = none ∧ i < σ.length ∧ ∀ a, H a = none → D.nx (((σ.set i (some (.ref a))).set j (some (.ref a))).set i none) (upd H a (ExV a C))) ∧ (b = false → Wo cls d σ H)
section
variable {X : Cx} {x n y : Str} {c : Value} {i j : Nat} {body : List Stmt} {np nq py pa pos pos' : Pos} {tb : WX → TS} {Wo : WX}
theorem ps_try_keep (hst : X.stack = X.env :: X.outer) (hfm : X.env.frame = some X.env.locals) (hex : X.ex = []) (nod : X.N.Nodup) (hi : X.N[i]? = some n) (ln : X.env.kindOf n = some .local) (hj : X.N[j]? = some y) (ly : X.env.kindOf y = some .local) (names : L2.Names X x c) (tk : Takes X Wo)
    (bodyOk : ∀ (W : WX) (pn : List (Addr × Obj)) (xe : Value → Shared → Prop), Takes (X.tr pn xe) W → PassesOwn (model X.prog X.w) X.A X.env xe → PSs (X.tr pn xe) body (tb W))
    (sw : swapsWith (.Name n nq) (some (.Name y py)) pa.line X.env = pure false := by rfl) (hdn : (n == ("__debug__" : Str)) = false := by decide) (hcn : (n == ("__classdict__" : Str)) = false := by decide) :
    PS X (.Try body [.ExceptHandler (some (.Name x np)) (some n) [.Assign [.Name y py] (.Name n nq) pa] pos'] [] [] pos) (fun D σ H => tb (wKeep X.K c i j Wo D) D σ H) := by
  refine ⟨fun pins s σ H D I want => ?_⟩
  have okX := I.ok
  have frames : X.A.frames = some (X.env :: X.outer) := by rw [okX.frames, hst]
  refine wpAny_Try_except ?_
  refine wpAny_mono ((bodyOk (wKeep X.K c i j Wo D) (X.pn ++ pins) (fun e s1 => wpAny (model X.prog X.w) X.A (noteFrame e X.env) (fun _ s2 => wpAny (model X.prog X.w) X.A (setFlight e none) (fun _ s3 =>
    wpAny (model X.prog X.w) X.A (handleBy e X.env [.ExceptHandler (some (.Name x np)) (some n) [.Assign [.Name y py] (.Name n nq) pa] pos']) (SP X pins D) X.xe s3) X.xe s2) X.xe s1) (fun e0 sx out => ?_) PassesOwn.looking).run [] s σ H D (I.toTry _) want) (fun fl s1 res => ?_) (fun _ _ z => z)
  · obtain ⟨a, B, sI, pz, σx, Hx, cls, d, rfl, Jt, ground, up, sky, na, eos, bare, b, hb1, yes, no⟩ := out
    have Jx : Inv X pins σx Hx sI := Jt.ofTry okX
    rw [show (X.tr _ _).stack = X.env :: X.outer from hst] at sky ground
    show wpAny (model X.prog X.w) X.A (noteFrame (.ref a) X.env) _ _ _
    refine L2.Sky.land L2.Zc.steady frames hfm sky fun g3 fly3 up3 => ?_
    have J3 : Inv X pins σx Hx { sx with heap := g3 } := Jx.landed (by rw [hst]; exact ground) fly3.1 (up.trans up3) eos bare
    obtain ⟨o3, v3, e3, z3, d3⟩ := fly3.there
    have off : a ∉ frs (X.env :: X.outer) := fun hm => by
      obtain ⟨_, o', e', nf⟩ := fly3.2.2.1.mem hm
      rw [e3] at e'
      cases e'
      exact nf _ d3
    have offL : a ≠ X.env.locals := fun z => off (List.mem_filterMap.mpr ⟨X.env, List.mem_cons_self, by rw [hfm, z]⟩)
    have offF : a ∉ X.fs := fun hm => by
      obtain ⟨e, he, q⟩ := List.mem_filterMap.mp hm
      exact off (List.mem_filterMap.mpr ⟨e, List.mem_cons_of_mem _ he, q⟩)
    -- it is new
    have newI : sI.heap.get? a = none := by
      cases q : sI.heap.get? a with
      | none => rfl
      | some o => have z := ground a o q off; rw [fly3.2.1] at z; cases z
    have new0 : X.s_0.heap.get? a = none := by
      cases q : X.s_0.heap.get? a with
      | none => rfl
      | some o => obtain ⟨o', z⟩ := Jx.base.there a o q (by rw [hex]; simp); rw [newI] at z; cases z
    have apartP : ∀ p ∈ X.pn ++ pins, p.1 ≠ a := fun p hp z => by
      have q := (Jx.pin p hp).1
      rw [z, newI] at q
      cases q
    have S3 := J3.suite e3 d3 na offL offF
    refine wpAny_handleBy_cons (codeAny_handlers_test ?_) (by intro q; cases q)
    have kind : PySem.W.Looks (model X.prog X.w) g3 (typeOf (.ref a)) cls := fun A Q E s k q => wpAny_typeOf_ref (k _ _ e3) (by rw [z3.1]; exact q)
    have LM := PySem.W.exm_one (M := model X.prog X.w) J3.kIn kind hb1
    have told : ∀ {Q : Value → Shared → Prop} {E : Value → Shared → Prop}, Q c { sx with heap := g3 } → wpAny (model X.prog X.w) (X.A.mark (some (.ref a))) (eval (.Name x np) X.env) Q E { sx with heap := g3 } := fun {Q E} q => by
      obtain ⟨hg, hdbg, hm | ⟨hm, hv, hnn⟩⟩ := names
      · exact ld_glob (X := X.suite a ((a, o3) :: (X.pn ++ pins))) S3 hg hm q hdbg
      · exact ld_blt (X := X.suite a ((a, o3) :: (X.pn ++ pins))) S3 hg hm hv q hnn hdbg
    refine told (LM.here ?_)
    cases b with
    | true =>
      obtain ⟨C, rfl, rfl, hil, fin⟩ := yes rfl
      refine codeAny_handlers_suite_as ?_
      refine HandSPX.lands_againZ fly3 fun g4 fly4 up4 => ?_
      have J4 : Inv X pins σx Hx { sx with heap := g4 } := Jx.landed (by rw [hst]; exact ground) fly4.1 ((up.trans up3).trans up4) eos bare
      obtain ⟨o4, v4, e4, z4, d4⟩ := fly4.there
      have S4 := J4.suite e4 d4 na offL offF
      refine store_ok (X := X.suite a ((a, o4) :: (X.pn ++ pins))) (v := .ref a) S4 nod hi (.inl ln) rfl (fun s5 S5 => ?_) (.inr ln)
      have asg := L2.ps_set (X := X.suite a ((a, o4) :: (X.pn ++ pins))) (pos := pa) (pos' := py) nod hj (.inl ly) (L2.pe_var (X := X.suite a ((a, o4) :: (X.pn ++ pins))) (pos := nq) hi (.inl ln) hdn hcn) sw (.inr ly)
      refine wpAny_mono ((L2.pss_one asg).run [] s5 _ Hx { nx := fun σ' H' => σ' = (σx.set i (some (.ref a))).set j (some (.ref a)) ∧ H' = Hx, rt := fun _ _ => False } S5 ⟨.ref a, by rw [List.getElem?_set_self hil], rfl, rfl⟩) (fun f6 s6 res => ?_) (fun _ _ z => z.elim)
      cases f6 with
      | next =>
        obtain ⟨σ6, H6, S6, rfl, rfl⟩ := res
        have K6 : Inv X ((a, o4) :: pins) ((σx.set i (some (.ref a))).set j (some (.ref a))) H6 s6 := ⟨okX, S6.os, S6.bare, S6.base, S6.loc, S6.cell, S6.free, S6.freeC, fun p hp => S6.pin p (by
          rcases List.mem_append.mp hp with q | q
          · exact List.mem_append_left _ (List.mem_cons_of_mem _ (List.mem_append_left _ q))
          · rcases List.mem_cons.mp q with q | q
            · rw [q]; exact List.mem_append_left _ (List.mem_cons_self ..)
            · exact List.mem_append_left _ (List.mem_cons_of_mem _ (List.mem_append_right _ q))), S6.hok, S6.len⟩
        exact L2.gone_ok K6 nod hi ln fun s7 K7 => ⟨_, _, track K7 z4 d4 new0 apartP, fin a na⟩
      | brk => obtain ⟨_, _, _, z⟩ := res; exact z.elim
      | cont => obtain ⟨_, _, _, z⟩ := res; exact z.elim
      | ret u => obtain ⟨_, _, _, _, _, z⟩ := res; exact z.elim
    | false =>
      show wpAny _ X.A (handleBy (.ref a) X.env []) _ _ _
      refine wpAny_handleBy_nil ?_
      obtain ⟨k1, k2, k3, oe, vs, T', oT, ts', he, hz, hd, h1, hr⟩ := id fly3
      unfold PySem.passOn
      refine wpAny_bind (wpAny_field he hd h1 ?_)
      rw [if_neg (show ¬ ((Value.ref T' == Value.none) = true) from by simp)]
      have onward : wpAny (model X.prog X.w) X.A (setFlight (.ref a) X.env.frame) (fun _ s4 => wpAny (model X.prog X.w) X.A (throw (.ref a) : Sem PySem.Flow) (SP X pins D) X.xe s4) X.xe { sx with heap := g3 } := by
        rw [hfm]
        refine HandSPX.setFlight_upZ fly3 fun g4 held up4 => wpAny_throw (tk _ _ ?_)
        exact ⟨a, B, sI, pins, σx, Hx, cls, d, rfl, Jx, by rw [hst]; exact ground, (up.trans up3).trans up4, .inr (.inr (by rw [hst]; exact held)), na, eos, bare, no rfl⟩
      first
        | exact wpAny_bind (wpAny_pure (wpAny_bind onward))
        | exact wpAny_bind onward
  · cases fl with
    | next =>
      obtain ⟨σ1, H1, J1, q⟩ := res
      exact wpAny_execs_nil ⟨σ1, H1, J1.ofTry okX, q⟩
    | brk =>
      obtain ⟨σ1, H1, J1, q⟩ := res
      exact ⟨σ1, H1, J1.ofTry okX, q⟩
    | cont =>
      obtain ⟨σ1, H1, J1, q⟩ := res
      exact ⟨σ1, H1, J1.ofTry okX, q⟩
    | ret u =>
      obtain ⟨v, σ1, H1, J1, r, q⟩ := res
      exact ⟨v, σ1, H1, J1.ofTry okX, r, q⟩
end
def fTry (catches : Str → Option Bool) (i j : Nat) (fb : FS) : FS := fun ρ => match fb ρ with
  | .exc x ρ1 => (match catches x.cls with
    | some true => if i < ρ1.sl.length ∧ j < ρ1.sl.length then .ok (.next (wipeE ((ρ1.put i (.exo x.cls)).put j (.exo x.cls)) [i])) else .stk
    | some false => .exc x ρ1
    | none => .stk)
  | r => r
def tS (G : GG) (W : WX) (f : FS) : TS := fun D σ H => ∃ F α ρ, Rel G F α ρ σ H ∧ SatS G W F (f ρ) D
section
variable {G : GG} {X : Cx} {W : WX}
theorem PSsf.pss {st : List Stmt} {f : FS} (h : PSsf G X W st f) : PSs X st (tS G W f) := let ⟨_, p, q⟩ := h; ⟨fun pins s σ H D I ⟨F, α, ρ, r, sa⟩ => p.run pins s σ H D I (q F α ρ σ H D r sa)⟩
theorem ps_tryf {x n y : Str} {c : Value} {i j : Nat} {body : List Stmt} {np nq py pa pos pos' : Pos} {catches : Str → Option Bool} {fb : FS} (hst : X.stack = X.env :: X.outer) (hfm : X.env.frame = some X.env.locals) (hex : X.ex = []) (nod : X.N.Nodup) (hi : X.N[i]? = some n) (ln : X.env.kindOf n = some .local)
    (hj : X.N[j]? = some y) (ly : X.env.kindOf y = some .local) (names : L2.Names X x c) (tk : Takes X W) (hg : G.exr = exrOf G.ecl) (hcat : ∀ e C b, G.ecl e = some C → catches e = some b → PySem.W.exmOne X.K (.ref C) c = some b)
    (bodyOk : ∀ (W' : WX) (pn : List (Addr × Obj)) (xe : Value → Shared → Prop), Takes (X.tr pn xe) W' → PassesOwn (model X.prog X.w) X.A X.env xe → PSsf G (X.tr pn xe) W' body fb)
    (sw : swapsWith (.Name n nq) (some (.Name y py)) pa.line X.env = pure false := by rfl) (hdn : (n == ("__debug__" : Str)) = false := by decide) (hcn : (n == ("__classdict__" : Str)) = false := by decide) :
    PSf G X W (.Try body [.ExceptHandler (some (.Name x np)) (some n) [.Assign [.Name y py] (.Name n nq) pa] pos'] [] [] pos) (fTry catches i j fb) := by
  refine ⟨_, ps_try_keep (tb := fun W' => tS G W' fb) hst hfm hex nod hi ln hj ly names tk (fun W' pn xe t p => (bodyOk W' pn xe t p).pss) sw hdn hcn, fun F α ρ σ H D r s => ⟨F, α, ρ, r, ?_⟩⟩
  unfold fTry at s
  cases hb : fb ρ with
  | ok fl => rw [hb] at s; cases fl <;> exact s
  | stk => rw [hb] at s; exact s
  | exc e ρ1 =>
    rw [hb] at s
    dsimp only at s
    intro σ' cls d α1 H1 r1 he
    rw [hg] at he
    obtain ⟨_, rfl, C, hC, rfl⟩ := he
    cases hc : catches e.cls with
    | none => rw [hc] at s; exact s.elim
    | some b =>
      rw [hc] at s
      refine ⟨b, hcat _ _ _ hC hc, fun hb1 => ?_, fun hb1 => ?_⟩
      · subst hb1
        dsimp only at s
        split at s
        · rename_i hl
          refine ⟨C, rfl, rfl, by rw [r1.len]; exact hl.1, fun a ha => ?_⟩
          have r2 : Rel G F α1 ρ1 σ' (upd H1 a (ExV a C)) := r1.new ha
          have rp : Rep G (wd F α1 ρ1.mu) (upd H1 a (ExV a C)) (.ref a) (.exo e.cls) := .exo (r1.wf.new ha) upd_same hC
          have r3 := (r2.set hl.1 rp).set (i := j) (v := .ref a) (t := .exo e.cls) (by show j < (List.set _ _ _).length; rw [List.length_set]; exact hl.2) rp
          exact s α1 _ _ (r3.wiped [i])
        · exact s.elim
      · subst hb1
        exact s σ' (.ref C) none α1 H1 r1 (by rw [hg]; exact ⟨‹_›, rfl, C, hC, rfl⟩)
end
/-! ### what a kept exception is -/
def rIsiX (K : PySem.W.Frag) : List V → Hp → VK → Prop := fun xs H Q => ∃ (a D : Addr) (c : V) (u : Value) (b : Bool), xs = [.ref a, c] ∧ ClsV c u ∧ H a = some (ExV a D) ∧ ExcC K D ∧ PySem.W.kitOne K (.ref D) u = some b ∧ Q (.bl b) H
theorem call_isiX {X : Cx} : CallR X (.builtin "isinstance") (rIsiX X.K) := by
  intro pins s σ H xs us Q I r h
  obtain ⟨a, D, c, u, b, rfl, hc, hH, hx, hk, q⟩ := h
  obtain ⟨x1, x2, rfl, r1, r2⟩ := vals2 r
  obtain rfl : x1 = Value.ref a := r1
  have ec := hc.eq r2
  rw [ec]
  obtain ⟨⟨oe, vs, e, z, hd⟩, _⟩ := (show ObjOk X.prog X.w H s.heap a (ExV a D) from I.hok a _ hH)
  have at_ : PySem.W.InstAt s.heap a oe D none := by
    obtain ⟨oc, od, oda, osl⟩ := oe
    obtain ⟨z1, z2⟩ := z
    dsimp only at z1 z2 hd
    subst z1 z2 hd
    exact ⟨e, rfl, rfl, trivial⟩
  exact PySem.W.kia_one (PySem.W.handS_kitx_exc hx.hg hx.hk hx.hs hx.hd hx.ha hx.hn hx.ht hx.hm) I.kIn at_ hk (fun z => nomatch z) fun tk => ⟨V.bl b, H, I.tok tk, rfl, q⟩
def isiE (sub : Str → T → Option Bool) : List T → Option T
  | [.exo c, k] => (sub c k).map .bl
  | ts => isiT ts
/-- a table of the classes -/
structure SubOk (G : GG) (sub : Str → T → Option Bool) : Prop where
  ty : ∀ c C n b, G.ecl c = some C → sub c (.ty n) = some b → PySem.W.kitOne G.K (.ref C) (.type n) = some b
  cl : ∀ c C d D b, G.ecl c = some C → G.ecl d = some D → sub c (.cl d) = some b → PySem.W.kitOne G.K (.ref C) (.ref D) = some b
  no : ∀ c k b, sub c k = some b → (∃ n, k = .ty n) ∨ ∃ d, k = .cl d
  ex : ∀ c C k b, G.ecl c = some C → sub c k = some b → ExcC G.K C
section
variable {G : GG} {X : Cx} {W : WX}
theorem call_isi_e {sub : Str → T → Option Bool} (so : SubOk G sub) (hK : G.K = X.K) (hP : G.prog = X.prog := by rfl) (hW : G.wld = X.w := by rfl) : CallT G X (.builtin "isinstance") (isiE sub) := by
  obtain ⟨r0, h0, q0⟩ := call_isi_t (G := G) hK hP hW
  refine ⟨_, CallR.or h0 call_isiX, fun w H Q vs ts c e wf rs q => ?_⟩
  unfold isiE at e
  split at e
  · rename_i d k
    obtain ⟨v, u, rfl, r1, r2⟩ := rvs2 rs
    cases hb : sub d k with
    | none => rw [hb] at e; cases e
    | some b =>
      rw [hb] at e
      cases e
      cases r1 with
      | of r1 =>
      cases r1 with
      | @exo a D _ _ hH hD =>
      refine .inr ⟨a, D, ?_⟩
      rcases so.no _ _ _ hb with ⟨n, rfl⟩ | ⟨d', rfl⟩
      · obtain rfl := rv_ty r2
        exact ⟨_, .type n, b, rfl, .ty n, hH, by rw [← hK]; exact so.ex _ _ _ _ hD hb, by rw [← hK]; exact so.ty _ _ _ _ hD hb, q _ H (HExt.refl wf.tabs) (.bl b)⟩
      · cases r2 with
        | of r2 =>
        cases r2 with
        | @cl D' _ hD' => exact ⟨_, .ref D', b, rfl, .own D', hH, by rw [← hK]; exact so.ex _ _ _ _ hD hb, by rw [← hK]; exact so.cl _ _ _ _ _ hD hD' hb, q _ H (HExt.refl wf.tabs) (.bl b)⟩
  · exact .inl (q0 w H Q vs ts c e wf rs q)
theorem pef_cl {x : Str} {C : Addr} {pos : Pos} (hg : Gl X x) (h : X.mg x = some (.ref C)) (hC : G.ecl x = some C) (hd : (x == ("__debug__" : Str)) = false := by decide) : PEf G X W (.Name x pos) (fC (.cl x)) :=
  pef_c (pe_glob hg h (show RelV (.ref C) (.ref C) from rfl) hd) fun _ _ => .cl hC
end
end Tr
namespace Tr
open PySem L2 GxR Gx
/-! ### dict comprehensions, whatever the keys -/
/-- a way to store: from the dict's look, a key and a value to the new look -/
abbrev DSt := HO → V → V → Hp → HO → Prop
def DStOk (P : Program) (w : World) (A : Around) (st : Addr → DSt) : Prop := ∀ (X : Cx) (pins : List (Addr × Obj)) (σ : L2.St) (H : Hp) (s : Shared) (D : Addr) (o o' : HO) (y z : V) (u r : Value) (Q : Unit → Shared → Prop) (E : Value → Shared → Prop),
  X.prog = P → X.w = w → X.A = A → Inv X pins σ H s → H D = some o → st D o y z H o' → RelV y u → RelV z r → (∀ s', Inv X pins σ (upd H D o') s' → Q () s') → wpAny (model X.prog X.w) X.A (dictSet D u r) Q E s
/-- {k: v for target in iter if ..}: D the new dict, o0 the empty one -/
def tDg (o0 : Addr → HO) (st : Addr → DSt) (wi : TI) (g : TG) (tt : TT) (tk tv : TE) (vs : List Nat) : TE := fun σ H Q => wi σ H fun J H1 => ∀ D, H1 D = none → ∃ W : Nat → Nat → Hp → Prop, (∃ m, W 0 m (upd H1 D (o0 D))) ∧ ∀ i m H, W i m H →
  (J.stop i H ∧ Q (.ref D) H) ∨ (J.go i H ∧ ∃ Nx : Hp → Prop, (∀ H', Nx H' → ∃ m', m' < m ∧ W (i + 1) m' H') ∧ ∀ x H', J.yld i H x H' → g x (wipe σ vs) H' fun σ2 H2 => wipe σ2 vs = wipe σ vs ∧ tt σ2 H2 fun b H3 =>
    if b = true then tk σ2 H3 fun y H4 => tv σ2 H4 fun z H5 => ∃ o o', H5 D = some o ∧ st D o y z H5 o' ∧ Nx (upd H5 D o') else Nx H3)
section
variable {X : Cx}
theorem pe_dcg {kx vx tg iter : Expr} {ifs : List Expr} {scope : Scope} {own : List (Str × Nat)} {pos : Pos} {o0 : Addr → HO} {st : Addr → DSt} {wi : TI} {g : TG} {tt : TT} {tk tv : TE} (calm : X.calm = true) (nod : X.N.Nodup) (hi : PI X tg iter wi) (ok : BlkOk X.N X.env.scope scope own)
    (hg : ∀ (s : Shared) (H : Hp) (C : Addr) (cl : List (Str × Addr)) (fp : List Addr), PG (X.blk s H scope (compEnvC scope cl C X.env) fp) tg g) (ht : ∀ (s : Shared) (H : Hp) (C : Addr) (cl : List (Str × Addr)) (fp : List Addr), PTs (X.blk s H scope (compEnvC scope cl C X.env) fp) ifs tt)
    (hk : ∀ (s : Shared) (H : Hp) (C : Addr) (cl : List (Str × Addr)) (fp : List Addr), PE (X.blk s H scope (compEnvC scope cl C X.env) fp) kx tk)
    (hv : ∀ (s : Shared) (H : Hp) (C : Addr) (cl : List (Str × Addr)) (fp : List Addr), PE (X.blk s H scope (compEnvC scope cl C X.env) fp) vx tv)
    (hnew : ∀ (h : Heap) (H : Hp), sysModules < h.objs.size → ObjOk X.prog X.w (upd H h.objs.size (o0 h.objs.size)) (h.push { cls := .type "dict", data := .dict #[] }) h.objs.size (o0 h.objs.size)) (hst : DStOk X.prog X.w X.A st)
    (hs : ∀ x, foldedSetIterable iter X.env x = pure x := by intro _; rfl) : PE X (.DictComp kx vx [⟨tg, iter, ifs, 0⟩] scope pos) (tDg o0 st wi g tt tk tv (own.map (·.2))) := by
  refine ⟨fun pins s0 σ H Q I want => ?_⟩
  rw [arm_eval_DictComp]
  have closed : ∀ n ∈ scope.names, n.2 = .free → ∃ c, X.env.cells.lookup n.1 = some c := fun n hn e => (ok.free n hn e).elim (fun k => I.ok.has _ (.inl k)) fun k => I.ok.has _ (.inr k)
  refine wpAny_comprehension_free rfl hs (closure_ok closed) ok.kind (fun n hn e => by rw [ok.uniq n hn, e]) (thn (hi.run pins s0 σ H _ I want) fun xv s1 h1 => thn h1 fun iv sA hA => ?_)
  obtain ⟨it, fp, tn, J, HA, rfl, IA, turn, stA, fpA, rest⟩ := hA
  refine wpAny_newObj_type (newEnv_comp ?_)
  obtain ⟨D, hD⟩ : ∃ D, D = sA.heap.objs.size := ⟨_, rfl⟩
  rw [← hD]
  have freeD : HA D = none := IA.hok.fresh (by rw [hD]; exact Nat.le_refl _)
  obtain ⟨W, ⟨m0, w0⟩, go⟩ := rest D freeD
  obtain ⟨sB, hB⟩ : ∃ sB : Shared, sB = { sA with heap := sA.heap.push { cls := .type "dict", data := .dict #[] } } := ⟨_, rfl⟩
  have heapB : sB.heap = sA.heap.push { cls := .type "dict", data := .dict #[] } := by rw [hB]
  have IB : Inv X pins σ (upd HA D (o0 D)) sB := by
    rw [hB, hD]
    exact IA.laid (t' := sA.toks) (fun b o e => Heap.get?_push_of_some _ e) (Nat.le_refl _) (hnew sA.heap HA IA.big)
  have small : ∀ b ∈ fp, b < sA.heap.objs.size := fun b hb => let ⟨o, e, _⟩ := turn.obj _ _ stA b hb; Heap.lt_size e
  have fpB : ∀ b ∈ fp, FpOk X pins (upd HA D (o0 D)) b ∧ b < sB.heap.objs.size := fun b hb => by
    have lt := small b hb
    refine ⟨⟨?_, (fpA b hb).2⟩, by rw [heapB, Heap.size_push]; exact Nat.lt_succ_of_lt lt⟩
    rw [upd_ne (by rw [hD]; exact Nat.ne_of_lt lt)]
    exact (fpA b hb).1
  have stB : tn 0 sB.heap := turn.keep _ _ _ stA fun b _ o e => by rw [heapB]; exact Heap.get?_push_of_some _ e
  have IC := block_start IB ok nod fpB
  rw [← hB]
  obtain ⟨HB, hHB⟩ : ∃ HB, HB = upd HA D (o0 D) := ⟨_, rfl⟩
  rw [← hHB] at IB IC w0 fpB
  obtain ⟨ce, hce⟩ : ∃ ce, ce = compEnvC scope (cellsFrom (sB.heap.objs.size + 1) scope.names (cloFrom X.env.cells scope.names [])) sB.heap.objs.size X.env := ⟨_, rfl⟩
  have rg := hg sB HB sB.heap.objs.size (cellsFrom (sB.heap.objs.size + 1) scope.names (cloFrom X.env.cells scope.names [])) fp
  have rt := ht sB HB sB.heap.objs.size (cellsFrom (sB.heap.objs.size + 1) scope.names (cloFrom X.env.cells scope.names [])) fp
  have rk := hk sB HB sB.heap.objs.size (cellsFrom (sB.heap.objs.size + 1) scope.names (cloFrom X.env.cells scope.names [])) fp
  have rv := hv sB HB sB.heap.objs.size (cellsFrom (sB.heap.objs.size + 1) scope.names (cloFrom X.env.cells scope.names [])) fp
  rw [← hce] at IC rg rt rk rv
  have locC : ce.locals = sB.heap.objs.size := by rw [hce]; rfl
  show codeAny _ _ (.compStart (.DictComp kx vx [⟨tg, iter, ifs, 0⟩] scope pos) 0 (.ref it) (.ref D) (compEnvC scope (cellsFrom (sB.heap.objs.size + 1) scope.names (cloFrom X.env.cells scope.names [])) sB.heap.objs.size X.env)) (compPost (model X.prog X.w) X.A X.xe none _ (.ref D) sB.heap.objs.size) { sB with heap := pushCells (sB.heap.push { cls := .type "dict", data := .dict #[] }) scope.names }
  rw [← hce]
  obtain ⟨sC, hC⟩ : ∃ sC : Shared, sC = { sB with heap := pushCells (sB.heap.push { cls := .type "dict", data := .dict #[] }) scope.names } := ⟨_, rfl⟩
  rw [← hC] at IC ⊢
  have stC : tn 0 sC.heap := turn.keep _ _ _ stB fun b _ o e => by rw [hC]; exact pushCells_keeps _ _ _ _ (Heap.get?_push_of_some _ e)
  have still : ∀ {σ' : L2.St} {H' : Hp} {s' : Shared}, Inv (X.blk sB HB scope ce fp) [] σ' H' s' → (∀ b ∈ fp, H' b = none) → ∀ b ∈ fp, FpOk (X.blk sB HB scope ce fp) [] H' b := fun {σ' H' s'} I' none' b hb =>
    ⟨none' b hb, (I'.ok.exf b hb).1, I'.ok.exfs b hb, .inl hb, fun x c e => (I'.ok.exf b hb).2 x c e, fun p hp => absurd (show p ∈ ([] : List (Addr × Obj)) ++ [] from hp) (by simp)⟩
  have loop : codeAny (model X.prog X.w) X.A (.compLoop (.DictComp kx vx [⟨tg, iter, ifs, 0⟩] scope pos) 0 (.ref it) (.ref D) ce) (compPost (model X.prog X.w) X.A X.xe none (EP X pins σ Q) (.ref D) sB.heap.objs.size) sC := by
    refine compLoop_anyD (fun m s' => ∃ i H', Inv (X.blk sB HB scope ce fp) [] (wipe σ (own.map (·.2))) H' s' ∧ tn i s'.heap ∧ (∀ b ∈ fp, H' b = none) ∧ W i m H') ?_ m0 ⟨0, HB, IC, stC, fun b hb => (fpB b hb).1.1, w0⟩
    rintro m s5 ⟨i, H5, I5, st5, n5, w5⟩
    rcases go i m H5 w5 with ⟨stop, fin⟩ | ⟨ahead, Nx, next, step⟩
    · refine thnF (turn.done (X.blk sB HB scope ce fp) rfl rfl rfl calm i [] s5 _ H5 (fun _ _ => False) I5 (still I5 n5) st5 stop) fun res s6 h6 => ?_
      obtain ⟨rfl, I6⟩ := h6
      have I7 : Inv X pins σ H5 s6 := IB.call' (ch := fp) I6.os I6.base I6.hok I6.bare fun b hb => let f := (fpB b hb).1; ⟨f.2.2.2.1, f.2.1, f.2.2.2.2.1, f.2.2.2.2.2⟩
      have nC : H5 sB.heap.objs.size = none := by rw [← locC]; exact I6.free
      obtain ⟨mm, ns, _⟩ := I6.loc
      have ns : s6.heap.Ns ce.locals mm := ns
      rw [locC] at ns
      refine ⟨mm, ns, fun h2 sb => ?_⟩
      obtain ⟨f0, f1, f2, f3, f4, f5⟩ := IB.fpOk (Nat.le_refl _) nC
      exact ⟨.ref D, H5, I7.turned (t' := s6.toks) (fun b o hb e => (sb.2 b hb).trans e) f0 f1 f3 f4 f5, rfl, fin⟩
    · refine thnF (turn.item (X.blk sB HB scope ce fp) rfl rfl rfl calm i [] s5 _ H5 (fun _ _ => False) I5 (still I5 n5) st5 ahead) fun res s6 h6 => ?_
      obtain ⟨u, rfl, h6⟩ := h6
      refine thnF h6 fun _ s7 h7 => ?_
      obtain ⟨x, H7, I7, r7, y7, st7, n7⟩ := h7
      have I7p := I7.pinned (still I7 n7) (turn.obj _ _ st7)
      refine thnF (rg.run _ s7 _ H7 x u _ I7p r7 (step x H7 y7)) fun _ s8 h8 => ?_
      obtain ⟨σ8, H8, I8, hw8, q8⟩ := h8
      refine thnF (rt.run _ s8 σ8 H8 _ I8 q8) fun b s9 h9 => ?_
      obtain ⟨H9, I9, q9⟩ := h9
      have back : ∀ {s' : Shared} {H' : Hp}, Inv (X.blk sB HB scope ce fp) ([] ++ pinsAt fp s7.heap) σ8 H' s' → Nx H' → ∃ m2, m2 < m ∧ ∃ i H', Inv (X.blk sB HB scope ce fp) [] (wipe σ (own.map (·.2))) H' s' ∧ tn i s'.heap ∧ (∀ b ∈ fp, H' b = none) ∧ W i m2 H' := fun {s' H'} I' nx => by
        obtain ⟨m2, lt, w2⟩ := next H' nx
        have kept : ∀ b ∈ fp, ∀ o, s7.heap.get? b = some o → s'.heap.get? b = some o ∧ H' b = none := fun b hb o e =>
          let z := I'.pin (b, o) (List.mem_append_right _ (List.mem_append_right _ (mem_pinsAt hb e)))
          ⟨z.1, z.2.1⟩
        have len : (wipe σ (own.map (·.2))).length = σ8.length := by rw [← hw8, wipe_length]
        refine ⟨m2, lt, i + 1, H', (I'.unpinned (pins := [])).weak len (fun j v e => ?_), turn.keep _ _ _ st7 fun b hb o e => (kept b hb o e).1, fun b hb => ?_, w2⟩
        · rw [← hw8] at e
          exact (wipe_some e).1
        · obtain ⟨o, e, _⟩ := turn.obj _ _ st7 b hb
          exact (kept b hb o e).2
      by_cases hb : b = true
      · rw [if_pos hb] at q9 ⊢
        refine thnF (rk.run _ s9 σ8 H9 _ I9 q9) fun z sD h10 => ?_
        obtain ⟨yk, H10, I10, r10, q10⟩ := h10
        refine thnF (rv.run _ sD σ8 H10 _ I10 q10) fun z2 sE h11 => ?_
        obtain ⟨yv, H11, I11, r11, o, o', hD11, hst11, nx⟩ := h11
        exact hst (X.blk sB HB scope ce fp) _ _ _ _ D o o' yk yv z z2 _ _ rfl rfl rfl I11 hD11 hst11 r10 r11 fun s12 I12 => back I12 nx
      · rw [if_neg hb] at q9 ⊢
        exact back I9 q9
  exact codeAny_compStart_dict loop (turn.self X.A 0 _ _ _ stC loop)
end
end Tr
namespace Tr
open PySem L2 GxR Gx
/-! ### a dict's kind of keys, and what a comprehension makes -/
structure DKd (G : GG) (o0 : Addr → HO) (st : Addr → DSt) (put : List (T × T) → T → T → Option (List (T × T))) where
  Acc : Type
  ho : Addr → Acc → HO
  plain : ∀ D a, Plain (ho D a)
  e0 : Acc
  h0 : ∀ D, ho D e0 = o0 D
  rep : Wd → Hp → Acc → List (T × T) → Prop
  rep0 : ∀ w H, rep w H e0 []
  held : Acc → List (T × T) → List (V × T)
  hold : ∀ {w H a ts}, rep w H a ts → ∀ p ∈ held a ts, Rep G w H p.1 p.2
  back : ∀ {w H w' H' a ts}, rep w H a ts → (∀ p ∈ held a ts, Rep G w' H' p.1 p.2) → rep w' H' a ts
  step : ∀ {w H D a ts ts' y z k v}, rep w H a ts → Rep G w H y k → Rep G w H z v → put ts k v = some ts' → ∃ a', st D (ho D a) y z H (ho D a') ∧ rep w H a' ts'
  out : List (T × T) → T
  done : ∀ {w H D a ts}, ¬ w.E D → H D = some (ho D a) → rep w H a ts → Rep G w H (.ref D) (out ts)
def dcLoop (put : List (T × T) → T → T → Option (List (T × T))) (vs : List Nat) (g : FG) (ft : FB) (fk fv : FE) (t0 u : T) : List T → Env → List (T × T) → R (List (T × T) × Env)
  | [], ρ, acc => if stays ρ.mu t0 u = true then .ok (acc, ρ) else .stk
  | t :: ts, ρ, acc => if stays ρ.mu t0 u = true then (g t ρ).bind fun ρ1 => (ft ρ1).bind fun b => if b.1 = true then (fk b.2).bind fun k => (fv k.2).bind fun p => (match put acc k.1 p.1 with
      | some acc' => dcLoop put vs g ft fk fv t0 u ts (wipeE p.2 vs) acc'
      | none => .stk)
    else dcLoop put vs g ft fk fv t0 u ts (wipeE b.2 vs) acc
    else .stk
def fDc (out : List (T × T) → T) (put : List (T × T) → T → T → Option (List (T × T))) (vs : List Nat) (fi : FI) (g : FG) (ft : FB) (fk fv : FE) : FE := fun ρ => (fi ρ).bind fun p => (noExc (dcLoop put vs g ft fk fv p.1.t0 p.1.u p.1.ts (wipeE p.2 vs) [])).bind fun q => .ok (out q.1, wipeE q.2 vs)
section
variable {G : GG} {X : Cx} {W : WX} {o0 : Addr → HO} {st : Addr → DSt} {put : List (T × T) → T → T → Option (List (T × T))}
/-- what the loop still has to do -/
def SatD (K : DKd G o0 st put) (F : Fr) (σ : L2.St) (D : Addr) (Q : VK) : R (List (T × T) × Env) → Prop
  | .ok (ats, ρ') => ∀ α H' acc, H' D = some (K.ho D acc) → Rel G (F.add D) α ρ' σ H' → K.rep (wd (F.add D) α ρ'.mu) H' acc ats → Q (.ref D) H'
  | .exc _ _ => False
  | .stk => False
theorem isD {F F' : Fr} {σ σL : L2.St} {D : Addr} {Q : VK} {K : DKd G o0 st put} : IsSat G W0 F σ (fun r => SatD K F' σL D Q r) := ⟨fun _ _ h => h.elim, fun h => h⟩
/-- the frame within a turn: D stands as it is, what it has is held -/
abbrev FD (F : Fr) (D : Addr) (o : HO) (hs : List (V × T)) (v0 : V) (t0 : T) : Fr := { (F.add D) with tmp := hs ++ ((v0, t0) :: F.tmp), pin := (D, o) :: F.pin }
theorem fd_in {F : Fr} {α : List Addr} {ρ : Env} {σ : L2.St} {H : Hp} {D : Addr} {o : HO} {hs : List (V × T)} {v0 : V} {t0 : T} (r : Rel G ((F.add D).hold v0 t0) α ρ σ H) (hD : H D = some o) (po : Plain o) (ha : ∀ p ∈ hs, Rep G (wd (F.add D) α ρ.mu) H p.1 p.2)
    (hf : F.M0 D ∨ F.H0 D = none) : Rel G (FD F D o hs v0 t0) α ρ σ H := by
  have r2 := r.holds (ps := hs) ha
  exact { r2 with
    pinP := fun p hp => (List.mem_cons.mp hp).elim (fun e => by rw [e]; exact po) (r.pinP p)
    pin := fun p hp => (List.mem_cons.mp hp).elim (fun e => by rw [e]; exact ⟨hD, .inr rfl, hf⟩) (r.pin p) }
theorem fd_out {F : Fr} {α : List Addr} {ρ : Env} {σ : L2.St} {H : Hp} {D : Addr} {o : HO} {hs : List (V × T)} {v0 : V} {t0 : T} (r : Rel G (FD F D o hs v0 t0) α ρ σ H) (hpin : ∀ p ∈ F.pin, F.O p.1) :
    Rel G ((F.add D).hold v0 t0) α ρ σ H ∧ H D = some o ∧ ∀ p ∈ hs, Rep G (wd (F.add D) α ρ.mu) H p.1 p.2 :=
  ⟨r.less (fun _ h => h) rfl rfl rfl (fun p hp => List.mem_append_right _ hp) (fun p hp => ⟨List.mem_cons_of_mem _ hp, .inl (hpin p hp)⟩), (r.pin _ (List.mem_cons_self ..)).1, fun p hp => r.tmp p (List.mem_append_left _ hp)⟩
theorem dc_ok (K : DKd G o0 st put) {vs : List Nat} {wi : TI} {g : TG} {tt : TT} {tk tv : TE} {fi : FI} {fg : FG} {ft : FB} {fk fv : FE}
    (hi : ∀ F α ρ σ H Rr, Rel G F α ρ σ H → SatI G W F σ (fi ρ) Rr → wi σ H Rr)
    (hg : ∀ F α ρ σ H v p (Q : L2.St → Hp → Prop), Rel G F α ρ σ H → Rep G (wd F α ρ.mu) H v p → SatG G W0 F σ (fg p ρ) (Only σ vs Q) → g v σ H Q)
    (ht : ∀ F α ρ σ H Q, Rel G F α ρ σ H → SatB G W0 F σ (ft ρ) Q → tt σ H Q) (hk : ∀ F α ρ σ H Q, Rel G F α ρ σ H → SatE G W0 F σ (fk ρ) Q → tk σ H Q) (hv : ∀ F α ρ σ H Q, Rel G F α ρ σ H → SatE G W0 F σ (fv ρ) Q → tv σ H Q)
    (F α ρ σ H Q) (r : Rel G F α ρ σ H) (s : SatE G W F σ (fDc K.out put vs fi fg ft fk fv ρ) Q) : tDg o0 st wi g tt tk tv vs σ H Q := by
  have hpinO : ∀ p ∈ F.pin, F.O p.1 := fun p hp => (r.pin p hp).2.1
  refine hi F α ρ σ H _ r ?_
  unfold fDc at s
  cases hfi : fi ρ with
  | exc x ρ' => rw [hfi] at s; exact s
  | stk => rw [hfi] at s; exact s
  | ok p =>
    obtain ⟨⟨ts, t0, u⟩, ρ1⟩ := p
    rw [hfi] at s
    intro J α1 H1 v0 r1 q1 hu jok D hD
    have hpinD : ∀ p ∈ F.pin, p.1 ≠ D := fun p hp z => by
      have := (r1.pin p hp).1
      rw [z, hD] at this
      cases this
    have hfD := r1.fresh0 hD
    have nOD : ¬ F.O D := fun z => by
      obtain ⟨x, e⟩ := r1.exs D z
      rw [hD] at e
      cases e
    have sL : SatD K F (wipe σ vs) D Q (dcLoop put vs fg ft fk fv t0 u ts (wipeE ρ1 vs) []) := by
      have s : SatE G W F σ ((noExc (dcLoop put vs fg ft fk fv t0 u ts (wipeE ρ1 vs) [])).bind fun q => .ok (K.out q.1, wipeE q.2 vs)) Q := s
      cases hl : dcLoop put vs fg ft fk fv t0 u ts (wipeE ρ1 vs) [] with
      | exc x ρ' => rw [hl] at s; exact s
      | stk => rw [hl] at s; exact s
      | ok q =>
        obtain ⟨ats, ρ2⟩ := q
        rw [hl] at s
        intro α2 H' acc hD' r2 q2
        have k : Keep (wd (F.add D) α2 ρ2.mu) H' (wd F α2 ρ2.mu) H' := Keep.less (fun a ha => ha.imp .inl id) fun _ _ h => h
        have nE : ¬ (wd F α2 ρ2.mu).E D := fun z => z.elim nOD fun ⟨i, n, _, _, h3⟩ => r2.apart D (List.mem_of_getElem? h3) (.inr rfl)
        exact s (.ref D) α2 H' ((r2.unwiped).unadd hpinO) (K.done nE hD' (K.back q2 fun p hp => (K.hold q2 p hp).stab k))
    have start : Rel G ((F.add D).hold v0 t0) α1 (wipeE ρ1 vs) (wipe σ vs) (upd H1 D (o0 D)) := ((r1.hold q1).addNew hD).wiped vs
    refine ⟨fun i m H => i ≤ ts.length ∧ m = ts.length - i ∧ ∃ αc ρc ats acc, H D = some (K.ho D acc) ∧ Rel G ((F.add D).hold v0 t0) αc ρc (wipe σ vs) H ∧ K.rep (wd (F.add D) αc ρc.mu) H acc ats ∧ SatD K F (wipe σ vs) D Q (dcLoop put vs fg ft fk fv t0 u (ts.drop i) ρc ats),
      ⟨ts.length, Nat.zero_le _, rfl, _, _, [], K.e0, by rw [K.h0]; exact upd_same, start, K.rep0 _ _, by rw [List.drop_zero]; exact sL⟩, ?_⟩
    rintro i m H ⟨hile, rfl, αc, ρc, ats, acc, hDacc, rc, qa, sl⟩
    have st' : stays ρc.mu t0 u = true := by
      cases e : stays ρc.mu t0 u with
      | true => rfl
      | false =>
        exfalso
        cases hd : ts.drop i with
        | nil => rw [hd] at sl; unfold dcLoop at sl; rw [e] at sl; exact sl
        | cons x xs => rw [hd] at sl; unfold dcLoop at sl; rw [e] at sl; exact sl
    have jk := jok _ H rc.unhold.wf (by rw [← stays_eq hu st']; exact rc.unhold.vw rc.held) i
    by_cases hlt : i < ts.length
    · have ed : ts.drop i = ts[i] :: ts.drop (i + 1) := List.drop_eq_getElem_cons hlt
      rw [ed] at sl
      unfold dcLoop at sl
      rw [if_pos st'] at sl
      have hti : ts[i]? = some ts[i] := List.getElem?_eq_getElem hlt
      obtain ⟨go, yl⟩ := jk.2 _ hti
      refine .inr ⟨go, fun H' => ∃ αc ρc ats acc, H' D = some (K.ho D acc) ∧ Rel G ((F.add D).hold v0 t0) αc ρc (wipe σ vs) H' ∧ K.rep (wd (F.add D) αc ρc.mu) H' acc ats ∧ SatD K F (wipe σ vs) D Q (dcLoop put vs fg ft fk fv t0 u (ts.drop (i + 1)) ρc ats),
        fun H' h => ⟨ts.length - (i + 1), by omega, hlt, rfl, h⟩, fun x H' hy => ?_⟩
      obtain ⟨hx, rx⟩ := yl x H' hy
      have rc2 := rc.ext hx
      have hD2 : H' D = some (K.ho D acc) := (hx.keep _ _ hDacc).1 (K.plain _ _)
      have qa2 : K.rep (wd (F.add D) αc ρc.mu) H' acc ats := K.back qa fun p hp => (K.hold qa p hp).stab hx.keepE
      have rT := fd_in rc2 hD2 (K.plain _ _) (K.hold qa2) hfD
      refine hg (FD F D (K.ho D acc) (K.held acc ats) v0 t0) αc ρc (wipe σ vs) H' x ts[i] _ rT rx (satG_bind (Sa := fun r => SatD K F (wipe σ vs) D Q r) (fun _ _ h => h) (fun h => h) sl fun ρd ed αd σ2 H2 rd sd hout hlen => ?_)
      have hw := wipe_eq hout hlen
      refine ⟨hw, ht (FD F D (K.ho D acc) (K.held acc ats) v0 t0) αd ρd σ2 H2 _ rd (satB_bind (Sa := fun r => SatD K F (wipe σ vs) D Q r) isD sd fun b ρe αe H3 eb rb sb => ?_)⟩
      dsimp only at sb
      split at sb
      · rename_i hb
        rw [if_pos hb]
        refine hk (FD F D (K.ho D acc) (K.held acc ats) v0 t0) αe ρe σ2 H3 _ rb (satE_bind (Sa := fun r => SatD K F (wipe σ vs) D Q r) isD sb fun kk ρf y αf H4 ep rp qp sp => ?_)
        refine hv ((FD F D (K.ho D acc) (K.held acc ats) v0 t0).hold y kk) αf ρf σ2 H4 _ (rp.hold qp) (satE_bind (Sa := fun r => SatD K F (wipe σ vs) D Q r) ⟨fun _ _ h => h.elim, fun h => h⟩ sp fun p ρg z αg H5 eg rg qg sg => ?_)
        dsimp only at sg
        split at sg
        · rename_i ats' hput
          obtain ⟨o1, o2, o3⟩ := fd_out rg.unhold hpinO
          have qacc : K.rep (wd (F.add D) αg ρg.mu) H5 acc ats := K.back qa2 o3
          obtain ⟨acc', st2, q2⟩ := K.step (D := D) qacc rg.held qg hput
          refine ⟨_, _, o2, st2, αg, wipeE ρg vs, ats', acc', upd_same, ?_, ?_, sg⟩
          · exact (o1.rewiped hw).mutO (.inr rfl) o2 (K.plain _ _) hfD hpinD
          · have ex : (wd (F.add D) αg ρg.mu).E D := .inl (.inr rfl)
            exact K.back q2 fun p hp => (K.hold q2 p hp).stab (Keep.mut ex)
        · exact sg.elim
      · rename_i hb
        rw [if_neg hb]
        obtain ⟨o1, o2, o3⟩ := fd_out rb hpinO
        exact ⟨αe, wipeE ρe vs, ats, acc, o2, o1.rewiped hw, K.back qa2 o3, sb⟩
    · have e : i = ts.length := by omega
      subst e
      rw [List.drop_length] at sl
      unfold dcLoop at sl
      rw [if_pos st'] at sl
      exact .inl ⟨jk.1 (Nat.le_refl _), sl αc H acc hDacc rc.unhold qa⟩
theorem pef_dc (K : DKd G o0 st put) {kx vx tg iter : Expr} {ifs : List Expr} {scope : Scope} {own : List (Str × Nat)} {pos : Pos} {fi : FI} {fg : FG} {ft : FB} {fk fv : FE} (hc : X.calm = true) (hN : X.N.Nodup) (hi : PIf G X W tg iter fi) (ok : BlkOk X.N X.env.scope scope own)
    (hg : ∀ (s : Shared) (H : Hp) (C : Addr) (cl : List (Str × Addr)) (fp : List Addr), PGf G (X.blk s H scope (compEnvC scope cl C X.env) fp) W0 tg (own.map (·.2)) fg)
    (ht : ∀ (s : Shared) (H : Hp) (C : Addr) (cl : List (Str × Addr)) (fp : List Addr), PTsf G (X.blk s H scope (compEnvC scope cl C X.env) fp) W0 ifs ft)
    (hk : ∀ (s : Shared) (H : Hp) (C : Addr) (cl : List (Str × Addr)) (fp : List Addr), PEf G (X.blk s H scope (compEnvC scope cl C X.env) fp) W0 kx fk)
    (hv : ∀ (s : Shared) (H : Hp) (C : Addr) (cl : List (Str × Addr)) (fp : List Addr), PEf G (X.blk s H scope (compEnvC scope cl C X.env) fp) W0 vx fv)
    (hnew : ∀ (h : Heap) (H : Hp), sysModules < h.objs.size → ObjOk X.prog X.w (upd H h.objs.size (o0 h.objs.size)) (h.push { cls := .type "dict", data := .dict #[] }) h.objs.size (o0 h.objs.size)) (hst : DStOk X.prog X.w X.A st)
    (hs : ∀ x, foldedSetIterable iter X.env x = pure x := by intro _; rfl) : PEf G X W (.DictComp kx vx [⟨tg, iter, ifs, 0⟩] scope pos) (fDc K.out put (own.map (·.2)) fi fg ft fk fv) := by
  obtain ⟨wi, pi, hi⟩ := hi
  exact ⟨_, pe_dcg hc hN pi ok (fun s H C cl fp => (hg s H C cl fp).pg) (fun s H C cl fp => (ht s H C cl fp).pts) (fun s H C cl fp => (hk s H C cl fp).pe) (fun s H C cl fp => (hv s H C cl fp).pe) hnew hst hs,
    dc_ok K hi (fun F α ρ σ H v p Q r rp sa => ⟨F, α, ρ, p, r, rp, sa⟩) (fun F α ρ σ H Q r sa => ⟨F, α, ρ, r, sa⟩) (fun F α ρ σ H Q r sa => ⟨F, α, ρ, r, sa⟩) (fun F α ρ σ H Q r sa => ⟨F, α, ρ, r, sa⟩)⟩
end
end Tr
namespace Tr
open PySem L2 GxR Gx
/-! ### the two kinds of keys -/
def putG {κ : Type} [DecidableEq κ] (kf : T → Option κ) (kvs : List (T × T)) (k v : T) : List (T × T) :=
  if (kvs.any fun p => decide (kf p.1 = kf k)) = true then kvs.map (fun p => if kf p.1 = kf k then (p.1, v) else p) else kvs ++ [(k, v)]
/-- numbers and texts -/
def keyT : T → Option Key
  | .int i => some (.inl i)
  | .str s => some (.inr (S s))
  | _ => none
theorem keyT_kT (k : Key) : keyT (kT k) = some k := by
  rcases k with i | ⟨⟨x⟩⟩
  · rfl
  · rfl
theorem kT_keyT {t : T} {k : Key} (h : keyT t = some k) : kT k = t := by
  unfold keyT at h
  split at h
  · cases h; rfl
  · cases h
    show T.str ((S _).cps.toList) = _
    rfl
  · cases h
def putKT (kvs : List (T × T)) (k v : T) : Option (List (T × T)) := match keyT k with
  | some _ => if kvs.length < 16777216 then some (putG keyT kvs k v) else none
  | none => none
def stK : Addr → DSt := fun _ o y z _ o' => ∃ kvs k, o = .dK kvs ∧ y = kV k ∧ kvs.length < sizeLine ∧ o' = .dK (putK kvs k z)
theorem stK_ok {P : Program} {w : World} {A : Around} : DStOk P w A stK := fun X pins σ H s D o o' y z u r Q E hP hw hA I hD st ry rz h => by
  obtain ⟨kvs, k, rfl, rfl, hl, rfl⟩ := st
  exact L2.d_dictSet I hD hl ry rz h
section
variable {G : GG} {w w' : Wd} {H H' : Hp}
theorem RepD.length : ∀ {vs : List (T × V)} {ts : List (T × T)}, RepD G w H vs ts → vs.length = ts.length
  | _, _, .nil => rfl
  | _, _, .cons _ r => by rw [List.length_cons, List.length_cons, RepD.length r]
theorem RepD.vals : ∀ {vs : List (T × V)} {ts : List (T × T)}, RepD G w H vs ts → ∀ p ∈ (vs.map (·.2)).zip (ts.map (·.2)), Rep G w H p.1 p.2
  | _, _, .nil, p, h => by cases h
  | _, _, .cons r rs, p, h => by
    rcases List.mem_cons.mp h with e | h
    · rw [e]; exact r
    · exact RepD.vals rs p h
theorem RepD.of : ∀ {vs : List (T × V)} {ts : List (T × T)}, RepD G w H vs ts → (∀ p ∈ (vs.map (·.2)).zip (ts.map (·.2)), Rep G w' H' p.1 p.2) → RepD G w' H' vs ts
  | _, _, .nil, _ => .nil
  | _, _, .cons r rs, h => .cons (h _ (List.mem_cons_self ..)) (RepD.of rs fun p hp => h p (List.mem_cons_of_mem _ hp))
theorem RepD.keys : ∀ {vs : List (T × V)} {ts : List (T × T)}, RepD G w H vs ts → vs.map (·.1) = ts.map (·.1)
  | _, _, .nil => rfl
  | _, _, .cons r rs => by rw [List.map_cons, List.map_cons, RepD.keys rs]
theorem RepD.append : ∀ {vs us : List (T × V)} {ts ws : List (T × T)}, RepD G w H vs ts → RepD G w H us ws → RepD G w H (vs ++ us) (ts ++ ws)
  | _, _, _, _, .nil, h => h
  | _, _, _, _, .cons r rs, h => .cons r (RepD.append rs h)
theorem RepD.mapK {kv : List (Key × V)} {ts : List (T × T)} {k : Key} {z : V} {v : T} (hv : Rep G w H z v) (r : RepD G w H (kv.map fun p => (kT p.1, p.2)) ts) :
    RepD G w H ((kv.map fun p => if p.1 = k then (p.1, z) else p).map fun p => (kT p.1, p.2)) (ts.map fun p => if keyT p.1 = some k then (p.1, v) else p) := by
  induction kv generalizing ts with
  | nil => cases r; exact .nil
  | cons p kv ih =>
    rw [List.map_cons] at r
    cases r with
    | cons r rs =>
      rw [List.map_cons, List.map_cons, List.map_cons]
      by_cases e : p.1 = k
      · rw [if_pos e, if_pos (by show keyT (kT p.1) = some k; rw [keyT_kT, e])]
        exact .cons hv (ih rs)
      · rw [if_neg e, if_neg (by show ¬ keyT (kT p.1) = some k; rw [keyT_kT]; intro z; exact e (Option.some.inj z))]
        exact .cons r (ih rs)
theorem any_keys {kv : List (Key × V)} {ts : List (T × T)} {k : Key} (r : RepD G w H (kv.map fun p => (kT p.1, p.2)) ts) : (kv.any fun p => decide (p.1 = k)) = ts.any fun p => decide (keyT p.1 = some k) := by
  induction kv generalizing ts with
  | nil => cases r; rfl
  | cons p kv ih =>
    rw [List.map_cons] at r
    cases r with
    | cons r rs =>
      rw [List.any_cons, List.any_cons, ih rs]
      have : decide (p.1 = k) = decide (keyT (kT p.1) = some k) := by rw [keyT_kT, Bool.eq_iff_iff]; simp
      rw [this]
theorem RepD.putK {kv : List (Key × V)} {ts : List (T × T)} {k : Key} {z : V} {kt v : T} (hk : keyT kt = some k) (hv : Rep G w H z v) (r : RepD G w H (kv.map fun p => (kT p.1, p.2)) ts) : RepD G w H ((putK kv k z).map fun p => (kT p.1, p.2)) (putG keyT ts kt v) := by
  unfold L2.putK putG
  rw [hk, any_keys r]
  split
  · exact r.mapK hv
  · rw [List.map_append]
    have q : RepD G w H [(kT k, z)] [(kT k, v)] := .cons hv .nil
    have e : [(kT k, v)] = [(kt, v)] := by rw [kT_keyT hk]
    exact r.append (by rw [← e]; exact q)
def dkdK (G : GG) : DKd G (fun _ => .dK []) stK putKT where
  Acc := List (Key × V)
  ho := fun _ a => .dK a
  plain := fun _ _ => trivial
  e0 := []
  h0 := fun _ => rfl
  rep := fun w H a ts => RepD G w H (a.map fun p => (kT p.1, p.2)) ts
  rep0 := fun _ _ => .nil
  held := fun a ts => ((a.map fun p => (kT p.1, p.2)).map (·.2)).zip (ts.map (·.2))
  hold := fun r => r.vals
  back := fun r h => r.of h
  step := fun {w H D a ts ts' y z k v} r hy hz hp => by
    unfold putKT at hp
    split at hp
    · rename_i key hkey
      split at hp
      · rename_i hl
        cases hp
        have ey : y = kV key := by
          have e := kT_keyT hkey
          rcases key with i | x
          · rw [← e] at hy; exact rep_int hy
          · rw [← e] at hy; exact rep_str hy
        refine ⟨L2.putK a key z, ⟨a, key, rfl, ey, ?_, rfl⟩, r.putK hkey hz⟩
        have hz := r.length
        rw [List.length_map] at hz
        rw [hz, show sizeLine = 16777216 by decide]
        exact hl
      · cases hp
    · cases hp
  out := .dct
  done := fun he hD r => .dct he hD (.k _) r
end
theorem newK {P : Program} {w : World} : ∀ (h : Heap) (H : Hp), sysModules < h.objs.size → ObjOk P w (upd H h.objs.size (.dK [])) (h.push { cls := .type "dict", data := .dict #[] }) h.objs.size (.dK []) := fun h H hb => dk_empty h hb
/-! ### tuples of any kind as keys -/
mutual
theorem rep_nk {G : GG} {w : Wd} {H : Hp} {P : Program} {wd' : World} {h : Heap} (ok : HOk P wd' H h) : ∀ {v : V} {t : T} {k : NestedKey} {u : Value}, Rep G w H v t → nkOf t = some k → RelV v u → NestedIs h k u
  | _, _, _, _, .non, e, r => by rw [nkOf] at e; cases e; rw [show _ = Value.none from r]; exact .none
  | _, _, _, _, .bl b, e, r => by rw [nkOf] at e; cases e; rw [show _ = Value.bool b from r]; exact .bool rfl
  | _, _, _, _, .int i, e, r => by rw [nkOf] at e; cases e; obtain ⟨t, rfl⟩ := r; exact .int i t
  | _, _, _, _, .str s, e, r => by rw [nkOf] at e; cases e; obtain ⟨t, rfl⟩ := r; exact .text _ t
  | _, _, _, _, .tup (ts := ts) he hd q, e, r => by
    rw [nkOf] at e
    cases hk : nksOf ts with
    | none => rw [hk] at e; cases e
    | some ks =>
      rw [hk] at e
      cases e
      rw [show _ = Value.ref _ from r]
      obtain ⟨_, its, rv, o, h1, h2, n, h3⟩ := hd.ok ok
      exact .tup h1 h2 h3 (by simpa using reps_nk ok q hk rv)
  | _, _, _, _, .ty _, e, _ => by simp [nkOf] at e
  | _, _, _, _, .lst _ _ _, e, _ => by simp [nkOf] at e
  | _, _, _, _, .lstK _ _, e, _ => by simp [nkOf] at e
  | _, _, _, _, .dct _ _ _ _, e, _ => by simp [nkOf] at e
  | _, _, _, _, .obj _ _ _ _, e, _ => by simp [nkOf] at e
  | _, _, _, _, .ref _, e, _ => by simp [nkOf] at e
  | _, _, _, _, .dctN _ _ _, e, _ => by simp [nkOf] at e
  | _, _, _, _, .cl _, e, _ => by simp [nkOf] at e
  | _, _, _, _, .exo _ _ _, e, _ => by simp [nkOf] at e
theorem reps_nk {G : GG} {w : Wd} {H : Hp} {P : Program} {wd' : World} {h : Heap} (ok : HOk P wd' H h) : ∀ {vs : List V} {ts : List T} {ks : List NestedKey} {us : List Value}, Reps G w H vs ts → nksOf ts = some ks → Vals vs us → NestedAll h ks us
  | _, _, _, _, .nil, e, .nil => by rw [nksOf] at e; cases e; exact .nil
  | _, _, _, _, .cons (t := t) (ts := ts) r rs, e, .cons q qs => by
    rw [nksOf] at e
    split at e
    · rename_i k ks e1 e2
      cases e
      exact .cons (rep_nk ok r e1 q) (reps_nk ok rs e2 qs)
    · cases e
end
def storeN (xs : List (NestedKey × Addr × V)) (k : NestedKey) (a : Addr) (z : V) : List (NestedKey × Addr × V) :=
  if (xs.any fun x => decide (x.1 = k)) = true then xs.map (fun x => if x.1 = k then (x.1, x.2.1, z) else x) else xs ++ [(k, a, z)]
/-- the tuple at ka is the key k, whatever the heap -/
def NKey (P : Program) (w : World) (H : Hp) (ka : Addr) (k : NestedKey) : Prop := k.depth ≤ 8 ∧ ∀ h, HOk P w H h → NestedIs h k (.ref ka)
def stN (P : Program) (w : World) : Addr → DSt := fun D o y z H o' => ∃ xs ka k, o = ND P w D xs ∧ y = .ref ka ∧ NKey P w H ka k ∧ (∀ x ∈ xs, NKey P w H x.2.1 x.1) ∧ xs.length ≤ sizeLine ∧ o' = ND P w D (storeN xs k ka z)
abbrev PN : List (NestedKey × Addr × V) → List (NestedKey × Addr × Value) → Prop := Paired (fun (p : NestedKey × Addr × V) (q : NestedKey × Addr × Value) => p.1 = q.1 ∧ p.2.1 = q.2.1 ∧ RelV p.2.2 q.2.2)
theorem PN.any {k : NestedKey} : ∀ {xs : List (NestedKey × Addr × V)} {us : List (NestedKey × Addr × Value)}, PN xs us → (xs.any fun x => decide (x.1 = k)) = (atKey us k).isSome
  | _, _, .nil => rfl
  | (a, x) :: xs, (b, y) :: us, .cons r rs => by
    have h1 : a = b := r.1
    subst h1
    have ih := PN.any (k := k) rs
    unfold atKey at ih ⊢
    rw [List.any_cons, List.find?_cons]
    by_cases e : a = k
    · rw [decide_eq_true e]; rfl
    · rw [decide_eq_false e]
      simp only [Bool.false_or]
      exact ih
theorem PN.map {k : NestedKey} {z : V} {u : Value} (h : RelV z u) : ∀ {xs : List (NestedKey × Addr × V)} {us : List (NestedKey × Addr × Value)}, PN xs us → PN (xs.map fun x => if x.1 = k then (x.1, x.2.1, z) else x) (us.map (putAt k u))
  | _, _, .nil => .nil
  | (a, x) :: xs, (b, y) :: us, .cons r rs => by
    rw [List.map_cons, List.map_cons]
    refine .cons ?_ (PN.map h rs)
    obtain ⟨h1, h2, h3⟩ := r
    have h1 : a = b := h1
    subst h1
    unfold putAt
    by_cases e : a = k
    · rw [if_pos e, if_pos e]; exact ⟨rfl, h2, h⟩
    · rw [if_neg e, if_neg e]; exact ⟨rfl, h2, h3⟩
theorem PN.append {xs ys : List (NestedKey × Addr × V)} {us ws : List (NestedKey × Addr × Value)} : PN xs us → PN ys ws → PN (xs ++ ys) (us ++ ws)
  | .nil, q => q
  | .cons r rs, q => .cons r (PN.append rs q)
theorem PN.store {k : NestedKey} {a : Addr} {z : V} {u : Value} (h : RelV z u) {xs : List (NestedKey × Addr × V)} {us : List (NestedKey × Addr × Value)} (r : PN xs us) : PN (storeN xs k a z) (storedH us k a u) := by
  unfold storeN storedH
  rw [r.any]
  split
  · exact r.map h
  · exact PN.append r (.cons ⟨rfl, rfl, h⟩ .nil)
theorem PN.mem {xs : List (NestedKey × Addr × V)} {us : List (NestedKey × Addr × Value)} : PN xs us → ∀ u ∈ us, ∃ x ∈ xs, x.1 = u.1 ∧ x.2.1 = u.2.1
  | .nil, u, h => by cases h
  | .cons r rs, u, h => by
    rcases List.mem_cons.mp h with e | h
    · rw [e]; exact ⟨_, List.mem_cons_self .., r.1, r.2.1⟩
    · obtain ⟨x, h1, h2⟩ := PN.mem rs u h
      exact ⟨x, List.mem_cons_of_mem _ h1, h2⟩
theorem nd_ok {P : Program} {w : World} {H : Hp} {h : Heap} {a : Addr} {xs : List (NestedKey × Addr × V)} (n : NDp P w a xs h) : ObjOk P w H h a (ND P w a xs) := by
  have ⟨y, us, r, o, es, ep, e, q⟩ := n
  exact ⟨n, ⟨o, e⟩, fun h1 h2 ⟨y, us, r, o, es, ep, e, q⟩ k => ⟨y, us, r, o, es, ep, k o e, q⟩⟩
/-- .. with its keys it is a dict of the library's kind -/
theorem nd_of {P : Program} {w : World} {H : Hp} {h : Heap} {a : Addr} {xs : List (NestedKey × Addr × V)} (ok : HOk P w H h) (e : H a = some (ND P w a xs)) (ks : ∀ x ∈ xs, NKey P w H x.2.1 x.1) : (a == sysModules) = false ∧ ∃ us, PN xs us ∧ h.DictOfH (nestedKind P w) a us := by
  obtain ⟨⟨y, us, r, o, es, ep, h1, h2, h3, h4, h5⟩, _⟩ := (show ObjOk P w H h a (ND P w a xs) from ok a _ e)
  refine ⟨y, us, r, o, es, ep, h1, h2, h3, h4, fun u hu => ?_, h5⟩
  obtain ⟨x, hx, e1, e2⟩ := PN.mem r u hu
  obtain ⟨d, n⟩ := ks x hx
  rw [← e1, ← e2]
  exact ⟨n h ok, d⟩
theorem stN_ok {P : Program} {w : World} {A : Around} (room : A.units + 8 < cLine) : DStOk P w A (stN P w) := fun X pins σ H s D o o' y z u r Q E hP hw hA I hD st ry rz h => by
  subst hP hw hA
  obtain ⟨xs, ka, k, rfl, rfl, hk, hks, hl, rfl⟩ := st
  obtain rfl : u = Value.ref ka := ry
  obtain ⟨dm, us, rp, dd⟩ := nd_of I.hok hD hks
  have hsz : us.length ≤ sizeLine := by rw [← rp.length]; exact hl
  refine wpAny_dictSet_heap (knd := nestedKind X.prog X.w) (hsz := hsz) room ⟨hk.2 _ I.hok, hk.1⟩ dd fun h' dd' sb => h _ ?_
  obtain ⟨o2, es, ep, g1, g2, g3, g4, _, g6⟩ := id dd'
  exact d_write I (by rw [hD]; exact True.intro) sb ⟨o2, g1⟩ (nd_ok ⟨dm, _, rp.store rz, o2, es, ep, g1, g2, g3, g4, g6⟩)
theorem newN {P : Program} {w : World} : ∀ (h : Heap) (H : Hp), sysModules < h.objs.size → ObjOk P w (upd H h.objs.size (ND P w h.objs.size [])) (h.push { cls := .type "dict", data := .dict #[] }) h.objs.size (ND P w h.objs.size []) := fun h H hb =>
  nd_ok ⟨beq_eq_false_iff_ne.mpr (Ne.symm (Nat.ne_of_lt hb)), [], .nil, _, #[], 0, Heap.get?_push_size _ rfl, ⟨rfl, rfl, rfl⟩, rfl, rfl, List.nodup_nil⟩
section
variable {G : GG} {w w' : Wd} {H H' : Hp}
theorem RepN.length : ∀ {xs : List (NestedKey × Addr × V)} {ts : List (T × T)}, RepN G w H xs ts → xs.length = ts.length
  | _, _, .nil => rfl
  | _, _, .cons _ _ _ r => by rw [List.length_cons, List.length_cons, RepN.length r]
def heldN (xs : List (NestedKey × Addr × V)) (ts : List (T × T)) : List (V × T) := (xs.map fun x => V.ref x.2.1).zip (ts.map (·.1)) ++ (xs.map fun x => x.2.2).zip (ts.map (·.2))
theorem RepN.keysR : ∀ {xs : List (NestedKey × Addr × V)} {ts : List (T × T)}, RepN G w H xs ts → ∀ p ∈ (xs.map fun x => V.ref x.2.1).zip (ts.map (·.1)), Rep G w H p.1 p.2
  | _, _, .nil, p, h => by cases h
  | _, _, .cons r _ _ rs, p, h => by
    rcases List.mem_cons.mp h with e | h
    · rw [e]; exact r
    · exact RepN.keysR rs p h
theorem RepN.valsR : ∀ {xs : List (NestedKey × Addr × V)} {ts : List (T × T)}, RepN G w H xs ts → ∀ p ∈ (xs.map fun x => x.2.2).zip (ts.map (·.2)), Rep G w H p.1 p.2
  | _, _, .nil, p, h => by cases h
  | _, _, .cons _ _ r rs, p, h => by
    rcases List.mem_cons.mp h with e | h
    · rw [e]; exact r
    · exact RepN.valsR rs p h
theorem RepN.of : ∀ {xs : List (NestedKey × Addr × V)} {ts : List (T × T)}, RepN G w H xs ts → (∀ p ∈ (xs.map fun x => V.ref x.2.1).zip (ts.map (·.1)), Rep G w' H' p.1 p.2) → (∀ p ∈ (xs.map fun x => x.2.2).zip (ts.map (·.2)), Rep G w' H' p.1 p.2) → RepN G w' H' xs ts
  | _, _, .nil, _, _ => .nil
  | _, _, .cons r e q rs, h1, h2 => .cons (h1 _ (List.mem_cons_self ..)) e (h2 _ (List.mem_cons_self ..)) (RepN.of rs (fun p hp => h1 p (List.mem_cons_of_mem _ hp)) fun p hp => h2 p (List.mem_cons_of_mem _ hp))
theorem RepN.append : ∀ {xs ys : List (NestedKey × Addr × V)} {ts us : List (T × T)}, RepN G w H xs ts → RepN G w H ys us → RepN G w H (xs ++ ys) (ts ++ us)
  | _, _, _, _, .nil, h => h
  | _, _, _, _, .cons a b c rs, h => .cons a b c (RepN.append rs h)
theorem RepN.any {k : NestedKey} : ∀ {xs : List (NestedKey × Addr × V)} {ts : List (T × T)}, RepN G w H xs ts → (xs.any fun x => decide (x.1 = k)) = ts.any fun p => decide (nkOf p.1 = some k)
  | _, _, .nil => rfl
  | (k', _) :: _, _, .cons (n := n) _ e _ rs => by
    rw [List.any_cons, List.any_cons, RepN.any rs]
    have : decide (k' = k) = decide (nkOf (.tup n) = some k) := by rw [e, Bool.eq_iff_iff]; simp
    show (decide (k' = k) || _) = (decide (nkOf (.tup n) = some k) || _)
    rw [this]
theorem RepN.mapP {k : NestedKey} {z : V} {v : T} (hz : Rep G w H z v) : ∀ {xs : List (NestedKey × Addr × V)} {ts : List (T × T)}, RepN G w H xs ts → RepN G w H (xs.map fun x => if x.1 = k then (x.1, x.2.1, z) else x) (ts.map fun p => if nkOf p.1 = some k then (p.1, v) else p)
  | _, _, .nil => .nil
  | (k', a, y) :: _, _, .cons (n := n) r e q rs => by
    rw [List.map_cons, List.map_cons]
    by_cases h : k' = k
    · rw [if_pos h, if_pos (show nkOf (.tup n) = some k by rw [e, h])]
      exact .cons r e hz (RepN.mapP hz rs)
    · rw [if_neg h, if_neg (show ¬ nkOf (.tup n) = some k by rw [e]; intro c; exact h (Option.some.inj c))]
      exact .cons r e q (RepN.mapP hz rs)
theorem RepN.put {k : NestedKey} {a : Addr} {z : V} {n : List T} {v : T} (ha : Rep G w H (.ref a) (.tup n)) (hk : nkOf (.tup n) = some k) (hz : Rep G w H z v) {xs : List (NestedKey × Addr × V)} {ts : List (T × T)} (r : RepN G w H xs ts) : RepN G w H (storeN xs k a z) (putG nkOf ts (.tup n) v) := by
  unfold storeN putG
  rw [hk, r.any]
  split
  · exact r.mapP hz
  · exact r.append (.cons ha hk hz .nil)
theorem RepN.nkey {P : Program} {wd' : World} {k : NestedKey} {a : Addr} {n : List T} (ha : Rep G w H (.ref a) (.tup n)) (hk : nkOf (.tup n) = some k) (hd : k.depth ≤ 8) : NKey P wd' H a k := ⟨hd, fun h ok => rep_nk ok ha hk rfl⟩
theorem RepN.nkeys {P : Program} {wd' : World} : ∀ {xs : List (NestedKey × Addr × V)} {ts : List (T × T)}, RepN G w H xs ts → (∀ x ∈ xs, x.1.depth ≤ 8) → ∀ x ∈ xs, NKey P wd' H x.2.1 x.1
  | _, _, .nil, _, x, h => by cases h
  | _, _, .cons r e _ rs, hd, x, h => by
    rcases List.mem_cons.mp h with q | h
    · rw [q]; exact RepN.nkey r e (hd _ (List.mem_cons_self ..))
    · exact RepN.nkeys rs (fun x hx => hd x (List.mem_cons_of_mem _ hx)) x h
theorem storeN_mem {xs : List (NestedKey × Addr × V)} {k : NestedKey} {a : Addr} {z : V} (hk : k.depth ≤ 8) (h : ∀ x ∈ xs, x.1.depth ≤ 8) : ∀ x ∈ storeN xs k a z, x.1.depth ≤ 8 := fun x hx => by
  unfold storeN at hx
  split at hx
  · obtain ⟨y, hy, rfl⟩ := List.mem_map.mp hx
    split <;> exact h y hy
  · rcases List.mem_append.mp hx with q | q
    · exact h x q
    · rw [List.mem_singleton] at q; rw [q]; exact hk
def putNT (kvs : List (T × T)) (k v : T) : Option (List (T × T)) := match k with
  | .tup n => (match nkOf (.tup n) with
    | some key => if key.depth ≤ 8 ∧ kvs.length ≤ 16777216 then some (putG nkOf kvs (.tup n) v) else none
    | none => none)
  | _ => none
def dkdN (G : GG) : DKd G (fun D => ND G.prog G.wld D []) (stN G.prog G.wld) putNT where
  Acc := List (NestedKey × Addr × V)
  ho := fun D a => ND G.prog G.wld D a
  plain := fun _ _ => trivial
  e0 := []
  h0 := fun _ => rfl
  rep := fun w H a ts => RepN G w H a ts ∧ ∀ x ∈ a, x.1.depth ≤ 8
  rep0 := fun _ _ => ⟨.nil, fun _ h => by cases h⟩
  held := heldN
  hold := fun r p hp => (List.mem_append.mp hp).elim (r.1.keysR p) (r.1.valsR p)
  back := fun r h => ⟨r.1.of (fun p hp => h p (List.mem_append_left _ hp)) fun p hp => h p (List.mem_append_right _ hp), r.2⟩
  step := fun {w H D a ts ts' y z k v} r hy hz hp => by
    unfold putNT at hp
    split at hp
    · rename_i n
      split at hp
      · rename_i key hkey
        split at hp
        · rename_i hl
          cases hp
          obtain ⟨ka, vs, rfl, _⟩ := rep_tup hy
          refine ⟨storeN a key ka z, ⟨a, ka, key, rfl, rfl, RepN.nkey hy hkey hl.1, r.1.nkeys r.2, ?_, rfl⟩, r.1.put hy hkey hz, storeN_mem hl.1 r.2⟩
          rw [r.1.length, show sizeLine = 16777216 by decide]
          exact hl.2
        · cases hp
      · cases hp
    · cases hp
  out := .dcN
  done := fun he hD r => .dctN he hD r.1
end
end Tr
namespace Tr
open PySem L2 GxR Gx
/-! ### dicts with keys that are numbers and texts -/
def hasK (kvs : List (T × T)) (k : Key) : Bool := kvs.any fun p => decide (keyT p.1 = some k)
def getK (kvs : List (T × T)) (k : Key) : Option T := (kvs.find? fun p => decide (keyT p.1 = some k)).map (·.2)
section
variable {G : GG} {w : Wd} {H : Hp}
theorem repD_val {k : Key} : ∀ {kv : List (Key × V)} {ts : List (T × T)}, RepD G w H (kv.map fun p => (kT p.1, p.2)) ts → (valV kv k = none ∧ getK ts k = none) ∨ ∃ v t, valV kv k = some v ∧ getK ts k = some t ∧ Rep G w H v t
  | [], _, .nil => .inl ⟨rfl, rfl⟩
  | (k', v) :: kv, _, .cons (t := t) (ts := ts) r rs => by
    by_cases e : k' = k
    · refine .inr ⟨v, t, valV_pos e, ?_, r⟩
      unfold getK
      rw [List.find?_cons, show decide (keyT (kT k') = some k) = true from by rw [keyT_kT, e]; simp]
      rfl
    · have h1 : valV ((k', v) :: kv) k = valV kv k := valV_neg e
      have h2 : getK ((kT k', t) :: ts) k = getK ts k := by
        unfold getK
        rw [List.find?_cons, show decide (keyT (kT k') = some k) = false from by rw [keyT_kT]; simp [e]]
      rw [h1, h2]
      exact repD_val rs
theorem getK_has {ts : List (T × T)} {k : Key} : (getK ts k).isSome = hasK ts k := by
  unfold getK hasK
  rw [Option.isSome_map, Bool.eq_iff_iff, List.find?_isSome, List.any_eq_true]
theorem repD_has {k : Key} {kv : List (Key × V)} {ts : List (T × T)} (r : RepD G w H (kv.map fun p => (kT p.1, p.2)) ts) : (valV kv k).isSome = hasK ts k := by
  rw [← getK_has]
  rcases repD_val (k := k) r with ⟨h1, h2⟩ | ⟨v, t, h1, h2, _⟩ <;> rw [h1, h2] <;> rfl
end
def rInK (neg : Bool) : R2 := fun y x H Q => ∃ a kvs k, x = .ref a ∧ H a = some (.dK kvs) ∧ y = kV k ∧ Q (.bl (if neg then !(valV kvs k).isSome else (valV kvs k).isSome)) H
theorem op_inK {X : Cx} (hu : X.A.units + 1 < cLine) : OpR X (compareOp .In) (rInK false) := by
  intro pins s σ H x y v u Q I rx ry h
  obtain ⟨a, kvs, k, rfl, hH, rfl, q⟩ := h
  obtain rfl : u = Value.ref a := ry
  exact d_in hu I (.k hH) rx fun s2 I2 => ⟨.bl _, H, I2, rfl, q⟩
theorem op_notInK {X : Cx} (hu : X.A.units + 1 < cLine) : OpR X (compareOp .NotIn) (rInK true) := by
  intro pins s σ H x y v u Q I rx ry h
  obtain ⟨a, kvs, k, rfl, hH, rfl, q⟩ := h
  obtain rfl : u = Value.ref a := ry
  exact d_notIn hu I (.k hH) rx fun s2 I2 => ⟨.bl _, H, I2, rfl, q⟩
theorem rv_keyV {G : GG} {w : Wd} {H : Hp} {v : V} {t : T} {k : Key} (r : RV G w H v t) (h : keyT t = some k) : v = kV k := by
  unfold keyT at h
  split at h
  · cases h; exact rv_int r
  · cases h; exact rv_str r
  · cases h
theorem rep_keyV {G : GG} {w : Wd} {H : Hp} {v : V} {t : T} {k : Key} (r : Rep G w H v t) (h : keyT t = some k) : v = kV k := rv_keyV (.of r) h
def inX (s t : T) : Option T := match t with
  | .dct kvs => (keyT s).map fun k => .bl (hasK kvs k)
  | _ => inT s t
def notInX (s t : T) : Option T := match t with
  | .dct kvs => (keyT s).map fun k => .bl (!hasK kvs k)
  | _ => notInT s t
section
variable {G : GG} {X : Cx} {W : WX}
theorem op_in_x (hK : G.K = X.K) (hu : X.A.units + 65 < cLine) : OpT G X (compareOp .In) inX := by
  obtain ⟨r, h1, h2⟩ := op_in_t (G := G) hK hu
  refine ⟨_, OpR.or h1 (op_inK (by omega)), fun w H Q x y s t c e wf rx ry q => ?_⟩
  unfold inX at e
  split at e
  · rename_i kvs
    cases hk : keyT s with
    | none => rw [hk] at e; cases e
    | some k =>
      rw [hk] at e
      cases e
      obtain ⟨a, kv, rfl, hH, rd⟩ := rv_dct ry
      exact .inr ⟨a, kv, k, rfl, hH, rv_keyV rx hk, by rw [repD_has rd]; exact q _ H (HExt.refl wf.tabs) (.bl _)⟩
  · exact .inl (h2 w H Q x y s t c e wf rx ry q)
theorem op_notIn_x (hK : G.K = X.K) (hu : X.A.units + 65 < cLine) : OpT G X (compareOp .NotIn) notInX := by
  obtain ⟨r, h1, h2⟩ := op_notIn_t (G := G) hK hu
  refine ⟨_, OpR.or h1 (op_notInK (by omega)), fun w H Q x y s t c e wf rx ry q => ?_⟩
  unfold notInX at e
  split at e
  · rename_i kvs
    cases hk : keyT s with
    | none => rw [hk] at e; cases e
    | some k =>
      rw [hk] at e
      cases e
      obtain ⟨a, kv, rfl, hH, rd⟩ := rv_dct ry
      exact .inr ⟨a, kv, k, rfl, hH, rv_keyV rx hk, by rw [repD_has rd]; exact q _ H (HExt.refl wf.tabs) (.bl _)⟩
  · exact .inl (h2 w H Q x y s t c e wf rx ry q)
/-! ### d[k] = v -/
def rSetK : TSet := fun o i v H Q => ∃ a kvs k, o = .ref a ∧ H a = some (.dK kvs) ∧ i = kV k ∧ kvs.length < sizeLine ∧ Q (upd H a (.dK (putK kvs k v)))
theorem set_dictK (hu : X.A.units + 1 < cLine) : PSet X rSetK := by
  intro pins s σ H o i v ov iv u Q I ro ri rv h
  obtain ⟨a, kvs, k, rfl, hH, rfl, hl, q⟩ := h
  obtain rfl : ov = Value.ref a := ro
  exact d_setItem hu I (.inl ⟨kvs, k, hH, rfl, hl, rfl⟩) ri rv fun s2 I2 => ⟨_, I2, q⟩
def mudct (μ : List Node) (t : T) : Option (Nat × List (T × T)) := match t with
  | .ref i => (match μ[i]? with
    | some (.dct ts) => some (i, ts)
    | _ => none)
  | _ => none
theorem mudct_at {F : Fr} {α : List Addr} {ρ : Env} {σ : L2.St} {H : Hp} {v : V} {t : T} {i : Nat} {ts : List (T × T)} (r : Rel G F α ρ σ H) (h : Rep G (wd F α ρ.mu) H v t) (e : mudct ρ.mu t = some (i, ts)) :
    ∃ a kv, v = .ref a ∧ t = .ref i ∧ α[i]? = some a ∧ ρ.mu[i]? = some (.dct ts) ∧ H a = some (.dK kv) ∧ RepD G (wd F α ρ.mu) H (kv.map fun p => (kT p.1, p.2)) ts := by
  unfold mudct at e
  split at e
  · split at e
    · rename_i j us hm
      cases e
      cases h with
      | ref ha =>
        obtain ⟨o, es, h1, h2, h3⟩ := r.node _ _ _ hm ha
        cases h2
        exact ⟨_, _, rfl, rfl, ha, hm, h1, h3⟩
    · cases e
  · cases e
theorem Rel.setDct {F : Fr} {α : List Addr} {ρ : Env} {σ : L2.St} {H : Hp} {a : Addr} {i : Nat} {ts us : List (T × T)} {kv kw : List (Key × V)} (r : Rel G F α ρ σ H) (ha : α[i]? = some a) (hm : ρ.mu[i]? = some (.dct ts)) (h1 : H a = some (.dK kv)) (h2 : RepD G (wd F α ρ.mu) H (kw.map fun p => (kT p.1, p.2)) us) :
    Rel G F α ⟨ρ.sl, ρ.mu.set i (.dct us)⟩ σ (upd H a (.dK kw)) := by
  have ex : (wd F α ρ.mu).E a := .inr ⟨i, .dct ts, hm, trivial, ha⟩
  exact r.put hm ha trivial h1 trivial ⟨_, _, upd_same, .k kw, h2.stab (Keep.mut ex)⟩
def fSubD (fo fi : FE) : FG := fun v ρ => noExc ((fo ρ).bind fun o => (fi o.2).bind fun i => match mudct i.2.mu o.1, keyT i.1 with
  | some (n, ts), some _ => if ts.length < 16777216 then .ok ⟨i.2.sl, i.2.mu.set n (.dct (putG keyT ts i.1 v))⟩ else .stk
  | _, _ => .stk)
theorem sz_eq : sizeLine = 16777216 := by decide
theorem pgf_subD {o i : Expr} {fo fi : FE} {pos : Pos} (hu : X.A.units + 1 < cLine) (ho : PEf G X W0 o fo) (hi : PEf G X W0 i fi)
    (ha : ∀ v, assign (.Subscript o i pos) X.env v = (do
      let ov ← holding [v] (eval o X.env)
      let iv ← holding [v, ov] (eval i X.env)
      standAt pos
      holding [v, ov, iv] (setItem ov iv v)
      release [v, ov, iv] []) := by intro _; rfl) : PGf G X W0 (.Subscript o i pos) [] (fSubD fo fi) := by
  obtain ⟨to, po, qo⟩ := ho
  obtain ⟨ti, pi, qi⟩ := hi
  refine ⟨_, pg_sub po pi (set_dictK hu) ha, fun F α ρ σ H v p Q r rv s => ?_⟩
  unfold fSubD at s
  have nx : ∀ {f : R Env}, SatG G W0 F σ (noExc f) (Only σ [] Q) → SatG G W0 F σ f (Only σ [] Q) := fun {f} h => by cases f <;> exact h
  have s := nx s
  refine qo (F.hold v p) α ρ σ H _ (r.hold rv) (satE_bind (Sa := fun r => SatG G W0 F σ r (Only σ [] Q)) ⟨fun _ _ h => h.elim, fun h => h⟩ s fun t ρ1 v1 α1 H1 _ r1 q1 s1 => ?_)
  refine qi ((F.hold v p).hold v1 t) α1 ρ1 σ H1 _ (r1.hold q1) (satE_bind (Sa := fun r => SatG G W0 F σ r (Only σ [] Q)) ⟨fun _ _ h => h.elim, fun h => h⟩ s1 fun t2 ρ2 v2 α2 H2 _ r2 q2 s2 => ?_)
  dsimp only at s2
  split at s2
  · rename_i n ts key hm hk
    split at s2
    · rename_i hl
      obtain ⟨a, kv, rfl, rfl, g1, g2, g3, g4⟩ := mudct_at r2.unhold r2.held hm
      have hlen := g4.length
      rw [List.length_map] at hlen
      refine ⟨a, kv, key, rfl, g3, rep_keyV q2 hk, by rw [hlen, sz_eq]; exact hl, ?_⟩
      exact s2 α2 σ _ (r2.unhold.unhold.setDct g1 g2 g3 (g4.putK hk r2.unhold.held)) (fun _ _ => rfl) rfl
    · exact s2.elim
  · exact s2.elim
/-! ### d.setdefault(k, x) -/
def fSetd (fo fk fx : FE) : FE := fun ρ => (fo ρ).bind fun o => match mudct o.2.mu o.1 with
  | some _ => (fk o.2).bind fun k => (fx k.2).bind fun x => (match mudct x.2.mu o.1, keyT k.1 with
    | some (n, ts), some key => if ts.length < 16777216 then (match getK ts key with
      | some t => .ok (t, x.2)
      | none => .ok (x.1, ⟨x.2.sl, x.2.mu.set n (.dct (putG keyT ts k.1 x.1))⟩)) else .stk
    | _, _ => .stk)
  | none => .stk
theorem Rel.putRep {F : Fr} {α : List Addr} {ρ : Env} {σ : L2.St} {H : Hp} {a : Addr} {i : Nat} {ts us : List (T × T)} {kw : List (Key × V)} {v : V} {t : T} (r : Rel G F α ρ σ H) (ha : α[i]? = some a) (hm : ρ.mu[i]? = some (.dct ts)) (h : Rep G (wd F α ρ.mu) H v t) :
    Rep G (wd F α (ρ.mu.set i (.dct us))) (upd H a (.dK kw)) v t := by
  have ex : (wd F α ρ.mu).E a := .inr ⟨i, .dct ts, hm, trivial, ha⟩
  have k2 : Keep (wd F α ρ.mu) (upd H a (.dK kw)) (wd F α (ρ.mu.set i (.dct us))) (upd H a (.dK kw)) := Keep.less (fun b hb => hb.imp id fun ⟨j, n, h1, h2, h3⟩ => by
    by_cases z : i = j
    · subst z
      exact ⟨i, .dct ts, hm, trivial, h3⟩
    · rw [List.getElem?_set_ne z] at h1
      exact ⟨j, n, h1, h2, h3⟩) fun _ _ h => h
  exact (h.stab (Keep.mut ex)).stab k2
theorem pef_setd {o e f : Expr} {fo fk fx : FE} {apos cpos : Pos} (ho : PEf G X W o fo) (he : PEf G X W e fk) (hf : PEf G X W f fx) (m : M2 X o "setdefault" apos e f cpos) : PEf G X W (.Call (.Attribute o "setdefault" apos) [e, f] [] cpos) (fSetd fo fk fx) := by
  obtain ⟨to, po, qo⟩ := ho
  obtain ⟨te, pe, qe⟩ := he
  obtain ⟨tf, pf, qf⟩ := hf
  refine ⟨_, pe_dsetd po pe pf m, fun F α ρ σ H Q r s => qo F α ρ σ H _ r (satE_bind (isE (Q := Q)) s fun t ρ1 v α1 H1 _ r1 q1 s1 => ?_)⟩
  dsimp only at s1
  split at s1
  · rename_i p0 hp0
    obtain ⟨i0, ts0⟩ := p0
    obtain ⟨a0, kv0, rfl, rfl, h1, h2, h3, h4⟩ := mudct_at r1 q1 hp0
    refine ⟨a0, rfl, .inl ⟨kv0, .inl h3⟩, qe (F.hold _ _) α1 ρ1 σ H1 _ (r1.hold q1) (satE_bind (isE (Q := Q)).hold s1 fun t2 ρ2 v2 α2 H2 _ r2 q2 s2 => ?_)⟩
    refine qf ((F.hold _ _).hold _ _) α2 ρ2 σ H2 _ (r2.hold q2) (satE_bind ((isE (Q := Q)).hold).hold s2 fun t3 ρ3 v3 α3 H3 _ r3 q3 s3 => ?_)
    dsimp only at s3
    split at s3
    · rename_i n ts key hm hk
      split at s3
      · rename_i hl
        obtain ⟨a, kv, e1, e2, g1, g2, g3, g4⟩ := mudct_at r3.unhold.unhold r3.unhold.held hm
        cases e1
        have hlen := g4.length
        rw [List.length_map] at hlen
        refine ⟨kv, key, g3, rep_keyV r3.held hk, by rw [hlen, sz_eq]; exact hl, fun v hv => ?_, fun hv => ?_⟩
        · rcases repD_val (k := key) g4 with ⟨z, _⟩ | ⟨v', t', z1, z2, z3⟩
          · rw [z] at hv; cases hv
          · rw [z1] at hv
            cases hv
            rw [z2] at s3
            exact s3 v α3 H3 r3.unhold.unhold z3
        · rcases repD_val (k := key) g4 with ⟨_, z⟩ | ⟨v', t', z1, _⟩
          · rw [z] at s3
            exact s3 v3 α3 _ (r3.unhold.unhold.setDct g1 g2 g3 (g4.putK hk q3)) (r3.unhold.unhold.putRep g1 g2 q3)
          · rw [z1] at hv; cases hv
      · exact s3.elim
    · exact s3.elim
  · exact s1.elim
end
end Tr
namespace Tr
open PySem PySem.Spec PyProof.Rows L2 GxR Gx
/-! ### tuple(d) -/
section
variable {prog : Program} {w : World} {A : Around} {E : Value → Shared → Prop} {s : Shared} {T : String} {r d : Addr} {n : Nat} {P : Nat → Value → Prop} {OK : Heap → Prop}
theorem code_tuple_walk {Q : Value → Shared → Prop} (K : PySem.W.KdlSrc prog w T r d n P OK) (hh : A.handled = none) (hok : OK s.heap) (hn : n ≤ sizeLine)
    (h : ∀ (h' : Heap) (tk : Nat) (acc : Array Value), (∀ b o, s.heap.get? b = some o → h'.get? b = some o) → ItemsOf P acc n → Q (.ref h'.objs.size) { s with heap := h'.push { cls := .type "tuple", data := .seq acc }, toks := tk }) :
    codeAny (model prog w) A (.call (.builtin "tuple.__new__") ⟨[.type "tuple", .ref r], []⟩) (wants Q E) s := by
  refine codeAny_of_tree ?_
  show wpAny _ A.in1 (checkBuiltinCall "tuple.__new__" ⟨[.type "tuple", .ref r], []⟩ >>= fun _ => again (.builtin "tuple.__new__" ⟨[.type "tuple", .ref r], []⟩)) _ _ s
  refine wpAny_bind (wpAny_of_eq (F.newCall_tuple_1 _) (wpAny_pure ⟨plainId_quiet F.plain_tuple_new _, codeAny_builtin F.entry_tuple_new ?_⟩))
  rw [Around.under_plainId F.plain_tuple_new _]
  have s1 := sub_tuple_self
  have s2 := init_tuple_lookup
  have s3 := madeHere_tuple
  have ty : s.TypeIs (.ref r) T := K.type s hok
  have nt := K.notTuple
  have nl := K.notList
  have h1 : A.in1.handled = none := hh
  wp_walk using wpAny_typeOf ty, PySem.W.kdu_collect (A := A.in1) K h1 hok hn
  intro h' tk acc hk hacc
  show wpAny _ _ (Builtin.Tuple.tupleExact acc.toList.toArray >>= fun v => ret v) _ _ _
  unfold Builtin.Tuple.tupleExact
  have e : acc.toList.toArray = acc := by simp
  rw [e]
  exact wpAny_bind (wpAny_newObj_type (wpAny_pure (h h' tk acc hk hacc)) (by show acc.size ≤ sizeLine; rw [hacc.1]; exact hn))
end
section
variable {X : Cx}
def rTupD : List V → Hp → VK → Prop := fun xs H Q => ∃ a kvs, xs = [.ref a] ∧ H a = some (.dK kvs) ∧ ∀ p, H p = none → Q (.ref p) (upd H p (.tup (kvs.map fun kv => kV kv.1)))
theorem call_tuple_dK (hc : X.calm = true) : CallR X (.type "tuple") rTupD := by
  intro pins s σ H xs us Q I r h
  obtain ⟨a, kvs, rfl, hH, q⟩ := h
  obtain ⟨u, rfl, ru⟩ := vals1 r
  obtain rfl : u = Value.ref a := ru
  obtain ⟨z, lo, vs, rk, hd⟩ := (show ObjOk X.prog X.w H s.heap a (.dK kvs) from I.hok a _ hH)
  obtain ⟨ep, hat⟩ := hd.dictAt
  have hl : kvs.length = vs.length := Paired.length rk
  refine callType_codes (Q₁ := fun obj s₁ => s₁.TypeIs obj "tuple" ∧ EP X pins σ Q obj s₁) F.called_tuple (F.typeCall_tuple_1 _) F.entry_object_init
    (code_tuple_walk (A := X.A.in1) (PySem.W.kdl_dict (knd := mixKind X.prog X.w) (kvs := vs) (ep := ep) lo) (I.ok.hd hc) hat (by rw [← hl]; exact z) fun h' tk acc hk hacc => ⟨⟨_, Heap.get?_push_size _ rfl, rfl⟩, ?_⟩) fun obj s₁ h₁ =>
      ⟨h₁.1, F.args_object_init_2 obj _, object_init_meets F.called_tuple.init.lookup F.called_tuple.made (by decide) X.prog X.w X.A.in1 _ s₁ ⟨h₁.1, rfl, h₁.2⟩⟩
  have I1 : Inv X pins σ H { s with heap := h', toks := tk } := I.kept hk
  refine ⟨.ref h'.objs.size, upd H h'.objs.size (.tup (kvs.map fun kv => kV kv.1)), I1.laid (t' := tk) (fun b o e => Heap.get?_push_of_some _ e) (Nat.le_refl _) (show ObjOk X.prog X.w _ _ _ (.tup (kvs.map fun kv => kV kv.1)) from ⟨?_, acc.toList, ?_, _, Heap.get?_push_size _ rfl, rfl, 0, ?_⟩), rfl, q _ (I1.hok.fresh (Nat.le_refl _))⟩
  · rw [List.length_map]; exact z
  · have el : acc.toList.length = acc.size := by simp
    refine vals_of_at (by rw [List.length_map, el, hacc.1, hl]) fun j x v h1 h2 => ?_
    obtain ⟨k, y, hky, hi⟩ := hacc.2 j v (by rw [← Array.getElem?_toList]; exact h2)
    have e1 : (kvs.map (·.1))[j]? = some k := by rw [KV.keys rk, List.getElem?_map, hky]; rfl
    have e2 : (kvs.map fun kv => kV kv.1) = (kvs.map (·.1)).map kV := by rw [List.map_map]; rfl
    rw [e2, List.getElem?_map, e1] at h1
    cases h1
    exact keyIs_rel hi
  · simp
end
end Tr
namespace Tr
open PySem PySem.Spec PyProof.Rows L2 GxR Gx
/-! ### len of dicts -/
def rLenN (P : Program) (w : World) : List V → Hp → VK → Prop := fun xs H Q => ∃ a ys, xs = [.ref a] ∧ H a = some (ND P w a ys) ∧ (∀ y ∈ ys, NKey P w H y.2.1 y.1) ∧ ys.length ≤ 16777217 ∧ Q (.int ys.length) H
theorem call_lenN {X : Cx} : CallR X (.builtin "len") (rLenN X.prog X.w) := fun pins s σ H xs us Q I r h => by
  obtain ⟨a, ys, rfl, hH, keys, z, q⟩ := h
  obtain ⟨v1, rfl, rel⟩ := vals1 r
  obtain rfl : v1 = Value.ref a := rel
  obtain ⟨main, us2, rp, dd⟩ := nd_of I.hok hH keys
  have same : ys.length = us2.length := Paired.length rp
  refine call_len_dictH main dd (by omega) ?_
  rw [← same]
  exact ⟨.int ys.length, H, I.tok _, ⟨_, rfl⟩, q⟩
/-- keys of small depth -/
def smallK (kvs : List (T × T)) : Bool := kvs.all fun p => match nkOf p.1 with
  | some k => decide (k.depth ≤ 8)
  | none => false
theorem smallK_reps {G : GG} {w : Wd} {H : Hp} : ∀ {xs : List (NestedKey × Addr × V)} {ts : List (T × T)}, RepN G w H xs ts → smallK ts = true → ∀ x ∈ xs, x.1.depth ≤ 8
  | _, _, .nil, _, x, hx => nomatch hx
  | _, _, .cons _ e _ rs, h, x, hx => by
    unfold smallK at h
    rw [List.all_cons, Bool.and_eq_true] at h
    obtain ⟨h1, h2⟩ := h
    rw [e] at h1
    rcases List.mem_cons.mp hx with rfl | hx
    · exact of_decide_eq_true h1
    · exact smallK_reps rs h2 x hx
def lenX : List T → Option T
  | [.dct kvs] => some (.int kvs.length)
  | [.dcN kvs] => if smallK kvs = true ∧ kvs.length ≤ 16777217 then some (.int kvs.length) else none
  | ts => lenT ts
section
variable {G : GG} {X : Cx} {W : WX}
theorem call_len_x (hK : G.K = X.K) (hP : G.prog = X.prog := by rfl) (hW : G.wld = X.w := by rfl) : CallT G X (.builtin "len") lenX := by
  obtain ⟨r0, h0, q0⟩ := call_len_t (G := G) (X := X) hK
  refine ⟨_, CallR.or h0 (CallR.or call_lenD call_lenN), fun w H Q vs ts c e wf rs q => ?_⟩
  unfold lenX at e
  split at e
  · cases e
    obtain ⟨v, rfl, r⟩ := rvs1 rs
    obtain ⟨a, kv, rfl, hH, rd⟩ := rv_dct r
    have hl := rd.length
    rw [List.length_map] at hl
    exact .inr (.inl ⟨a, kv, rfl, hH, by rw [hl]; exact q _ H (HExt.refl wf.tabs) (.int _)⟩)
  · split at e
    · rename_i hz
      cases e
      obtain ⟨v, rfl, r⟩ := rvs1 rs
      obtain ⟨a, ys, rfl, hH, rn⟩ := rv_dcN r
      have hl := rn.length
      exact .inr (.inr ⟨a, ys, rfl, by rw [← hP, ← hW]; exact hH, rn.nkeys (smallK_reps rn hz.1), by rw [hl]; exact hz.2, by rw [hl]; exact q _ H (HExt.refl wf.tabs) (.int _)⟩)
    · cases e
  · exact .inl (q0 w H Q vs ts c e wf rs q)
/-! ### tuple(d) -/
theorem repD_keys {w : Wd} {H : Hp} : ∀ {kv : List (Key × V)} {ts : List (T × T)}, RepD G w H (kv.map fun p => (kT p.1, p.2)) ts → Reps G w H (kv.map fun p => kV p.1) (ts.map (·.1))
  | [], _, .nil => .nil
  | (k, v) :: kv, _, .cons r rs => .cons (match k with | .inl i => .int i | .inr s => .str s.cps.toList) (repD_keys rs)
def tupleX : List T → Option T
  | [.dct kvs] => some (.tup (kvs.map (·.1)))
  | ts => tupleT ts
theorem call_tuple_x (hK : G.K = X.K) (hc : X.calm = true) : CallT G X (.type "tuple") tupleX := by
  obtain ⟨r0, h0, q0⟩ := call_tuple_t (G := G) (X := X) hK
  refine ⟨_, CallR.or h0 (call_tuple_dK hc), fun w H Q vs ts c e wf rs q => ?_⟩
  unfold tupleX at e
  split at e
  · cases e
    obtain ⟨v, rfl, r⟩ := rvs1 rs
    obtain ⟨a, kv, rfl, hH, rd⟩ := rv_dct r
    have rk := repD_keys rd
    exact .inr ⟨a, kv, rfl, hH, fun p hp => q _ _ (HExt.new wf.tabs hp) (new_tup hp (wf.new hp) rk)⟩
  · exact .inl (q0 w H Q vs ts c e wf rs q)
/-! ### isinstance with a tuple of types -/
def tysOf : List T → Option (List String)
  | [] => some []
  | .ty n :: ts => (tysOf ts).map (n :: ·)
  | _ :: _ => none
theorem tys_reps {w : Wd} {H : Hp} : ∀ {vs : List V} {ts : List T} {ns : List String}, Reps G w H vs ts → tysOf ts = some ns → Paired ClsV vs (ns.map Value.type)
  | _, _, _, .nil, e => by cases e; exact .nil
  | _, _, _, .cons (t := t) (ts := ts) r rs, e => by
    unfold tysOf at e
    split at e
    · rename_i heq; cases heq
    · rename_i n ts' heq
      cases heq
      cases h : tysOf ts with
      | none => rw [h] at e; cases e
      | some ms =>
        rw [h] at e
        cases e
        cases r
        exact .cons (.ty n) (tys_reps rs h)
    · cases e
def kitAnyB (a : String) : List String → Option Bool
  | [] => some false
  | n :: ns => match kitB a n with
    | some true => some true
    | some false => kitAnyB a ns
    | none => none
theorem kitAny_of {K : PySem.W.Frag} {a : String} : ∀ {ns : List String} {b : Bool}, kitAnyB a ns = some b → PySem.W.kitAny K (.type a) (ns.map Value.type) = some b
  | [], b, h => by cases h; rfl
  | n :: ns, b, h => by
    unfold kitAnyB at h
    split at h
    · rename_i hk; cases h; exact kitAny_cons (kit_ty hk) (fun z => by cases z) fun _ => rfl
    · rename_i hk; exact kitAny_cons (kit_ty hk) (fun _ => kitAny_of h) fun z => by cases z
    · cases h
/-- a thing of one of the kinds, asked with the tuple that stands there -/
def rIsiU (P : Program) (w : World) (K : PySem.W.Frag) : List V → Hp → VK → Prop := fun xs H Q => ∃ (x : V) (tp : Addr) (cs : List V) (a : String) (us : List Value) (b : Bool), xs = [x, .ref tp] ∧ Rd H tp (.tup cs) ∧ Paired ClsV cs us ∧
  (TyX K H x (.type a) ∨ a = "dict" ∧ ∃ d ys, x = .ref d ∧ H d = some (ND P w d ys)) ∧ PySem.W.kitAny K (.type a) us = some b ∧ Q (.bl b) H
theorem call_isiU {X : Cx} : CallR X (.builtin "isinstance") (rIsiU X.prog X.w X.K) := by
  intro pins s σ H xs us Q I r h
  obtain ⟨x, tp, cs, a, ws, b, rfl, hT, k, ty, e, q⟩ := h
  obtain ⟨u1, u2, rfl, r1, r2⟩ := vals2 r
  cases (show u2 = Value.ref tp from r2)
  obtain ⟨_, its, rv, o, h1, h2, n, h3⟩ := hT.ok I.hok
  have e3 := ClsV.all k rv
  subst e3
  obtain ⟨oc, od, dt, sl⟩ := o
  simp only at h2 h3
  subst h2 h3
  rcases ty with ty | ⟨rfl, d, ys, rfl, hH⟩
  · obtain ⟨P, Z, p, hx⟩ := kit_of I r1 ty
    exact PySem.W.kia_tup Z I.kIn p h1 e hx fun tk => ⟨.bl b, H, I.tok tk, rfl, q⟩
  · obtain rfl : u1 = Value.ref d := r1
    obtain ⟨⟨_, us2, _, o, es, ep, g1, g2, _⟩, _⟩ := (show ObjOk X.prog X.w H s.heap d (ND X.prog X.w d ys) from I.hok d _ hH)
    exact PySem.W.kia_tup PySem.W.kitx_dict I.kIn ⟨o, g1, g2.1⟩ h1 e (fun z => nomatch z) fun tk => ⟨V.bl b, H, I.tok tk, rfl, q⟩
def isiU (base : List T → Option T) : List T → Option T
  | [t, .tup cs] => (match tyN t, tysOf cs with
    | some a, some ns => (kitAnyB a ns).map .bl
    | _, _ => none)
  | ts => base ts
theorem call_isi_u {base : List T → Option T} (hb : CallT G X (.builtin "isinstance") base) (hK : G.K = X.K) (hP : G.prog = X.prog := by rfl) (hW : G.wld = X.w := by rfl) : CallT G X (.builtin "isinstance") (isiU base) := by
  obtain ⟨r0, h0, q0⟩ := hb
  refine ⟨_, CallR.or h0 call_isiU, fun w H Q vs ts c e wf rs q => ?_⟩
  unfold isiU at e
  split at e
  · rename_i t cs
    obtain ⟨v, u, rfl, r1, r2⟩ := rvs2 rs
    split at e
    · rename_i a ns ha hn
      cases hk : kitAnyB a ns with
      | none => rw [hk] at e; cases e
      | some b =>
        rw [hk] at e
        cases e
        obtain ⟨_, tp, vs, rfl, _, h2, _, h4⟩ := rv_tup r2
        refine .inr ⟨v, tp, vs, a, _, b, rfl, h4, tys_reps h2 hn, ?_, kitAny_of hk, q _ H (HExt.refl wf.tabs) (.bl b)⟩
        rcases rv_tyx hK r1 ha with h | ⟨rfl, d, ys, rfl, h⟩
        · exact .inl h
        · exact .inr ⟨rfl, d, ys, rfl, by rw [← hP, ← hW]; exact h⟩
    · cases e
  · exact .inl (q0 w H Q vs ts c e wf rs q)
end
end Tr
namespace Tr
open PySem PySem.Spec PyProof.Rows L2 GxR Gx
open Sem (wp)
/-! ### enumerate of whatever begins: its two cells -/
abbrev enumObj (it : Addr) : Obj := { cls := .type "enumerate", data := .fields #[.none, .bool false, .ref it, rawInt 0, .none, .none] }
theorem meets_enum1 {v : Value} {oi : Obj} {Hd : Heap → Prop} (B : Begins v oi Hd) :
    Meets (Builtin.«enumerate.__new__» ⟨[.type "enumerate", v], []⟩) (fun _ R z => Hd z.heap ∧ R (.ok (.ret (.ref (z.heap.push oi).objs.size))) { z with heap := (z.heap.push oi).push (enumObj z.heap.objs.size) }) :=
  .of_wp fun pr wo Ar R z hz => by
    obtain ⟨h0, gs, dp, tk, out⟩ := z
    have begun : ∀ {A' : Around} {E' Q' : Value → Shared → Prop}, Q' (.ref h0.objs.size) ⟨h0.push oi, gs, dp, tk, out⟩ → wpAny (model pr wo) A' (pyIter v) Q' E' ⟨h0, gs, dp, tk, out⟩ := fun q => B.iter pr wo _ _ ⟨h0, gs, dp, tk, out⟩ _ hz.1 q
    have se := sub_enumerate
    wp_walk using begun
    refine wpAny_stack_any fun frames => wpAny_pure ?_
    split
    · rename_i cl _ _ _ _ _
      by_cases same : (cl == Value.type "enumerate") = true
      · rw [same]
        wp_walk using begun
        exact ⟨_, rfl, hz.2⟩
      · rw [Bool.eq_false_iff.mpr same]
        wp_walk using begun
        exact ⟨_, rfl, hz.2⟩
    · wp_walk using begun
      exact ⟨_, rfl, hz.2⟩
theorem call_enum1 {pr : Program} {wo : World} {Ar : Around} {z : Shared} {v : Value} {oi : Obj} {Hd : Heap → Prop} {Q E : Value → Shared → Prop} (B : Begins v oi Hd) (hd : Hd z.heap)
    (fin : Q (.ref (z.heap.objs.size + 1)) { z with heap := (z.heap.push oi).push (enumObj z.heap.objs.size) }) : wpAny (model pr wo) Ar (call (.type "enumerate") [v]) Q E z := by
  have one : (z.heap.push oi).objs.size = z.heap.objs.size + 1 := Heap.size_push ..
  have it : ((z.heap.push oi).push (enumObj z.heap.objs.size)).get? (z.heap.objs.size + 1) = some (enumObj z.heap.objs.size) := by
    rw [← one]
    exact Heap.get?_push_size _ rfl
  have M := meets_enum1 B
  exact callType_new F.called_enumerate (by decide) (F.typeCall_enumerate_1 _) (F.newCall_enumerate_1 _) (fun ob => F.args_object_init_2 ob _) F.entry_enumerate_new M ⟨hd, by
    rw [one]
    exact ⟨⟨_, it, rfl⟩, fin⟩⟩
/-! ### a walk whose turns hand out new pairs, over a tuple that stands -/
/-- the pairs (i, x) of the tuple of n things at a -/
def ItE (K : PySem.W.Frag) (a : Addr) (n : Nat) : It where
  go i H := ∃ (xs : List V) (x : V), SqT K H a xs ∧ xs.length = n ∧ xs[i]? = some x
  yld i H v H' := ∃ T x, v = .ref T ∧ H T = none ∧ H' = upd H T (.tup [.int (i : Nat), x]) ∧ ∀ xs, SqT K H a xs → xs[i]? = some x
  stop i H := ∃ xs : List V, SqT K H a xs ∧ xs.length = n ∧ n ≤ i
/-- how an enumerate object stands -/
def EnumAt (a e it n i : Nat) (h : Heap) : Prop := i ≤ n ∧ (∃ old, IsEnum h e it ((i : Nat) : Int) old) ∧ h.IsTupleIter it a i ∧ e ≠ it ∧ a ≠ e ∧ a ≠ it
section
variable {X : Cx} {pins : List (Addr × Obj)} {σ : L2.St} {H : Hp} {s : Shared} {a e it n i : Nat}
/-- the library's walk of it, at this heap's tuple -/
theorem EnumAt.walk (I : Inv X pins σ H s) (calm : X.calm = true) (st : EnumAt a e it n i s.heap) {its : List Value} (sz : its.length = n) :
    WalksT X.prog X.w X.A e (e :: [it, a]) [e, it] n (fun j vals => ∃ t x, its.toArray[j]? = some x ∧ vals = #[.int j t, x]) (fun j h => (∃ old, IsEnum h e it j old) ∧ h.IsTupleIter it a j ∧ h.IsTuple a its.toArray)
      (fun j T h => (∃ x, IsEnumOut h e it ((j : Int) + 1) x T) ∧ (h.IsTupleIter it a (j + 1) ∧ h.IsTuple a its.toArray) ∧ T ≠ e ∧ T ≠ it) := by
  obtain ⟨_, _, _, hei, hae, hai⟩ := st
  have D := Draws.tuple (prog := X.prog) (w := X.w) (A := X.A.in1) (show X.A.in1.handled = none from I.ok.hd calm) it a hai its.toArray
  rw [List.size_toArray, sz] at D
  exact WalksT.enumerateD D e hei (by simp [hei, Ne.symm hae]) (by simp)
/-- what a turn does: a new pair, the two cells moved on -/
theorem enum_item {K : PySem.W.Frag} {elts : List Expr} {kk : Nat} {tp : Pos} {E : Value → Shared → Prop} (hK : X.K = K) (calm : X.calm = true) (I : Inv X pins σ H s) (hf : ∀ b ∈ [e, it], FpOk X pins H b) (st : EnumAt a e it n i s.heap) (hg : (ItE K a n).go i H) :
    wpAny (model X.prog X.w) X.A (pyNext (.ref e)) (fun r s1 => ∃ u, r = some u ∧ wpAny (model X.prog X.w) X.A (letOwnedTupleGo (.Tuple elts kk tp) (.ref e) u)
      (fun _ s2 => ∃ x H', Inv X pins σ H' s2 ∧ RelV x u ∧ (ItE K a n).yld i H x H' ∧ EnumAt a e it n (i + 1) s2.heap ∧ ∀ b ∈ [e, it], H' b = none) E s1) E s := by
  subst hK
  obtain ⟨xs, x, hq, hn, hx⟩ := hg
  obtain ⟨its, rv, p, _⟩ := I.tuple hq
  have sz : its.length = n := by rw [← rv.length, hn]
  have W := st.walk I calm sz
  obtain ⟨hin, hold, hit, hei, hae, hai⟩ := st
  have small : ∀ b ∈ [e, it], b < s.heap.objs.size := fun b hb => by
    rcases List.mem_cons.mp hb with rfl | hb
    · obtain ⟨_, he⟩ := hold
      exact Heap.lt_size he
    · obtain ⟨_, ho, _⟩ := hit
      rw [List.mem_singleton.mp hb]
      exact Heap.lt_size ho
  have hin2 : i < n := by rw [← hn]; exact (List.getElem?_eq_some_iff.mp hx).1
  refine W.item i s _ E hin2 ⟨hold, hit, p⟩ fun T vals h1 tk hv hT at1 mid kp1 => ⟨_, rfl, ?_⟩
  obtain ⟨t, v, hv1, rfl⟩ := hv
  obtain ⟨u, hu, ru⟩ := rv.get hx
  obtain rfl : v = u := by
    rw [List.getElem?_toArray, hu] at hv1
    exact (Option.some.inj hv1).symm
  refine W.go elts kk tp i T _ _ E mid fun h2 st2 kp2 => ?_
  have kp : ∀ b o, b ∉ [e, it] → s.heap.get? b = some o → h2.get? b = some o := fun b o hb q => kp2 b o hb (kp1 b o hb q)
  obtain ⟨oT, g1, g2, m, g3⟩ := at1
  have pair : ObjOk X.prog X.w (upd H T (.tup [.int (i : Nat), x])) h2 T (.tup [.int (i : Nat), x]) := ⟨by show 2 ≤ sizeLine; decide, [.int i t, v], .cons ⟨t, rfl⟩ (.cons ru .nil), oT, kp2 T oT (W.apart i T h1 mid) g1, g2, m, g3⟩
  have I2 := I.turnedNew (ch := [e, it]) (t' := tk) (h' := h2) kp hf hT pair
  refine ⟨.ref T, _, I2, rfl, ⟨T, x, rfl, I.hok.fresh hT, rfl, fun ys hy => by rw [I.tuple_inj hy hq]; exact hx⟩, ⟨hin2, ?_, st2.2.1, hei, hae, hai⟩, fun b hb => ?_⟩
  · obtain ⟨old, he⟩ := st2.1
    exact ⟨old, he⟩
  · rw [upd_ne (Nat.ne_of_lt (Nat.lt_of_lt_of_le (small b hb) hT))]
    exact (hf b hb).1
theorem enum_stop {K : PySem.W.Frag} {E : Value → Shared → Prop} (hK : X.K = K) (calm : X.calm = true) (I : Inv X pins σ H s) (hf : ∀ b ∈ [e, it], FpOk X pins H b) (st : EnumAt a e it n i s.heap) (hg : (ItE K a n).stop i H) :
    wpAny (model X.prog X.w) X.A (pyNext (.ref e)) (fun r s1 => r = none ∧ Inv X pins σ H s1) E s := by
  subst hK
  obtain ⟨xs, hq, hn, hni⟩ := hg
  obtain ⟨its, rv, p, _⟩ := I.tuple hq
  have W := st.walk I calm (its := its) (by rw [← rv.length, hn])
  obtain ⟨hin, hold, hit, _⟩ := st
  obtain rfl : i = n := Nat.le_antisymm hin hni
  exact W.done s _ E ⟨hold, hit, p⟩ fun h1 tk kp => ⟨rfl, I.turnedL (t' := tk) kp hf⟩
end
theorem turn_enumT {P : Program} {w : World} {K : PySem.W.Frag} {elts : List Expr} {kk : Nat} {tp : Pos} (a e it n : Addr) : Turn P w K (.Tuple elts kk tp) (ItE K a n) [e, it] e (EnumAt a e it n) where
  mem := List.mem_cons_self ..
  obj i h st b hb := by
    obtain ⟨_, ⟨_, he⟩, ⟨ot, ho, _, hd⟩, _⟩ := st
    rcases List.mem_cons.mp hb with rfl | hb
    · refine ⟨_, he, fun v q => ?_⟩
      cases q
    · rw [List.mem_singleton.mp hb]
      refine ⟨ot, ho, fun v q => ?_⟩
      rw [hd] at q
      cases q
  keep i h h' st k := by
    obtain ⟨h1, ⟨old, he⟩, hit, rest⟩ := st
    exact ⟨h1, ⟨old, k e (List.mem_cons_self ..) _ he⟩, hit.at fun o q => k it (by simp) o q, rest⟩
  item X hP hw hK hc i pins s σ H E I hf st hg := by
    subst hP hw
    exact enum_item hK hc I hf st hg
  done X hP hw hK hc i pins s σ H E I hf st hg := by
    subst hP hw
    exact enum_stop hK hc I hf st hg
  self A i s Q E st h := by
    obtain ⟨_, ⟨_, he⟩, _⟩ := st
    exact wpAny_pyIter_enum he h
def iEnumT (K : PySem.W.Frag) (ta : TA) : TI := fun σ H R => ta σ H fun vs H1 => ∃ a xs, vs = [.ref a] ∧ SqT K H1 a xs ∧ R (ItE K a xs.length) H1
theorem pi_enumT {X : Cx} {e : Expr} {ta : TA} {p pos tpos : Pos} {elts : List Expr} {kk : Nat} (hg : Gl X "enumerate") (hm : X.mg "enumerate" = none) (ha : PA X [e] ta) (hs : starEach [e] X.env = [(false, eval e X.env)] := by rfl) :
    PI X (.Tuple elts kk tpos) (.Call (.Name "enumerate" p) [e] [] pos) (iEnumT X.K ta) := ⟨fun pins s σ H R I want => Call_ (ld_blt I hg hm boot_enumerate (PyProof.Rows.callWith_type1 (thn (ha.run pos pins s σ H _ I want) fun us s1 res => by
    obtain ⟨_, H1, I1, rel, a, xs, rfl, hq, fin⟩ := res
    obtain ⟨u, rfl, ru⟩ := vals1 rel
    obtain rfl : u = Value.ref a := ru
    obtain ⟨its, rv, tup, _⟩ := I1.tuple hq
    have low : a < s1.heap.objs.size := by
      obtain ⟨_, here, _⟩ := tup
      exact Heap.lt_size here
    generalize hz : s1.heap.objs.size = z at low
    have laid : ∀ b o, s1.heap.get? b = some o → ((s1.heap.push { cls := .type "tuple_iterator", data := .fields #[.ref a, .int 0 0] }).push (enumObj z)).get? b = some o := fun b o q => Heap.get?_push_of_some _ (Heap.get?_push_of_some _ q)
    have i1 : ((s1.heap.push { cls := .type "tuple_iterator", data := .fields #[.ref a, .int 0 0] }).push (enumObj z)).get? z = some { cls := .type "tuple_iterator", data := .fields #[.ref a, .int 0 0] } := by
      subst hz
      exact Heap.get?_push_of_some _ (Heap.get?_push_size _ rfl)
    have i2 : ((s1.heap.push { cls := .type "tuple_iterator", data := .fields #[.ref a, .int 0 0] }).push (enumObj z)).get? (z + 1) = some (enumObj z) := by
      subst hz
      have grown : (s1.heap.push { cls := .type "tuple_iterator", data := .fields #[.ref a, .int 0 0] }).objs.size = s1.heap.objs.size + 1 := Heap.size_push ..
      rw [← grown]
      exact Heap.get?_push_size _ rfl
    refine call_enum1 (begins_tuple a its.toArray) tup ?_
    rw [hz]
    refine wpAny_pyIter_enum (i := 0) (old := .none) i2 ⟨z + 1, [z + 1, z], _, _, H1, rfl, I1.kept (t' := s1.toks) laid, turn_enumT a (z + 1) z xs.length, ⟨Nat.zero_le _, ⟨.none, i2⟩, ⟨_, i1, rfl, rfl⟩, Nat.succ_ne_self z, Nat.ne_of_lt (Nat.lt_succ_of_lt low), Nat.ne_of_lt low⟩, fun b hb => ?_, fin⟩
    have above : s1.heap.objs.size ≤ b := by
      rw [hz]
      rcases List.mem_cons.mp hb with rfl | hb
      · exact Nat.le_succ z
      · exact Nat.le_of_eq (List.mem_singleton.mp hb).symm
    exact I1.fpOk above (I1.hok.fresh above)) hs rfl))⟩
/-! ### .. as trees -/
def enumF (ts : List T) : List T := (List.range ts.length).map fun i => T.tup [.int (i : Nat), ts.getD i .non]
section
variable {G : GG} {X : Cx} {W : WX}
theorem enumF_at {ts : List T} {i : Nat} {t : T} (h : (enumF ts)[i]? = some t) : ∃ u, ts[i]? = some u ∧ t = .tup [.int (i : Nat), u] := by
  unfold enumF at h
  rw [List.getElem?_map] at h
  by_cases hi : i < ts.length
  · rw [List.getElem?_range hi] at h
    have h := Option.some.inj h
    subst h
    exact ⟨ts[i], List.getElem?_eq_getElem hi, by show T.tup [T.int ↑i, ts.getD i T.non] = _; rw [List.getD_eq_getElem?_getD, List.getElem?_eq_getElem hi]; rfl⟩
  · rw [List.getElem?_eq_none (by simpa using hi)] at h
    cases h
theorem jok_enumT {a n : Addr} {ts : List T} (hK : G.K = X.K) (hn : ts.length = n) : JOk G (ItE X.K a n) (enumF ts) (.ref a) (.tup ts) := fun w H wf r i => by
  obtain ⟨_, b, vs, e, h1, h2, _⟩ := rv_tup r
  cases e
  rw [hK] at h1
  refine ⟨fun hi => ⟨vs, h1, by rw [h2.length, hn], by rw [← hn]; simpa [enumF] using hi⟩, fun t ht => ?_⟩
  obtain ⟨u, hu, rfl⟩ := enumF_at ht
  obtain ⟨v, h3, h4⟩ := h2.get hu
  refine ⟨⟨vs, v, h1, by rw [h2.length, hn], h3⟩, fun x H2 ⟨T0, x0, e1, e2, e3, e4⟩ => ?_⟩
  subst e1 e3
  have h5 := e4 vs h1
  rw [h3] at h5
  cases h5
  exact ⟨HExt.new wf.tabs e2, new_tup e2 (wf.new e2) (.cons (.int _) (.cons h4 .nil))⟩
def fEnumT (fas : FA) : FI := fun ρ => (fas ρ).bind fun p => match p.1 with
  | [.tup ts] => .ok (⟨enumF ts, .tup ts, .tup ts⟩, p.2)
  | _ => .stk
theorem pif_enumT {a : Expr} {fas : FA} {p pos tpos : Pos} {elts : List Expr} {kk : Nat} (hK : G.K = X.K) (hg : Gl X "enumerate") (hm : X.mg "enumerate" = none) (ha : PAf G X W [a] fas) (hs : starEach [a] X.env = [(false, eval a X.env)] := by rfl) : PIf G X W (.Tuple elts kk tpos) (.Call (.Name "enumerate" p) [a] [] pos) (fEnumT fas) := by
  obtain ⟨ta, pa, ha⟩ := ha
  refine ⟨_, pi_enumT hg hm pa hs, fun F α ρ σ H Rr r s => ha F α ρ σ H _ r (satA_bind (isI (Rr := Rr)) s fun ts ρ1 vs α1 H1 e0 r1 q1 s1 => ?_)⟩
  dsimp only at s1
  split at s1
  · rename_i ts hu
    obtain ⟨v, rfl, q2⟩ := reps1 q1
    obtain ⟨_, a, vs, rfl, h1, h2, _⟩ := rv_tup (.of q2)
    exact ⟨a, vs, rfl, by rw [← hK]; exact h1, s1 _ α1 H1 _ r1 q2 rfl (jok_enumT hK h2.length.symm)⟩
  · exact s1.elim
end
end Tr
namespace Tr
open PySem PySem.Spec PyProof.Rows L2 GxR Gx
/-! ### texts in order -/
def insS (x : List Nat) : List (List Nat) → List (List Nat)
  | [] => [x]
  | y :: ys => if ltCps y x = true then y :: insS x ys else x :: y :: ys
def sortS : List (List Nat) → List (List Nat)
  | [] => []
  | x :: xs => insS x (sortS xs)
theorem insS_perm (x : List Nat) : ∀ ys : List (List Nat), (insS x ys).Perm (x :: ys)
  | [] => .refl _
  | y :: ys => by
    unfold insS
    split
    · exact ((insS_perm x ys).cons y).trans (List.Perm.swap x y ys)
    · exact .refl _
theorem sortS_perm : ∀ xs : List (List Nat), (sortS xs).Perm xs
  | [] => .refl _
  | x :: xs => (insS_perm x (sortS xs)).trans ((sortS_perm xs).cons x)
/-- not behind -/
def leC (a b : List Nat) : Prop := ltCps b a = false
theorem leC_iff {a b : List Nat} : leC a b ↔ ¬ b < a := by unfold leC; rw [ltCps_eq]; exact decide_eq_false_iff_not
theorem leC_total (a b : List Nat) : leC a b ∨ leC b a := by
  rw [leC_iff, leC_iff]
  by_cases h : b < a
  · exact .inr fun k => List.lt_asymm h k
  · exact .inl h
theorem leC_trans {a b c : List Nat} (h : leC a b) (k : leC b c) : leC a c := by
  rw [leC_iff] at *
  exact List.not_lt.mpr (List.le_trans (List.not_lt.mp h) (List.not_lt.mp k))
theorem leC_antisymm {a b : List Nat} (h : leC a b) (k : leC b a) : a = b := by
  rw [leC_iff] at *
  exact List.le_antisymm (List.not_lt.mp h) (List.not_lt.mp k)
theorem insS_pw {x : List Nat} : ∀ {ys : List (List Nat)}, ys.Pairwise leC → (insS x ys).Pairwise leC
  | [], _ => List.pairwise_singleton _ _
  | y :: ys, h => by
    obtain ⟨h1, h2⟩ := List.pairwise_cons.mp h
    unfold insS
    split
    · rename_i hlt
      refine List.pairwise_cons.mpr ⟨fun z hz => ?_, insS_pw h2⟩
      rcases List.mem_cons.mp ((insS_perm x ys).mem_iff.mp hz) with rfl | hz
      · rcases leC_total y z with q | q
        · exact q
        · exact absurd hlt (by unfold leC at q; rw [q]; exact Bool.false_ne_true)
      · exact h1 z hz
    · rename_i hlt
      have q : leC x y := by unfold leC; exact Bool.eq_false_iff.mpr hlt
      refine List.pairwise_cons.mpr ⟨fun z hz => ?_, h⟩
      rcases List.mem_cons.mp hz with rfl | hz
      · exact q
      · exact leC_trans q (h1 z hz)
theorem sortS_pw : ∀ xs : List (List Nat), (sortS xs).Pairwise leC
  | [] => .nil
  | x :: xs => insS_pw (sortS_pw xs)
theorem sortS_uniq {xs ys : List (List Nat)} (p : ys.Perm xs) (h : ys.Pairwise leC) : ys = sortS xs :=
  List.Perm.eq_of_pairwise (fun a b _ _ h k => leC_antisymm h k) h (sortS_pw xs) (p.trans (sortS_perm xs).symm)
theorem pw_of_rising : ∀ (p : Str) (l : List Str), risingS p l = true → (p :: l).Pairwise fun a b => leC a.cps.toList b.cps.toList
  | p, [], _ => List.pairwise_singleton _ _
  | p, x :: r, h => by
    have h : (!ltCps x.cps.toList p.cps.toList && risingS x r) = true := h
    rw [Bool.and_eq_true] at h
    have h2 := pw_of_rising x r h.2
    have h1 : leC p.cps.toList x.cps.toList := by unfold leC; simpa using h.1
    refine List.pairwise_cons.mpr ⟨fun z hz => ?_, h2⟩
    rcases List.mem_cons.mp hz with rfl | hz
    · exact h1
    · exact leC_trans h1 (List.rel_of_pairwise_cons h2 hz)
theorem sortedS_pw : ∀ {l : List Str}, sortedS l = true → l.Pairwise fun a b => leC a.cps.toList b.cps.toList
  | [], _ => .nil
  | x :: r, h => pw_of_rising x r h
theorem sorted_is {ys ks : List Str} (p : ys.Perm ks) (h : sortedS ys = true) : ys = (sortS (ks.map fun x => x.cps.toList)).map S := by
  have h1 : (ys.map fun x => x.cps.toList).Pairwise leC := List.pairwise_map.mpr (sortedS_pw h)
  have h2 := sortS_uniq (p.map fun x => x.cps.toList) h1
  rw [← h2, List.map_map]
  exact (List.map_id' ys).symm
/-- the texts of a dict -/
def txK : List (T × T) → Option (List (List Nat))
  | [] => some []
  | (.str s, _) :: ts => (txK ts).map (s :: ·)
  | _ :: _ => none
section
variable {G : GG} {X : Cx} {W : WX}
theorem txK_keys {w : Wd} {H : Hp} : ∀ {kv : List (Key × V)} {ts : List (T × T)} {ss : List (List Nat)}, RepD G w H (kv.map fun p => (kT p.1, p.2)) ts → txK ts = some ss → kv.map (·.1) = (ss.map S).map Sum.inr
  | [], _, _, .nil, e => by cases e; rfl
  | (k, v) :: kv, _, _, .cons (ts := ts) r rs, e => by
    rcases k with i | x
    · cases e
    · have e : (txK ts).map (x.cps.toList :: ·) = some _ := e
      cases h : txK ts with
      | none => rw [h] at e; cases e
      | some ss =>
        rw [h] at e
        cases e
        have ih := txK_keys rs h
        rw [List.map_cons, ih]
        rfl
/-- sorted(d) -/
def sortedT : List T → Option T
  | [.dct kvs] => (txK kvs).bind fun ss => if ss.length < 64 then some (.lst ((sortS ss).map T.str)) else none
  | _ => none
theorem call_sorted_t (hc : X.calm = true) : CallT G X (.builtin "sorted") sortedT := by
  refine ⟨_, call_sortedD hc, fun w H Q vs ts c e wf rs q => ?_⟩
  unfold sortedT at e
  split at e
  · rename_i kvs
    obtain ⟨v, rfl, r⟩ := rvs1 rs
    obtain ⟨a, kv, rfl, hH, rd⟩ := rv_dct r
    cases h : txK kvs with
    | none => rw [h] at e; cases e
    | some ss =>
      rw [h] at e
      have e : (if ss.length < 64 then some (T.lst ((sortS ss).map T.str)) else none) = some c := e
      split at e
      · rename_i hl
        cases e
        refine ⟨a, kv, ss.map S, rfl, .inl hH, txK_keys rd h, by rw [List.length_map]; exact hl, fun ys p hp hs hn => ?_⟩
        have e2 := sorted_is hp hs
        have e3 : (ss.map S).map (fun x => x.cps.toList) = ss := by rw [List.map_map]; exact List.map_id' ss
        rw [e3] at e2
        rw [e2]
        exact q _ _ (HExt.new wf.tabs hn) (new_lst hn (wf.new hn) (Reps.strs _))
      · cases e
  · cases e
end
end Tr
namespace Tr
open PySem PySem.Spec PyProof.Rows L2 GxR Gx
/-! ### methods of lists that change nothing -/
def MtT (G : GG) (X : Cx) (id : String) (op : List T → T → Option T) : Prop :=
  ∃ r, MtR X id r ∧ ∀ (w : Wd) (H : Hp) (Q : VK) (a : Addr) (vs : List V) (ts : List T) (v : V) (t c : T), op ts t = some c → Wf G w H → SqL G.K H a vs → Reps G w H vs ts → Rep G w H v t →
    (∀ v H', HExt G H H' → Rep G w H' v c → Q v H') → r (.ref a) [v] H Q
def fLM (op : List T → T → Option T) (fo fa : FE) : FE := fun ρ => (fo ρ).bind fun o => match vw o.2.mu o.1 with
  | .lst _ => (fa o.2).bind fun q => (match vw q.2.mu o.1 with
    | .lst ts => (match op ts q.1 with
      | some c => .ok (c, q.2)
      | none => .stk)
    | _ => .stk)
  | _ => .stk
section
variable {G : GG} {X : Cx} {W : WX}
theorem pef_lm {op : List T → T → Option T} {id name : String} {o e : Expr} {fo fa : FE} {apos cpos : Pos} (hK : G.K = X.K) (slot : Slot "list" name id) (hty : typeOf (.builtin id) = pure (.type "method_descriptor")) (mt : MtT G X id op) (ho : PEf G X W o fo) (ha : PEf G X W e fa)
    (hbase : attributeBase o name X.env (eval o X.env) = eval o X.env := by rfl)
    (hfew : ((backTo cpos (starEach [e] X.env)).all (fun x => !x.1) && (backToKw cpos (keywordEach [] X.env)).all (fun x => x.1.isSome)
      && decide ([e].length + ([] : List Keyword).length + (if ([] : List Keyword).isEmpty then 0 else 1) < 30)) = true := by rfl)
    (hline : (apos.endLine == cpos.line) = true := by rfl) (hs : starEach [e] X.env = (false, eval e X.env) :: starEach [] X.env := by rfl) (hplain : (backTo cpos (starEach [] X.env)).any (·.1) = false := by rfl) :
    PEf G X W (.Call (.Attribute o name apos) [e] [] cpos) (fLM op fo fa) := by
  obtain ⟨to, po, qo⟩ := ho
  obtain ⟨ta, pa, qa⟩ := ha
  obtain ⟨r0, hr, hq⟩ := mt
  refine ⟨_, pe_bm PySem.F.plainAttrs_list slot hty hr po (pa_cons pa pa_nil hs) hbase hfew hline hs hplain, fun F α ρ σ H Q r s => qo F α ρ σ H _ r (satE_bind (isE (Q := Q)) s fun t ρ1 v α1 H1 _ r1 q1 s1 => ?_)⟩
  dsimp only at s1
  split at s1
  · rename_i ts0 hu0
    have q2 := r1.vw q1
    rw [hu0] at q2
    obtain ⟨a0, vs0, rfl, h1, h2⟩ := rv_lst q2
    refine ⟨.inl ⟨rfl, _, by rw [← hK]; exact h1⟩, qa (F.hold _ _) α1 ρ1 σ H1 _ (r1.hold q1) (satE_bind (isE (Q := Q)).hold s1 fun t2 ρ2 v2 α2 H2 _ r2 q2 s2 => ?_)⟩
    dsimp only at s2
    split at s2
    · rename_i ts hu
      have q3 := r2.unhold.vw r2.held
      rw [hu] at q3
      obtain ⟨a, vs, e1, g1, g2⟩ := rv_lst q3
      cases e1
      split at s2
      · rename_i c hc
        exact hq _ H2 _ a0 vs ts v2 t2 c hc r2.unhold.wf g1 g2 q2 fun z H3 hx hz => s2 z α2 H3 (r2.unhold.ext hx) hz
      · exact s2.elim
    · exact s2.elim
  · exact s1.elim
/-- xs.count(x), truths -/
def rCntB (K : PySem.W.Frag) : V → List V → Hp → VK → Prop := fun x xs H Q => ∃ (p : Addr) (bs : List Bool) (k : Bool), x = .ref p ∧ xs = [.bl k] ∧ SqL K H p (bs.map V.bl) ∧ Q (.int (bs.count k : Nat)) H
theorem count_bl {k : Bool} : ∀ {bs : List Bool} {us : List Value}, Vals (bs.map V.bl) us → us.countP (eqU (.bl k)) = bs.count k
  | [], _, .nil => rfl
  | b :: bs, _, .cons r rs => by
    rw [List.countP_cons, List.count_cons, count_bl rs, eqU_of r rfl]
    rfl
theorem mt_countB : MtR X "list.count" (rCntB X.K) := by
  intro pins s σ H x xs v us Q I rx rxs h
  obtain ⟨p, bs, k, rfl, rfl, hs, q⟩ := h
  cases rx
  obtain ⟨u, rfl, ru⟩ := rxs.one
  obtain ⟨its, rv, ⟨⟨cls, dd, data, sl⟩, n, ho, hc, hdn, hd⟩, hlen⟩ := I.list hs
  simp only at hc hd
  subst hc hd
  have fl : (bs.map V.bl).all flatV = true := List.all_eq_true.mpr fun z hz => by obtain ⟨b, _, rfl⟩ := List.mem_map.mp hz; rfl
  refine call_meets PySem.F.slot_list_count ⟨_, ho, rfl⟩ PySem.F.entry_list_count (PySem.F.args_list_count_2 _ _)
    (SeqAt.list_countAt p its.toArray n dd sl u (eqU (.bl k))) ⟨ho, fun y hy => mem_eqAt ru rfl rv fl y (by simpa using hy), ?_⟩
  have ec : its.toArray.toList.countP (eqU (.bl k)) = bs.count k := count_bl rv
  refine ⟨.int (bs.count k : Nat), H, I.tok _, ⟨s.toks, ?_⟩, q⟩
  show Value.int ((its.toArray.toList.countP (eqU (.bl k)) : Nat) : Int) s.toks = Value.int ((bs.count k : Nat) : Int) s.toks
  rw [ec]
def countT (ts : List T) (t : T) : Option T := match blsOf ts, t with
  | some bs, .bl k => some (.int (bs.count k : Nat))
  | _, _ => none
def indexT (ts : List T) (t : T) : Option T := match blsOf ts, t with
  | some bs, .bl k => (bs.findIdx? (· == k)).map fun j => .int (j : Nat)
  | _, _ => none
theorem mt_count_t (hK : G.K = X.K) : MtT G X "list.count" countT := by
  refine ⟨_, mt_countB, fun w H Q a vs ts v t c e wf hs r rv q => ?_⟩
  unfold countT at e
  split at e
  · rename_i bs k hb
    cases e
    refine ⟨a, bs, k, rfl, by rw [rep_bl rv], ?_, q _ H (HExt.refl wf.tabs) (.int _)⟩
    rw [← blsOf_reps r hb, ← hK]
    exact hs
  · cases e
theorem mt_index_t (hK : G.K = X.K) : MtT G X "list.index" indexT := by
  refine ⟨_, mt_index, fun w H Q a vs ts v t c e wf hs r rv q => ?_⟩
  unfold indexT at e
  split at e
  · rename_i bs k hb
    cases hj : bs.findIdx? (· == k) with
    | none => rw [hj] at e; cases e
    | some j =>
      rw [hj] at e
      cases e
      obtain ⟨h1, h2, h3⟩ := List.findIdx?_eq_some_iff_getElem.mp hj
      have ev := blsOf_reps r hb
      subst ev
      have at_ : ∀ (m : Nat) (hm : m < bs.length), (bs.map V.bl)[m]? = some (.bl bs[m]) := fun m hm => by rw [List.getElem?_map, List.getElem?_eq_getElem hm]; rfl
      refine ⟨a, bs.map V.bl, .bl k, j, .bl bs[j], rfl, by rw [rep_bl rv], by rw [← hK]; exact hs, rfl, List.all_eq_true.mpr fun z hz => by obtain ⟨b, _, rfl⟩ := List.mem_map.mp hz; rfl, at_ j h1, h2, fun m z hm hz => ?_, q _ H (HExt.refl wf.tabs) (.int _)⟩
      have hml : m < bs.length := Nat.lt_trans hm h1
      rw [at_ m hml] at hz
      cases hz
      have := h3 m hm
      simpa [eqV] using this
  · cases e
end
end Tr
namespace Tr
open PySem PySem.Spec PyProof.Rows L2 GxR Gx
/-! ### t * k, s * k -/
theorem fold_rep {α : Type} (its : List α) : ∀ (m : Nat) (acc : List α), List.foldl (fun x1 x2 => x1 ++ x2) acc.toArray (List.replicate m its.toArray) = (acc ++ (List.replicate m its).flatten).toArray
  | 0, acc => by simp
  | m + 1, acc => by
    rw [List.replicate_succ, List.foldl_cons, List.append_toArray, fold_rep its m, List.replicate_succ, List.flatten_cons, List.append_assoc]
def rMulS : R2 := fun x y H Q => ∃ (s : List Nat) (k : Int), x = .str (S s) ∧ y = .int k ∧ s ≠ [] ∧ 2 ≤ k ∧ k ≤ 1000 ∧ s.length ≤ 1000 ∧ Q (.str (S (List.replicate k.toNat s).flatten)) H
theorem op_mulS {X : Cx} : OpR X (binaryOp .Mult) rMulS := by
  intro pins s σ H x y v u Q I rx ry h
  obtain ⟨l, k, rfl, rfl, hne, h2, h3, hl, q⟩ := h
  obtain ⟨t, rfl⟩ := rx
  obtain ⟨t2, rfl⟩ := ry
  refine SB.mul (mulOk_of 1000 1000 (by rw [S_length]; exact hl) (by omega) (by omega) (by decide) (by decide)) fun t' k' => ?_
  have hz : (S l).length ≠ 0 := by
    rw [S_length]
    intro z
    exact hne (List.eq_nil_of_length_eq_zero z)
  have e : Txt.mul (S l) k = S (List.replicate k.toNat l).flatten := by
    unfold Txt.mul
    have e2 : ¬ (k == 1 || (S l).length == 0) = true := by
      rw [Bool.or_eq_true]
      rintro (z | z)
      · have := beq_iff_eq.mp z; omega
      · exact hz (beq_iff_eq.mp z)
    rw [if_neg (by omega), if_neg e2]
    have := fold_rep l k.toNat []
    rw [List.nil_append] at this
    exact congrArg Str.mk this
  exact ⟨.str (S (List.replicate k.toNat l).flatten), H, I.tok _, ⟨t', by rw [e]⟩, q⟩
def mulX (s t : T) : Option T := match s, t with
  | .tup xs, .int k => if xs ≠ [] ∧ 2 ≤ k ∧ k ≤ 1000 ∧ xs.length ≤ 1000 then some (.tup (List.replicate k.toNat xs).flatten) else none
  | .str xs, .int k => if xs ≠ [] ∧ 2 ≤ k ∧ k ≤ 1000 ∧ xs.length ≤ 1000 then some (.str (List.replicate k.toNat xs).flatten) else none
  | _, _ => mulT s t
section
variable {G : GG} {X : Cx} {W : WX}
theorem Reps.rep {w : Wd} {H : Hp} {vs : List V} {ts : List T} (r : Reps G w H vs ts) : ∀ k : Nat, Reps G w H (List.replicate k vs).flatten (List.replicate k ts).flatten
  | 0 => .nil
  | k + 1 => by
    rw [List.replicate_succ, List.replicate_succ, List.flatten_cons, List.flatten_cons]
    exact r.append (Reps.rep r k)
theorem op_mul_x (hK : G.K = X.K) : OpT G X (binaryOp .Mult) mulX := by
  obtain ⟨r0, h0, q0⟩ := op_mul_t (G := G) (X := X)
  refine ⟨_, OpR.or h0 (OpR.or op_repT op_mulS), fun w H Q x y s t c e wf rx ry q => ?_⟩
  unfold mulX at e
  split at e
  · split at e
    · rename_i xs k hk
      cases e
      obtain ⟨_, a, vs, rfl, h1, h2, _⟩ := rv_tup rx
      refine .inr (.inl ⟨a, k, vs, rfl, rv_int ry, by rw [← hK]; exact h1, fun z => hk.1 ?_, hk.2.1, hk.2.2.1, by rw [h2.length]; exact hk.2.2.2, fun p hp => q _ _ (HExt.new wf.tabs hp) (new_tup hp (wf.new hp) (h2.rep _))⟩)
      have := h2.length
      rw [z] at this
      exact List.eq_nil_of_length_eq_zero this.symm
    · cases e
  · split at e
    · rename_i xs k hk
      cases e
      exact .inr (.inr ⟨xs, k, rv_str rx, rv_int ry, hk.1, hk.2.1, hk.2.2.1, hk.2.2.2, q _ H (HExt.refl wf.tabs) (.str _)⟩)
    · cases e
  · exact .inl (q0 w H Q x y s t c e wf rx ry q)
end
end Tr
namespace Tr
open PySem PySem.Spec PyProof.Rows L2 GxR Gx
/-! ### dict(pairs), the keys tuples of any kind -/
/-- a pair: where it stands, the key, where it stands, the value -/
structure PrN where
  at_ : Addr
  k : NestedKey
  ka : Addr
  v : V
def storeAllN (xs : List (NestedKey × Addr × V)) (ps : List PrN) : List (NestedKey × Addr × V) := ps.foldl (fun acc p => storeN acc p.k p.ka p.v) xs
def rDictN (P : Program) (w : World) (K : PySem.W.Frag) : List V → Hp → VK → Prop := fun xs H Q => ∃ (l : Addr) (ps : List PrN), xs = [.ref l] ∧ SqL K H l (ps.map fun p => V.ref p.at_) ∧ (∀ p ∈ ps, Rd H p.at_ (.tup [.ref p.ka, p.v]) ∧ NKey P w H p.ka p.k) ∧ ps.length ≤ sizeLine ∧
  ∀ D, H D = none → Q (.ref D) (upd H D (ND P w D (storeAllN [] ps)))
theorem PN.storeAll : ∀ {ps : List PrN} {us : List (NestedKey × Addr × Value)}, Paired (fun (p : PrN) (q : NestedKey × Addr × Value) => p.k = q.1 ∧ p.ka = q.2.1 ∧ RelV p.v q.2.2) ps us → ∀ {xs : List (NestedKey × Addr × V)} {ws : List (NestedKey × Addr × Value)}, PN xs ws → PN (storeAllN xs ps) (storedAllH ws us)
  | _, _, .nil, _, _, h => h
  | _, _, .cons (a := p) (b := q) r rs, xs, ws, h => by
    obtain ⟨qk, qa, qv⟩ := q
    obtain ⟨h1, h2, h3⟩ := r
    simp only at h1 h2 h3
    subst h1 h2
    exact PN.storeAll rs (h.store h3)
theorem vals_refs : ∀ {ps : List PrN} {its : List Value}, Vals (ps.map fun p => V.ref p.at_) its → its = ps.map fun p => Value.ref p.at_
  | [], _, .nil => rfl
  | p :: ps, _, .cons r rs => by
    rw [List.map_cons, ← vals_refs rs]
    exact congrArg (· :: _) r
theorem pairs_of {P : Program} {w : World} {H : Hp} {h : Heap} (ok : HOk P w H h) : ∀ {ps : List PrN}, (∀ p ∈ ps, Rd H p.at_ (.tup [.ref p.ka, p.v]) ∧ NKey P w H p.ka p.k) →
    ∃ us : List (NestedKey × Addr × Value), Paired (fun (p : PrN) (q : NestedKey × Addr × Value) => p.k = q.1 ∧ p.ka = q.2.1 ∧ RelV p.v q.2.2 ∧ PairAt h p.at_ (.ref q.2.1) q.2.2) ps us
  | [], _ => ⟨[], .nil⟩
  | p :: ps, hp => by
    obtain ⟨us, r⟩ := pairs_of ok fun q hq => hp q (List.mem_cons_of_mem _ hq)
    obtain ⟨h1, _⟩ := hp p (List.mem_cons_self ..)
    obtain ⟨_, its, rv, o, g1, g2, n, g3⟩ := h1.ok ok
    obtain ⟨u1, u2, rfl, r1, r2⟩ := vals2 rv
    obtain rfl : u1 = Value.ref p.ka := r1
    exact ⟨(p.k, p.ka, u2) :: us, .cons ⟨rfl, rfl, r2, .inl ⟨o, g1, g2, n, g3⟩⟩ r⟩
theorem pd_getR {α β : Type} {F : α → β → Prop} : ∀ {l₁ : List α} {l₂ : List β} {j : Nat} {b : β}, Paired F l₁ l₂ → l₂[j]? = some b → ∃ a, l₁[j]? = some a ∧ F a b
  | _, _, _, _, .nil, e => by simp at e
  | _, _, 0, _, .cons r _, e => by simp at e; subst e; exact ⟨_, rfl, r⟩
  | _, _, j + 1, _, .cons _ rs, e => by
    obtain ⟨a, h1, h2⟩ := pd_getR (j := j) rs (by simpa using e)
    exact ⟨a, by simpa using h1, h2⟩
theorem call_dictN {X : Cx} (hc : X.calm = true) (hu : X.A.units + 16 < cLine) : CallR X (.type "dict") (rDictN X.prog X.w X.K) := by
  intro pins s σ H xs us Q I r h
  obtain ⟨l, ps, rfl, hs, hps, hz, q⟩ := h
  obtain ⟨u, rfl, ru⟩ := vals1 r
  obtain rfl : u = Value.ref l := ru
  obtain ⟨its, rv, ⟨o, n, ho, hcl, hdn, hd⟩, hlen⟩ := I.list hs
  obtain ⟨us2, rp⟩ := pairs_of I.hok hps
  have hl : ps.length = us2.length := Paired.length rp
  have hits := vals_refs rv
  have hitem : ∀ (j : Nat) (p : PrN), ps[j]? = some p → its.toArray[j]? = some (Value.ref p.at_) := fun j p e => by rw [hits, List.getElem?_toArray, List.getElem?_map, e]; rfl
  have hpi : PairItems s.heap its.toArray (fun j => (ps.map (·.at_)).getD j 0) (us2.map fun u => (Value.ref u.2.1, u.2.2)) := by
    refine ⟨by rw [List.size_toArray, List.length_map, hits, List.length_map, hl], fun j k v e => ?_⟩
    rw [List.getElem?_map] at e
    cases hj : us2[j]? with
    | none => rw [hj] at e; cases e
    | some w =>
      rw [hj] at e
      cases e
      obtain ⟨p, e1, e2⟩ := pd_getR rp hj
      have e3 : (ps.map (·.at_)).getD j 0 = p.at_ := by rw [List.getD_eq_getElem?_getD, List.getElem?_map, e1]; rfl
      simp only [e3]
      exact ⟨hitem j p e1, e2.2.2.2⟩
  have is_ : ∀ h', (∀ b o, s.heap.get? b = some o → h'.get? b = some o) → ∀ x ∈ us2, (nestedKind X.prog X.w).is h' x.1 x.2.1 := fun h' hk x hx => by
    obtain ⟨j, hj⟩ := List.getElem?_of_mem hx
    obtain ⟨p, e1, e2⟩ := pd_getR rp hj
    obtain ⟨_, kd, ki⟩ := hps p (List.mem_of_getElem? e1)
    obtain ⟨e3, e4, _, _⟩ := e2
    rw [← e3, ← e4]
    exact ⟨NestedIs.at (fun b ob vs m hb hc => hk b ob hb) _ _ (ki _ I.hok), kd⟩
  have hn : (us2.map fun u => ((Value.ref u.2.1, u.2.2) : Value × Value)).length = us2.length := List.length_map ..
  refine call_dict_pairsH (knd := nestedKind X.prog X.w) (ps := us2) (PairArg.list l its.toArray _ _) (I.ok.hd hc) (by show X.A.in1.in1.units + 8 < cLine; simp only [Around.in1_units]; omega) ⟨⟨o, n, ho, hcl, hdn, hd⟩, hpi⟩ ⟨hn.symm, fun i key v e => ?_⟩ (fun h' hk x hx => is_ h' (fun b ob hb => hk b ob (Nat.ne_of_lt (Heap.lt_size hb)) (fun z => nomatch z) hb) x hx) (by rw [hn, ← hl]; exact hz) fun h' tk dd hk => ?_
  · have e : (us2.map fun u => ((Value.ref u.2.1, u.2.2) : Value × Value))[i]? = some (key, v) := e
    rw [List.getElem?_map] at e
    cases hj : us2[i]? with
    | none => rw [hj] at e; cases e
    | some w => rw [hj] at e; cases e; exact ⟨w.1, w.2.1, rfl, rfl⟩
  · have I1 : Inv X pins σ H { s with heap := h', toks := tk } := I.kept fun b o e => hk b o (fun z => nomatch z) e
    have hm : (s.heap.objs.size == sysModules) = false := beq_eq_false_iff_ne.mpr (Nat.ne_of_gt I.big)
    obtain ⟨o2, es, ep, g1, g2, g3, g4, _, g6⟩ := dd
    have hp := PN.storeAll (L2.Paired.mapP rp fun _ _ h => ⟨h.1, h.2.1, h.2.2.1⟩) (show PN [] [] from .nil)
    exact ⟨.ref s.heap.objs.size, upd H s.heap.objs.size (ND X.prog X.w s.heap.objs.size (storeAllN [] ps)), I.laid (t' := tk) (fun b u e => hk b u (fun z => nomatch z) e) (Nat.le_refl _)
      (nd_ok ⟨hm, _, hp, o2, es, ep, g1, g2, g3, g4, g6⟩), rfl, q _ (I.hok.fresh (Nat.le_refl _))⟩
end Tr
namespace Tr
open PySem PySem.W PySem.Spec PyProof.Rows L2 GxR Gx
/-! ### list(d), the keys tuples of any kind -/
def rListN (P : Program) (w : World) : List V → Hp → VK → Prop := fun xs H Q => ∃ a ys, xs = [.ref a] ∧ H a = some (ND P w a ys) ∧ ys.length ≤ sizeLine ∧ ∀ p, H p = none → Q (.ref p) (upd H p (.lst (ys.map fun y => V.ref y.2.1)))
theorem keysN_at {P : Program} {w : World} {ys : List (NestedKey × Addr × V)} {us : List (NestedKey × Addr × Value)} (rp : PN ys us) {acc : List Value} {es : Array DictEntry} (he : es.toList = us.map (entryOfKey (nestedKind P w))) (hl : acc.length = es.size) (h : ∀ j v, acc[j]? = some v → ∃ hi : j < es.size, v = es[j].key) : Vals (ys.map fun y => V.ref y.2.1) acc := by
  have hz : es.size = us.length := by rw [← Array.length_toList, he, List.length_map]
  refine vals_of_at (by rw [List.length_map, hl, hz, Paired.length rp]) fun j x v h1 h2 => ?_
  obtain ⟨hi, e⟩ := h j v h2
  rw [List.getElem?_map] at h1
  cases hy : ys[j]? with
  | none => rw [hy] at h1; cases h1
  | some y =>
    rw [hy] at h1
    cases h1
    have hj : j < us.length := by omega
    obtain ⟨y2, e1, e2⟩ := pd_getR rp (List.getElem?_eq_getElem hj)
    rw [hy] at e1
    cases e1
    have e3 : es[j] = entryOfKey (nestedKind P w) us[j] := by
      have q1 : es.toList[j]? = some es[j] := by rw [Array.getElem?_toList]; exact Array.getElem?_eq_getElem hi
      rw [he, List.getElem?_map, List.getElem?_eq_getElem hj] at q1
      exact (Option.some.inj q1).symm
    rw [e, e3]
    show Value.ref us[j].2.1 = Value.ref y.2.1
    rw [e2.2.1]
theorem call_listNn {X : Cx} (hcalm : X.calm = true) : CallR X (.type "list") (rListN X.prog X.w) := by
  intro pins s σ H xs us Q I r q
  obtain ⟨a, ys, rfl, hH, z, q⟩ := q
  obtain ⟨u, rfl, ru⟩ := vals1 r
  obtain rfl : u = Value.ref a := ru
  obtain ⟨⟨lo, us2, rp, o, es, ep, h1, h2, h3, h4, h5⟩, _⟩ := (show ObjOk X.prog X.w H s.heap a (ND X.prog X.w a ys) from I.hok a _ hH)
  have hz : es.size = us2.length := by rw [← Array.length_toList, h4, List.length_map]
  refine PySem.W.kdl_call (KdlSrc.rawDict (es := es) (ep := ep) lo) (I.ok.hd hcalm) ⟨o, h1, h2, h3⟩ (by rw [hz, ← Paired.length rp]; exact z) fun h' tk acc c' hk hD hacc => ?_
  have hv : Vals (ys.map fun y => V.ref y.2.1) acc.toList := keysN_at rp h4 (by rw [Array.length_toList]; exact hacc.1) fun j v e => hacc.2 j v (by rw [← Array.getElem?_toList]; exact e)
  refine ⟨.ref s.heap.objs.size, upd H s.heap.objs.size (.lst (ys.map fun y => V.ref y.2.1)), I.laid (t' := tk) hk (Nat.le_refl _)
    (show ObjOk X.prog X.w _ _ _ (.lst (ys.map fun y => V.ref y.2.1)) from ⟨by rw [List.length_map]; exact z, acc.toList, c', hv, by rw [Array.toArray_toList]; exact hD⟩), rfl, q _ (I.hok.fresh (Nat.le_refl _))⟩
def listNX : List T → Option (List T)
  | [.dcN kvs] => if kvs.length ≤ 16777216 then some (kvs.map (·.1)) else none
  | [.dct kvs] => some (kvs.map (·.1))
  | ts => listN ts
/-- where each key stands, and its tree -/
theorem repN_keysL {G : GG} {w : Wd} {H : Hp} : ∀ {xs : List (NestedKey × Addr × V)} {ts : List (T × T)}, RepN G w H xs ts → Reps G w H (xs.map fun y => V.ref y.2.1) (ts.map (·.1))
  | _, _, .nil => .nil
  | _, _, .cons r _ _ rs => .cons r (repN_keysL rs)
section
variable {G : GG} {X : Cx} {W : WX}
theorem calln_list_x (hK : G.K = X.K) (hc : X.calm = true) (hP : G.prog = X.prog := by rfl) (hW : G.wld = X.w := by rfl) : CallN G X (.type "list") listNX := by
  obtain ⟨r0, h0, q0⟩ := calln_list (G := G) (X := X) hK
  refine ⟨_, CallR.or h0 (CallR.or (call_listNn hc) (call_listD hc)), fun w H Q vs ts c e wf rs q => ?_⟩
  unfold listNX at e
  split at e
  · split at e
    · rename_i hz
      cases e
      obtain ⟨v, rfl, r⟩ := rvs1 rs
      obtain ⟨a, ys, rfl, hH, rn⟩ := rv_dcN r
      exact .inr (.inl ⟨a, ys, rfl, by rw [← hP, ← hW]; exact hH, by rw [rn.length, sz_eq]; exact hz, fun p hp => q p _ H (HExt.refl wf.tabs) hp (repN_keysL rn)⟩)
    · cases e
  · cases e
    obtain ⟨v, rfl, r⟩ := rvs1 rs
    obtain ⟨a, kv, rfl, hH, rd⟩ := rv_dct r
    exact .inr (.inr ⟨a, kv, rfl, .inl hH, fun p hp => q p _ H (HExt.refl wf.tabs) hp (repD_keys rd)⟩)
  · exact .inl (q0 w H Q vs ts c e wf rs q)
/-! ### dict(pairs) -/
def pairsT : List T → Option (List (List T × T))
  | [] => some []
  | .tup [.tup n, v] :: ts => (pairsT ts).map ((n, v) :: ·)
  | _ :: _ => none
def putAllN : List (T × T) → List (List T × T) → Option (List (T × T))
  | acc, [] => some acc
  | acc, (n, v) :: ps => (match nkOf (.tup n) with
    | some key => if key.depth ≤ 8 then putAllN (putG nkOf acc (.tup n) v) ps else none
    | none => none)
def dictN : List T → Option T
  | [.lst ts] => (match pairsT ts with
    | some ps => if ps.length ≤ 16777216 then (putAllN [] ps).map .dcN else none
    | none => none)
  | _ => none
theorem dictN_reps {P : Program} {wd' : World} {w : Wd} {H : Hp} : ∀ {vs : List V} {ts : List T} {ps : List (List T × T)} {acc out : List (T × T)} {xs : List (NestedKey × Addr × V)}, Reps G w H vs ts → pairsT ts = some ps → putAllN acc ps = some out → RepN G w H xs acc →
    ∃ qs : List PrN, vs = qs.map (fun p => V.ref p.at_) ∧ (∀ p ∈ qs, Rd H p.at_ (.tup [.ref p.ka, p.v]) ∧ NKey P wd' H p.ka p.k) ∧ qs.length = ps.length ∧ RepN G w H (storeAllN xs qs) out
  | _, _, _, _, _, _, .nil, e, e2, r => by cases e; cases e2; exact ⟨[], rfl, (fun _ h => nomatch h), rfl, r⟩
  | v :: vs, t :: ts, _, acc, out, xs, .cons r rs, e, e2, rn => by
    unfold pairsT at e
    split at e
    · rename_i heq; cases heq
    · rename_i n z ts' heq
      cases heq
      cases hp : pairsT ts with
      | none => rw [hp] at e; cases e
      | some ps =>
        rw [hp] at e
        cases e
        unfold putAllN at e2
        split at e2
        · rename_i key hk
          split at e2
          · rename_i hd
            cases r with
            | tup he hR q =>
              cases q with
              | cons r1 q =>
                cases q with
                | cons r2 q =>
                  cases q
                  obtain ⟨ka, vs', rfl, _⟩ := rep_tup r1
                  obtain ⟨qs, h1, h2, h3, h4⟩ := dictN_reps rs hp e2 (rn.put r1 hk r2)
                  exact ⟨⟨_, key, ka, _⟩ :: qs, by rw [List.map_cons, ← h1], fun p hp => by
                    rcases List.mem_cons.mp hp with rfl | hp
                    · exact ⟨hR, RepN.nkey r1 hk hd⟩
                    · exact h2 p hp, by rw [List.length_cons, List.length_cons, h3], h4⟩
          · cases e2
        · cases e2
    · cases e
theorem call_dict_t (hK : G.K = X.K) (hc : X.calm = true) (hu : X.A.units + 16 < cLine) (hP : G.prog = X.prog := by rfl) (hW : G.wld = X.w := by rfl) : CallT G X (.type "dict") dictN := by
  refine ⟨_, call_dictN hc hu, fun w H Q vs ts c e wf rs q => ?_⟩
  unfold dictN at e
  split at e
  · rename_i ts
    obtain ⟨v, rfl, r⟩ := rvs1 rs
    obtain ⟨l, vs, rfl, h1, h2⟩ := rv_lst r
    split at e
    · rename_i ps hp
      split at e
      · rename_i hz
        cases ho : putAllN [] ps with
        | none => rw [ho] at e; cases e
        | some out =>
          rw [ho] at e
          cases e
          obtain ⟨qs, e1, e2, e3, e4⟩ := dictN_reps (P := X.prog) (wd' := X.w) h2 hp ho .nil
          subst e1
          refine ⟨l, qs, rfl, by rw [← hK]; exact h1, e2, by rw [e3, sz_eq]; exact hz, fun D hD => q _ _ (HExt.new wf.tabs hD) (.dctN (wf.new hD) (by rw [hP, hW]; exact upd_same) ?_)⟩
          exact e4.stab (Keep.new0 hD)
      · cases e
    · cases e
  · cases e
end
end Tr
namespace Tr
open PySem L2 GxR Gx
/-! ### a dict that will be changed -/
def fOwnD0 : FE := fun ρ => .ok (.ref ρ.mu.length, ⟨ρ.sl, ρ.mu ++ [.dct []]⟩)
section
variable {G : GG} {X : Cx} {W : WX}
theorem pef_dctO {pos} : PEf G X W (.Dict [] [] pos) fOwnD0 :=
  ⟨_, pe_dnewK, fun F α ρ σ H Q r s D hD => by
    have hp : ∀ p ∈ F.pin, F.O p.1 := fun p hp => (r.pin p hp).2.1
    obtain ⟨r2, q2⟩ := (r.addNew (o := .dK []) hD).own (n := .dct []) ⟨_, _, upd_same, .k [], .nil⟩ (fun z => by obtain ⟨u, e⟩ := r.exs D z; rw [hD] at e; cases e) (fun z => by obtain ⟨u, e⟩ := r.there D z; rw [hD] at e; cases e) trivial (r.fresh0 hD) hp ⟨_, upd_same⟩
    exact s _ _ _ r2 q2⟩
/-! ### classes of errors -/
structure ExD (K : PySem.W.Frag) (mg : Str → Option Value) (G : GG) (x : Str) : Prop where
  ex : ∃ C, ExcK K mg x C ∧ G.ecl x = some C
theorem ps_raised {x m : Str} {j} {p p2 pos pos2 : Pos} (hc : X.calm = true) (tk : Takes X W) (k : ExD X.K X.mg G x) (hX : G.exr = exrOf G.ecl) (hg : Gl X x) (hdb : (x == ("__debug__" : Str)) = false := by decide) :
    PSf G X W (.Raise (some (.Call (.Name x p) [.Constant (.str m) j p2] [] pos)) none pos2) (fRaise x) := by
  obtain ⟨C, h1, h2⟩ := k.ex
  exact ps_raisef hc tk h1 hg (fun H => by rw [hX]; exact ⟨rfl, rfl, C, h2, rfl⟩) hdb
theorem pef_clx {x : Str} {pos : Pos} (hg : Gl X x) (k : ExD X.K X.mg G x) (hd : (x == ("__debug__" : Str)) = false := by decide) : PEf G X W (.Name x pos) (fC (.cl x)) := by
  obtain ⟨C, h1, h2⟩ := k.ex
  exact pef_cl hg h1.gl h2 hd
structure ClD (mg : Str → Option Value) (G : GG) (x : Str) : Prop where
  ex : ∃ C, mg x = some (.ref C) ∧ G.ecl x = some C
theorem ExD.cl {x : Str} (k : ExD X.K X.mg G x) : ClD X.mg G x := let ⟨C, h1, h2⟩ := k.ex; ⟨C, h1.gl, h2⟩
theorem pef_clv {x : Str} {pos : Pos} (hg : Gl X x) (k : ClD X.mg G x) (hd : (x == ("__debug__" : Str)) = false := by decide) : PEf G X W (.Name x pos) (fC (.cl x)) := by
  obtain ⟨C, h1, h2⟩ := k.ex
  exact pef_cl hg h1 h2 hd
/-- try: .. except x as n: y = n -/
theorem ps_tryd {x n y : Str} {i j : Nat} {body : List Stmt} {np nq py pa pos pos' : Pos} {catches : Str → Option Bool} {fb : FS} (hst : X.stack = X.env :: X.outer) (hfm : X.env.frame = some X.env.locals) (hex : X.ex = []) (nod : X.N.Nodup) (hi : X.N[i]? = some n) (ln : X.env.kindOf n = some .local)
    (hj : X.N[j]? = some y) (ly : X.env.kindOf y = some .local) (hg : Gl X x) (k : ClD X.mg G x) (tk : Takes X W) (hX : G.exr = exrOf G.ecl) (hcat : ∀ e C D b, G.ecl e = some C → G.ecl x = some D → catches e = some b → PySem.W.exmOne X.K (.ref C) (.ref D) = some b)
    (bodyOk : ∀ (W' : WX) (pn : List (Addr × Obj)) (xe : Value → Shared → Prop), Takes (X.tr pn xe) W' → PassesOwn (model X.prog X.w) X.A X.env xe → PSsf G (X.tr pn xe) W' body fb)
    (sw : swapsWith (.Name n nq) (some (.Name y py)) pa.line X.env = pure false := by rfl) (hdn : (n == ("__debug__" : Str)) = false := by decide) (hcn : (n == ("__classdict__" : Str)) = false := by decide) (hdx : (x == ("__debug__" : Str)) = false := by decide) :
    PSf G X W (.Try body [.ExceptHandler (some (.Name x np)) (some n) [.Assign [.Name y py] (.Name n nq) pa] pos'] [] [] pos) (fTry catches i j fb) := by
  obtain ⟨D, h1, h2⟩ := k.ex
  exact ps_tryf (c := .ref D) hst hfm hex nod hi ln hj ly ⟨hg, hdx, .inl h1⟩ tk hX (fun e C b he hb => hcat e C D b he h2 hb) bodyOk sw hdn hcn
/-- {s: e} -/
def fDisp1 (k : List Nat) (fv : FE) : FE := fun ρ => (noExc (fv ρ)).bind fun p => .ok (.dct [(.str k, p.1)], p.2)
theorem pef_disp1 {x : Str} {j} {e : Expr} {l : List Nat} {fv : FE} {p pos : Pos} (hv : PEf G X W0 e fv) (hx : x = S l := by rfl) : PEf G X W0 (.Dict [some (.Constant (.str x) j p)] [e] pos) (fDisp1 l fv) := by
  subst hx
  obtain ⟨tk, pk, qk⟩ := pef_str (G := G) (X := X) (W := W0) (j := j) (pos := p) (l := l) (x := S l) rfl
  obtain ⟨tv, pv, qv⟩ := hv
  refine ⟨_, pe_disp (pps_cons pk pv pps_nil) rfl rfl (by simp) (by simp), fun F α ρ σ H Q r s D hD => ?_⟩
  have r1 := fd_in (hs := []) ((r.addNew (o := .dK []) hD).hold (v := .non) (t := .non) .non) upd_same trivial (fun p hp => nomatch hp) (r.fresh0 hD)
  have hpin : ∀ p ∈ F.pin, F.O p.1 := fun p hp => (r.pin p hp).2.1
  refine qk _ α ρ σ _ _ r1 fun v α1 H1 r2 q2 => ?_
  refine qv _ α1 ρ σ H1 _ (r2.hold q2) ?_
  unfold fDisp1 at s
  cases hf : fv ρ with
  | stk => rw [hf] at s; exact s
  | exc y ρ' => rw [hf] at s; exact False.elim s
  | ok p =>
    rw [hf] at s
    intro v2 α2 H2 r3 q3
    obtain ⟨o1, o2, _⟩ := fd_out r3.unhold hpin
    refine ⟨o2, [(.inr (S l), v2)], ?_, Nat.le_of_ble_eq_true rfl, ?_⟩
    · rw [rep_str r3.held]; rfl
    · have ex : (wd (F.add D) α2 p.2.mu).E D := .inl (.inr rfl)
      have nOD : ¬ F.O D := fun z => by obtain ⟨u, e⟩ := r.exs D z; rw [hD] at e; cases e
      have hpinD : ∀ p ∈ F.pin, p.1 ≠ D := fun p hp z => by have := (r.pin p hp).1; rw [z, hD] at this; cases this
      have r4 := o1.mutO (o := .dK (mergeK [] [(.inr (S l), v2)])) (.inr rfl) o2 trivial (r.fresh0 hD) hpinD
      have k : Keep (wd (F.add D) α2 p.2.mu) (upd H2 D (.dK (mergeK [] [(.inr (S l), v2)]))) (wd F α2 p.2.mu) (upd H2 D (.dK (mergeK [] [(.inr (S l), v2)]))) := Keep.less (fun a ha => ha.imp .inl id) fun _ _ h => h
      have nE : ¬ (wd F α2 p.2.mu).E D := fun z => z.elim nOD fun ⟨i, n, _, _, h3⟩ => r4.apart D (List.mem_of_getElem? h3) (.inr rfl)
      have q4 := (q3.stab (Keep.mut (o := .dK (mergeK [] [(.inr (S l), v2)])) ex)).stab k
      exact s (.ref D) α2 _ ((r4.unhold).unadd hpin) (.dct nE upd_same (.k _) (.cons q4 .nil))
/-! ### dict comprehensions of the two kinds -/
theorem pef_dcK {kx vx tg iter : Expr} {ifs : List Expr} {scope : Scope} {own : List (Str × Nat)} {pos : Pos} {fi : FI} {fg : FG} {ft : FB} {fk fv : FE} (hc : X.calm = true) (hN : X.N.Nodup) (hi : PIf G X W tg iter fi) (ok : BlkOk X.N X.env.scope scope own)
    (hg : ∀ (s : Shared) (H : Hp) (C : Addr) (cl : List (Str × Addr)) (fp : List Addr), PGf G (X.blk s H scope (compEnvC scope cl C X.env) fp) W0 tg (own.map (·.2)) fg)
    (ht : ∀ (s : Shared) (H : Hp) (C : Addr) (cl : List (Str × Addr)) (fp : List Addr), PTsf G (X.blk s H scope (compEnvC scope cl C X.env) fp) W0 ifs ft)
    (hk : ∀ (s : Shared) (H : Hp) (C : Addr) (cl : List (Str × Addr)) (fp : List Addr), PEf G (X.blk s H scope (compEnvC scope cl C X.env) fp) W0 kx fk)
    (hv : ∀ (s : Shared) (H : Hp) (C : Addr) (cl : List (Str × Addr)) (fp : List Addr), PEf G (X.blk s H scope (compEnvC scope cl C X.env) fp) W0 vx fv)
    (hs : ∀ x, foldedSetIterable iter X.env x = pure x := by intro _; rfl) : PEf G X W (.DictComp kx vx [⟨tg, iter, ifs, 0⟩] scope pos) (fDc .dct putKT (own.map (·.2)) fi fg ft fk fv) :=
  pef_dc (dkdK G) hc hN hi ok hg ht hk hv newK stK_ok hs
theorem pef_dcN {kx vx tg iter : Expr} {ifs : List Expr} {scope : Scope} {own : List (Str × Nat)} {pos : Pos} {fi : FI} {fg : FG} {ft : FB} {fk fv : FE} (hu : X.A.units + 8 < cLine) (hP : G.prog = X.prog) (hW : G.wld = X.w) (hc : X.calm = true) (hN : X.N.Nodup) (hi : PIf G X W tg iter fi) (ok : BlkOk X.N X.env.scope scope own)
    (hg : ∀ (s : Shared) (H : Hp) (C : Addr) (cl : List (Str × Addr)) (fp : List Addr), PGf G (X.blk s H scope (compEnvC scope cl C X.env) fp) W0 tg (own.map (·.2)) fg)
    (ht : ∀ (s : Shared) (H : Hp) (C : Addr) (cl : List (Str × Addr)) (fp : List Addr), PTsf G (X.blk s H scope (compEnvC scope cl C X.env) fp) W0 ifs ft)
    (hk : ∀ (s : Shared) (H : Hp) (C : Addr) (cl : List (Str × Addr)) (fp : List Addr), PEf G (X.blk s H scope (compEnvC scope cl C X.env) fp) W0 kx fk)
    (hv : ∀ (s : Shared) (H : Hp) (C : Addr) (cl : List (Str × Addr)) (fp : List Addr), PEf G (X.blk s H scope (compEnvC scope cl C X.env) fp) W0 vx fv)
    (hs : ∀ x, foldedSetIterable iter X.env x = pure x := by intro _; rfl) : PEf G X W (.DictComp kx vx [⟨tg, iter, ifs, 0⟩] scope pos) (fDc .dcN putNT (own.map (·.2)) fi fg ft fk fv) :=
  pef_dc (o0 := fun D => ND G.prog G.wld D []) (st := stN G.prog G.wld) (dkdN G) hc hN hi ok hg ht hk hv (by rw [hP, hW]; exact newN) (by rw [hP, hW]; exact stN_ok hu) hs
end
/-! ### enumerate(list) -/
section
variable {G : GG} {X : Cx} {W : WX}
theorem jok_enumL {a : Addr} {ts : List T} (hK : G.K = X.K) : JOk G (Ite X.K a) (enumF ts) (.ref a) (.lst ts) := fun w H wf r i => by
  obtain ⟨b, vs, e, h1, h2⟩ := rv_lst r
  cases e
  rw [hK] at h1
  refine ⟨fun hi => ⟨vs, h1, by rw [h2.length]; simpa [enumF] using hi⟩, fun t ht => ?_⟩
  obtain ⟨u, hu, rfl⟩ := enumF_at ht
  obtain ⟨v, h3, h4⟩ := h2.get hu
  refine ⟨⟨vs, v, h1, h3⟩, fun x H2 ⟨T0, x0, e1, e2, e3, e4⟩ => ?_⟩
  subst e1 e3
  have h5 := e4 vs h1
  rw [h3] at h5
  cases h5
  exact ⟨HExt.new wf.tabs e2, new_tup e2 (wf.new e2) (.cons (.int _) (.cons h4 .nil))⟩
def fEnumL (fas : FA) : FI := fun ρ => (fas ρ).bind fun p => match p.1 with
  | [t] => (match vw p.2.mu t with
    | .lst ts => .ok (⟨enumF ts, t, .lst ts⟩, p.2)
    | _ => .stk)
  | _ => .stk
theorem pif_enumL {a : Expr} {fas : FA} {p pos tpos : Pos} {elts : List Expr} {kk : Nat} (hK : G.K = X.K) (hg : Gl X "enumerate") (hm : X.mg "enumerate" = none) (ha : PAf G X W [a] fas) (hs : starEach [a] X.env = [(false, eval a X.env)] := by rfl) : PIf G X W (.Tuple elts kk tpos) (.Call (.Name "enumerate" p) [a] [] pos) (fEnumL fas) := by
  obtain ⟨ta, pa, ha⟩ := ha
  refine ⟨_, pi_enum hg hm pa hs, fun F α ρ σ H Rr r s => ha F α ρ σ H _ r (satA_bind (isI (Rr := Rr)) s fun ts ρ1 vs α1 H1 e0 r1 q1 s1 => ?_)⟩
  dsimp only at s1
  split at s1
  · obtain ⟨v, rfl, q2⟩ := reps1 q1
    split at s1
    · rename_i ts hu
      have q3 := r1.vw q2
      rw [hu] at q3
      obtain ⟨a, vs, rfl, h1, h2⟩ := rv_lst q3
      exact ⟨a, vs, rfl, by rw [← hK]; exact h1, s1 _ α1 H1 _ r1 q2 hu (jok_enumL hK)⟩
    · exact s1.elim
  · exact s1.elim
end
theorem hu8 {k : Nat} {A : Around} (r : Room k A) : A.units + 8 < cLine := by have := r.un; omega
theorem hu16 {k : Nat} {A : Around} (r : Room k A) : A.units + 16 < cLine := by have := r.un; omega
end Tr
namespace Tr
open PySem L2 GxR Gx
theorem lcLoop_eq {g : FG} {ft : FB} {fe : FE} {vs : List Nat} {t0 u : T} {ρ : Env} (p : T → Bool) (h : T → T) (st : stays ρ.mu t0 u = true) : ∀ (ts acc : List T), (∀ t ∈ ts, ∃ ρ1, g t ρ = .ok ρ1 ∧ ft ρ1 = .ok (p t, ρ1) ∧ (p t = true → fe ρ1 = .ok (h t, ρ1)) ∧ wipeE ρ1 vs = ρ) →
    acc.length + ts.length ≤ 16777216 → lcLoop vs g ft fe t0 u ts ρ acc = .ok (acc ++ (ts.filter p).map h, ρ)
  | [], acc, _, _ => by unfold lcLoop; rw [if_pos st]; simp
  | t :: ts, acc, hs, hl => by
    obtain ⟨ρ1, e1, e2, e3, e4⟩ := hs t (List.mem_cons_self ..)
    have hl' : acc.length + (ts.length + 1) ≤ 16777216 := hl
    unfold lcLoop
    rw [if_pos st, e1]
    simp only [R.bind]
    rw [e2]
    simp only []
    cases hp : p t with
    | true =>
      rw [if_pos rfl, e3 hp]
      simp only []
      rw [if_pos (by omega), e4, lcLoop_eq p h st ts _ (fun x hx => hs x (List.mem_cons_of_mem _ hx)) (by rw [List.length_append, List.length_singleton]; omega)]
      rw [List.filter_cons, if_pos hp]
      simp
    | false =>
      rw [if_neg (by simp), e4, lcLoop_eq p h st ts _ (fun x hx => hs x (List.mem_cons_of_mem _ hx)) (by omega)]
      rw [List.filter_cons, if_neg (by simp [hp])]
theorem aaLoop_all {g : FG} {ft : FB} {fe : FE} {vs : List Nat} {t0 u : T} {ρ : Env} (h : T → Bool) (st : stays ρ.mu t0 u = true) (hw : wipeE ρ vs = ρ) : ∀ (ts : List T), (∀ t ∈ ts, ∃ ρ1, g t ρ = .ok ρ1 ∧ ft ρ1 = .ok (true, ρ1) ∧ fe ρ1 = .ok (.bl (h t), ρ1) ∧ wipeE ρ1 vs = ρ) →
    ∃ ρ', aaLoop false vs g ft fe t0 u ts ρ = .ok (ts.all h, ρ') ∧ wipeE ρ' vs = ρ
  | [], _ => ⟨ρ, by unfold aaLoop; rw [if_pos st]; rfl, hw⟩
  | t :: ts, hs => by
    obtain ⟨ρ1, e1, e2, e3, e4⟩ := hs t (List.mem_cons_self ..)
    unfold aaLoop
    rw [if_pos st, e1]
    simp only [R.bind]
    rw [e2]
    simp only [if_true]
    rw [e3]
    simp only []
    cases hh : h t with
    | true =>
      obtain ⟨ρ', q1, q2⟩ := aaLoop_all h st hw ts (fun x hx => hs x (List.mem_cons_of_mem _ hx))
      exact ⟨ρ', by rw [if_neg (by simp), e4, q1]; simp [hh], q2⟩
    | false => exact ⟨ρ1, by rw [if_pos rfl]; simp [hh], e4⟩
theorem aaLoop_any {g : FG} {ft : FB} {fe : FE} {vs : List Nat} {t0 u : T} {ρ : Env} (h : T → Bool) (st : stays ρ.mu t0 u = true) (hw : wipeE ρ vs = ρ) : ∀ (ts : List T), (∀ t ∈ ts, ∃ ρ1, g t ρ = .ok ρ1 ∧ ft ρ1 = .ok (true, ρ1) ∧ fe ρ1 = .ok (.bl (h t), ρ1) ∧ wipeE ρ1 vs = ρ) →
    ∃ ρ', aaLoop true vs g ft fe t0 u ts ρ = .ok (ts.any h, ρ') ∧ wipeE ρ' vs = ρ
  | [], _ => ⟨ρ, by unfold aaLoop; rw [if_pos st]; rfl, hw⟩
  | t :: ts, hs => by
    obtain ⟨ρ1, e1, e2, e3, e4⟩ := hs t (List.mem_cons_self ..)
    unfold aaLoop
    rw [if_pos st, e1]
    simp only [R.bind]
    rw [e2]
    simp only [if_true]
    rw [e3]
    simp only []
    cases hh : h t with
    | false =>
      obtain ⟨ρ', q1, q2⟩ := aaLoop_any h st hw ts (fun x hx => hs x (List.mem_cons_of_mem _ hx))
      exact ⟨ρ', by rw [if_neg (by simp), e4, q1]; simp [hh], q2⟩
    | true => exact ⟨ρ1, by rw [if_pos rfl]; simp [hh], e4⟩
theorem k_ss : kitB "str" "str" = some true := by decide +kernel
theorem k_ns : kitB "NoneType" "str" = some false := by decide +kernel
theorem k_bs : kitB "bool" "str" = some false := by decide +kernel
theorem k_is' : kitB "int" "str" = some false := by decide +kernel
theorem k_ts : kitB "tuple" "str" = some false := by decide +kernel
theorem k_ls : kitB "list" "str" = some false := by decide +kernel
theorem k_ds : kitB "dict" "str" = some false := by decide +kernel
theorem k_st : kitB "str" "tuple" = some false := by decide +kernel
theorem k_nt : kitB "NoneType" "tuple" = some false := by decide +kernel
theorem k_bt : kitB "bool" "tuple" = some false := by decide +kernel
theorem k_it : kitB "int" "tuple" = some false := by decide +kernel
theorem k_tt : kitB "tuple" "tuple" = some true := by decide +kernel
theorem k_lt : kitB "list" "tuple" = some false := by decide +kernel
theorem k_dt : kitB "dict" "tuple" = some false := by decide +kernel
theorem k_bb : kitB "bool" "bool" = some true := by decide +kernel
/-- the kinds of things that the tests of a kind tell -/
def T.base : T → Bool
  | .ty _ => false
  | .obj _ _ => false
  | .ref _ => false
  | .exo _ => false
  | .cl _ => false
  | _ => true
def isStr : T → Bool
  | .str _ => true
  | _ => false
def isTup : T → Bool
  | .tup _ => true
  | _ => false
theorem isi_str {t : T} (h : t.base = true) : isiT [t, .ty "str"] = some (.bl (isStr t)) := by
  cases t <;> first | (cases h; done) | (simp [isiT, tyN, isStr, k_ss, k_ns, k_bs, k_is', k_ts, k_ls, k_ds])
theorem isi_tup {t : T} (h : t.base = true) : isiT [t, .ty "tuple"] = some (.bl (isTup t)) := by
  cases t <;> first | (cases h; done) | (simp [isiT, tyN, isTup, k_st, k_nt, k_bt, k_it, k_tt, k_lt, k_dt])
theorem isi_bool {b : Bool} : isiT [.bl b, .ty "bool"] = some (.bl true) := by simp [isiT, tyN, k_bb]
theorem rb_ok {α β : Type} (a : α) (k : α → R β) : R.bind (.ok a) k = k a := rfl
theorem rb_exc {α β : Type} (x : Exc) (ρ : Env) (k : α → R β) : R.bind (.exc x ρ) k = .exc x ρ := rfl
theorem rb_stk {α β : Type} (k : α → R β) : R.bind (.stk) k = .stk := rfl
theorem fz_nr {μ : List Node} {k : Nat} {t : T} (h : t.nr = true) : fz μ k t = some t := by
  cases k <;> unfold fz <;> exact if_pos h
theorem mapO_nr {μ : List Node} {k : Nat} : ∀ {ts : List T}, T.nrs ts = true → mapO (fz μ k) ts = some ts
  | [], _ => rfl
  | t :: ts, h => by
    rw [T.nrs, Bool.and_eq_true] at h
    unfold mapO
    rw [fz_nr h.1, mapO_nr h.2]
theorem fz_lst {μ : List Node} {k i : Nat} {ts : List T} (h : μ[i]? = some (.lst ts)) (n : T.nrs ts = true) : fz μ (k + 1) (.ref i) = some (.lst ts) := by
  unfold fz
  rw [if_neg (by simp [T.nr])]
  simp only [h]
  rw [mapO_nr n]
  rfl
theorem nrs_append : ∀ {a b : List T}, T.nrs (a ++ b) = (T.nrs a && T.nrs b)
  | [], b => by simp [T.nrs]
  | x :: a, b => by rw [List.cons_append, T.nrs, T.nrs, nrs_append, Bool.and_assoc]
theorem nrs_mem : ∀ {a : List T}, (∀ t ∈ a, t.nr = true) → T.nrs a = true
  | [], _ => by simp [T.nrs]
  | x :: a, h => by rw [T.nrs, h x (List.mem_cons_self ..), nrs_mem fun t ht => h t (List.mem_cons_of_mem _ ht)]; rfl
theorem mem_nrs : ∀ {a : List T}, T.nrs a = true → ∀ t ∈ a, t.nr = true
  | [], _, t, h => by cases h
  | x :: a, n, t, h => by
    rw [T.nrs, Bool.and_eq_true] at n
    rcases List.mem_cons.mp h with e | h
    · rw [e]; exact n.1
    · exact mem_nrs n.2 t h
end Tr
namespace Tr
open PySem L2 GxR Gx
/-! ### symbolic runs -/
theorem nr_non : T.nr .non = true := by simp [T.nr]
theorem nr_bl (b : Bool) : T.nr (.bl b) = true := by simp [T.nr]
theorem nr_int (i : Int) : T.nr (.int i) = true := by simp [T.nr]
theorem nr_str (s : List Nat) : T.nr (.str s) = true := by simp [T.nr]
theorem nr_ty (s : String) : T.nr (.ty s) = true := by simp [T.nr]
theorem nr_tup (s : List T) : T.nr (.tup s) = T.nrs s := by simp [T.nr]
theorem nr_lst (s : List T) : T.nr (.lst s) = T.nrs s := by simp [T.nr]
theorem nrs_nil : T.nrs [] = true := by simp [T.nrs]
theorem nrs_cons (x : T) (s : List T) : T.nrs (x :: s) = (T.nr x && T.nrs s) := by simp [T.nrs]
theorem fz_bl {μ k b} : fz μ k (.bl b) = some (.bl b) := fz_nr (nr_bl b)
theorem fz_int {μ k b} : fz μ k (.int b) = some (.int b) := fz_nr (nr_int b)
theorem fz_str {μ k b} : fz μ k (.str b) = some (.str b) := fz_nr (nr_str b)
theorem fz_non {μ k} : fz μ k .non = some .non := fz_nr nr_non
theorem fz_tup {μ k ts} (h : T.nrs ts = true) : fz μ k (.tup ts) = some (.tup ts) := fz_nr (by rw [nr_tup]; exact h)
theorem fz_lstF {μ k ts} (h : T.nrs ts = true) : fz μ k (.lst ts) = some (.lst ts) := fz_nr (by rw [nr_lst]; exact h)
theorem vw_non {μ} : vw μ .non = .non := rfl
theorem vw_bl {μ b} : vw μ (.bl b) = .bl b := rfl
theorem vw_int {μ b} : vw μ (.int b) = .int b := rfl
theorem vw_str {μ b} : vw μ (.str b) = .str b := rfl
theorem vw_ty {μ b} : vw μ (.ty b) = .ty b := rfl
theorem vw_tup {μ b} : vw μ (.tup b) = .tup b := rfl
theorem vw_lst {μ b} : vw μ (.lst b) = .lst b := rfl
theorem vw_dct {μ b} : vw μ (.dct b) = .dct b := rfl
/-- a text's evaluation -/
theorem runD_ret {n : Nat} {fb : FS} {ts : List T} {t t' : T} {ρ : Env} (h : fb (initE n ts) = .ok (.ret t ρ)) (hz : fz ρ.mu 8 t = some t') : (runD n fb ts).noX = .ok t' := by
  unfold runD
  rw [h]
  simp only [hz]
  rfl
theorem isi_s (s : List Nat) : isiT [.str s, .ty "str"] = some (.bl true) := isi_str rfl
theorem fCallD_eq {D : List T → RD} {n : Nat} {fas : FA} {ρ ρ' : Env} {ts : List T} {c : T} (h : fas ρ = .ok (ts, ρ')) (hl : ts.length = n) (hn : T.nrs ts = true) (hD : D ts = .ok c) (hc : c.nr = true) : fCallD D n fas ρ = .ok (c, ρ') := by
  unfold fCallD
  rw [h]
  simp only [R.bind]
  rw [if_pos ⟨hl, hn⟩, hD]
  simp only []
  rw [if_pos hc]
end Tr
namespace Tr
open PySem L2 GxR Gx
theorem fLc_map {vs : List Nat} {fi : FI} {g : FG} {ft : FB} {fe : FE} {ρ : Env} {k : Wk} (p : T → Bool) (h : T → T) (hi : fi ρ = .ok (k, ρ)) (st : stays ρ.mu k.t0 k.u = true) (hw : wipeE ρ vs = ρ) (hl : k.ts.length ≤ 16777216)
    (hs : ∀ t ∈ k.ts, ∃ ρ1, g t ρ = .ok ρ1 ∧ ft ρ1 = .ok (p t, ρ1) ∧ (p t = true → fe ρ1 = .ok (h t, ρ1)) ∧ wipeE ρ1 vs = ρ) : fLc vs fi g ft fe ρ = .ok ((k.ts.filter p).map h, ρ) := by
  unfold fLc
  rw [hi]
  simp only [R.bind]
  rw [hw, lcLoop_eq p h st k.ts [] hs (by simpa using hl)]
  simp only [noExc, List.nil_append]
  rw [hw]
/-- .. and what is told of each -/
theorem lcLoop_rel {g : FG} {ft : FB} {fe : FE} {vs : List Nat} {t0 u : T} {ρ : Env} (P : T → Prop) (st : stays ρ.mu t0 u = true) : ∀ (ts acc : List T), (∀ t ∈ ts, ∃ ρ1, g t ρ = .ok ρ1 ∧ ft ρ1 = .ok (true, ρ1) ∧ (∃ c, fe ρ1 = .ok (c, ρ1) ∧ P c) ∧ wipeE ρ1 vs = ρ) →
    acc.length + ts.length ≤ 16777216 → ∃ us, lcLoop vs g ft fe t0 u ts ρ acc = .ok (acc ++ us, ρ) ∧ us.length = ts.length ∧ ∀ c ∈ us, P c
  | [], acc, _, _ => ⟨[], by unfold lcLoop; rw [if_pos st]; simp, rfl, fun c h => by cases h⟩
  | t :: ts, acc, hs, hl => by
    obtain ⟨ρ1, e1, e2, ⟨c, e3, hc⟩, e4⟩ := hs t (List.mem_cons_self ..)
    have hl' : acc.length + (ts.length + 1) ≤ 16777216 := hl
    obtain ⟨us, q1, q2, q3⟩ := lcLoop_rel P st ts (acc ++ [c]) (fun x hx => hs x (List.mem_cons_of_mem _ hx)) (by rw [List.length_append, List.length_singleton]; omega)
    refine ⟨c :: us, ?_, by simp [q2], fun x hx => ?_⟩
    · unfold lcLoop
      rw [if_pos st, e1]
      simp only [R.bind]
      rw [e2]
      simp only [if_true]
      rw [e3]
      simp only []
      rw [if_pos (by omega), e4, q1]
      simp
    · rcases List.mem_cons.mp hx with e | e
      · rw [e]; exact hc
      · exact q3 x e
theorem fLc_rel {vs : List Nat} {fi : FI} {g : FG} {ft : FB} {fe : FE} {ρ : Env} {k : Wk} (P : T → Prop) (hi : fi ρ = .ok (k, ρ)) (st : stays ρ.mu k.t0 k.u = true) (hw : wipeE ρ vs = ρ) (hl : k.ts.length ≤ 16777216)
    (hs : ∀ t ∈ k.ts, ∃ ρ1, g t ρ = .ok ρ1 ∧ ft ρ1 = .ok (true, ρ1) ∧ (∃ c, fe ρ1 = .ok (c, ρ1) ∧ P c) ∧ wipeE ρ1 vs = ρ) : ∃ us, fLc vs fi g ft fe ρ = .ok (us, ρ) ∧ us.length = k.ts.length ∧ ∀ c ∈ us, P c := by
  obtain ⟨us, q1, q2, q3⟩ := lcLoop_rel P st k.ts [] hs (by simpa using hl)
  refine ⟨us, ?_, q2, q3⟩
  unfold fLc
  rw [hi]
  simp only [R.bind]
  rw [hw, q1]
  simp only [noExc, List.nil_append]
  rw [hw]
theorem forLoop_post {g : FG} {fb : FS} {t0 u : T} {P : Flow → Prop} (I : List T → Env → Prop) (h0 : ∀ ρ, I [] ρ → stays ρ.mu t0 u = true ∧ P (.next ρ))
    (h1 : ∀ t ts ρ, I (t :: ts) ρ → stays ρ.mu t0 u = true ∧ ∃ ρ1 fl, g t ρ = .ok ρ1 ∧ fb ρ1 = .ok fl ∧ match fl with
      | .next ρ2 => I ts ρ2
      | .cnt ρ2 => I ts ρ2
      | .brk ρ2 => P (.next ρ2)
      | .ret t ρ2 => P (.ret t ρ2)) : ∀ (ts : List T) (ρ : Env), I ts ρ → ∃ fl, forLoop g fb t0 u ts ρ = .ok fl ∧ P fl
  | [], ρ, h => by
    obtain ⟨st, p⟩ := h0 ρ h
    exact ⟨_, by unfold forLoop; rw [if_pos st], p⟩
  | t :: ts, ρ, h => by
    obtain ⟨st, ρ1, fl, e1, e2, q⟩ := h1 t ts ρ h
    unfold forLoop
    rw [if_pos st, e1]
    simp only [noExc, R.bind]
    rw [e2]
    cases fl with
    | next ρ2 => exact forLoop_post I h0 h1 ts ρ2 q
    | cnt ρ2 => exact forLoop_post I h0 h1 ts ρ2 q
    | brk ρ2 => exact ⟨_, rfl, q⟩
    | ret t ρ2 => exact ⟨_, rfl, q⟩
end Tr
namespace Tr
open PySem L2 GxR Gx
theorem add_ii (i j : Int) : addT (.int i) (.int j) = some (.int (i + j)) := rfl
theorem sub_ii (i j : Int) : subT (.int i) (.int j) = some (.int (i - j)) := rfl
theorem mul_r (i j : Int) (h1 : -(2 ^ 64) < j) (h2 : j < 2 ^ 64) : mulT (.int i) (.int j) = some (.int (i * j)) := if_pos (.inr ⟨h1, h2⟩)
theorem mul_l (i j : Int) (h1 : -(2 ^ 64) < i) (h2 : i < 2 ^ 64) : mulT (.int i) (.int j) = some (.int (i * j)) := if_pos (.inl ⟨h1, h2⟩)
theorem mod_ii (i j : Int) (h : 0 < j) : modT (.int i) (.int j) = some (.int (i % j)) := if_pos h
theorem log_lt {j : Int} (h0 : 0 < j) (h : j < 2 ^ 64) : j.natAbs.log2 < 9000 := by
  have h1 : j.natAbs < 2 ^ 64 := by omega
  have h3 : j.natAbs ≠ 0 := by omega
  have : j.natAbs.log2 < 64 := (Nat.log2_lt h3).mpr h1
  omega
theorem div_ii (i j : Int) (h : 0 < j) (h2 : j < 2 ^ 64) : divT (.int i) (.int j) = some (.int (i / j)) := if_pos ⟨h, log_lt h h2⟩
theorem add_ss (a b : List Nat) (h : a.length + b.length ≤ 16777216) : addT (.str a) (.str b) = some (.str (a ++ b)) := if_pos h
theorem add_ll (a b : List T) (h : a.length + b.length ≤ 16777216) : addT (.lst a) (.lst b) = some (.lst (a ++ b)) := if_pos h
theorem add_tt (a b : List T) (h : a.length + b.length ≤ 16777216) : addT (.tup a) (.tup b) = some (.tup (a ++ b)) := if_pos h
theorem lt_ii (i j : Int) : ltT (.int i) (.int j) = some (.bl (decide (i < j))) := rfl
theorem le_ii (i j : Int) : leT (.int i) (.int j) = some (.bl (decide (i ≤ j))) := rfl
theorem gt_ii (i j : Int) : gtT (.int i) (.int j) = some (.bl (decide (j < i))) := rfl
theorem ge_ii (i j : Int) : geT (.int i) (.int j) = some (.bl (decide (j ≤ i))) := rfl
theorem lt_ss (i j : List Nat) : ltT (.str i) (.str j) = some (.bl (decide (i < j))) := rfl
theorem le_ss (i j : List Nat) : leT (.str i) (.str j) = some (.bl (!decide (j < i))) := rfl
theorem len_s (s : List Nat) (h : s.length ≤ 16777216) : lenT [.str s] = some (.int s.length) := if_pos h
theorem len_l (s : List T) : lenT [.lst s] = some (.int s.length) := rfl
theorem len_t (s : List T) : lenT [.tup s] = some (.int s.length) := rfl
theorem abs_i (i : Int) : absT [.int i] = some (.int (if i < 0 then -i else i)) := rfl
theorem pow_18 : powT (.int 10) (.int 18) = some (.int 1000000000000000000) := rfl
theorem tuple_l (s : List T) : tupleT [.lst s] = some (.tup s) := rfl
theorem tuple_t (s : List T) : tupleT [.tup s] = some (.tup s) := rfl
theorem list_l (s : List T) : listN [.lst s] = some s := rfl
theorem list_t (s : List T) : listN [.tup s] = some s := rfl
/-- bools and numbers are told apart by themselves -/
theorem eq_ii (i j : Int) : eqT (.int i) (.int j) = some (.bl (decide (i = j))) := by
  unfold eqT
  rw [if_pos ⟨rfl, rfl, by simp [T.py, PyData.depth]⟩]
  simp [T.py, PyData.eqv]
  rfl
theorem eq_bb (i j : Bool) : eqT (.bl i) (.bl j) = some (.bl (decide (i = j))) := by
  unfold eqT
  rw [if_pos ⟨rfl, rfl, by simp [T.py, PyData.depth]⟩]
  cases i <;> cases j <;> rfl
theorem ne_bb (i j : Bool) : neT (.bl i) (.bl j) = some (.bl (!decide (i = j))) := by
  unfold neT
  rw [if_pos ⟨rfl, rfl, by simp [T.py, PyData.depth]⟩]
  cases i <;> cases j <;> rfl
theorem plain_nr : ∀ {t : T}, t.py.plain = true → True := fun _ => trivial
theorem eq_l0 (xs : List T) (h : PyData.plainAll (T.pys xs) = true) : eqT (.lst xs) (.lst []) = some (.bl xs.isEmpty) := by
  unfold eqT
  rw [if_pos ⟨by simpa [T.py, PyData.plain] using h, rfl, by
    simp [T.py, T.pys, PyData.depth, PyData.depthAll]⟩]
  cases xs <;> simp [T.py, T.pys, PyData.eqv, PyData.eqvAll]
theorem in_sign (c : Nat) (z : List Nat) : inT (.str [c]) (.str z) = some (.bl (decide (c ∈ z))) := rfl
theorem notIn_sign (c : Nat) (z : List Nat) : notInT (.str [c]) (.str z) = some (.bl (!decide (c ∈ z))) := rfl
theorem plain_strs (zs : List (List Nat)) : PyData.plainAll (T.pys (zs.map T.str)) = true := by
  induction zs with
  | nil => rfl
  | cons a r ih => simp only [List.map_cons, T.pys, T.py, PyData.plainAll, PyData.plain, ih, Bool.and_self]
theorem plain_all : ∀ {xs : List T}, (∀ t ∈ xs, t.py.plain = true) → PyData.plainAll (T.pys xs) = true
  | [], _ => rfl
  | x :: xs, h => by simp only [T.pys, PyData.plainAll, h x (List.mem_cons_self ..), plain_all fun t ht => h t (List.mem_cons_of_mem _ ht), Bool.and_self]
theorem range_ok (n : Nat) (h : n ≤ 16777216) : -(2 ^ 62) ≤ (n : Int) ∧ (n : Int) < 2 ^ 62 := by
  have e : (2 : Int) ^ 62 = 4611686018427387904 := by decide
  rw [e]
  omega
theorem range1_eq (fa : FE) (n : Nat) (ρ ρ' : Env) (ha : fa ρ = .ok (.int n, ρ')) (h : n ≤ 16777216) : fRange1 (fCons fa fNil) ρ = .ok (⟨(List.range n).map fun (k : Nat) => T.int (0 + (k : Int)), .non, .non⟩, ρ') := by
  have hA : ∃ p, (fCons fa fNil) ρ = .ok p ∧ p.1 = [.int n] ∧ p.2 = ρ' := ⟨_, by unfold fCons fNil; rw [ha]; rfl, rfl, rfl⟩
  obtain ⟨p, hA, e1, e2⟩ := hA
  unfold fRange1
  rw [hA, rb_ok]
  split
  · rename_i j e
    rw [e1] at e
    injection e with e _
    injection e with e
    rw [← e]
    rw [if_pos (range_ok n h), e2, Int.toNat_natCast]
  · rename_i e
    exact (e _ e1).elim
theorem strs_of {P : List Nat → Prop} : ∀ {us : List T}, (∀ t ∈ us, ∃ s, t = .str s ∧ P s) → ∃ ss : List (List Nat), us = ss.map T.str ∧ ∀ s ∈ ss, P s
  | [], _ => ⟨[], rfl, fun s h => by cases h⟩
  | t :: us, h => by
    obtain ⟨s, rfl, p⟩ := h t (List.mem_cons_self ..)
    obtain ⟨ss, rfl, q⟩ := strs_of fun t ht => h t (List.mem_cons_of_mem _ ht)
    exact ⟨s :: ss, rfl, fun x hx => (List.mem_cons.mp hx).elim (fun e => by rw [e]; exact p) (q x)⟩
theorem strsOf_map (ss : List (List Nat)) : strsOf (ss.map T.str) = some ss := by
  induction ss with
  | nil => rfl
  | cons a r ih => rw [List.map_cons]; unfold strsOf; rw [ih]; rfl
theorem joinL_len : ∀ (ss : List (List Nat)), (TL.joinL [] ss).length = (ss.map List.length).sum
  | [] => rfl
  | [p] => by simp [TL.joinL]
  | p :: q :: r => by
    show (p ++ ([] ++ TL.joinL [] (q :: r))).length = _
    rw [List.length_append, List.nil_append, joinL_len (q :: r)]
    simp
theorem sum_len {ss : List (List Nat)} {b : Nat} (h : ∀ s ∈ ss, s.length ≤ b) : (ss.map List.length).sum ≤ ss.length * b := by
  induction ss with
  | nil => simp
  | cons a r ih =>
    have h1 := h a (List.mem_cons_self ..)
    have h2 := ih fun s hs => h s (List.mem_cons_of_mem _ hs)
    simp only [List.map_cons, List.sum_cons, List.length_cons, Nat.add_mul, Nat.one_mul]
    omega
theorem join_l (ss : List (List Nat)) (b : Nat) (h : ∀ s ∈ ss, s.length ≤ b) (hb : ss.length * b ≤ 16777216) : joinT [] (.lst (ss.map .str)) = some (.str (TL.joinL [] ss)) := by
  unfold joinT
  simp only [strsOf_map, List.length_nil, Nat.mul_zero, Nat.add_zero]
  rw [if_pos (Nat.le_trans (sum_len h) hb)]
theorem ix_s (s : List Nat) (i : Int) (c : Nat) (hl : s.length ≤ 16777216) (h0 : 0 ≤ i) (h : s[i.toNat]? = some c) : ixT (.str s) (.int i) = some (.str [c]) := by
  show (if s.length ≤ 16777216 then (atI s i).map fun c => T.str [c] else none) = _
  rw [if_pos hl]
  have lt := (List.getElem?_eq_some_iff.mp h).1
  unfold atI ixN
  rw [if_pos h0, if_pos (by omega)]
  show Option.map _ (s[i.toNat]?) = _
  rw [h]
  rfl
theorem ix_s' (s : List Nat) (i : Int) (hl : s.length ≤ 16777216) (h0 : 0 ≤ i) (h1 : i < s.length) : ∃ c, c ∈ s ∧ ixT (.str s) (.int i) = some (.str [c]) := by
  have lt : i.toNat < s.length := by omega
  exact ⟨s[i.toNat], List.getElem_mem _, ix_s s i _ hl h0 (List.getElem?_eq_getElem lt)⟩
theorem ix_l' (s : List T) (i : Int) (h0 : 0 ≤ i) (h1 : i < s.length) : ∃ c, c ∈ s ∧ ixT (.lst s) (.int i) = some c := by
  have lt : i.toNat < s.length := by omega
  refine ⟨s[i.toNat], List.getElem_mem _, ?_⟩
  show atI s i = _
  unfold atI ixN
  rw [if_pos h0, if_pos h1]
  show s[i.toNat]? = _
  rw [List.getElem?_eq_getElem lt]
theorem cutL_len {α : Type} (xs : List α) (lo hi : Option Int) : (cutL xs lo hi).length ≤ xs.length := by
  unfold cutL
  rw [List.length_take, List.length_drop]
  omega
theorem cutL_mem {α : Type} {xs : List α} {lo hi : Option Int} {x : α} (h : x ∈ cutL xs lo hi) : x ∈ xs := List.mem_of_mem_drop (List.mem_of_mem_take h)
theorem cut_s (s : List Nat) (lo hi : Option Int) (h : s.length ≤ 16777216) : cutT (.str s) lo hi = some (.str (cutL s lo hi)) := if_pos h
theorem cut_l (s : List T) (lo hi : Option Int) : cutT (.lst s) lo hi = some (.lst (cutL s lo hi)) := rfl
theorem cut_t (s : List T) (lo hi : Option Int) : cutT (.tup s) lo hi = some (.tup (cutL s lo hi)) := rfl
theorem mod_in (n m : Int) (h : 0 < m) : 0 ≤ n % m ∧ n % m < m := ⟨Int.emod_nonneg _ (by omega), Int.emod_lt_of_pos _ h⟩
end Tr
namespace Tr
open PySem L2 GxR Gx
/-! ### names and rows as trees -/
theorem vw_dcN {μ b} : vw μ (.dcN b) = .dcN b := rfl
theorem vw_exo {μ b} : vw μ (.exo b) = .exo b := rfl
theorem vw_cl {μ b} : vw μ (.cl b) = .cl b := rfl
theorem vw_obj {μ c fs} : vw μ (.obj c fs) = .obj c fs := rfl
theorem isU_base {sub : Str → T → Option Bool} {t : T} {n : String} (h : t.base = true) : isiU (isiE sub) [t, .ty n] = isiT [t, .ty n] := by
  cases t <;> first | rfl | cases h
theorem isU_s {sub : Str → T → Option Bool} (s : List Nat) : isiU (isiE sub) [.str s, .ty "str"] = some (.bl true) := by rw [isU_base rfl]; exact isi_s s
theorem isU_t {sub : Str → T → Option Bool} (s : List T) : isiU (isiE sub) [.tup s, .ty "tuple"] = some (.bl true) := by rw [isU_base rfl]; exact isi_tup rfl
theorem lenX_s (s : List Nat) (h : s.length ≤ 16777216) : lenX [.str s] = some (.int s.length) := len_s s h
theorem lenX_l (s : List T) : lenX [.lst s] = some (.int s.length) := rfl
theorem lenX_t (s : List T) : lenX [.tup s] = some (.int s.length) := rfl
theorem lenX_d (s : List (T × T)) : lenX [.dct s] = some (.int s.length) := rfl
theorem tupleX_l (s : List T) : tupleX [.lst s] = some (.tup s) := rfl
theorem tupleX_t (s : List T) : tupleX [.tup s] = some (.tup s) := rfl
theorem tupleX_d (s : List (T × T)) : tupleX [.dct s] = some (.tup (s.map (·.1))) := rfl
theorem mulX_i (i j : Int) : mulX (.int i) (.int j) = mulT (.int i) (.int j) := rfl
theorem inX_sign (c : Nat) (z : List Nat) : inX (.str [c]) (.str z) = some (.bl (decide (c ∈ z))) := rfl
theorem listNX_l (s : List T) : listNX [.lst s] = some s := rfl
theorem listNX_t (s : List T) : listNX [.tup s] = some s := rfl
def lowc (c : Nat) : Bool := decide (97 ≤ c) && decide (c ≤ 122)
def nameT : T → Bool
  | .str s => decide (1 ≤ s.length) && (decide (s.length ≤ 8) && s.all lowc)
  | _ => false
/-- a thing that may be asked -/
def okT (t : T) : Bool := t.base && (match t with | .str s => decide (s.length ≤ 30000) | _ => true)
def namesT (n : Nat) : T → Bool
  | .tup ts => decide (ts.length ≤ n) && ts.all nameT
  | _ => false
theorem le1 (c : Nat) : (!decide (([c] : List Nat) < [97])) = decide (97 ≤ c) := by
  have : (([c] : List Nat) < [97]) ↔ c < 97 := by simp [List.cons_lt_cons_iff]
  by_cases h : 97 ≤ c
  · rw [decide_eq_true h, decide_eq_false (by rw [this]; omega)]; rfl
  · rw [decide_eq_false h, decide_eq_true (by rw [this]; omega)]; rfl
theorem le2 (c : Nat) : (!decide (([122] : List Nat) < [c])) = decide (c ≤ 122) := by
  have : (([122] : List Nat) < [c]) ↔ 122 < c := by simp [List.cons_lt_cons_iff]
  by_cases h : c ≤ 122
  · rw [decide_eq_true h, decide_eq_false (by rw [this]; omega)]; rfl
  · rw [decide_eq_false h, decide_eq_true (by rw [this]; omega)]; rfl
theorem base_vw {μ : List Node} {t : T} (h : t.base = true) : vw μ t = t := by cases t <;> first | rfl | cases h
theorem okT_base {t : T} (h : okT t = true) : t.base = true := by unfold okT at h; rw [Bool.and_eq_true] at h; exact h.1
theorem nameT_no {t : T} (hs : ∀ s, t ≠ .str s) : nameT t = false := by cases t <;> first | rfl | exact (hs _ rfl).elim
theorem namesT_no {n : Nat} {t : T} (hs : ∀ s, t ≠ .tup s) : namesT n t = false := by cases t <;> first | rfl | exact (hs _ rfl).elim
theorem noU_str {sub : Str → T → Option Bool} {t : T} (h : t.base = true) (hs : ∀ s, t ≠ .str s) : isiU (isiE sub) [t, .ty "str"] = some (.bl false) := by
  rw [isU_base h, isi_str h]
  cases t <;> first | rfl | exact (hs _ rfl).elim
theorem noU_tup {sub : Str → T → Option Bool} {t : T} (h : t.base = true) (hs : ∀ s, t ≠ .tup s) : isiU (isiE sub) [t, .ty "tuple"] = some (.bl false) := by
  rw [isU_base h, isi_tup h]
  cases t <;> first | rfl | exact (hs _ rfl).elim
theorem name_all (s : List Nat) : fAA false [1] (fItS (fVar 0)) (fSet 1) fYes (fChain leT leT (fC (.str [97])) (fVar 1) (fC (.str [122]))) ⟨[some (.str s), none], []⟩ = .ok (.bl (s.all lowc), ⟨[some (.str s), none], []⟩) := by
  have hs : ∀ t ∈ s.map (fun c => T.str [c]), ∃ ρ1, fSet 1 t ⟨[some (.str s), none], []⟩ = .ok ρ1 ∧ fYes ρ1 = .ok (true, ρ1) ∧ fChain leT leT (fC (.str [97])) (fVar 1) (fC (.str [122])) ρ1 = .ok (.bl (match t with | .str [c] => lowc c | _ => false), ρ1) ∧ wipeE ρ1 [1] = ⟨[some (.str s), none], []⟩ := fun t ht => by
    obtain ⟨c, _, rfl⟩ := List.mem_map.mp ht
    refine ⟨⟨[some (.str s), some (.str [c])], []⟩, rfl, rfl, ?_, rfl⟩
    simp -implicitDefEqProofs only [fSeq, fIfS, fRet, fRetN, fNext, fAsg, fAsgG, fPar, fDrop, fOr, fAnd, fNot, fTest, fTruth, fAndV, fOrV, fNotV, fIf, fChain, fCall, fCallN, fCallD, fCons, fNil, fVar, fC, fBin, fTup, fFrz, fOwn, fLstN, fSlice, fNoPart, fPart, fSet, fGTup, fGCons, fGNil, rb_ok, rb_exc, rb_stk, noExc, Env.put, List.getElem?_cons_zero, List.getElem?_cons_succ, List.set_cons_zero, List.set_cons_succ, List.length_cons, List.length_nil, vw_non, vw_bl, vw_int, vw_str, vw_ty, vw_tup, vw_lst, vw_dct, vw_dcN, vw_exo, vw_cl, vw_obj, List.map_cons, List.map_nil, if_true, if_false, reduceIte, nr_non, nr_bl, nr_int, nr_str, nr_ty, nr_tup, nr_lst, nrs_nil, nrs_cons, Bool.and_true, Bool.true_and, Bool.and_false, Bool.false_and, Bool.not_true, Bool.not_false, Bool.or_false, Bool.false_or, Nat.reduceAdd, Nat.reduceLT, Nat.reduceLeDiff, Nat.reduceEqDiff, Nat.zero_add, initE, List.cons_append, List.nil_append, List.replicate, List.replicate_succ, List.replicate_zero, Nat.reduceSub, Bool.false_eq_true, decide_true, decide_false, and_true, true_and, and_self, fz_bl, fz_int, fz_str, fz_non, isU_s, isU_t, le_ss, le1, le2, lowc]
    by_cases h : 97 ≤ c
    · simp [h]
    · simp [h]
  obtain ⟨ρ', e1, e2⟩ := aaLoop_all (t0 := .non) (u := .non) (vs := [1]) (ρ := ⟨[some (.str s), none], []⟩) _ rfl rfl _ hs
  show (R.bind (noExc (aaLoop false [1] _ _ _ .non .non (s.map fun c => T.str [c]) ⟨[some (.str s), none], []⟩)) fun q => .ok (T.bl q.1, wipeE q.2 [1])) = _
  rw [e1]
  show R.ok (T.bl _, wipeE ρ' [1]) = _
  rw [e2, List.all_map]
  rfl
theorem len_test (s : List Nat) (ρ : Tr.Env) (hl : s.length ≤ 30000) (h0 : ρ.sl[0]? = some (some (.str s))) : fTest (fChain leT leT (fC (.int 1)) (fCall lenX (fCons (fVar 0) fNil)) (fC (.int 8))) ρ = .ok (decide (1 ≤ s.length) && decide (s.length ≤ 8), ρ) := by
  simp -implicitDefEqProofs only [fSeq, fIfS, fRet, fRetN, fNext, fAsg, fAsgG, fPar, fDrop, fOr, fAnd, fNot, fTest, fTruth, fAndV, fOrV, fNotV, fIf, fChain, fCall, fCallN, fCallD, fCons, fNil, fVar, fC, fBin, fTup, fFrz, fOwn, fLstN, fSlice, fNoPart, fPart, fSet, fGTup, fGCons, fGNil, rb_ok, rb_exc, rb_stk, noExc, Env.put, List.getElem?_cons_zero, List.getElem?_cons_succ, List.set_cons_zero, List.set_cons_succ, List.length_cons, List.length_nil, vw_non, vw_bl, vw_int, vw_str, vw_ty, vw_tup, vw_lst, vw_dct, vw_dcN, vw_exo, vw_cl, vw_obj, List.map_cons, List.map_nil, if_true, if_false, reduceIte, nr_non, nr_bl, nr_int, nr_str, nr_ty, nr_tup, nr_lst, nrs_nil, nrs_cons, Bool.and_true, Bool.true_and, Bool.and_false, Bool.false_and, Bool.not_true, Bool.not_false, Bool.or_false, Bool.false_or, Nat.reduceAdd, Nat.reduceLT, Nat.reduceLeDiff, Nat.reduceEqDiff, Nat.zero_add, initE, List.cons_append, List.nil_append, List.replicate, List.replicate_succ, List.replicate_zero, Nat.reduceSub, Bool.false_eq_true, decide_true, decide_false, and_true, true_and, and_self, fz_bl, fz_int, fz_str, fz_non, isU_s, isU_t, h0, lenX_s s (show s.length ≤ 16777216 by omega), le_ii]
  by_cases h1 : 1 ≤ s.length
  · have i1 : (1 : Int) ≤ s.length := by omega
    simp -implicitDefEqProofs only [fSeq, fIfS, fRet, fRetN, fNext, fAsg, fAsgG, fPar, fDrop, fOr, fAnd, fNot, fTest, fTruth, fAndV, fOrV, fNotV, fIf, fChain, fCall, fCallN, fCallD, fCons, fNil, fVar, fC, fBin, fTup, fFrz, fOwn, fLstN, fSlice, fNoPart, fPart, fSet, fGTup, fGCons, fGNil, rb_ok, rb_exc, rb_stk, noExc, Env.put, List.getElem?_cons_zero, List.getElem?_cons_succ, List.set_cons_zero, List.set_cons_succ, List.length_cons, List.length_nil, vw_non, vw_bl, vw_int, vw_str, vw_ty, vw_tup, vw_lst, vw_dct, vw_dcN, vw_exo, vw_cl, vw_obj, List.map_cons, List.map_nil, if_true, if_false, reduceIte, nr_non, nr_bl, nr_int, nr_str, nr_ty, nr_tup, nr_lst, nrs_nil, nrs_cons, Bool.and_true, Bool.true_and, Bool.and_false, Bool.false_and, Bool.not_true, Bool.not_false, Bool.or_false, Bool.false_or, Nat.reduceAdd, Nat.reduceLT, Nat.reduceLeDiff, Nat.reduceEqDiff, Nat.zero_add, initE, List.cons_append, List.nil_append, List.replicate, List.replicate_succ, List.replicate_zero, Nat.reduceSub, Bool.false_eq_true, decide_true, decide_false, and_true, true_and, and_self, fz_bl, fz_int, fz_str, fz_non, isU_s, isU_t, decide_eq_true h1, decide_eq_true i1, le_ii, lenX_s s (show s.length ≤ 16777216 by omega)]
    by_cases h2 : s.length ≤ 8
    · have i2 : (s.length : Int) ≤ 8 := by omega
      simp -implicitDefEqProofs only [fSeq, fIfS, fRet, fRetN, fNext, fAsg, fAsgG, fPar, fDrop, fOr, fAnd, fNot, fTest, fTruth, fAndV, fOrV, fNotV, fIf, fChain, fCall, fCallN, fCallD, fCons, fNil, fVar, fC, fBin, fTup, fFrz, fOwn, fLstN, fSlice, fNoPart, fPart, fSet, fGTup, fGCons, fGNil, rb_ok, rb_exc, rb_stk, noExc, Env.put, List.getElem?_cons_zero, List.getElem?_cons_succ, List.set_cons_zero, List.set_cons_succ, List.length_cons, List.length_nil, vw_non, vw_bl, vw_int, vw_str, vw_ty, vw_tup, vw_lst, vw_dct, vw_dcN, vw_exo, vw_cl, vw_obj, List.map_cons, List.map_nil, if_true, if_false, reduceIte, nr_non, nr_bl, nr_int, nr_str, nr_ty, nr_tup, nr_lst, nrs_nil, nrs_cons, Bool.and_true, Bool.true_and, Bool.and_false, Bool.false_and, Bool.not_true, Bool.not_false, Bool.or_false, Bool.false_or, Nat.reduceAdd, Nat.reduceLT, Nat.reduceLeDiff, Nat.reduceEqDiff, Nat.zero_add, initE, List.cons_append, List.nil_append, List.replicate, List.replicate_succ, List.replicate_zero, Nat.reduceSub, Bool.false_eq_true, decide_true, decide_false, and_true, true_and, and_self, fz_bl, fz_int, fz_str, fz_non, isU_s, isU_t, decide_eq_true h2, decide_eq_true i2]
    · have i2 : ¬ (s.length : Int) ≤ 8 := by omega
      simp -implicitDefEqProofs only [fSeq, fIfS, fRet, fRetN, fNext, fAsg, fAsgG, fPar, fDrop, fOr, fAnd, fNot, fTest, fTruth, fAndV, fOrV, fNotV, fIf, fChain, fCall, fCallN, fCallD, fCons, fNil, fVar, fC, fBin, fTup, fFrz, fOwn, fLstN, fSlice, fNoPart, fPart, fSet, fGTup, fGCons, fGNil, rb_ok, rb_exc, rb_stk, noExc, Env.put, List.getElem?_cons_zero, List.getElem?_cons_succ, List.set_cons_zero, List.set_cons_succ, List.length_cons, List.length_nil, vw_non, vw_bl, vw_int, vw_str, vw_ty, vw_tup, vw_lst, vw_dct, vw_dcN, vw_exo, vw_cl, vw_obj, List.map_cons, List.map_nil, if_true, if_false, reduceIte, nr_non, nr_bl, nr_int, nr_str, nr_ty, nr_tup, nr_lst, nrs_nil, nrs_cons, Bool.and_true, Bool.true_and, Bool.and_false, Bool.false_and, Bool.not_true, Bool.not_false, Bool.or_false, Bool.false_or, Nat.reduceAdd, Nat.reduceLT, Nat.reduceLeDiff, Nat.reduceEqDiff, Nat.zero_add, initE, List.cons_append, List.nil_append, List.replicate, List.replicate_succ, List.replicate_zero, Nat.reduceSub, Bool.false_eq_true, decide_true, decide_false, and_true, true_and, and_self, fz_bl, fz_int, fz_str, fz_non, isU_s, isU_t, decide_eq_false h2, decide_eq_false i2]
  · have i1 : ¬ (1 : Int) ≤ s.length := by omega
    simp -implicitDefEqProofs only [fSeq, fIfS, fRet, fRetN, fNext, fAsg, fAsgG, fPar, fDrop, fOr, fAnd, fNot, fTest, fTruth, fAndV, fOrV, fNotV, fIf, fChain, fCall, fCallN, fCallD, fCons, fNil, fVar, fC, fBin, fTup, fFrz, fOwn, fLstN, fSlice, fNoPart, fPart, fSet, fGTup, fGCons, fGNil, rb_ok, rb_exc, rb_stk, noExc, Env.put, List.getElem?_cons_zero, List.getElem?_cons_succ, List.set_cons_zero, List.set_cons_succ, List.length_cons, List.length_nil, vw_non, vw_bl, vw_int, vw_str, vw_ty, vw_tup, vw_lst, vw_dct, vw_dcN, vw_exo, vw_cl, vw_obj, List.map_cons, List.map_nil, if_true, if_false, reduceIte, nr_non, nr_bl, nr_int, nr_str, nr_ty, nr_tup, nr_lst, nrs_nil, nrs_cons, Bool.and_true, Bool.true_and, Bool.and_false, Bool.false_and, Bool.not_true, Bool.not_false, Bool.or_false, Bool.false_or, Nat.reduceAdd, Nat.reduceLT, Nat.reduceLeDiff, Nat.reduceEqDiff, Nat.zero_add, initE, List.cons_append, List.nil_append, List.replicate, List.replicate_succ, List.replicate_zero, Nat.reduceSub, Bool.false_eq_true, decide_true, decide_false, and_true, true_and, and_self, fz_bl, fz_int, fz_str, fz_non, isU_s, isU_t, decide_eq_false h1, decide_eq_false i1]
end Tr
namespace Tr
open PySem PySem.Spec PyProof.Rows L2 GxR Gx
/-! ### promises of defs where nothing guards -/
/-- room, and no repr under way -/
structure RoomG (k : Nat) (A : Around) : Prop where
  room : Room k A
  free : A.guards = some []
theorem RoomG.mono {j k : Nat} {A : Around} (r : RoomG k A) (h : j ≤ k) : RoomG j A := ⟨r.room.mono h, r.free⟩
structure FnG (P : Program) (w : World) (K : PySem.W.Frag) (mg : Str → Option Value) (base : Heap) (k : Nat) (f : Addr) (fd : FuncData) (ps : List Str) (sp : Sp) : Prop where
  len : ∀ vs H Q E, sp vs H Q E → vs.length = ps.length
  run : ∀ (A : Around) (outer : List PySem.Env) (s : Shared) (H : Hp) (args : Args) (us : List Value) (vs : List V) (Q : VK) (E : XK), RoomG k A → Env0 P w K mg base A outer s H → BindsTo s fd args (ps.zip us) → Vals vs us → sp vs H Q E →
    codeAny (model P w) A (.call (.ref f) args) (CR (L2.CX P w) outer P w H s Q E) s
theorem FnG.imp {P : Program} {w : World} {K : PySem.W.Frag} {mg : Str → Option Value} {base : Heap} {k : Nat} {f : Addr} {fd : FuncData} {ps : List Str} {sp sp' : Sp} (F : FnG P w K mg base k f fd ps sp) (h : ∀ vs H Q E, sp' vs H Q E → sp vs H Q E) : FnG P w K mg base k f fd ps sp' where
  len vs H Q E q := F.len vs H Q E (h vs H Q E q)
  run A outer s H args us vs Q E room env bind rel q := F.run A outer s H args us vs Q E room env bind rel (h vs H Q E q)
theorem guards_deeper (A : Around) (env : PySem.Env) : (A.deeper env).guards = A.guards := by first | rfl | simp [Around.deeper]
theorem fnG_of {P : Program} {w : World} {K : PySem.W.Frag} {mg : Str → Option Value} {base : Heap} {k : Nat} {f : Addr} {fd : FuncData} {x qual : Str} {st : Stmt} {N ps : List Str} {sp : Sp} (F : Fun K x qual st f fd) (S : FnScope N ps (defScope st)) (len : ∀ vs H Q E, sp vs H Q E → vs.length = ps.length)
    (body : ∀ (cdv : Value) (A : Around) (outer : List PySem.Env) (s : Shared) (H : Hp) (vs : List V) (Q : VK) (E : XK), fd.code = cdv → RoomG k (A.deeper (envOfC qual (defScope st) s.heap.objs.size f cdv)) → sp vs H Q E →
      ∃ t, PSs (cxOf (L2.CX P w) P w K mg base N qual (defScope st) f cdv A outer s H E) (defBody st) t ∧ t { nx := fun _ H' => Q .non H', rt := Q } (start N vs) H) : FnG P w K mg base (k + 1) f fd ps sp := by
  obtain ⟨oc, od, kV, doc, pm, an, cdv, ct, osl, rfl, there, coded⟩ := F.ex
  refine ⟨len, fun A outer s H args us vs Q E room env bind rel want => ?_⟩
  have old : ∀ b o, base.get? b = some o → s.heap.get? b = some o := fun b o q => (env.bs b o q).1
  have inK : K.In s.heap := env.mod.kin.keeps old
  have kinds : ∀ y ∈ ps.zip us, (defScope st).names.lookup y.1 = some .local ∨ ((defScope st).names.lookup y.1 = some .cell ∧ ((cellsFrom (s.heap.objs.size + 1) (defScope st).names []).lookup y.1).isSome = true) := by
    rintro ⟨n, v⟩ hy
    exact (S.par n (List.of_mem_zip hy).1).imp id fun q => ⟨q, PySem.W.cellsFrom_some _ _ _ (.inl q)⟩
  refine codeAny_call_function room.room.depth (inK _ _ there) rfl S.co S.gen rfl (PySem.W.codeRec_of inK coded) (bind _ _ _ _ (wpAny_newFunctionEnv_cells S.kind kinds ?_))
  intro env1 laid s1 inCall
  subst laid
  obtain ⟨t, run, got⟩ := body cdv A outer s H vs Q E rfl ⟨room.room.deeper _, by rw [guards_deeper]; exact room.free⟩ want
  have I := inv_start (E := E) (CX := L2.CX P w) S room.room.hd env (len _ _ _ _ want) rel inCall
  refine ⟨(env.mod.nolimit.keeps old).keeps inCall.toInCall.keep, codeAny_func (wpAny_mono (run.run [] s1 (start N vs) H _ I got) (fun fl s2 res => ?_) fun _ _ z => z)⟩
  cases fl with
  | ret u =>
    obtain ⟨v, σ2, H2, J, rv, q⟩ := res
    exact ⟨v, H2, J.os, J.bare, J.base, J.hok, rv, q⟩
  | next =>
    obtain ⟨σ2, H2, J, q⟩ := res
    exact ⟨.non, H2, J.os, J.bare, J.base, J.hok, rfl, q⟩
  | brk => obtain ⟨_, _, _, z⟩ := res; exact z.elim
  | cont => obtain ⟨_, _, _, z⟩ := res; exact z.elim
section
variable {X : Cx} {k : Nat} {f : Addr} {fd : FuncData} {ps : List Str} {sp : Sp} {x : Str} {p pos : Pos} {e : Expr} {es : List Expr} {t : TA}
/-- it is called -/
theorem FnG.called {pins : List (Addr × Obj)} {σ : L2.St} {H : Hp} {s : Shared} {Q : VK} {us : List Value} {vs : List V} {E : XK} (F : FnG X.prog X.w X.K X.mg X.base k f fd ps sp) (room : RoomG k X.A) (bi : Binds X.K fd ps []) (out : PassesAt (L2.CX X.prog X.w) X σ E)
    (I : Inv X pins σ H s) (rel : Vals vs us) (want : sp vs H Q E) : wpAny (model X.prog X.w) X.A (call (.ref f) us) (EP X pins σ Q) X.xe s := by
  have many : us.length = ps.length := rel.length.symm.trans (F.len _ _ _ _ want)
  have bd := bi s us I.kIn (by rw [List.append_nil]; exact many)
  rw [List.append_nil] at bd
  refine wpAny_call (codeAny_mono (F.run X.A X.stack s H ⟨us, []⟩ us vs Q E room I.env0 bd rel want) fun res s2 fin => ?_)
  cases res with
  | error er => exact out pins H s er s2 I fin
  | ok fl => cases fl with
    | ret u => exact I.after fin
    | next => exact fin.elim
    | brk => exact fin.elim
    | cont => exact fin.elim
theorem pe_callG {E : L2.St → XK} (F : FnG X.prog X.w X.K X.mg X.base k f fd ps sp) (room : RoomG k X.A) (hg : Gl X x) (hm : X.mg x = some (.ref f)) (kp : PySem.W.keepIn X.K (.ref f) = true) (bi : Binds X.K fd ps []) (out : ∀ σ, PassesAt (L2.CX X.prog X.w) X σ (E σ)) (ha : PA X (e :: es) t)
    (hdb : (x == ("__debug__" : Str)) = false := by decide) (he : starEach (e :: es) X.env = (false, eval e X.env) :: starEach es X.env := by rfl) (hpl : (backTo pos (starEach es X.env)).any (·.1) = false := by rfl) : PE X (.Call (.Name x p) (e :: es) [] pos) (tCallS sp E t) :=
  ⟨fun pins s σ H Q I want => wpAny_Call_Name_kw (ld_glob I hg hm (PySem.W.callWith_K (h₀ := X.base) I.ok.mod.kin kp (thn (ha.run pos pins s σ H _ I want) fun us s1 got => by
    obtain ⟨vs, H1, I1, rel, q⟩ := got
    exact ⟨I1.kIn, F.called room bi (out σ) I1 rel q⟩) he hpl) hdb)⟩
end
end Tr
namespace Tr
open PySem PySem.Spec PyProof.Rows L2 GxR Gx
/-! ### the end of a law's row, where nothing guards -/
/-- what is tracked at the law's call: the tables, and the script's list unless the written part has it -/
def H0 (K : PySem.W.Frag) (ts : List Addr) (a : Addr) (vs : List Value) (ns : List Int) : Hp := fun b =>
  if b ∈ ts then some (.tbl #[]) else if b = a ∧ (K.lookup a).isNone = true then some (.frz { cls := .type "list", data := .seq vs.toArray } (.lst (ns.map V.int))) else none
section
variable {P : Program} {w : World} {K : PySem.W.Frag} {mg mb : Str → Option Value} {a : Addr} {cs : List (Addr × Addr)} {h : Heap} {vs : List Value} {ns : List Int}
theorem h0_tab {ts : List Addr} {b : Addr} (hb : b ∈ ts) : H0 K ts a vs ns b = some (.tbl #[]) := if_pos hb
theorem h0_cases {ts : List Addr} (b : Addr) : (b ∈ ts ∧ H0 K ts a vs ns b = some (.tbl #[])) ∨ (b ∉ ts ∧ b = a ∧ K.lookup a = none ∧ H0 K ts a vs ns b = some (.frz { cls := .type "list", data := .seq vs.toArray } (.lst (ns.map V.int)))) ∨ (b ∉ ts ∧ H0 K ts a vs ns b = none) := by
  by_cases hb : b ∈ ts
  · exact .inl ⟨hb, if_pos hb⟩
  · refine .inr ?_
    by_cases ha : b = a ∧ (K.lookup a).isNone = true
    · exact .inl ⟨hb, ha.1, Option.isNone_iff_eq_none.mp ha.2, (if_neg hb).trans (if_pos ha)⟩
    · exact .inr ⟨hb, (if_neg hb).trans (if_neg ha)⟩
/-- how the law's call finds the heap -/
structure AtLaw (K : PySem.W.Frag) (mg mb : Str → Option Value) (h : Heap) (cs : List (Addr × Addr)) (a : Addr) (vs : List Value) (ns : List Int) : Prop where
  inK : K.In h
  glob : h.Ns mainGlobals mg
  blt : h.Ns builtinsNs mb
  boot : ∀ x : Str, x ≠ "__name__" → mb x = bootBuiltins x
  limit : h.NoLimit
  tabs : ∀ p ∈ cs, h.get? p.2 = some { cls := .none, data := .fields #[] }
  noK : ∀ p ∈ cs, K.lookup p.2 = none
  heads : ∀ p ∈ cs, PySem.W.CodeHd h p.1 p.2
  module : ∃ (bm : Addr) (ob : Obj), mg "__builtins__" = some (.ref bm) ∧ bm ≠ builtinsNs ∧ h.get? bm = some ob ∧ ob.cls = .type "module" ∧ ob.dict = some builtinsNs ∧ ob.data = .plain
  list : h.get? a = some { cls := .type "list", data := .seq vs.toArray }
  are : IntsAre vs ns
  few : ns.length ≤ sizeLine
  mods : ∃ mm, h.Ns sysModules mm
namespace AtLaw
variable (L : AtLaw K mg mb h cs a vs ns)
include L
theorem tabObj {b : Addr} (hb : b ∈ cs.map (·.2)) : h.get? b = some { cls := .none, data := .fields #[] } := by
  obtain ⟨p, hp, rfl⟩ := List.mem_map.mp hb
  exact L.tabs p hp
theorem apart : a ∉ cs.map (·.2) := fun z => by
  have q := L.tabObj z
  rw [L.list] at q
  injection q with q
  injection q with _ _ q
  cases q
theorem ok : HOk P w (H0 K (cs.map (·.2)) a vs ns) h := fun b u e => by
  rcases h0_cases (K := K) (a := a) (vs := vs) (ns := ns) (ts := cs.map (·.2)) b with ⟨hb, q⟩ | ⟨_, rfl, _, q⟩ | ⟨_, q⟩
  · rw [q] at e
    cases e
    exact L.tabObj hb
  · rw [q] at e
    cases e
    exact ⟨L.list, by rw [List.length_map]; exact L.few, vs, _, vals_ints L.are, L.list⟩
  · rw [q] at e; cases e
theorem script : SqL K (H0 K (cs.map (·.2)) a vs ns) a (ns.map V.int) := by
  rcases h0_cases (K := K) (a := a) (vs := vs) (ns := ns) (ts := cs.map (·.2)) a with ⟨hb, _⟩ | ⟨_, _, _, q⟩ | ⟨nb, q⟩
  · exact (L.apart hb).elim
  · exact .inl (.inr ⟨_, q⟩)
  · cases hk : K.lookup a with
    | none =>
      have q2 : H0 K (cs.map (·.2)) a vs ns a = _ := (if_neg nb).trans (if_pos ⟨rfl, by rw [hk]; rfl⟩)
      rw [q] at q2
      cases q2
    | some o =>
      have e := L.inK a o hk
      rw [L.list] at e
      cases e
      exact .inr ⟨_, vs.toArray, _, hk, rfl, rfl, rfl, by rw [List.size_toArray, L.are.length]; exact L.few, by simpa using vals_ints L.are⟩
/-- what is neither a list nor a table is not tracked -/
theorem plain {b : Addr} {o : Obj} (e : h.get? b = some o) (n1 : ∀ its m, o.data ≠ .seq its m) (n2 : o.data ≠ .fields #[]) : H0 K (cs.map (·.2)) a vs ns b = none := by
  rcases h0_cases (K := K) (a := a) (vs := vs) (ns := ns) (ts := cs.map (·.2)) b with ⟨hb, _⟩ | ⟨_, rfl, _, _⟩ | ⟨_, q⟩
  · have z := L.tabObj hb
    rw [e] at z
    cases z
    exact (n2 rfl).elim
  · have z := L.list
    rw [e] at z
    cases z
    exact (n1 _ _ rfl).elim
  · exact q
theorem seen {b : Addr} {o : Obj} (e : h.get? b = some o) (n1 : ∀ its m, o.data ≠ .seq its m) (n2 : o.data ≠ .fields #[]) : (hidT h (H0 K (cs.map (·.2)) a vs ns)).get? b = some o := hidT_get e (L.plain e n1 n2)
theorem ns_seen {b : Addr} {m : Str → Option Value} (q : h.Ns b m) : (hidT h (H0 K (cs.map (·.2)) a vs ns)).Ns b m := by
  obtain ⟨o, es, ep, e, d, rest⟩ := q
  exact ⟨o, es, ep, L.seen e (fun its m z => by rw [d] at z; cases z) (fun z => by rw [d] at z; cases z), d, rest⟩
theorem k_seen : K.In (hidT h (H0 K (cs.map (·.2)) a vs ns)) := fun b o e => by
  refine hidT_get (L.inK b o e) ?_
  rcases h0_cases (K := K) (a := a) (vs := vs) (ns := ns) (ts := cs.map (·.2)) b with ⟨hb, _⟩ | ⟨_, rfl, q, _⟩ | ⟨_, q⟩
  · obtain ⟨p, hp, rfl⟩ := List.mem_map.mp hb
    rw [L.noK p hp] at e
    cases e
  · rw [q] at e; cases e
  · exact q
theorem mod : L2.Mod K mg (hidT h (H0 K (cs.map (·.2)) a vs ns)) where
  kin := L.k_seen
  glob := L.ns_seen L.glob
  blt := ⟨mb, L.ns_seen L.blt, L.boot⟩
  nolimit := by
    obtain ⟨mc, q1, q2⟩ := L.limit
    exact ⟨mc, L.ns_seen q1, q2⟩
theorem tabB : ∀ p ∈ cs, LamX.TabB (hidT h (H0 K (cs.map (·.2)) a vs ns)) mg p.1 p.2 := fun p hp => by
  have here := L.tabs p hp
  constructor
  · obtain ⟨o, us, file, tf, flags, tg, inF, text, tt, e, c1, c2, c3, rest⟩ := L.heads p hp
    refine ⟨o, us, file, tf, flags, tg, inF, text, tt, L.seen e (fun its m z => by rw [c2] at z; cases z) (fun z => ?_), c1, c2, c3, rest⟩
    rw [c2] at z
    cases z
    simp at c3
  · obtain ⟨bm, ob, b1, b2, b3, b4, b5, b6⟩ := L.module
    refine ⟨bm, ob, b1, b2, ?_, ?_, L.seen b3 (fun its m z => by rw [b6] at z; cases z) (fun z => by rw [b6] at z; cases z), b4, b5, b6⟩
    · rintro rfl
      obtain ⟨o, es, ep, e, d, _⟩ := L.glob
      rw [b3] at e
      cases e
      rw [b6] at d
      cases d
    · rintro rfl
      rw [b3] at here
      cases here
      cases b6
  · intro z
    obtain ⟨o, es, ep, e, d, _⟩ := L.glob
    rw [z, here] at e
    cases e
    cases d
theorem env0 {s : Shared} (hs : s.heap = h) (hg : s.gens = #[]) : Env0 P w K mg (hidT h (H0 K (cs.map (·.2)) a vs ns)) callerA [] s (H0 K (cs.map (·.2)) a vs ns) := by
  subst hs
  exact ⟨rfl, L.mod, fun b o e => of_hidT e, Nat.le_of_eq (hidT_size _ _), trivial, (fun b hb => by cases hb), L.ok, .of_eq hg⟩
/-- what stood there stands as it was, the tables grown -/
theorem old {h' : Heap} {H' : Hp} (un : Un (frs []) [] (H0 K (cs.map (·.2)) a vs ns) H' h h') (ok' : HOk P w H' h') : OldK h h' := by
  have kept : ∀ b o, b ∉ cs.map (·.2) → h.get? b = some o → h'.get? b = some o := fun b o nb e => by
    rcases h0_cases (K := K) (a := a) (vs := vs) (ns := ns) (ts := cs.map (·.2)) b with ⟨hb, _⟩ | ⟨_, rfl, _, q⟩ | ⟨_, q⟩
    · exact (nb hb).elim
    · obtain ⟨z, _⟩ := ok' b _ (un.frzs b _ _ q)
      rw [L.list] at e
      cases e
      exact z
    · exact un.keep b o e q (by simp [frs]) (by simp)
  have grew : ∀ p ∈ cs, ∃ more : Array Value, h'.get? p.2 = some { cls := .none, data := .fields more } := fun p hp => by
    obtain ⟨more, z⟩ := un.tbls p.2 #[] (h0_tab (List.mem_map.mpr ⟨p, hp, rfl⟩))
    exact ⟨_, ok' p.2 _ z⟩
  constructor
  · intro b o e
    by_cases hb : b ∈ cs.map (·.2)
    · obtain ⟨p, hp, rfl⟩ := List.mem_map.mp hb
      have t0 := L.tabs p hp
      rw [t0] at e
      cases e
      obtain ⟨more, z⟩ := grew p hp
      exact .inr (.inl ⟨((L.heads p hp).tab t0).isCodeTable, rfl, #[], more, rfl, by rw [Array.empty_append]; exact z⟩)
    · exact .inl (kept b o hb e)
  · intro b o e
    by_cases hb : b ∈ cs.map (·.2)
    · obtain ⟨p, hp, rfl⟩ := List.mem_map.mp hb
      obtain ⟨more, z⟩ := grew p hp
      exact ⟨_, z⟩
    · exact ⟨o, kept b o hb e⟩
/-- the law's call, by a promise that holds where nothing guards -/
theorem call {k : Nat} {fa : Addr} {fd : FuncData} {x : Str} {sp : Sp} {s : Shared} (hs : s.heap = h) (hg : s.gens = #[]) (hr : RoomG k callerA)
    (F : ∀ base : Heap, K.In base → base.Ns mainGlobals mg → (∃ mm, base.Ns sysModules mm) → (∀ p ∈ cs, LamX.TabB base mg p.1 p.2) → FnG P w K mg base k fa fd [x] sp) (bi : ∀ (z : Shared) (u : Value), BindsTo z fd ⟨[u], []⟩ [(x, u)])
    (want : ∀ H : Hp, (∀ p ∈ cs, H p.2 = some (.tbl #[])) → SqL K H a (ns.map V.int) → sp [.ref a] H (fun v _ => v = .bl true) fun _ _ _ => False) (noX : ∀ H e s', L2.CX P w [] H s (fun _ _ _ => False) e s' → False) :
    codeAny (model P w) callerA (.call (.ref fa) ⟨[.ref a], []⟩) (fun r s' => r = .ok (.ret (.bool true)) ∧ OldK s.heap s'.heap ∧ s'.os = s.os ∧ AllBare s'.gens) s := by
  subst hs
  have promise := F _ L.k_seen (L.ns_seen L.glob) (let ⟨mm, q⟩ := L.mods; ⟨mm, L.ns_seen q⟩) L.tabB
  refine codeAny_mono (promise.run callerA [] s (H0 K (cs.map (·.2)) a vs ns) ⟨[.ref a], []⟩ [.ref a] [.ref a] _ _ hr (L.env0 rfl hg) (bi s (.ref a)) (.cons rfl .nil) (want _ (fun p hp => h0_tab (List.mem_map.mpr ⟨p, hp, rfl⟩)) L.script)) fun res s' fin => ?_
  cases res with
  | error er => exact (noX _ _ _ fin).elim
  | ok fl => cases fl with
    | next => exact fin.elim
    | brk => exact fin.elim
    | cont => exact fin.elim
    | ret u =>
      obtain ⟨v, H', os, bare, un, ok', rel, rfl⟩ := fin
      obtain rfl : u = Value.bool true := rel
      exact ⟨rfl, L.old un ok', os, bare⟩
end AtLaw
end
/-- what is known of the law's promise at the heap h -/
def LawG (l : PySem.W.OpenLaw) (w : World) (K : PySem.W.Frag) (k n : Nat) (x : Str) (mg : Str → Option Value) (fa : Addr) (h : Heap) : Prop :=
  ∃ (fd : FuncData) (cs : List (Addr × Addr)) (sp : Sp), (∀ p ∈ cs, h.get? p.2 = some { cls := .none, data := .fields #[] }) ∧ (∀ p ∈ cs, K.lookup p.2 = none) ∧ (∀ p ∈ cs, PySem.W.CodeHd h p.1 p.2) ∧ (∀ (s : Shared) (u : Value), BindsTo s fd ⟨[u], []⟩ [(x, u)]) ∧
    (∀ (H : Hp) (a : Addr) (ns : List Int), ns.length ≤ n → (∀ z ∈ ns, Builtin.Int.intBits z ≤ 1048576) → (∀ p ∈ cs, H p.2 = some (.tbl #[])) → SqL K H a (ns.map V.int) → sp [.ref a] H (fun v _ => v = .bl true) fun _ _ _ => False) ∧
    ∀ base : Heap, K.In base → base.Ns mainGlobals mg → (∃ mm, base.Ns sysModules mm) → (∀ p ∈ cs, LamX.TabB base mg p.1 p.2) → FnG l.prog w K mg base k fa fd [x] sp
theorem walk_tabsG {l : PySem.W.OpenLaw} {n k : Nat} {q : Program} {loose : List Str} {XP : (Str → Option Value) → Heap → Prop} {YP : World → Heap → Prop} {d : DefRec} {K : Params → PySem.W.Frag} {x : Str}
    (many : l.most = some n) (line : n ≤ sizeLine) (plainArgs : d.params.defaults = []) (room : Room k callerA) (imp : importsNone q = true) (inK : ∀ (w : World) (h : Heap), YP w h → (K w.params).In h)
    (F : ∀ (w : World) (mg : Str → Option Value) (fa : Addr) (h : Heap), YP w h → (K w.params).In h → h.Ns mainGlobals mg → mg d.name = some (.ref fa) → TabsOf q mg h → LawG l w (K w.params) k n x mg fa h) :
    PySem.W.WalkO q loose XP YP l.row.toRowW d [] (fun f vs => PySem.call f vs) := by
  refine Att.attach_callB many plainArgs fun w s0 s1 mg mb fa o pm cd doc a vs ns G Y ho hd hcd hmg here are len bits gens => ?_
  have KX := inK w _ Y
  have tabs : TabsOf q mg s1.heap := fun e he => by
    obtain ⟨a', o', fd', c', P', t1, t2, t3, t4, t5, t6⟩ := G.T.tab e he
    exact ⟨a', o', fd', c', P', t1, t2, t3, t4, PySem.W.CodeHd.of t5 t6, t6.2⟩
  obtain ⟨fd, cs, sp, c1, c2, c3, bi, want, promise⟩ := F w mg fa _ Y KX G.T.g hmg tabs
  have L : AtLaw (K w.params) mg mb s1.heap cs a vs ns := ⟨KX, G.T.g, G.T.b, G.T.builtins, G.T.nolimit, c1, c2, c3, G.T.bmain, here, are, Nat.le_trans len line, (let ⟨mm, z, _⟩ := (G.T.seer imp).mods; ⟨mm, z⟩)⟩
  exact L.call rfl gens ⟨room, rfl⟩ promise bi (fun H t q => want H a ns len bits t q) fun H e s' z => cx_no z
end Tr
namespace Tr
open PySem L2 GxR Gx
/-! ### defs, where nothing guards -/
theorem roomG_gen {k : Nat} {A : Around} {elt tg iter : Expr} {ifs : List Expr} {scope : Scope} {pos : Pos} {it : Addr} {cenv : PySem.Env} (r : RoomG (k + 1) A) : RoomG k (genA A (gLoop elt tg iter ifs scope pos it cenv)) :=
  ⟨room_gen r.room, r.free⟩
theorem guards_make (A : Around) (C : Addr) (us : List Value) (kw : List (Str × Value)) : (A.under (.builtin "type.__call__" ⟨.ref C :: us, kw⟩)).guards = A.guards := by
  first | rfl | (cases h : A.guards <;> simp [Around.under, Code.guards, Code.isGuard, guardIds, h, pushGuards])
structure CalG (P : Program) (w : World) (K : PySem.W.Frag) (mg : Str → Option Value) (base : Heap) (G : GG) (k : Nat) (x : Str) (n : Nat) (D : List T → RD) : Prop where
  ex : ∃ (f : Addr) (fd : FuncData) (ps : List Str), FnG P w K mg base k f fd ps (SpT G n D) ∧ mg x = some (.ref f) ∧ PySem.W.keepIn K (.ref f) = true ∧ Binds K fd ps []
theorem CalG.noX {P : Program} {w : World} {K : PySem.W.Frag} {mg : Str → Option Value} {base : Heap} {G : GG} {k n : Nat} {x : Str} {D : List T → RD} (c : CalG P w K mg base G k x n D) : CalG P w K mg base G k x n (fun ts => (D ts).noX) := by
  obtain ⟨f, fd, ps, F, hm, hk, hb⟩ := c.ex
  refine ⟨f, fd, ps, F.imp fun vs H Q E h => ?_, hm, hk, hb⟩
  obtain ⟨ts, O, r, hl, tb, ex, hD⟩ := h
  refine ⟨ts, O, r, hl, tb, ex, ?_⟩
  dsimp only at hD
  cases e : D ts with
  | ok c => rw [e] at hD; exact hD
  | exc x => rw [e] at hD; exact hD.elim
  | stk => rw [e] at hD; exact hD.elim
structure MakG (P : Program) (w : World) (K : PySem.W.Frag) (mg : Str → Option Value) (base : Heap) (G : GG) (k : Nat) (c : Str) (n : Nat) (D : List T → RD) : Prop where
  ex : ∃ (C f : Addr) (fd : FuncData) (ps : List Str), FnG P w K mg base k f fd ps (SpI G c n D) ∧ Mk K C f ∧ mg c = some (.ref C) ∧ G.cls c = some C ∧ Binds K fd ps []
section
variable {G : GG} {X : Cx} {W : WX}
theorem noPass (σ : L2.St) : PassesAt (L2.CX X.prog X.w) X σ (fun _ _ _ => False) := fun _ _ _ _ _ _ z => (cx_no z).elim
theorem calldG_ok {D : List T → RD} {n : Nat} {fas : FA} {ts : TA} {E : L2.St → XK} (hs : ∀ F α ρ σ H Q, Rel G F α ρ σ H → SatA G W F σ (fas ρ) Q → ts σ H Q)
    (F α ρ σ H Q) (rl : Rel G F α ρ σ H) (s : SatE G W F σ (fCallD D n fas ρ) Q) : tCallS (SpT G n D) E ts σ H Q := by
  have t := callD_ok (E := E σ) hs F α ρ σ H Q rl s
  unfold tCall at t
  simp only [List.append_nil] at t
  exact t
theorem pef_calldG {D : List T → RD} {n k : Nat} {x : Str} {e : Expr} {es : List Expr} {fas : FA} {p pos : Pos} (c : CalG X.prog X.w X.K X.mg X.base G k x n D) (hr : RoomG k X.A) (hg : Gl X x)
    (hs : PAf G X W (e :: es) fas) (hdb : (x == ("__debug__" : Str)) = false := by decide) (he : starEach (e :: es) X.env = (false, eval e X.env) :: starEach es X.env := by rfl) (hpl : (backTo pos (starEach es X.env)).any (·.1) = false := by rfl) :
    PEf G X W (.Call (.Name x p) (e :: es) [] pos) (fCallD D n fas) := by
  obtain ⟨f, fd, ps, F, hm, hk, hb⟩ := c.ex
  obtain ⟨ts, ps', hs⟩ := hs
  exact ⟨_, pe_callG (E := fun _ _ _ _ => False) F hr hg hm hk hb noPass ps' hdb he hpl, calldG_ok hs⟩
theorem pef_callxG {D : List T → RD} {n k : Nat} {x : Str} {e : Expr} {es : List Expr} {fas : FA} {p pos : Pos} (tk : Takes X W) (c : CalG X.prog X.w X.K X.mg X.base G k x n D) (hr : RoomG k X.A) (hg : Gl X x)
    (hs : PAf G X W (e :: es) fas) (hdb : (x == ("__debug__" : Str)) = false := by decide) (he : starEach (e :: es) X.env = (false, eval e X.env) :: starEach es X.env := by rfl) (hpl : (backTo pos (starEach es X.env)).any (·.1) = false := by rfl) :
    PEf G X W (.Call (.Name x p) (e :: es) [] pos) (fCallX D n fas) := by
  obtain ⟨f, fd, ps, F, hm, hk, hb⟩ := c.ex
  obtain ⟨ts, ps', hs⟩ := hs
  exact ⟨_, pe_callG F hr hg hm hk hb (fun σ => L2.passAt tk σ) ps' hdb he hpl, callX_ok hs⟩
theorem make_atG {k : Nat} {f C : Addr} {fd : FuncData} {ps : List Str} {sp : Sp} {pins : List (Addr × Obj)} {σ : L2.St} {H : Hp} {s : Shared} {Q : VK} {E : XK} {as : List Value} {ws : List V} (m : Mk X.K C f) (fn : FnG X.prog X.w X.K X.mg X.base k f fd ps sp) (room : RoomG (k + 1) X.A) (bi : Binds X.K fd ps [])
    (out : PassesAt (L2.CX X.prog X.w) X σ E) (J : Inv X pins σ H s) (rel : Vals ws as)
    (want : ∀ x dx, H x = none → H dx = none → dx ≠ x → sp (.ref x :: ws) (upd (upd H dx (.own x)) x (.ins C dx [])) (fun v H2 => v = .non ∧ Q (.ref x) H2) E) :
    wpAny (model X.prog X.w) X.A (call (.ref C) as) (EP X pins σ Q) X.xe s := by
  have J2 := Inv.made (C := C) J
  generalize hn : s.heap.objs.size = n at J2
  have w0 := want (n + 1) n (J.hok.fresh (by rw [hn]; exact Nat.le_succ n)) (J.hok.fresh (by rw [hn]; exact Nat.le_refl n)) (Nat.ne_of_lt (Nat.lt_succ_self n))
  have all : Vals (V.ref (n + 1) :: ws) (Value.ref (n + 1) :: as) := .cons rfl rel
  have len : (Value.ref (n + 1) :: as).length = ps.length := all.length.symm.trans (fn.len _ _ _ _ w0)
  have bd := bi _ (Value.ref (n + 1) :: as) J2.kIn (by rw [List.append_nil]; exact len)
  rw [List.append_nil] at bd
  have body := fn.run _ X.stack _ _ ⟨Value.ref (n + 1) :: as, []⟩ (Value.ref (n + 1) :: as) (V.ref (n + 1) :: ws) _ E ⟨room.room.make C as [], by rw [guards_make]; exact room.free⟩ (J2.env0.make C as []) bd all w0
  subst hn
  refine wpAny_call (make_map (f := f) J.kIn m.makes m.init (beq_iff_eq.mp m.fn) (codeAny_mono body fun res s2 done => ?_))
  cases res with
  | error e => exact out pins _ _ e s2 J2 done
  | ok fl =>
    cases fl with
    | ret u =>
      obtain ⟨v, H3, J3, rv, hv, q⟩ := J2.after done
      rw [hv] at rv
      exact ⟨rv, V.ref _, H3, J3, rfl, q⟩
    | next => exact done.elim
    | brk => exact done.elim
    | cont => exact done.elim
theorem pef_makeG {D : List T → RD} {n k : Nat} {c : Str} {e : Expr} {es : List Expr} {fas : FA} {p pos : Pos} (tk : Takes X W) (md : MakG X.prog X.w X.K X.mg X.base G k c n D) (hr : RoomG (k + 1) X.A) (hg : Gl X c)
    (hs : PAf G X W (e :: es) fas) (hdb : (c == ("__debug__" : Str)) = false := by decide) (he : starEach (e :: es) X.env = (false, eval e X.env) :: starEach es X.env := by rfl) (hpl : (backTo pos (starEach es X.env)).any (·.1) = false := by rfl) :
    PEf G X W (.Call (.Name c p) (e :: es) [] pos) (fMake D n fas) := by
  obtain ⟨C, f, fd, ps, F, M, hm, hC, hb⟩ := md.ex
  obtain ⟨ts, ps', hs⟩ := hs
  refine ⟨tMakeS C (SpI G c n D) (WE W) ts, ⟨fun pins s σ H Q J want => wpAny_Call_Name_kw (ld_glob J hg hm ?_ hdb)⟩, make_ok hC hs⟩
  exact PySem.W.callWith_K (h₀ := X.base) J.ok.mod.kin M.kp (thn (ps'.run pos pins s σ H _ J want) fun as s1 ⟨ws, H1, J1, rel, q⟩ => ⟨J1.kIn, make_atG M F hr hb (L2.passAt tk σ) J1 rel q⟩) he hpl
end
section
variable {P : Program} {w : World} {K : PySem.W.Frag} {mg : Str → Option Value} {base : Heap} {G : GG} {x qual : Str} {st : Stmt} {f : Addr} {fd : FuncData} {N ps : List Str} {k : Nat} {fb : FS}
/-- a def that may raise -/
theorem fnG_exc (F : Fun K x qual st f fd) (S : FnScope N ps (defScope st))
    (hb : ∀ (cdv : Value) (A : Around) (outer : List PySem.Env) (s : Shared) (H : Hp) (E : XK), fd.code = cdv → RoomG k (A.deeper (PyProof.Rows.envOfC qual (defScope st) s.heap.objs.size f cdv)) →
      Takes (cxOf (L2.CX P w) P w K mg base N qual (defScope st) f cdv A outer s H E) (fun cls d _ H => E cls d H) →
      PSsf G (cxOf (L2.CX P w) P w K mg base N qual (defScope st) f cdv A outer s H E) (fun cls d _ H => E cls d H) (defBody st) fb) : FnG P w K mg base (k + 1) f fd ps (SpT G ps.length (runD N.length fb)) := by
  refine fnG_of F S (fun vs H Q E h => h.len) fun cdv A outer s H vs Q E hc hr hsp => ?_
  obtain ⟨ts, O, r, hl, tb, ex, hD⟩ := hsp
  obtain ⟨t, p, q⟩ := hb cdv A outer s H E hc hr (L2.takes_of rfl rfl rfl rfl)
  refine ⟨t, p, q ⟨O, H, fun _ => False, [], [], []⟩ [] (initE N.length ts) _ H _ (rel_start r tb ex) ?_⟩
  unfold runD at hD
  have hx : ∀ {α : List Addr} {ρ : Env} {σ : L2.St} {H' : Hp}, Rel G ⟨O, H, fun _ => False, [], [], []⟩ α ρ σ H' → HExt G H H' := fun rl => ⟨fun a u e => rl.frame a u e fun z => z, rl.tabs⟩
  cases hf : fb (initE N.length ts) with
  | exc y ρ =>
    rw [hf] at hD
    dsimp only at hD
    by_cases hn : T.nrf y.fs = true
    · rw [if_pos hn] at hD
      exact fun σ' cls d α H' rl he => hD cls d H' (hx rl) he
    · rw [if_neg hn] at hD; exact hD.elim
  | stk => rw [hf] at hD; exact hD
  | ok fl =>
    rw [hf] at hD
    cases fl with
    | next ρ => exact fun α σ H' rl => hD .non H' (hx rl) .non
    | ret t ρ =>
      intro v α σ H' rl hv
      dsimp only at hD
      cases et : fz ρ.mu 8 t with
      | none => rw [et] at hD; exact hD.elim
      | some t' =>
        rw [et] at hD
        exact hD v H' (hx rl) (fz_rep rl [] 8 hv et)
    | brk ρ => exact hD.elim
    | cnt ρ => exact hD.elim
/-- a def that raises nothing -/
theorem fnG_pure (F : Fun K x qual st f fd) (S : FnScope N ps (defScope st))
    (hb : ∀ (cdv : Value) (A : Around) (outer : List PySem.Env) (s : Shared) (H : Hp) (E : XK), fd.code = cdv → RoomG k (A.deeper (PyProof.Rows.envOfC qual (defScope st) s.heap.objs.size f cdv)) →
      PSsf G (cxOf (L2.CX P w) P w K mg base N qual (defScope st) f cdv A outer s H E).nox W0 (defBody st) fb) : FnG P w K mg base (k + 1) f fd ps (SpT G ps.length fun ts => (runD N.length fb ts).noX) := by
  refine fnG_of F S (fun vs H Q E h => h.len) fun cdv A outer s H vs Q E hc hr hsp => ?_
  obtain ⟨ts, O, r, hl, tb, ex, hD⟩ := hsp
  obtain ⟨t, p, q⟩ := hb cdv A outer s H E hc hr
  refine ⟨t, p.nox, q ⟨O, H, fun _ => False, [], [], []⟩ [] (initE N.length ts) _ H _ (rel_start r tb ex) ?_⟩
  dsimp only at hD
  unfold runD at hD
  have hx : ∀ {α : List Addr} {ρ : Env} {σ : L2.St} {H' : Hp}, Rel G ⟨O, H, fun _ => False, [], [], []⟩ α ρ σ H' → HExt G H H' := fun rl => ⟨fun a u e => rl.frame a u e fun z => z, rl.tabs⟩
  cases hf : fb (initE N.length ts) with
  | exc y ρ =>
    rw [hf] at hD
    dsimp only at hD
    by_cases hn : T.nrf y.fs = true
    · rw [if_pos hn] at hD; exact hD.elim
    · rw [if_neg hn] at hD; exact hD.elim
  | stk => rw [hf] at hD; exact hD
  | ok fl =>
    rw [hf] at hD
    cases fl with
    | next ρ => exact fun α σ H' rl => hD .non H' (hx rl) .non
    | ret t ρ =>
      intro v α σ H' rl hv
      dsimp only at hD
      cases et : fz ρ.mu 8 t with
      | none => rw [et] at hD; exact hD.elim
      | some t' =>
        rw [et] at hD
        exact hD v H' (hx rl) (fz_rep rl [] 8 hv et)
    | brk ρ => exact hD.elim
    | cnt ρ => exact hD.elim
/-- an __init__ -/
theorem fnG_init {c p0 : Str} (F : Fun K x qual st f fd) (S : FnScope N (p0 :: ps) (defScope st))
    (hb : ∀ (cdv : Value) (A : Around) (outer : List PySem.Env) (s : Shared) (H : Hp) (E : XK), fd.code = cdv → RoomG k (A.deeper (PyProof.Rows.envOfC qual (defScope st) s.heap.objs.size f cdv)) →
      Takes (cxOf (L2.CX P w) P w K mg base N qual (defScope st) f cdv A outer s H E) (fun cls d _ H => E cls d H) →
      PSsf G (cxOf (L2.CX P w) P w K mg base N qual (defScope st) f cdv A outer s H E) (fun cls d _ H => E cls d H) (defBody st) fb) : FnG P w K mg base (k + 1) f fd (p0 :: ps) (SpI G c ps.length (runI N.length c fb)) := by
  refine fnG_of F S (fun vs H Q E h => h.len) fun cdv A outer s H vs Q E hc hr hsp => ?_
  obtain ⟨x, C, dx, ws, ts, O, rfl, hx, hc2, hO, r, hl, tb, ex, hD⟩ := hsp
  obtain ⟨t, p, q⟩ := hb cdv A outer s H E hc hr (L2.takes_of rfl rfl rfl rfl)
  refine ⟨t, p, q ⟨O, H, fun a => a = x, [x], [], []⟩ [x] (initO N.length c ts) _ H _ (rel_startI hx hc2 hO r tb ex) ?_⟩
  unfold runI at hD
  have hx : ∀ {α : List Addr} {ρ : Env} {σ : L2.St} {H' : Hp}, Rel G ⟨O, H, fun a => a = x, [x], [], []⟩ α ρ σ H' → HBut G x H H' := fun rl => ⟨fun a u e n => rl.frame a u e n, rl.tabs⟩
  cases hf : fb (initO N.length c ts) with
  | exc e ρ =>
    rw [hf] at hD
    dsimp only at hD
    by_cases hn : T.nrf e.fs = true
    · rw [if_pos hn] at hD
      exact fun σ' cls d α H' rl he => hD cls d H' (hx rl) he
    · rw [if_neg hn] at hD; exact hD.elim
  | stk => rw [hf] at hD; exact hD
  | ok fl =>
    rw [hf] at hD
    cases fl with
    | next ρ =>
      intro α σ H' rl
      dsimp only at hD
      cases et : fz ρ.mu 9 (.ref 0) with
      | none => rw [et] at hD; exact hD.elim
      | some t' =>
        rw [et] at hD
        have a0 : α[0]? = some x := by
          obtain ⟨β, hβ⟩ := rl.al
          rw [← hβ]
          rfl
        exact hD H' (hx rl) (fz_rep rl [] 9 (.ref a0) et)
    | ret t ρ => exact hD.elim
    | brk ρ => exact hD.elim
    | cnt ρ => exact hD.elim
end
end Tr
namespace Tr
open PySem PySem.Spec PyProof.Rows L2 GxR Gx
/-! ### repr -/
mutual
def T.pd : T → Option PyData
  | .non => some .none
  | .bl b => some (.bool b)
  | .int i => some (.int i)
  | .str s => some (.str (S s))
  | .tup ts => (T.pds ts).map .tuple
  | .lst ts => (T.pds ts).map .list
  | .dct kvs => (T.pdv kvs).map .dict
  | _ => none
def T.pds : List T → Option (List PyData)
  | [] => some []
  | t :: ts => match T.pd t, T.pds ts with
    | some d, some ds => some (d :: ds)
    | _, _ => none
def T.pdv : List (T × T) → Option (List (PyData × PyData))
  | [] => some []
  | (k, v) :: r => match T.pd k, T.pd v, T.pdv r with
    | some a, some b, some ds => some ((a, b) :: ds)
    | _, _, _ => none
end
/-- the modules' dict stands at its place -/
def ModsAt (h : Heap) : Prop := ∃ (o : Obj) (es : Array DictEntry) (ep : Nat), h.get? sysModules = some o ∧ o.data = .dict es ep
theorem ModsAt.no {h : Heap} (m : ModsAt h) {a : Addr} {o : Obj} {its : Array Value} {n : Nat} (e : h.get? a = some o) (d : o.data = .seq its n) : sysModules ≠ a := by
  rintro rfl
  obtain ⟨o', es, ep, e', d'⟩ := m
  rw [e] at e'
  cases e'
  rw [d] at d'
  cases d'
section
variable {P : Program} {wd' : World} {h : Heap} {G : GG} {w : Wd} {H : Hp}
mutual
theorem rep_reads (ok : HOk P wd' H h) (inK : G.K.In h) (m : ModsAt h) : ∀ {v : V} {t : T} {d : PyData} {u : Value}, Rep G w H v t → T.pd t = some d → RelV v u → ∃ as, Reads h u d as ∧ sysModules ∉ as
  | _, _, _, _, .non, e, r => by rw [T.pd] at e; cases e; rw [show _ = Value.none from r]; exact ⟨[], .none, by simp⟩
  | _, _, _, _, .bl b, e, r => by rw [T.pd] at e; cases e; rw [show _ = Value.bool b from r]; exact ⟨[], .bool b, by simp⟩
  | _, _, _, _, .int i, e, r => by rw [T.pd] at e; cases e; obtain ⟨t, rfl⟩ := r; exact ⟨[], .int i t, by simp⟩
  | _, _, _, _, .str s, e, r => by rw [T.pd] at e; cases e; obtain ⟨t, rfl⟩ := r; exact ⟨[], .str _ t, by simp⟩
  | _, _, _, _, .tup (ts := ts) he hd q, e, r => by
    rw [T.pd] at e
    cases hp : T.pds ts with
    | none => rw [hp] at e; cases e
    | some ds =>
      rw [hp] at e
      cases e
      rw [show _ = Value.ref _ from r]
      obtain ⟨_, its, rv, o, h1, h2, n, h3⟩ := hd.ok ok
      obtain ⟨as, q1, q2⟩ := reps_reads ok inK m q hp rv
      exact ⟨as, .tuple h1 h2 h3 (by simpa using q1), q2⟩
  | _, _, _, _, .lst (ts := ts) he hd q, e, r => by
    rw [T.pd] at e
    cases hp : T.pds ts with
    | none => rw [hp] at e; cases e
    | some ds =>
      rw [hp] at e
      cases e
      rw [show _ = Value.ref _ from r]
      obtain ⟨_, its, n, rv, h1⟩ := hd.ok ok
      obtain ⟨as, q1, q2⟩ := reps_reads ok inK m q hp rv
      exact ⟨_ :: as, .list h1 rfl rfl (by simpa using q1), by
        rw [List.mem_cons]
        rintro (z | z)
        · exact m.no h1 rfl z
        · exact q2 z⟩
  | _, _, _, _, .lstK (ts := ts) hk q, e, r => by
    rw [T.pd] at e
    cases hp : T.pds ts with
    | none => rw [hp] at e; cases e
    | some ds =>
      rw [hp] at e
      cases e
      rw [show _ = Value.ref _ from r]
      obtain ⟨o, its, n, k1, k2, k3, k4, k5, rv⟩ := hk
      have h1 := inK _ _ k1
      obtain ⟨as, q1, q2⟩ := reps_reads ok inK m q hp rv
      exact ⟨_ :: as, .list h1 k2 k4 q1, by
        rw [List.mem_cons]
        rintro (z | z)
        · exact m.no h1 k4 z
        · exact q2 z⟩
  | _, _, _, _, .dct (kvs := kvs) he hH hd q, e, r => by
    rw [T.pd] at e
    cases hp : T.pdv kvs with
    | none => rw [hp] at e; cases e
    | some ds =>
      rw [hp] at e
      cases e
      rw [show _ = Value.ref _ from r]
      cases hd with
      | k kv =>
        obtain ⟨_, lo, vs, rk, o, es, ep, h1, h2, h3, _, prs, _⟩ := ok _ _ hH
        obtain ⟨as, bs, q1, q2, q3, q4⟩ := repD_reads ok inK m q hp kv rfl rk prs
        exact ⟨_ :: as ++ bs, .dict h1 h2.1 h3 q1 q2, by
          rw [List.mem_append, List.mem_cons]
          rintro ((z | z) | z)
          · rw [← z] at lo
            exact absurd lo (by decide)
          · exact q3 z
          · exact q4 z⟩
  | _, _, _, _, .ty _, e, _ => by simp [T.pd] at e
  | _, _, _, _, .obj _ _ _ _, e, _ => by simp [T.pd] at e
  | _, _, _, _, .ref _, e, _ => by simp [T.pd] at e
  | _, _, _, _, .dctN _ _ _, e, _ => by simp [T.pd] at e
  | _, _, _, _, .cl _, e, _ => by simp [T.pd] at e
  | _, _, _, _, .exo _ _ _, e, _ => by simp [T.pd] at e
theorem reps_reads (ok : HOk P wd' H h) (inK : G.K.In h) (m : ModsAt h) : ∀ {vs : List V} {ts : List T} {ds : List PyData} {us : List Value}, Reps G w H vs ts → T.pds ts = some ds → Vals vs us → ∃ as, ReadsAll h us ds as ∧ sysModules ∉ as
  | _, _, _, _, .nil, e, .nil => by rw [T.pds] at e; cases e; exact ⟨[], .nil, by simp⟩
  | _, _, _, _, .cons r rs, e, .cons q qs => by
    rw [T.pds] at e
    split at e
    · rename_i d ds e1 e2
      cases e
      obtain ⟨as, p1, p2⟩ := rep_reads ok inK m r e1 q
      obtain ⟨bs, p3, p4⟩ := reps_reads ok inK m rs e2 qs
      exact ⟨as ++ bs, .cons p1 p3, fun z => (List.mem_append.mp z).elim p2 p4⟩
    · cases e
theorem repD_reads (ok : HOk P wd' H h) (inK : G.K.In h) (m : ModsAt h) : ∀ {xs : List (T × V)} {ts : List (T × T)} {ds : List (PyData × PyData)}, RepD G w H xs ts → T.pdv ts = some ds → ∀ (kv : List (Key × V)), xs = kv.map (fun p => (kT p.1, p.2)) → ∀ {vs : List (Key × Value)} {es : List DictEntry}, KV kv vs → Pairs (mixKind P wd') es vs →
    ∃ as bs, ReadsAll h (es.map (·.key)) (ds.map (·.1)) as ∧ ReadsAll h (es.map (·.val)) (ds.map (·.2)) bs ∧ sysModules ∉ as ∧ sysModules ∉ bs
  | _, _, _, .nil, e, kv, hx, vs, es, rk, prs => by
    cases kv with
    | cons p kv => cases hx
    | nil =>
      cases rk
      cases prs
      rw [T.pdv] at e
      cases e
      exact ⟨[], [], .nil, .nil, by simp, by simp⟩
  | _, _, _, .cons (n := n) r rs, e, kv, hx, vs, es, rk, prs => by
    cases kv with
    | nil => cases hx
    | cons p kv =>
      rw [List.map_cons] at hx
      injection hx with hx1 hx2
      injection hx1 with hn hv
      cases rk with
      | cons r1 rk =>
        cases prs with
        | @cons e0 _ _ _ i1 i2 prs =>
          rw [T.pdv] at e
          split at e
          · rename_i a b ds e1 e2 e3
            cases e
            obtain ⟨as, bs, p1, p2, p3, p4⟩ := repD_reads ok inK m rs e3 kv hx2 rk prs
            obtain ⟨cs, p5, p6⟩ := rep_reads ok inK m r e2 (by rw [hv]; exact r1.2)
            rw [← i2] at p5
            rw [← r1.1] at i1
            have key : Reads h e0.key a [] := by
              rw [hn] at e1
              rcases keyIs_shape i1 with ⟨i, t, k1, k2⟩ | ⟨x, t, k1, k2⟩
              · rw [k1] at e1
                have e1 : T.pd (.int i) = some a := e1
                rw [T.pd] at e1
                cases e1
                rw [k2]
                exact .int i t
              · rw [k1] at e1
                have e1 : T.pd (.str x.cps.toList) = some a := e1
                rw [T.pd] at e1
                cases e1
                rw [k2]
                exact .str _ t
            exact ⟨[] ++ as, cs ++ bs, .cons key p1, .cons p5 p2, by simpa using p3, fun z => (List.mem_append.mp z).elim p6 p4⟩
          · cases e
end
end
/-- a thing's text -/
def reprT : List T → Option T
  | [t] => (match T.pd t with
    | some d => if d.showable = true ∧ d.depth ≤ 20 ∧ d.shown.length ≤ 16777216 then some (.str d.shown.cps.toList) else none
    | none => none)
  | _ => none
section
variable {G : GG} {X : Cx} {W : WX}
theorem call_repr_t (hK : G.K = X.K) (free : X.A.guards = some []) (room : X.A.units + 64 < cLine) (hm : ∃ mm, X.base.Ns sysModules mm) : CallT G X (.builtin "repr") reprT := by
  refine ⟨fun xs H Q => ∃ (w : Wd) (x : V) (t : T) (d : PyData), xs = [x] ∧ RV G w H x t ∧ T.pd t = some d ∧ d.showable = true ∧ d.depth ≤ 20 ∧ d.shown.length ≤ 16777216 ∧ Q (.str d.shown) H, ?_, ?_⟩
  · intro pins s σ H xs us Q I r want
    obtain ⟨w, x, t, d, rfl, rt, hd, h1, h2, h3, q⟩ := want
    obtain ⟨u, rfl, ru⟩ := vals1 r
    have m : ModsAt s.heap := by
      obtain ⟨mm, o, es, ep, e, dd, _⟩ := hm
      exact ⟨o, es, ep, I.bk _ _ e, dd⟩
    have inK : G.K.In s.heap := by rw [hK]; exact I.kIn
    have reads : ∃ as, Reads s.heap u d as ∧ sysModules ∉ as := by
      cases rt with
      | of rt => exact rep_reads I.hok inK m rt hd ru
      | @lst a vs ts hH rq =>
        rw [T.pd] at hd
        cases hp : T.pds ts with
        | none => rw [hp] at hd; cases hd
        | some ds =>
          rw [hp] at hd
          cases hd
          obtain rfl : u = Value.ref a := ru
          obtain ⟨_, its, n, rv, e1⟩ := (show ObjOk X.prog X.w H s.heap a (.lst vs) from I.hok a _ hH)
          obtain ⟨as, q1, q2⟩ := reps_reads I.hok inK m rq hp rv
          exact ⟨_ :: as, .list e1 rfl rfl (by simpa using q1), by
            rw [List.mem_cons]
            rintro (z | z)
            · exact m.no e1 rfl z
            · exact q2 z⟩
      | @dct a o es kvs hH ho rq =>
        rw [T.pd] at hd
        cases hp : T.pdv kvs with
        | none => rw [hp] at hd; cases hd
        | some ds =>
          rw [hp] at hd
          cases hd
          obtain rfl : u = Value.ref a := ru
          cases ho with
          | k kv =>
            obtain ⟨_, lo, vs, rk, o, es, ep, e1, e2, e3, _, prs, _⟩ := I.hok _ _ hH
            obtain ⟨as, bs, q1, q2, q3, q4⟩ := repD_reads I.hok inK m rq hp kv rfl rk prs
            exact ⟨_ :: as ++ bs, .dict e1 e2.1 e3 q1 q2, by
              rw [List.mem_append, List.mem_cons]
              rintro ((z | z) | z)
              · rw [← z] at lo
                exact absurd lo (by decide)
              · exact q3 z
              · exact q4 z⟩
      | obj _ _ _ => simp [T.pd] at hd
    obtain ⟨as, rd, na⟩ := reads
    have fin : ∀ h' tk, (∀ b o, s.heap.get? b = some o → h'.get? b = some o) → ∀ y, EP X pins σ Q (.str d.shown y) { s with heap := h', toks := tk } := fun h' tk hk y => ⟨.str d.shown, H, I.kept hk, ⟨y, rfl⟩, q⟩
    have line : d.shown.length ≤ sizeLine := by rw [sz_eq]; exact h3
    cases rd with
    | none => exact PySem.P.repr_of_none (fin s.heap _ (fun _ _ e => e) _)
    | bool b => exact PySem.P.repr_of_bool (fin s.heap _ (fun _ _ e => e) _)
    | int i t => exact PySem.P.repr_of_int (by simpa [PyData.showable] using h1) (fin s.heap _ (fun _ _ e => e) _)
    | str x t => exact PySem.P.repr_of_str (fin s.heap _ (fun _ _ e => e) _) line
    | list a1 a2 a3 a4 => exact repr_of_reads' (.list a1 a2 a3 a4) h1 (fun _ => na) free (by omega) (fun _ _ e => e) (fun h' y tk hk => fin h' tk hk y) line
    | tuple a1 a2 a3 a4 => exact repr_of_reads' (.tuple a1 a2 a3 a4) h1 (fun _ => na) free (by omega) (fun _ _ e => e) (fun h' y tk hk => fin h' tk hk y) line
    | dict a1 a2 a3 a4 a5 => exact repr_of_reads' (.dict a1 a2 a3 a4 a5) h1 (fun _ => na) free (by omega) (fun _ _ e => e) (fun h' y tk hk => fin h' tk hk y) line
  · intro w H Q vs ts c e wf rs q
    unfold reprT at e
    split at e
    · rename_i t
      obtain ⟨v, rfl, r⟩ := rvs1 rs
      split at e
      · rename_i d hd
        split at e
        · rename_i hz
          cases e
          exact ⟨w, v, t, d, rfl, r, hd, hz.1, hz.2.1, hz.2.2, q (.str d.shown) H (HExt.refl wf.tabs) (.str d.shown.cps.toList)⟩
        · cases e
      · cases e
    · cases e
end
end Tr
namespace Tr
open PySem L2 GxR Gx
/-! ### a table of the classes of errors, row by row -/
def rowOf (rows : List ((Str × (String ⊕ Str)) × Bool)) (k : Str × (String ⊕ Str)) : Option Bool := (rows.find? fun r => decide (r.1 = k)).map (·.2)
def tabOf (rows : List ((Str × (String ⊕ Str)) × Bool)) : Str → T → Option Bool := fun c t => match t with
  | .ty n => rowOf rows (c, .inl n)
  | .cl d => rowOf rows (c, .inr d)
  | _ => none
theorem look_mem {k : Str × (String ⊕ Str)} {v : Bool} {l : List ((Str × (String ⊕ Str)) × Bool)} (h : rowOf l k = some v) : (k, v) ∈ l := by
  unfold rowOf at h
  cases hf : l.find? fun r => decide (r.1 = k) with
  | none => rw [hf] at h; cases h
  | some r =>
    rw [hf] at h
    cases h
    have e := List.find?_some hf
    have e : r.1 = k := by simpa using e
    have m := List.mem_of_find?_eq_some hf
    rw [← e]
    exact m
theorem subOk_of {G : GG} {rows : List ((Str × (String ⊕ Str)) × Bool)} (h : ∀ r ∈ rows, ∀ C, G.ecl r.1.1 = some C → ExcC G.K C ∧ match r.1.2 with
    | .inl n => PySem.W.kitOne G.K (.ref C) (.type n) = some r.2
    | .inr d => ∀ D, G.ecl d = some D → PySem.W.kitOne G.K (.ref C) (.ref D) = some r.2) : SubOk G (tabOf rows) where
  ty c C n b hC hs := (h _ (look_mem hs) C hC).2
  cl c C d D b hC hD hs := (h _ (look_mem hs) C hC).2 D hD
  no c k b hs := by
    cases k with
    | ty n => exact .inl ⟨n, rfl⟩
    | cl d => exact .inr ⟨d, rfl⟩
    | _ => cases hs
  ex c C k b hC hs := by
    cases k with
    | ty n => exact (h _ (look_mem hs) C hC).1
    | cl d => exact (h _ (look_mem hs) C hC).1
    | _ => cases hs
theorem exm_mk {K : PySem.W.Frag} {X R : Addr} (b : PySem.W.subIn K (.ref R) (.type "BaseException") = some true) (i : PySem.W.isClsIn K R = true) (t : PySem.W.typeIn K (.ref R) = some (.type "type")) (s : PySem.W.subIn K (.ref X) (.ref R) = some true) : PySem.W.exmOne K (.ref X) (.ref R) = some true := by
  unfold PySem.W.exmOne PySem.W.kitCls
  unfold PySem.W.isClsIn at i
  simp only [b, t, s, i]
  rfl
end Tr
namespace K13
open PySem L2 GxR Gx Tr
structure Txt (K : PySem.W.Frag) (mg : Str → Option Value) : Prop where
  c_MOST_LETTERS : ∃ t, mg "MOST_LETTERS" = some (.int 8 t)
  c_MOST_NAMES : ∃ t, mg "MOST_NAMES" = some (.int 8 t)
  c_MOST_RULES : ∃ t, mg "MOST_RULES" = some (.int 300 t)
  b_ValueError : mg "ValueError" = none
  b_abs : mg "abs" = none
  b_all : mg "all" = none
  b_dict : mg "dict" = none
  b_enumerate : mg "enumerate" = none
  b_isinstance : mg "isinstance" = none
  b_len : mg "len" = none
  b_list : mg "list" = none
  b_range : mg "range" = none
  b_repr : mg "repr" = none
  b_sorted : mg "sorted" = none
  b_str : mg "str" = none
  b_tuple : mg "tuple" = none
def sub_rows : List ((Str × (String ⊕ Str)) × Bool) := [(("NoGrammar", .inr "NoChart"), false), (("NoGrammar", .inr "NoDeed"), false), (("NoGrammar", .inr "NoGrammar"), true), (("NoGrammar", .inr "NoMachine"), false), (("NoGrammar", .inr "NoPart"), false), (("NoGrammar", .inr "NoRow"), false), (("NoGrammar", .inr "NoTable"), false), (("NoGrammar", .inr "NoText"), false), (("NoGrammar", .inr "NoTree"), false), (("NoGrammar", .inr "ReadError"), true), (("NoGrammar", .inr "TooMany"), false), (("NoGrammar", .inl "ValueError"), true), (("TooMany", .inr "NoChart"), false), (("TooMany", .inr "NoDeed"), false), (("TooMany", .inr "NoGrammar"), false), (("TooMany", .inr "NoMachine"), false), (("TooMany", .inr "NoPart"), false), (("TooMany", .inr "NoRow"), false), (("TooMany", .inr "NoTable"), false), (("TooMany", .inr "NoText"), false), (("TooMany", .inr "NoTree"), false), (("TooMany", .inr "ReadError"), true), (("TooMany", .inr "TooMany"), true), (("TooMany", .inl "ValueError"), true)]
def sub_tab : Str → T → Option Bool := tabOf sub_rows
def cat_ReadError : Str → Option Bool := fun e => if e ∈ (["NoGrammar", "TooMany"] : List Str) then some true else none
def st_is_name : Stmt := PySem.Challenge.pw_paperreader_k13_grammars_refused.main.body.getD 15 (.Pass ⟨0, 0, 0, 0⟩)
abbrev N_is_name : List Str := ["thing", "sign"]
theorem sc_is_name : FnScope N_is_name ["thing"] (defScope st_is_name) := ⟨rfl, rfl, rfl, by decide +kernel, rfl, by decide +kernel, by decide +kernel⟩
def b_is_name : FS := (fSeq (fIfS (fOr (fNot (fTest (fCall (isiU (isiE sub_tab)) (fCons (fVar 0) (fCons (fC (.ty "str")) fNil))))) (fNot (fTest (fChain leT leT (fC (.int 1)) (fCall lenX (fCons (fVar 0) fNil)) (fC (.int 8)))))) (fRet (fC (.bl false))) fNext) (fRet (fAA false [1] (fItS (fVar 0)) (fSet 1) fYes (fChain leT leT (fC (.str [97])) (fVar 1) (fC (.str [122]))))))
def D_is_name : List T → RD := fun ts => (runD N_is_name.length b_is_name ts).noX
theorem fn_is_name {P : Program} {w : World} {K : PySem.W.Frag} {mg : Str → Option Value} {base : Heap} {G : GG} {f : Addr} {fd : FuncData} (hK : G.K = K) (hP : G.prog = P) (hW : G.wld = w) (F : Fun K "is_name" "is_name" st_is_name f fd) (T : Txt K mg) {c P' : Addr} (hcd : fd.code = .ref c) (TB : TabB base mg c P') (hTab : P' ∈ G.tabs) (so : SubOk G sub_tab) :
    FnG P w K mg base 3 f fd ["thing"] (SpT G 1 D_is_name) := by
  subst hK hP hW
  refine fnG_pure (k := 2) F sc_is_name (fb := b_is_name) fun cdv A outer s H E hc hr => ?_
  have hcode : cdv = .ref c := hc.symm.trans hcd
  subst hcode
  have hcode : (cxOf (L2.CX G.prog G.wld) G.prog G.wld G.K mg base N_is_name "is_name" (defScope st_is_name) f (.ref c) A outer s H E).nox.env.code = .ref c := rfl
  unfold b_is_name
  exact (pss_consf (ps_iff (PWf.pt (pwf_or (ptf_not (ptf_val (pef_callB (call_isi_u (call_isi_e so rfl) rfl) (by rfl) T.b_isinstance (by first | rfl | decide +kernel) (paf_cons (pef_var (pv 0)) (paf_cons (pef_ty (by rfl) T.b_str (by first | rfl | decide +kernel)) paf_nil))))) (pwf_or1 (ptf_not (ptf_chain (op_le_t) (op_le_t) pef_int (pef_callB (call_len_x rfl) (by rfl) T.b_len (by first | rfl | decide +kernel) (paf_cons (pef_var (pv 0)) paf_nil)) (pef_gint (by rfl) T.c_MOST_LETTERS)))))) (pss_onef (ps_retf pef_bl)) pss_nilf) (pss_onef (ps_retf (pef_aa (own := [("sign", 1)]) false rfl hTab ((hr).room.mono (by decide)) (by rfl) T.b_all TB hcode rfl sc_is_name.nd (pif_str (pef_var (pv 0))) (blkOk_by (N := N_is_name) (sc := defScope st_is_name) (by decide +kernel)) rfl (by decide +kernel) rfl (fun _ _ _ _ _ _ => (pgf_name (pg_name (i := 1) sc_is_name.nd rfl (by first | exact Or.inl rfl | exact Or.inr rfl)))) (fun _ _ _ _ _ _ => ptsf_nil) (fun _ _ _ _ _ _ => (pef_chain (op_le_t) (op_le_t) (pef_str (l := [97]) rfl) (pef_var (pv 1)) (pef_str (l := [122]) rfl)))))))

def st_are_names : Stmt := PySem.Challenge.pw_paperreader_k13_grammars_refused.main.body.getD 16 (.Pass ⟨0, 0, 0, 0⟩)
abbrev N_are_names : List Str := ["thing", "most", "name"]
theorem sc_are_names : FnScope N_are_names ["thing", "most"] (defScope st_are_names) := ⟨rfl, rfl, rfl, by decide +kernel, rfl, by decide +kernel, by decide +kernel⟩
def b_are_names : FS := (fSeq (fIfS (fOr (fNot (fTest (fCall (isiU (isiE sub_tab)) (fCons (fVar 0) (fCons (fC (.ty "tuple")) fNil))))) (fTest (fBin gtT (fCall lenX (fCons (fVar 0) fNil)) (fVar 1)))) (fRet (fC (.bl false))) fNext) (fRet (fAA false [2] (fItT (fVar 0)) (fSet 2) fYes (fCallD D_is_name 1 (fCons (fVar 2) fNil)))))
def D_are_names : List T → RD := fun ts => (runD N_are_names.length b_are_names ts).noX
theorem fn_are_names {P : Program} {w : World} {K : PySem.W.Frag} {mg : Str → Option Value} {base : Heap} {G : GG} {f : Addr} {fd : FuncData} (hK : G.K = K) (hP : G.prog = P) (hW : G.wld = w) (F : Fun K "are_names" "are_names" st_are_names f fd) (T : Txt K mg) {c P' : Addr} (hcd : fd.code = .ref c) (TB : TabB base mg c P') (hTab : P' ∈ G.tabs) (c_is_name : CalG P w K mg base G 3 "is_name" 1 D_is_name) (so : SubOk G sub_tab) :
    FnG P w K mg base 5 f fd ["thing", "most"] (SpT G 2 D_are_names) := by
  subst hK hP hW
  refine fnG_pure (k := 4) F sc_are_names (fb := b_are_names) fun cdv A outer s H E hc hr => ?_
  have hcode : cdv = .ref c := hc.symm.trans hcd
  subst hcode
  have hcode : (cxOf (L2.CX G.prog G.wld) G.prog G.wld G.K mg base N_are_names "are_names" (defScope st_are_names) f (.ref c) A outer s H E).nox.env.code = .ref c := rfl
  unfold b_are_names
  exact (pss_consf (ps_iff (PWf.pt (pwf_or (ptf_not (ptf_val (pef_callB (call_isi_u (call_isi_e so rfl) rfl) (by rfl) T.b_isinstance (by first | rfl | decide +kernel) (paf_cons (pef_var (pv 0)) (paf_cons (pef_ty (by rfl) T.b_tuple (by first | rfl | decide +kernel)) paf_nil))))) (pwf_or1 (ptf_cmp (op_gt_t) (pef_callB (call_len_x rfl) (by rfl) T.b_len (by first | rfl | decide +kernel) (paf_cons (pef_var (pv 0)) paf_nil)) (pef_var (pv 1)) (by first | rfl | with_unfolding_all rfl))))) (pss_onef (ps_retf pef_bl)) pss_nilf) (pss_onef (ps_retf (pef_aa (own := [("name", 2)]) false rfl hTab ((hr).room.mono (by decide)) (by rfl) T.b_all TB hcode rfl sc_are_names.nd (pif_tup rfl (pef_var (pv 0))) (blkOk_by (N := N_are_names) (sc := defScope st_are_names) (by decide +kernel)) rfl (by decide +kernel) rfl (fun _ _ _ _ _ _ => (pgf_name (pg_name (i := 2) sc_are_names.nd rfl (by first | exact Or.inl rfl | exact Or.inr rfl)))) (fun _ _ _ _ _ _ => ptsf_nil) (fun _ _ _ _ _ _ => (pef_calldG c_is_name ((roomG_gen hr).mono (by decide)) (by rfl) (paf_cons (pef_var (pv 2)) paf_nil)))))))

def st_is_rule : Stmt := PySem.Challenge.pw_paperreader_k13_grammars_refused.main.body.getD 21 (.Pass ⟨0, 0, 0, 0⟩)
abbrev N_is_rule : List Str := ["thing"]
theorem sc_is_rule : FnScope N_is_rule ["thing"] (defScope st_is_rule) := ⟨rfl, rfl, rfl, by decide +kernel, rfl, by decide +kernel, by decide +kernel⟩
def b_is_rule : FS := (fSeq (fIfS (fOr (fNot (fTest (fCall (isiU (isiE sub_tab)) (fCons (fVar 0) (fCons (fC (.ty "tuple")) fNil))))) (fTest (fBin neT (fCall lenX (fCons (fVar 0) fNil)) (fC (.int 2))))) (fRet (fC (.bl false))) fNext) (fRet (fAndV (fCallD D_is_name 1 (fCons (fBin ixT (fVar 0) (fC (.int 0))) fNil)) (fCallD D_are_names 2 (fCons (fBin ixT (fVar 0) (fC (.int 1))) (fCons (fC (.int 8)) fNil))))))
def D_is_rule : List T → RD := fun ts => (runD N_is_rule.length b_is_rule ts).noX
theorem fn_is_rule {P : Program} {w : World} {K : PySem.W.Frag} {mg : Str → Option Value} {base : Heap} {G : GG} {f : Addr} {fd : FuncData} (hK : G.K = K) (hP : G.prog = P) (hW : G.wld = w) (F : Fun K "is_rule" "is_rule" st_is_rule f fd) (T : Txt K mg) (c_are_names : CalG P w K mg base G 5 "are_names" 2 D_are_names) (c_is_name : CalG P w K mg base G 3 "is_name" 1 D_is_name) (so : SubOk G sub_tab) :
    FnG P w K mg base 6 f fd ["thing"] (SpT G 1 D_is_rule) := by
  subst hK hP hW
  refine fnG_pure (k := 5) F sc_is_rule (fb := b_is_rule) fun cdv A outer s H E hc hr => ?_
  unfold b_is_rule
  exact (pss_consf (ps_iff (PWf.pt (pwf_or (ptf_not (ptf_val (pef_callB (call_isi_u (call_isi_e so rfl) rfl) (by rfl) T.b_isinstance (by first | rfl | decide +kernel) (paf_cons (pef_var (pv 0)) (paf_cons (pef_ty (by rfl) T.b_tuple (by first | rfl | decide +kernel)) paf_nil))))) (pwf_or1 (ptf_cmp (op_ne_t rfl (hu64 hr.room)) (pef_callB (call_len_x rfl) (by rfl) T.b_len (by first | rfl | decide +kernel) (paf_cons (pef_var (pv 0)) paf_nil)) pef_int (by first | rfl | with_unfolding_all rfl))))) (pss_onef (ps_retf pef_bl)) pss_nilf) (pss_onef (ps_retf (pef_and (pef_calldG c_is_name (hr.mono (by decide)) (by rfl) (paf_cons (pef_ix rfl (pef_var (pv 0)) pef_int) paf_nil)) (pef_one (pef_calldG c_are_names (hr.mono (by decide)) (by rfl) (paf_cons (pef_ix rfl (pef_var (pv 0)) pef_int) (paf_cons (pef_gint (by rfl) T.c_MOST_NAMES) paf_nil))))))))

def st_check_rules : Stmt := PySem.Challenge.pw_paperreader_k13_grammars_refused.main.body.getD 22 (.Pass ⟨0, 0, 0, 0⟩)
abbrev N_check_rules : List Str := ["rules", "rule"]
theorem sc_check_rules : FnScope N_check_rules ["rules"] (defScope st_check_rules) := ⟨rfl, rfl, rfl, by decide +kernel, rfl, by decide +kernel, by decide +kernel⟩
def b_check_rules : FS := (fSeq (fIfS (fOr (fNot (fTest (fCall (isiU (isiE sub_tab)) (fCons (fVar 0) (fCons (fTup (fCons (fC (.ty "list")) (fCons (fC (.ty "tuple")) fNil))) fNil))))) (fTest (fBin eqT (fCall lenX (fCons (fVar 0) fNil)) (fC (.int 0))))) (fRaise "NoGrammar") fNext) (fSeq (fIfS (fNot (fTest (fAA false [1] (fItL (fVar 0)) (fSet 1) fYes (fCallD D_is_rule 1 (fCons (fVar 1) fNil))))) (fRaise "NoGrammar") fNext) (fSeq (fIfS (fTest (fBin ltT (fCall lenX (fCons (fDc .dcN putNT [1] (fItL (fVar 0)) (fSet 1) fYes (fVar 1) (fC (.bl true))) fNil)) (fCall lenX (fCons (fVar 0) fNil)))) (fRaise "NoGrammar") fNext) (fIfS (fTest (fBin gtT (fCall lenX (fCons (fVar 0) fNil)) (fC (.int 300)))) (fRaise "TooMany") fNext))))
def D_check_rules : List T → RD := runD N_check_rules.length b_check_rules
theorem fn_check_rules {P : Program} {w : World} {K : PySem.W.Frag} {mg : Str → Option Value} {base : Heap} {G : GG} {f : Addr} {fd : FuncData} (hK : G.K = K) (hP : G.prog = P) (hW : G.wld = w) (F : Fun K "check_rules" "check_rules" st_check_rules f fd) (T : Txt K mg) {c P' : Addr} (hcd : fd.code = .ref c) (TB : TabB base mg c P') (hTab : P' ∈ G.tabs) (c_is_rule : CalG P w K mg base G 6 "is_rule" 1 D_is_rule) (x_NoGrammar : ExD K mg G "NoGrammar") (x_TooMany : ExD K mg G "TooMany") (hX : G.exr = exrOf G.ecl) (so : SubOk G sub_tab) :
    FnG P w K mg base 8 f fd ["rules"] (SpT G 1 (runD N_check_rules.length b_check_rules)) := by
  subst hK hP hW
  refine fnG_exc (k := 7) F sc_check_rules (fb := b_check_rules) fun cdv A outer s H E hc hr tk => ?_
  have hcode : cdv = .ref c := hc.symm.trans hcd
  subst hcode
  have hcode : (cxOf (L2.CX G.prog G.wld) G.prog G.wld G.K mg base N_check_rules "check_rules" (defScope st_check_rules) f (.ref c) A outer s H E).env.code = .ref c := rfl
  unfold b_check_rules
  exact (pss_consf (ps_iff (PWf.pt (pwf_or (ptf_not (ptf_val (pef_callB (call_isi_u (call_isi_e so rfl) rfl) (by rfl) T.b_isinstance (by first | rfl | decide +kernel) (paf_cons (pef_var (pv 0)) (paf_cons (pef_tup (paf_cons (pef_ty (by rfl) T.b_list (by first | rfl | decide +kernel)) (paf_cons (pef_ty (by rfl) T.b_tuple (by first | rfl | decide +kernel)) paf_nil))) paf_nil))))) (pwf_or1 (ptf_cmp (op_eq_t rfl (hu64 hr.room)) (pef_callB (call_len_x rfl) (by rfl) T.b_len (by first | rfl | decide +kernel) (paf_cons (pef_var (pv 0)) paf_nil)) pef_int (by first | rfl | with_unfolding_all rfl))))) (pss_onef (ps_raised rfl tk x_NoGrammar hX (by rfl))) pss_nilf) (pss_consf (ps_iff (ptf_not (ptf_val (pef_aa (own := [("rule", 1)]) false rfl hTab ((hr).room.mono (by decide)) (by rfl) T.b_all TB hcode rfl sc_check_rules.nd (pif_list rfl (pef_var (pv 0))) (blkOk_by (N := N_check_rules) (sc := defScope st_check_rules) (by decide +kernel)) rfl (by decide +kernel) rfl (fun _ _ _ _ _ _ => (pgf_name (pg_name (i := 1) sc_check_rules.nd rfl (by first | exact Or.inl rfl | exact Or.inr rfl)))) (fun _ _ _ _ _ _ => ptsf_nil) (fun _ _ _ _ _ _ => (pef_calldG c_is_rule ((roomG_gen hr).mono (by decide)) (by rfl) (paf_cons (pef_var (pv 1)) paf_nil)))))) (pss_onef (ps_raised rfl tk x_NoGrammar hX (by rfl))) pss_nilf) (pss_consf (ps_iff (ptf_cmp (op_lt_t) (pef_callB (call_len_x rfl) (by rfl) T.b_len (by first | rfl | decide +kernel) (paf_cons (pef_dcN (own := [("rule", 1)]) (hu8 hr.room) rfl rfl rfl sc_check_rules.nd (pif_list rfl (pef_var (pv 0))) (blkOk_by (N := N_check_rules) (sc := defScope st_check_rules) (by decide +kernel)) (fun _ _ _ _ _ => (pgf_name (pg_name (i := 1) sc_check_rules.nd rfl (by first | exact Or.inl rfl | exact Or.inr rfl)))) (fun _ _ _ _ _ => ptsf_nil) (fun _ _ _ _ _ => (pef_var (pv 1))) (fun _ _ _ _ _ => pef_bl)) paf_nil)) (pef_callB (call_len_x rfl) (by rfl) T.b_len (by first | rfl | decide +kernel) (paf_cons (pef_var (pv 0)) paf_nil)) (by first | rfl | with_unfolding_all rfl)) (pss_onef (ps_raised rfl tk x_NoGrammar hX (by rfl))) pss_nilf) (pss_onef (ps_iff (ptf_cmp (op_gt_t) (pef_callB (call_len_x rfl) (by rfl) T.b_len (by first | rfl | decide +kernel) (paf_cons (pef_var (pv 0)) paf_nil)) (pef_gint (by rfl) T.c_MOST_RULES) (by first | rfl | with_unfolding_all rfl)) (pss_onef (ps_raised rfl tk x_TooMany hX (by rfl))) pss_nilf)))))

def st_numbers_by_part : Stmt := PySem.Challenge.pw_paperreader_k13_grammars_refused.main.body.getD 23 (.Pass ⟨0, 0, 0, 0⟩)
abbrev N_numbers_by_part : List Str := ["rules", "numbers", "number", "rule"]
theorem sc_numbers_by_part : FnScope N_numbers_by_part ["rules"] (defScope st_numbers_by_part) := ⟨rfl, rfl, rfl, by decide +kernel, rfl, by decide +kernel, by decide +kernel⟩
def b_numbers_by_part : FS := (fSeq (fAsg 1 fOwnD0) (fSeq (fFor (fEnumT (fCons (fVar 0) fNil)) (fGTup 2 (fGCons (fSet 2) (fGCons (fSet 3) fGNil))) (fDrop (fAppend (fSetd (fVar 1) (fBin ixT (fVar 3) (fC (.int 0))) (fOwn (fLstN fNil))) (fVar 2)))) (fRet (fVar 1))))
def D_numbers_by_part : List T → RD := fun ts => (runD N_numbers_by_part.length b_numbers_by_part ts).noX
theorem fn_numbers_by_part {P : Program} {w : World} {K : PySem.W.Frag} {mg : Str → Option Value} {base : Heap} {G : GG} {f : Addr} {fd : FuncData} (hK : G.K = K) (hP : G.prog = P) (hW : G.wld = w) (F : Fun K "numbers_by_part" "numbers_by_part" st_numbers_by_part f fd) (T : Txt K mg) :
    FnG P w K mg base 1 f fd ["rules"] (SpT G 1 D_numbers_by_part) := by
  subst hK hP hW
  refine fnG_pure (k := 0) F sc_numbers_by_part (fb := b_numbers_by_part) fun cdv A outer s H E hc hr => ?_
  unfold b_numbers_by_part
  exact (pss_consf (ps_setf (i := 1) sc_numbers_by_part.nd rfl (by first | exact Or.inl rfl | exact Or.inr rfl) pef_dctO) (pss_consf (ps_forf PassesOwn.never rfl (pif_enumT rfl (by rfl) T.b_enumerate (paf_cons (pef_var (pv 0)) paf_nil)) (pgf_tup rfl rfl (pgsf_cons (pgf_name (pg_name (i := 2) sc_numbers_by_part.nd rfl (by first | exact Or.inl rfl | exact Or.inr rfl))) (pgsf_cons (pgf_name (pg_name (i := 3) sc_numbers_by_part.nd rfl (by first | exact Or.inl rfl | exact Or.inr rfl))) pgsf_nil))) (pss_onef (ps_exprf (pef_append (pef_setd (pef_var (pv 1)) (pef_ix rfl (pef_var (pv 3)) pef_int) (PNf.own (pnf_lst paf_nil)) ⟨by rfl, by rfl, by rfl, by rfl⟩) (pef_var (pv 2)))))) (pss_onef (ps_retf (pef_var (pv 1))))))

def st_words_of : Stmt := PySem.Challenge.pw_paperreader_k13_grammars_refused.main.body.getD 24 (.Pass ⟨0, 0, 0, 0⟩)
abbrev N_words_of : List Str := ["rules", "parts", "found", "rule", "name"]
theorem sc_words_of : FnScope N_words_of ["rules", "parts"] (defScope st_words_of) := ⟨rfl, rfl, rfl, by decide +kernel, rfl, by decide +kernel, by decide +kernel⟩
def b_words_of : FS := (fSeq (fAsg 2 fOwnD0) (fSeq (fFor (fItT (fVar 0)) (fSet 3) (fFor (fItT (fBin ixT (fVar 3) (fC (.int 1)))) (fSet 4) (fIfS (fTest (fBin notInX (fVar 4) (fVar 1))) (fAsgG (fSubD (fVar 2) (fVar 4)) (fC (.bl true))) fNext))) (fRet (fCall tupleX (fCons (fCall sortedT (fCons (fVar 2) fNil)) fNil)))))
def D_words_of : List T → RD := fun ts => (runD N_words_of.length b_words_of ts).noX
theorem fn_words_of {P : Program} {w : World} {K : PySem.W.Frag} {mg : Str → Option Value} {base : Heap} {G : GG} {f : Addr} {fd : FuncData} (hK : G.K = K) (hP : G.prog = P) (hW : G.wld = w) (F : Fun K "words_of" "words_of" st_words_of f fd) (T : Txt K mg) :
    FnG P w K mg base 1 f fd ["rules", "parts"] (SpT G 2 D_words_of) := by
  subst hK hP hW
  refine fnG_pure (k := 0) F sc_words_of (fb := b_words_of) fun cdv A outer s H E hc hr => ?_
  unfold b_words_of
  exact (pss_consf (ps_setf (i := 2) sc_words_of.nd rfl (by first | exact Or.inl rfl | exact Or.inr rfl) pef_dctO) (pss_consf (ps_forf PassesOwn.never rfl (pif_tup rfl (pef_var (pv 0))) (pgf_name (pg_name (i := 3) sc_words_of.nd rfl (by first | exact Or.inl rfl | exact Or.inr rfl))) (pss_onef (ps_forf PassesOwn.never rfl (pif_tup rfl (pef_ix rfl (pef_var (pv 3)) pef_int)) (pgf_name (pg_name (i := 4) sc_words_of.nd rfl (by first | exact Or.inl rfl | exact Or.inr rfl))) (pss_onef (ps_iff (ptf_cmp (op_notIn_x rfl (hu65 hr.room)) (pef_var (pv 4)) (pef_var (pv 1)) (by first | rfl | with_unfolding_all rfl)) (pss_onef (ps_asgf pef_bl (pgf_subD (hu_of hr.room) (pef_var (pv 2)) (pef_var (pv 4)) (by intro _; rfl)))) pss_nilf))))) (pss_onef (ps_retf (pef_callTy (call_tuple_x rfl rfl) (by rfl) T.b_tuple (by first | rfl | decide +kernel) (paf_cons (pef_callB (call_sorted_t rfl) (by rfl) T.b_sorted (by first | rfl | decide +kernel) (paf_cons (pef_var (pv 2)) paf_nil)) paf_nil))))))

def st_Grammar___init__ : Stmt := inClass (PySem.Challenge.pw_paperreader_k13_grammars_refused.main.body.getD 20 (.Pass ⟨0, 0, 0, 0⟩)) 0
abbrev N_Grammar___init__ : List Str := ["self", "rules", "word"]
theorem sc_Grammar___init__ : FnScope N_Grammar___init__ ["self", "rules"] (defScope st_Grammar___init__) := ⟨rfl, rfl, rfl, by decide +kernel, rfl, by decide +kernel, by decide +kernel⟩
def b_Grammar___init__ : FS := (fSeq (fDrop (fCallX D_check_rules 1 (fCons (fVar 1) fNil))) (fSeq (fPutF "Grammar" "rules" (fVar 0) (fCall tupleX (fCons (fVar 1) fNil))) (fSeq (fPutF "Grammar" "numbers" (fVar 0) (fCallD D_numbers_by_part 1 (fCons (fFld "Grammar" "rules" (fVar 0)) fNil))) (fSeq (fPutF "Grammar" "parts" (fVar 0) (fCall tupleX (fCons (fFld "Grammar" "numbers" (fVar 0)) fNil))) (fSeq (fPutF "Grammar" "words" (fVar 0) (fCallD D_words_of 2 (fCons (fFld "Grammar" "rules" (fVar 0)) (fCons (fFld "Grammar" "numbers" (fVar 0)) fNil)))) (fSeq (fPutF "Grammar" "start" (fVar 0) (fBin ixT (fFld "Grammar" "parts" (fVar 0)) (fC (.int 0)))) (fPutF "Grammar" "known" (fVar 0) (fDc .dct putKT [2] (fItT (fFld "Grammar" "words" (fVar 0))) (fSet 2) fYes (fVar 2) (fC (.bl true))))))))))
def D_Grammar___init__ : List T → RD := runI N_Grammar___init__.length "Grammar" b_Grammar___init__
theorem fn_Grammar___init__ {P : Program} {w : World} {K : PySem.W.Frag} {mg : Str → Option Value} {base : Heap} {G : GG} {f : Addr} {fd : FuncData} (hK : G.K = K) (hP : G.prog = P) (hW : G.wld = w) (F : Fun K "__init__" "Grammar.__init__" st_Grammar___init__ f fd) (T : Txt K mg) (c_check_rules : CalG P w K mg base G 8 "check_rules" 1 D_check_rules) (c_numbers_by_part : CalG P w K mg base G 1 "numbers_by_part" 1 D_numbers_by_part) (c_words_of : CalG P w K mg base G 1 "words_of" 2 D_words_of) (at_Grammar_known : ∀ C, G.cls "Grammar" = some C → Cls K C ∧ NoAttr K C "known") (at_Grammar_numbers : ∀ C, G.cls "Grammar" = some C → Cls K C ∧ NoAttr K C "numbers") (at_Grammar_parts : ∀ C, G.cls "Grammar" = some C → Cls K C ∧ NoAttr K C "parts") (at_Grammar_rules : ∀ C, G.cls "Grammar" = some C → Cls K C ∧ NoAttr K C "rules") (at_Grammar_start : ∀ C, G.cls "Grammar" = some C → Cls K C ∧ NoAttr K C "start") (at_Grammar_words : ∀ C, G.cls "Grammar" = some C → Cls K C ∧ NoAttr K C "words") :
    FnG P w K mg base 9 f fd ["self", "rules"] (SpI G "Grammar" 1 (runI N_Grammar___init__.length "Grammar" b_Grammar___init__)) := by
  subst hK hP hW
  refine fnG_init (k := 8) F sc_Grammar___init__ (fb := b_Grammar___init__) fun cdv A outer s H E hc hr tk => ?_
  unfold b_Grammar___init__
  exact (pss_consf (ps_exprf (pef_callxG tk c_check_rules (hr.mono (by decide)) (by rfl) (paf_cons (pef_var (pv 1)) paf_nil))) (pss_consf (ps_putf at_Grammar_rules (pef_var (pv 0)) (pef_callTy (call_tuple_x rfl rfl) (by rfl) T.b_tuple (by first | rfl | decide +kernel) (paf_cons (pef_var (pv 1)) paf_nil))) (pss_consf (ps_putf at_Grammar_numbers (pef_var (pv 0)) (pef_calldG c_numbers_by_part (hr.mono (by decide)) (by rfl) (paf_cons (pef_fld rfl at_Grammar_rules (pef_var (pv 0))) paf_nil))) (pss_consf (ps_putf at_Grammar_parts (pef_var (pv 0)) (pef_callTy (call_tuple_x rfl rfl) (by rfl) T.b_tuple (by first | rfl | decide +kernel) (paf_cons (pef_fld rfl at_Grammar_numbers (pef_var (pv 0))) paf_nil))) (pss_consf (ps_putf at_Grammar_words (pef_var (pv 0)) (pef_calldG c_words_of (hr.mono (by decide)) (by rfl) (paf_cons (pef_fld rfl at_Grammar_rules (pef_var (pv 0))) (paf_cons (pef_fld rfl at_Grammar_numbers (pef_var (pv 0))) paf_nil)))) (pss_consf (ps_putf at_Grammar_start (pef_var (pv 0)) (pef_ix rfl (pef_fld rfl at_Grammar_parts (pef_var (pv 0))) pef_int)) (pss_onef (ps_putf at_Grammar_known (pef_var (pv 0)) (pef_dcK (own := [("word", 2)]) rfl sc_Grammar___init__.nd (pif_tup rfl (pef_fld rfl at_Grammar_words (pef_var (pv 0)))) (blkOk_by (N := N_Grammar___init__) (sc := defScope st_Grammar___init__) (by decide +kernel)) (fun _ _ _ _ _ => (pgf_name (pg_name (i := 2) sc_Grammar___init__.nd rfl (by first | exact Or.inl rfl | exact Or.inr rfl)))) (fun _ _ _ _ _ => ptsf_nil) (fun _ _ _ _ _ => (pef_var (pv 2))) (fun _ _ _ _ _ => pef_bl))))))))))

def st__law_draws : Stmt := PySem.Challenge.pw_paperreader_k13_grammars_refused.main.body.getD 26 (.Pass ⟨0, 0, 0, 0⟩)
abbrev N__law_draws : List Str := ["number", "sizes", "found", "size"]
theorem sc__law_draws : FnScope N__law_draws ["number", "sizes"] (defScope st__law_draws) := ⟨rfl, rfl, rfl, by decide +kernel, rfl, by decide +kernel, by decide +kernel⟩
def b__law_draws : FS := (fSeq (fAsg 2 (fOwn (fLstN fNil))) (fSeq (fFor (fItL (fVar 1)) (fSet 3) (fSeq (fDrop (fAppend (fVar 2) (fBin modT (fVar 0) (fVar 3)))) (fAsg 0 (fBin divT (fVar 0) (fVar 3))))) (fRet (fVar 2))))
def D__law_draws : List T → RD := fun ts => (runD N__law_draws.length b__law_draws ts).noX
theorem fn__law_draws {P : Program} {w : World} {K : PySem.W.Frag} {mg : Str → Option Value} {base : Heap} {G : GG} {f : Addr} {fd : FuncData} (hK : G.K = K) (hP : G.prog = P) (hW : G.wld = w) (F : Fun K "_law_draws" "_law_draws" st__law_draws f fd) (T : Txt K mg) :
    FnG P w K mg base 1 f fd ["number", "sizes"] (SpT G 2 D__law_draws) := by
  subst hK hP hW
  refine fnG_pure (k := 0) F sc__law_draws (fb := b__law_draws) fun cdv A outer s H E hc hr => ?_
  unfold b__law_draws
  exact (pss_consf (ps_setf (i := 2) sc__law_draws.nd rfl (by first | exact Or.inl rfl | exact Or.inr rfl) (PNf.own (pnf_lst paf_nil))) (pss_consf (ps_forf PassesOwn.never rfl (pif_list rfl (pef_var (pv 1))) (pgf_name (pg_name (i := 3) sc__law_draws.nd rfl (by first | exact Or.inl rfl | exact Or.inr rfl))) (pss_consf (ps_exprf (pef_append (pef_var (pv 2)) (pef_bin (op_mod_t) (pef_var (pv 0)) (pef_var (pv 3))))) (pss_onef (ps_setf (i := 0) sc__law_draws.nd rfl (by first | exact Or.inl rfl | exact Or.inr rfl) (pef_bin (op_div_t) (pef_var (pv 0)) (pef_var (pv 3))))))) (pss_onef (ps_retf (pef_var (pv 2))))))

def st__law_mix : Stmt := PySem.Challenge.pw_paperreader_k13_grammars_refused.main.body.getD 27 (.Pass ⟨0, 0, 0, 0⟩)
abbrev N__law_mix : List Str := ["number", "k", "mixed"]
theorem sc__law_mix : FnScope N__law_mix ["number", "k"] (defScope st__law_mix) := ⟨rfl, rfl, rfl, by decide +kernel, rfl, by decide +kernel, by decide +kernel⟩
def b__law_mix : FS := (fSeq (fAsg 2 (fBin modT (fBin addT (fBin addT (fBin mulX (fVar 0) (fC (.int 48271))) (fBin mulX (fVar 1) (fC (.int 104729)))) (fC (.int 11))) (fC (.int 2147483647)))) (fRet (fBin modT (fBin addT (fBin addT (fBin mulX (fVar 2) (fVar 2)) (fBin mulX (fC (.int 48271)) (fVar 2))) (fVar 1)) (fC (.int 2147483629)))))
def D__law_mix : List T → RD := fun ts => (runD N__law_mix.length b__law_mix ts).noX
theorem fn__law_mix {P : Program} {w : World} {K : PySem.W.Frag} {mg : Str → Option Value} {base : Heap} {G : GG} {f : Addr} {fd : FuncData} (hK : G.K = K) (hP : G.prog = P) (hW : G.wld = w) (F : Fun K "_law_mix" "_law_mix" st__law_mix f fd) (T : Txt K mg) :
    FnG P w K mg base 1 f fd ["number", "k"] (SpT G 2 D__law_mix) := by
  subst hK hP hW
  refine fnG_pure (k := 0) F sc__law_mix (fb := b__law_mix) fun cdv A outer s H E hc hr => ?_
  unfold b__law_mix
  exact (pss_consf (ps_setf (i := 2) sc__law_mix.nd rfl (by first | exact Or.inl rfl | exact Or.inr rfl) (pef_bin (op_mod_t) (pef_bin (op_add_t rfl) (pef_bin (op_add_t rfl) (pef_bin (op_mul_x rfl) (pef_var (pv 0)) pef_int) (pef_bin (op_mul_x rfl) (pef_var (pv 1)) pef_int)) pef_int) pef_int)) (pss_onef (ps_retf (pef_bin (op_mod_t) (pef_bin (op_add_t rfl) (pef_bin (op_add_t rfl) (pef_bin (op_mul_x rfl) (pef_var (pv 2)) (pef_var (pv 2))) (pef_bin (op_mul_x rfl) pef_int (pef_var (pv 2)))) (pef_var (pv 1))) pef_int))))

def st__law_word_of : Stmt := PySem.Challenge.pw_paperreader_k13_grammars_refused.main.body.getD 28 (.Pass ⟨0, 0, 0, 0⟩)
abbrev N__law_word_of : List Str := ["e", "marks", "names"]
theorem sc__law_word_of : FnScope N__law_word_of ["e"] (defScope st__law_word_of) := ⟨rfl, rfl, rfl, by decide +kernel, rfl, by decide +kernel, by decide +kernel⟩
def b__law_word_of : FS := (fSeq (fAsg 1 (fFrz (fLstN (fCons (fCall (isiU (isiE sub_tab)) (fCons (fVar 0) (fCons (fC (.cl "NoGrammar")) fNil))) (fCons (fCall (isiU (isiE sub_tab)) (fCons (fVar 0) (fCons (fC (.cl "NoText")) fNil))) (fCons (fCall (isiU (isiE sub_tab)) (fCons (fVar 0) (fCons (fC (.cl "NoRow")) fNil))) (fCons (fCall (isiU (isiE sub_tab)) (fCons (fVar 0) (fCons (fC (.cl "NoPart")) fNil))) fNil))))))) (fSeq (fAsg 1 (fBin addT (fVar 1) (fFrz (fLstN (fCons (fCall (isiU (isiE sub_tab)) (fCons (fVar 0) (fCons (fC (.cl "NoTree")) fNil))) (fCons (fCall (isiU (isiE sub_tab)) (fCons (fVar 0) (fCons (fC (.cl "NoChart")) fNil))) (fCons (fCall (isiU (isiE sub_tab)) (fCons (fVar 0) (fCons (fC (.cl "NoTable")) fNil))) (fCons (fCall (isiU (isiE sub_tab)) (fCons (fVar 0) (fCons (fC (.cl "NoMachine")) fNil))) fNil)))))))) (fSeq (fAsg 1 (fBin addT (fVar 1) (fFrz (fLstN (fCons (fCall (isiU (isiE sub_tab)) (fCons (fVar 0) (fCons (fC (.cl "NoDeed")) fNil))) (fCons (fCall (isiU (isiE sub_tab)) (fCons (fVar 0) (fCons (fC (.cl "TooMany")) fNil))) fNil)))))) (fSeq (fIfS (fOr (fTest (fBin neT (fLM countT (fVar 1) (fC (.bl true))) (fC (.int 1)))) (fNot (fTest (fCall (isiU (isiE sub_tab)) (fCons (fVar 0) (fCons (fC (.ty "ValueError")) fNil)))))) (fRet (fC (.str [111, 116, 104, 101, 114]))) fNext) (fSeq (fAsg 2 (fFrz (fLstN (fCons (fC (.str [78, 111, 71, 114, 97, 109, 109, 97, 114])) (fCons (fC (.str [78, 111, 84, 101, 120, 116])) (fCons (fC (.str [78, 111, 82, 111, 119])) (fCons (fC (.str [78, 111, 80, 97, 114, 116])) (fCons (fC (.str [78, 111, 84, 114, 101, 101])) (fCons (fC (.str [78, 111, 67, 104, 97, 114, 116])) (fCons (fC (.str [78, 111, 84, 97, 98, 108, 101])) (fCons (fC (.str [78, 111, 77, 97, 99, 104, 105, 110, 101])) (fCons (fC (.str [78, 111, 68, 101, 101, 100])) fNil)))))))))))) (fRet (fBin ixT (fBin addT (fVar 2) (fFrz (fLstN (fCons (fC (.str [84, 111, 111, 77, 97, 110, 121])) fNil)))) (fLM indexT (fVar 1) (fC (.bl true))))))))))
def D__law_word_of : List T → RD := fun ts => (runD N__law_word_of.length b__law_word_of ts).noX
theorem fn__law_word_of {P : Program} {w : World} {K : PySem.W.Frag} {mg : Str → Option Value} {base : Heap} {G : GG} {f : Addr} {fd : FuncData} (hK : G.K = K) (hP : G.prog = P) (hW : G.wld = w) (F : Fun K "_law_word_of" "_law_word_of" st__law_word_of f fd) (T : Txt K mg) (v_NoChart : ClD mg G "NoChart") (v_NoDeed : ClD mg G "NoDeed") (v_NoGrammar : ClD mg G "NoGrammar") (v_NoMachine : ClD mg G "NoMachine") (v_NoPart : ClD mg G "NoPart") (v_NoRow : ClD mg G "NoRow") (v_NoTable : ClD mg G "NoTable") (v_NoText : ClD mg G "NoText") (v_NoTree : ClD mg G "NoTree") (v_TooMany : ClD mg G "TooMany") (so : SubOk G sub_tab) :
    FnG P w K mg base 1 f fd ["e"] (SpT G 1 D__law_word_of) := by
  subst hK hP hW
  refine fnG_pure (k := 0) F sc__law_word_of (fb := b__law_word_of) fun cdv A outer s H E hc hr => ?_
  unfold b__law_word_of
  exact (pss_consf (ps_setf (i := 1) sc__law_word_of.nd rfl (by first | exact Or.inl rfl | exact Or.inr rfl) (PNf.frz (pnf_lst (paf_cons (pef_callB (call_isi_u (call_isi_e so rfl) rfl) (by rfl) T.b_isinstance (by first | rfl | decide +kernel) (paf_cons (pef_var (pv 0)) (paf_cons (pef_clv (by rfl) v_NoGrammar) paf_nil))) (paf_cons (pef_callB (call_isi_u (call_isi_e so rfl) rfl) (by rfl) T.b_isinstance (by first | rfl | decide +kernel) (paf_cons (pef_var (pv 0)) (paf_cons (pef_clv (by rfl) v_NoText) paf_nil))) (paf_cons (pef_callB (call_isi_u (call_isi_e so rfl) rfl) (by rfl) T.b_isinstance (by first | rfl | decide +kernel) (paf_cons (pef_var (pv 0)) (paf_cons (pef_clv (by rfl) v_NoRow) paf_nil))) (paf_cons (pef_callB (call_isi_u (call_isi_e so rfl) rfl) (by rfl) T.b_isinstance (by first | rfl | decide +kernel) (paf_cons (pef_var (pv 0)) (paf_cons (pef_clv (by rfl) v_NoPart) paf_nil))) paf_nil))))))) (pss_consf (ps_setf (i := 1) sc__law_word_of.nd rfl (by first | exact Or.inl rfl | exact Or.inr rfl) (pef_bin (op_add_t rfl) (pef_var (pv 1)) (PNf.frz (pnf_lst (paf_cons (pef_callB (call_isi_u (call_isi_e so rfl) rfl) (by rfl) T.b_isinstance (by first | rfl | decide +kernel) (paf_cons (pef_var (pv 0)) (paf_cons (pef_clv (by rfl) v_NoTree) paf_nil))) (paf_cons (pef_callB (call_isi_u (call_isi_e so rfl) rfl) (by rfl) T.b_isinstance (by first | rfl | decide +kernel) (paf_cons (pef_var (pv 0)) (paf_cons (pef_clv (by rfl) v_NoChart) paf_nil))) (paf_cons (pef_callB (call_isi_u (call_isi_e so rfl) rfl) (by rfl) T.b_isinstance (by first | rfl | decide +kernel) (paf_cons (pef_var (pv 0)) (paf_cons (pef_clv (by rfl) v_NoTable) paf_nil))) (paf_cons (pef_callB (call_isi_u (call_isi_e so rfl) rfl) (by rfl) T.b_isinstance (by first | rfl | decide +kernel) (paf_cons (pef_var (pv 0)) (paf_cons (pef_clv (by rfl) v_NoMachine) paf_nil))) paf_nil)))))))) (pss_consf (ps_setf (i := 1) sc__law_word_of.nd rfl (by first | exact Or.inl rfl | exact Or.inr rfl) (pef_bin (op_add_t rfl) (pef_var (pv 1)) (PNf.frz (pnf_lst (paf_cons (pef_callB (call_isi_u (call_isi_e so rfl) rfl) (by rfl) T.b_isinstance (by first | rfl | decide +kernel) (paf_cons (pef_var (pv 0)) (paf_cons (pef_clv (by rfl) v_NoDeed) paf_nil))) (paf_cons (pef_callB (call_isi_u (call_isi_e so rfl) rfl) (by rfl) T.b_isinstance (by first | rfl | decide +kernel) (paf_cons (pef_var (pv 0)) (paf_cons (pef_clv (by rfl) v_TooMany) paf_nil))) paf_nil)))))) (pss_consf (ps_iff (PWf.pt (pwf_or (ptf_cmp (op_ne_t rfl (hu64 hr.room)) (pef_lm rfl PySem.F.slot_list_count PySem.F.type_list_count (mt_count_t rfl) (pef_var (pv 1)) pef_bl) pef_int (by first | rfl | with_unfolding_all rfl)) (pwf_or1 (ptf_not (ptf_val (pef_callB (call_isi_u (call_isi_e so rfl) rfl) (by rfl) T.b_isinstance (by first | rfl | decide +kernel) (paf_cons (pef_var (pv 0)) (paf_cons (pef_ty (by rfl) T.b_ValueError (by first | rfl | decide +kernel)) paf_nil)))))))) (pss_onef (ps_retf (pef_str (l := [111, 116, 104, 101, 114]) rfl))) pss_nilf) (pss_consf (ps_setf (i := 2) sc__law_word_of.nd rfl (by first | exact Or.inl rfl | exact Or.inr rfl) (PNf.frz (pnf_lst (paf_cons (pef_str (l := [78, 111, 71, 114, 97, 109, 109, 97, 114]) rfl) (paf_cons (pef_str (l := [78, 111, 84, 101, 120, 116]) rfl) (paf_cons (pef_str (l := [78, 111, 82, 111, 119]) rfl) (paf_cons (pef_str (l := [78, 111, 80, 97, 114, 116]) rfl) (paf_cons (pef_str (l := [78, 111, 84, 114, 101, 101]) rfl) (paf_cons (pef_str (l := [78, 111, 67, 104, 97, 114, 116]) rfl) (paf_cons (pef_str (l := [78, 111, 84, 97, 98, 108, 101]) rfl) (paf_cons (pef_str (l := [78, 111, 77, 97, 99, 104, 105, 110, 101]) rfl) (paf_cons (pef_str (l := [78, 111, 68, 101, 101, 100]) rfl) paf_nil)))))))))))) (pss_onef (ps_retf (pef_ix rfl (pef_bin (op_add_t rfl) (pef_var (pv 2)) (PNf.frz (pnf_lst (paf_cons (pef_str (l := [84, 111, 111, 77, 97, 110, 121]) rfl) paf_nil)))) (pef_lm rfl PySem.F.slot_list_index PySem.F.type_list_index (mt_index_t rfl) (pef_var (pv 1)) pef_bl)))))))))

def st__law_names : Stmt := PySem.Challenge.pw_paperreader_k13_grammars_refused.main.body.getD 29 (.Pass ⟨0, 0, 0, 0⟩)
abbrev N__law_names : List Str := ["number", "base", "at", "letters", "size", "first", "k"]
theorem sc__law_names : FnScope N__law_names ["number"] (defScope st__law_names) := ⟨rfl, rfl, rfl, by decide +kernel, rfl, by decide +kernel, by decide +kernel⟩
def b__law_names : FS := (fSeq (fAsgG (fGTup 3 (fGCons (fSet 4) (fGCons (fSet 2) (fGCons (fSet 5) fGNil)))) (fCallD D__law_draws 2 (fCons (fVar 0) (fCons (fFrz (fLstN (fCons (fC (.int 8)) (fCons (fC (.int 8)) (fCons (fC (.int 26)) fNil))))) fNil)))) (fSeq (fAsg 1 (fJoin (fC (.str [])) (fFrz (fLc [6] (fRange1 (fCons (fVar 4) fNil)) (fSet 6) fYes (fBin ixT (fC (.str [97, 98, 99, 100, 101, 102, 103, 104, 105, 106, 107, 108, 109, 110, 111, 112, 113, 114, 115, 116, 117, 118, 119, 120, 121, 122])) (fBin modT (fCallD D__law_mix 2 (fCons (fVar 0) (fCons (fBin addT (fC (.int 40)) (fVar 6)) fNil))) (fC (.int 26)))))))) (fSeq (fAsg 2 (fBin modT (fVar 2) (fBin addT (fVar 4) (fC (.int 1))))) (fSeq (fAsg 3 (fBin mulX (fC (.str [97, 98, 99, 100, 101, 102, 103, 104, 105, 106, 107, 108, 109, 110, 111, 112, 113, 114, 115, 116, 117, 118, 119, 120, 121, 122])) (fC (.int 2)))) (fRet (fFrz (fLc [6] (fRange1 (fCons (fC (.int 7)) fNil)) (fSet 6) fYes (fBin addT (fBin addT (fSlice (fVar 1) fNoPart (fPart (fVar 2))) (fBin ixT (fVar 3) (fBin addT (fVar 5) (fBin mulX (fC (.int 3)) (fVar 6))))) (fSlice (fVar 1) (fPart (fVar 2)) fNoPart)))))))))
def D__law_names : List T → RD := fun ts => (runD N__law_names.length b__law_names ts).noX
theorem fn__law_names {P : Program} {w : World} {K : PySem.W.Frag} {mg : Str → Option Value} {base : Heap} {G : GG} {f : Addr} {fd : FuncData} (hK : G.K = K) (hP : G.prog = P) (hW : G.wld = w) (F : Fun K "_law_names" "_law_names" st__law_names f fd) (T : Txt K mg) (c__law_draws : CalG P w K mg base G 1 "_law_draws" 2 D__law_draws) (c__law_mix : CalG P w K mg base G 1 "_law_mix" 2 D__law_mix) :
    FnG P w K mg base 2 f fd ["number"] (SpT G 1 D__law_names) := by
  subst hK hP hW
  refine fnG_pure (k := 1) F sc__law_names (fb := b__law_names) fun cdv A outer s H E hc hr => ?_
  unfold b__law_names
  exact (pss_consf (ps_asgf (pef_calldG c__law_draws (hr.mono (by decide)) (by rfl) (paf_cons (pef_var (pv 0)) (paf_cons (PNf.frz (pnf_lst (paf_cons pef_int (paf_cons pef_int (paf_cons pef_int paf_nil))))) paf_nil))) (pgf_tup rfl rfl (pgsf_cons (pgf_name (pg_name (i := 4) sc__law_names.nd rfl (by first | exact Or.inl rfl | exact Or.inr rfl))) (pgsf_cons (pgf_name (pg_name (i := 2) sc__law_names.nd rfl (by first | exact Or.inl rfl | exact Or.inr rfl))) (pgsf_cons (pgf_name (pg_name (i := 5) sc__law_names.nd rfl (by first | exact Or.inl rfl | exact Or.inr rfl))) pgsf_nil))))) (pss_consf (ps_setf (i := 1) sc__law_names.nd rfl (by first | exact Or.inl rfl | exact Or.inr rfl) (pef_join rfl (pef_str (l := []) rfl) (PNf.frz (pnf_lc (own := [("k", 6)]) rfl sc__law_names.nd (pif_range1 (by rfl) T.b_range (paf_cons (pef_var (pv 4)) paf_nil)) (blkOk_by (N := N__law_names) (sc := defScope st__law_names) (by decide +kernel)) (fun _ _ _ _ _ => (pgf_name (pg_name (i := 6) sc__law_names.nd rfl (by first | exact Or.inl rfl | exact Or.inr rfl)))) (fun _ _ _ _ _ => ptsf_nil) (fun _ _ _ _ _ => (pef_ix rfl (pef_str (l := [97, 98, 99, 100, 101, 102, 103, 104, 105, 106, 107, 108, 109, 110, 111, 112, 113, 114, 115, 116, 117, 118, 119, 120, 121, 122]) rfl) (pef_bin (op_mod_t) (pef_calldG c__law_mix (hr.mono (by decide)) (by rfl) (paf_cons (pef_var (pv 0)) (paf_cons (pef_bin (op_add_t rfl) pef_int (pef_var (pv 6))) paf_nil))) pef_int))))))) (pss_consf (ps_setf (i := 2) sc__law_names.nd rfl (by first | exact Or.inl rfl | exact Or.inr rfl) (pef_bin (op_mod_t) (pef_var (pv 2)) (pef_bin (op_add_t rfl) (pef_var (pv 4)) pef_int))) (pss_consf (ps_setf (i := 3) sc__law_names.nd rfl (by first | exact Or.inl rfl | exact Or.inr rfl) (pef_bin (op_mul_x rfl) (pef_str (l := [97, 98, 99, 100, 101, 102, 103, 104, 105, 106, 107, 108, 109, 110, 111, 112, 113, 114, 115, 116, 117, 118, 119, 120, 121, 122]) rfl) pef_int)) (pss_onef (ps_retf (PNf.frz (pnf_lc (own := [("k", 6)]) rfl sc__law_names.nd (pif_range1 (by rfl) T.b_range (paf_cons pef_int paf_nil)) (blkOk_by (N := N__law_names) (sc := defScope st__law_names) (by decide +kernel)) (fun _ _ _ _ _ => (pgf_name (pg_name (i := 6) sc__law_names.nd rfl (by first | exact Or.inl rfl | exact Or.inr rfl)))) (fun _ _ _ _ _ => ptsf_nil) (fun _ _ _ _ _ => (pef_bin (op_add_t rfl) (pef_bin (op_add_t rfl) (pef_slice rfl (pef_var (pv 1)) pof_none (pof_some (pef_var (pv 2)))) (pef_ix rfl (pef_var (pv 3)) (pef_bin (op_add_t rfl) (pef_var (pv 5)) (pef_bin (op_mul_x rfl) pef_int (pef_var (pv 6)))))) (pef_slice rfl (pef_var (pv 1)) (pof_some (pef_var (pv 2))) pof_none)))))))))))

def st__law_by_digits : Stmt := PySem.Challenge.pw_paperreader_k13_grammars_refused.main.body.getD 30 (.Pass ⟨0, 0, 0, 0⟩)
abbrev N__law_by_digits : List Str := ["cell", "number", "rules", "k", "many", "part", "size", "one", "other"]
theorem sc__law_by_digits : FnScope N__law_by_digits ["cell"] (defScope st__law_by_digits) := ⟨rfl, rfl, rfl, by decide +kernel, rfl, by decide +kernel, by decide +kernel⟩
def b__law_by_digits : FS := (fSeq (fAsg 1 (fCall absT (fCons (fVar 0) fNil))) (fSeq (fPar 4 1 (fCons (fBin modT (fVar 1) (fC (.int 4))) (fCons (fBin divT (fVar 1) (fC (.int 4))) fNil))) (fSeq (fAsg 2 (fOwn (fLstN fNil))) (fSeq (fFor (fRange1 (fCons (fBin addT (fC (.int 1)) (fVar 4)) fNil)) (fSet 3) (fSeq (fAsgG (fGTup 4 (fGCons (fSet 5) (fGCons (fSet 6) (fGCons (fSet 7) (fGCons (fSet 8) fGNil))))) (fCallD D__law_draws 2 (fCons (fVar 1) (fCons (fFrz (fLstN (fCons (fC (.int 2)) (fCons (fC (.int 3)) (fCons (fC (.int 4)) (fCons (fC (.int 4)) fNil)))))) fNil)))) (fSeq (fAsg 1 (fBin divT (fVar 1) (fC (.int 96)))) (fDrop (fAppend (fVar 2) (fTup (fCons (fBin ixT (fFrz (fLstN (fCons (fC (.str [112])) (fCons (fC (.str [113])) fNil)))) (fVar 5)) (fCons (fSlice (fTup (fCons (fBin ixT (fTup (fCons (fC (.str [112])) (fCons (fC (.str [113])) (fCons (fC (.str [97])) (fCons (fC (.str [98])) fNil))))) (fVar 7)) (fCons (fBin ixT (fTup (fCons (fC (.str [112])) (fCons (fC (.str [113])) (fCons (fC (.str [97])) (fCons (fC (.str [98])) fNil))))) (fVar 8)) fNil))) fNoPart (fPart (fVar 6))) fNil)))))))) (fRet (fVar 2))))))
def D__law_by_digits : List T → RD := fun ts => (runD N__law_by_digits.length b__law_by_digits ts).noX
theorem fn__law_by_digits {P : Program} {w : World} {K : PySem.W.Frag} {mg : Str → Option Value} {base : Heap} {G : GG} {f : Addr} {fd : FuncData} (hK : G.K = K) (hP : G.prog = P) (hW : G.wld = w) (F : Fun K "_law_by_digits" "_law_by_digits" st__law_by_digits f fd) (T : Txt K mg) (c__law_draws : CalG P w K mg base G 1 "_law_draws" 2 D__law_draws) :
    FnG P w K mg base 2 f fd ["cell"] (SpT G 1 D__law_by_digits) := by
  subst hK hP hW
  refine fnG_pure (k := 1) F sc__law_by_digits (fb := b__law_by_digits) fun cdv A outer s H E hc hr => ?_
  unfold b__law_by_digits
  exact (pss_consf (ps_setf (i := 1) sc__law_by_digits.nd rfl (by first | exact Or.inl rfl | exact Or.inr rfl) (pef_callB (call_abs_t) (by rfl) T.b_abs (by first | rfl | decide +kernel) (paf_cons (pef_var (pv 0)) paf_nil))) (pss_consf (ps_parf (i := 4) (j := 1) rfl sc__law_by_digits.nd rfl rfl (by decide) rfl rfl (paf_cons (pef_bin (op_mod_t) (pef_var (pv 1)) pef_int) (paf_cons (pef_bin (op_div_t) (pef_var (pv 1)) pef_int) paf_nil)) (by first | rfl | with_unfolding_all rfl)) (pss_consf (ps_setf (i := 2) sc__law_by_digits.nd rfl (by first | exact Or.inl rfl | exact Or.inr rfl) (PNf.own (pnf_lst paf_nil))) (pss_consf (ps_forf PassesOwn.never rfl (pif_range1 (by rfl) T.b_range (paf_cons (pef_bin (op_add_t rfl) pef_int (pef_var (pv 4))) paf_nil)) (pgf_name (pg_name (i := 3) sc__law_by_digits.nd rfl (by first | exact Or.inl rfl | exact Or.inr rfl))) (pss_consf (ps_asgf (pef_calldG c__law_draws (hr.mono (by decide)) (by rfl) (paf_cons (pef_var (pv 1)) (paf_cons (PNf.frz (pnf_lst (paf_cons pef_int (paf_cons pef_int (paf_cons pef_int (paf_cons pef_int paf_nil)))))) paf_nil))) (pgf_tup rfl rfl (pgsf_cons (pgf_name (pg_name (i := 5) sc__law_by_digits.nd rfl (by first | exact Or.inl rfl | exact Or.inr rfl))) (pgsf_cons (pgf_name (pg_name (i := 6) sc__law_by_digits.nd rfl (by first | exact Or.inl rfl | exact Or.inr rfl))) (pgsf_cons (pgf_name (pg_name (i := 7) sc__law_by_digits.nd rfl (by first | exact Or.inl rfl | exact Or.inr rfl))) (pgsf_cons (pgf_name (pg_name (i := 8) sc__law_by_digits.nd rfl (by first | exact Or.inl rfl | exact Or.inr rfl))) pgsf_nil)))))) (pss_consf (ps_setf (i := 1) sc__law_by_digits.nd rfl (by first | exact Or.inl rfl | exact Or.inr rfl) (pef_bin (op_div_t) (pef_var (pv 1)) pef_int)) (pss_onef (ps_exprf (pef_append (pef_var (pv 2)) (pef_tup (paf_cons (pef_ix rfl (PNf.frz (pnf_lst (paf_cons (pef_str (l := [112]) rfl) (paf_cons (pef_str (l := [113]) rfl) paf_nil)))) (pef_var (pv 5))) (paf_cons (pef_slice rfl (pef_tup (paf_cons (pef_ix rfl (pef_tup (paf_cons (pef_str (l := [112]) rfl) (paf_cons (pef_str (l := [113]) rfl) (paf_cons (pef_str (l := [97]) rfl) (paf_cons (pef_str (l := [98]) rfl) paf_nil))))) (pef_var (pv 7))) (paf_cons (pef_ix rfl (pef_tup (paf_cons (pef_str (l := [112]) rfl) (paf_cons (pef_str (l := [113]) rfl) (paf_cons (pef_str (l := [97]) rfl) (paf_cons (pef_str (l := [98]) rfl) paf_nil))))) (pef_var (pv 8))) paf_nil))) pof_none (pof_some (pef_var (pv 6)))) paf_nil))))))))) (pss_onef (ps_retf (pef_var (pv 2))))))))

def st__law_by_mixes : Stmt := PySem.Challenge.pw_paperreader_k13_grammars_refused.main.body.getD 31 (.Pass ⟨0, 0, 0, 0⟩)
abbrev N__law_by_mixes : List Str := ["cell", "names", "rules", "k", "many", "few", "part", "size", "j"]
theorem sc__law_by_mixes : FnScope N__law_by_mixes ["cell"] (defScope st__law_by_mixes) := ⟨rfl, rfl, rfl, by decide +kernel, rfl, by decide +kernel, by decide +kernel⟩
def b__law_by_mixes : FS := (fSeq (fAsg 1 (fCallD D__law_names 1 (fCons (fCallD D__law_mix 2 (fCons (fVar 0) (fCons (fC (.int 1)) fNil))) fNil))) (fSeq (fAsgG (fGTup 2 (fGCons (fSet 4) (fGCons (fSet 5) fGNil))) (fCallD D__law_draws 2 (fCons (fCallD D__law_mix 2 (fCons (fVar 0) (fCons (fC (.int 2)) fNil))) (fCons (fFrz (fLstN (fCons (fC (.int 9)) (fCons (fC (.int 4)) fNil)))) fNil)))) (fSeq (fAsg 2 (fOwn (fLstN fNil))) (fSeq (fFor (fRange1 (fCons (fBin addT (fC (.int 1)) (fVar 4)) fNil)) (fSet 3) (fSeq (fAsgG (fGTup 2 (fGCons (fSet 6) (fGCons (fSet 7) fGNil))) (fCallD D__law_draws 2 (fCons (fCallD D__law_mix 2 (fCons (fVar 0) (fCons (fBin addT (fC (.int 10)) (fVar 3)) fNil))) (fCons (fFrz (fLstN (fCons (fBin addT (fC (.int 1)) (fVar 5)) (fCons (fC (.int 5)) fNil)))) fNil)))) (fDrop (fAppend (fVar 2) (fTup (fCons (fBin ixT (fVar 1) (fVar 6)) (fCons (fCall tupleX (fCons (fFrz (fLc [8] (fRange1 (fCons (fVar 7) fNil)) (fSet 8) fYes (fBin ixT (fVar 1) (fBin modT (fCallD D__law_mix 2 (fCons (fVar 0) (fCons (fBin addT (fBin addT (fC (.int 100)) (fBin mulX (fC (.int 9)) (fVar 3))) (fVar 8)) fNil))) (fC (.int 7)))))) fNil)) fNil))))))) (fRet (fVar 2))))))
def D__law_by_mixes : List T → RD := fun ts => (runD N__law_by_mixes.length b__law_by_mixes ts).noX
theorem fn__law_by_mixes {P : Program} {w : World} {K : PySem.W.Frag} {mg : Str → Option Value} {base : Heap} {G : GG} {f : Addr} {fd : FuncData} (hK : G.K = K) (hP : G.prog = P) (hW : G.wld = w) (F : Fun K "_law_by_mixes" "_law_by_mixes" st__law_by_mixes f fd) (T : Txt K mg) (c__law_draws : CalG P w K mg base G 1 "_law_draws" 2 D__law_draws) (c__law_mix : CalG P w K mg base G 1 "_law_mix" 2 D__law_mix) (c__law_names : CalG P w K mg base G 2 "_law_names" 1 D__law_names) :
    FnG P w K mg base 3 f fd ["cell"] (SpT G 1 D__law_by_mixes) := by
  subst hK hP hW
  refine fnG_pure (k := 2) F sc__law_by_mixes (fb := b__law_by_mixes) fun cdv A outer s H E hc hr => ?_
  unfold b__law_by_mixes
  exact (pss_consf (ps_setf (i := 1) sc__law_by_mixes.nd rfl (by first | exact Or.inl rfl | exact Or.inr rfl) (pef_calldG c__law_names (hr.mono (by decide)) (by rfl) (paf_cons (pef_calldG c__law_mix (hr.mono (by decide)) (by rfl) (paf_cons (pef_var (pv 0)) (paf_cons pef_int paf_nil))) paf_nil))) (pss_consf (ps_asgf (pef_calldG c__law_draws (hr.mono (by decide)) (by rfl) (paf_cons (pef_calldG c__law_mix (hr.mono (by decide)) (by rfl) (paf_cons (pef_var (pv 0)) (paf_cons pef_int paf_nil))) (paf_cons (PNf.frz (pnf_lst (paf_cons pef_int (paf_cons pef_int paf_nil)))) paf_nil))) (pgf_tup rfl rfl (pgsf_cons (pgf_name (pg_name (i := 4) sc__law_by_mixes.nd rfl (by first | exact Or.inl rfl | exact Or.inr rfl))) (pgsf_cons (pgf_name (pg_name (i := 5) sc__law_by_mixes.nd rfl (by first | exact Or.inl rfl | exact Or.inr rfl))) pgsf_nil)))) (pss_consf (ps_setf (i := 2) sc__law_by_mixes.nd rfl (by first | exact Or.inl rfl | exact Or.inr rfl) (PNf.own (pnf_lst paf_nil))) (pss_consf (ps_forf PassesOwn.never rfl (pif_range1 (by rfl) T.b_range (paf_cons (pef_bin (op_add_t rfl) pef_int (pef_var (pv 4))) paf_nil)) (pgf_name (pg_name (i := 3) sc__law_by_mixes.nd rfl (by first | exact Or.inl rfl | exact Or.inr rfl))) (pss_consf (ps_asgf (pef_calldG c__law_draws (hr.mono (by decide)) (by rfl) (paf_cons (pef_calldG c__law_mix (hr.mono (by decide)) (by rfl) (paf_cons (pef_var (pv 0)) (paf_cons (pef_bin (op_add_t rfl) pef_int (pef_var (pv 3))) paf_nil))) (paf_cons (PNf.frz (pnf_lst (paf_cons (pef_bin (op_add_t rfl) pef_int (pef_var (pv 5))) (paf_cons pef_int paf_nil)))) paf_nil))) (pgf_tup rfl rfl (pgsf_cons (pgf_name (pg_name (i := 6) sc__law_by_mixes.nd rfl (by first | exact Or.inl rfl | exact Or.inr rfl))) (pgsf_cons (pgf_name (pg_name (i := 7) sc__law_by_mixes.nd rfl (by first | exact Or.inl rfl | exact Or.inr rfl))) pgsf_nil)))) (pss_onef (ps_exprf (pef_append (pef_var (pv 2)) (pef_tup (paf_cons (pef_ix rfl (pef_var (pv 1)) (pef_var (pv 6))) (paf_cons (pef_callTy (call_tuple_x rfl rfl) (by rfl) T.b_tuple (by first | rfl | decide +kernel) (paf_cons (PNf.frz (pnf_lc (own := [("j", 8)]) rfl sc__law_by_mixes.nd (pif_range1 (by rfl) T.b_range (paf_cons (pef_var (pv 7)) paf_nil)) (blkOk_by (N := N__law_by_mixes) (sc := defScope st__law_by_mixes) (by decide +kernel)) (fun _ _ _ _ _ => (pgf_name (pg_name (i := 8) sc__law_by_mixes.nd rfl (by first | exact Or.inl rfl | exact Or.inr rfl)))) (fun _ _ _ _ _ => ptsf_nil) (fun _ _ _ _ _ => (pef_ix rfl (pef_var (pv 1)) (pef_bin (op_mod_t) (pef_calldG c__law_mix (hr.mono (by decide)) (by rfl) (paf_cons (pef_var (pv 0)) (paf_cons (pef_bin (op_add_t rfl) (pef_bin (op_add_t rfl) pef_int (pef_bin (op_mul_x rfl) pef_int (pef_var (pv 3)))) (pef_var (pv 8))) paf_nil))) pef_int))))) paf_nil)) paf_nil)))))))) (pss_onef (ps_retf (pef_var (pv 2))))))))

def st__law_rules : Stmt := PySem.Challenge.pw_paperreader_k13_grammars_refused.main.body.getD 32 (.Pass ⟨0, 0, 0, 0⟩)
abbrev N__law_rules : List Str := ["cell", "rules", "rule"]
theorem sc__law_rules : FnScope N__law_rules ["cell"] (defScope st__law_rules) := ⟨rfl, rfl, rfl, by decide +kernel, rfl, by decide +kernel, by decide +kernel⟩
def b__law_rules : FS := (fSeq (fAsg 1 (fIf (fTest (fBin geT (fCall absT (fCons (fVar 0) fNil)) (fBin powT (fC (.int 10)) (fC (.int 18))))) (fCallD D__law_by_digits 1 (fCons (fBin subT (fCall absT (fCons (fVar 0) fNil)) (fBin powT (fC (.int 10)) (fC (.int 18)))) fNil)) (fCallD D__law_by_mixes 1 (fCons (fVar 0) fNil)))) (fRet (fFrz (fCallN listNX (fCons (fCall dictN (fCons (fFrz (fLc [2] (fItL (fVar 1)) (fSet 2) fYes (fTup (fCons (fVar 2) (fCons (fC (.bl true)) fNil))))) fNil)) fNil)))))
def D__law_rules : List T → RD := fun ts => (runD N__law_rules.length b__law_rules ts).noX
theorem fn__law_rules {P : Program} {w : World} {K : PySem.W.Frag} {mg : Str → Option Value} {base : Heap} {G : GG} {f : Addr} {fd : FuncData} (hK : G.K = K) (hP : G.prog = P) (hW : G.wld = w) (F : Fun K "_law_rules" "_law_rules" st__law_rules f fd) (T : Txt K mg) (c__law_by_digits : CalG P w K mg base G 2 "_law_by_digits" 1 D__law_by_digits) (c__law_by_mixes : CalG P w K mg base G 3 "_law_by_mixes" 1 D__law_by_mixes) :
    FnG P w K mg base 4 f fd ["cell"] (SpT G 1 D__law_rules) := by
  subst hK hP hW
  refine fnG_pure (k := 3) F sc__law_rules (fb := b__law_rules) fun cdv A outer s H E hc hr => ?_
  unfold b__law_rules
  exact (pss_consf (ps_setf (i := 1) sc__law_rules.nd rfl (by first | exact Or.inl rfl | exact Or.inr rfl) (pef_ifExp (ptf_cmp (op_ge_t) (pef_callB (call_abs_t) (by rfl) T.b_abs (by first | rfl | decide +kernel) (paf_cons (pef_var (pv 0)) paf_nil)) (pef_bin (op_pow_t) pef_int pef_int) (by first | rfl | with_unfolding_all rfl)) (pef_calldG c__law_by_digits (hr.mono (by decide)) (by rfl) (paf_cons (pef_bin (op_sub_t) (pef_callB (call_abs_t) (by rfl) T.b_abs (by first | rfl | decide +kernel) (paf_cons (pef_var (pv 0)) paf_nil)) (pef_bin (op_pow_t) pef_int pef_int)) paf_nil)) (pef_calldG c__law_by_mixes (hr.mono (by decide)) (by rfl) (paf_cons (pef_var (pv 0)) paf_nil)))) (pss_onef (ps_retf (PNf.frz (pnf_callTy (calln_list_x rfl rfl) (by rfl) T.b_list (by first | rfl | decide +kernel) (paf_cons (pef_callTy (call_dict_t rfl rfl (hu16 hr.room)) (by rfl) T.b_dict (by first | rfl | decide +kernel) (paf_cons (PNf.frz (pnf_lc (own := [("rule", 2)]) rfl sc__law_rules.nd (pif_list rfl (pef_var (pv 1))) (blkOk_by (N := N__law_rules) (sc := defScope st__law_rules) (by decide +kernel)) (fun _ _ _ _ _ => (pgf_name (pg_name (i := 2) sc__law_rules.nd rfl (by first | exact Or.inl rfl | exact Or.inr rfl)))) (fun _ _ _ _ _ => ptsf_nil) (fun _ _ _ _ _ => (pef_tup (paf_cons (pef_var (pv 2)) (paf_cons pef_bl paf_nil)))))) paf_nil)) paf_nil))))))

def st__law_made : Stmt := PySem.Challenge.pw_paperreader_k13_grammars_refused.main.body.getD 33 (.Pass ⟨0, 0, 0, 0⟩)
abbrev N__law_made : List Str := ["rules", "found", "error", "e"]
theorem sc__law_made : FnScope N__law_made ["rules"] (defScope st__law_made) := ⟨rfl, rfl, rfl, by decide +kernel, rfl, by decide +kernel, by decide +kernel⟩
def b__law_made : FS := (fSeq (fAsg 1 (fC .non)) (fSeq (fAsg 2 (fC .non)) (fSeq (fTry cat_ReadError 3 2 (fAsg 1 (fMake D_Grammar___init__ 1 (fCons (fVar 0) fNil)))) (fRet (fIf (fTest (fBin isT (fVar 2) (fC .non))) (fFld "Grammar" "rules" (fVar 1)) (fCallD D__law_word_of 1 (fCons (fVar 2) fNil)))))))
def D__law_made : List T → RD := fun ts => (runD N__law_made.length b__law_made ts).noX
theorem fn__law_made {P : Program} {w : World} {K : PySem.W.Frag} {mg : Str → Option Value} {base : Heap} {G : GG} {f : Addr} {fd : FuncData} (hK : G.K = K) (hP : G.prog = P) (hW : G.wld = w) (F : Fun K "_law_made" "_law_made" st__law_made f fd) (T : Txt K mg) (c__law_word_of : CalG P w K mg base G 1 "_law_word_of" 1 D__law_word_of) (m_Grammar : MakG P w K mg base G 9 "Grammar" 1 D_Grammar___init__) (at_Grammar_rules : ∀ C, G.cls "Grammar" = some C → Cls K C ∧ NoAttr K C "rules") (v_ReadError : ClD mg G "ReadError") (hX : G.exr = exrOf G.ecl) (hcat_ReadError : ∀ e C D b, G.ecl e = some C → G.ecl "ReadError" = some D → cat_ReadError e = some b → PySem.W.exmOne K (.ref C) (.ref D) = some b) :
    FnG P w K mg base 11 f fd ["rules"] (SpT G 1 (runD N__law_made.length b__law_made)) := by
  subst hK hP hW
  refine fnG_exc (k := 10) F sc__law_made (fb := b__law_made) fun cdv A outer s H E hc hr tk => ?_
  unfold b__law_made
  exact (pss_consf (ps_setf (i := 1) sc__law_made.nd rfl (by first | exact Or.inl rfl | exact Or.inr rfl) pef_non) (pss_consf (ps_setf (i := 2) sc__law_made.nd rfl (by first | exact Or.inl rfl | exact Or.inr rfl) pef_non) (pss_consf (ps_tryd (i := 3) (j := 2) rfl rfl rfl sc__law_made.nd rfl rfl rfl rfl (by rfl) v_ReadError tk hX hcat_ReadError (fun W' pn xe tk2 pp => (pss_onef (ps_setf (i := 1) sc__law_made.nd rfl (by first | exact Or.inl rfl | exact Or.inr rfl) (pef_makeG tk2 m_Grammar (hr.mono (by decide)) (by rfl) (paf_cons (pef_var (pv 0)) paf_nil)))))) (pss_onef (ps_retf (pef_ifExp (ptf_cmp (op_is_t) (pef_var (pv 2)) pef_non (by first | rfl | with_unfolding_all rfl)) (pef_fld rfl at_Grammar_rules (pef_var (pv 1))) (pef_calldG c__law_word_of (hr.mono (by decide)) (by rfl) (paf_cons (pef_var (pv 2)) paf_nil))))))))

def st__law_odd_rule : Stmt := PySem.Challenge.pw_paperreader_k13_grammars_refused.main.body.getD 34 (.Pass ⟨0, 0, 0, 0⟩)
abbrev N__law_odd_rule : List Str := ["cell", "some"]
theorem sc__law_odd_rule : FnScope N__law_odd_rule ["cell"] (defScope st__law_odd_rule) := ⟨rfl, rfl, rfl, by decide +kernel, rfl, by decide +kernel, by decide +kernel⟩
def b__law_odd_rule : FS := (fSeq (fAsg 1 (fFrz (fLstN (fCons (fC .non) (fCons (fTup fNil) (fCons (fTup (fCons (fC (.str [112])) fNil)) (fCons (fTup (fCons (fC (.str [112])) (fCons (fTup (fCons (fC (.str [97])) fNil)) (fCons (fC (.int 1)) fNil)))) (fCons (fTup (fCons (fC (.str [112])) (fCons (fFrz (fLstN (fCons (fC (.str [97])) fNil))) fNil))) (fCons (fFrz (fLstN (fCons (fC (.str [112])) (fCons (fTup (fCons (fC (.str [97])) fNil)) fNil)))) (fCons (fTup (fCons (fC (.str [80])) (fCons (fTup fNil) fNil))) (fCons (fTup (fCons (fC (.str [])) (fCons (fTup fNil) fNil))) fNil))))))))))) (fSeq (fAsg 1 (fBin addT (fVar 1) (fFrz (fLstN (fCons (fTup (fCons (fC (.str [112])) (fCons (fTup (fCons (fC (.str [65])) fNil)) fNil))) (fCons (fTup (fCons (fC (.str [112])) (fCons (fC (.str [97, 98])) fNil))) (fCons (fTup (fCons (fC (.str [112])) (fCons (fC .non) fNil))) (fCons (fTup (fCons (fC (.int 5)) (fCons (fTup fNil) fNil))) (fCons (fTup (fCons (fC (.str [112])) (fCons (fTup (fCons (fC (.int 5)) fNil)) fNil))) (fCons (fTup (fCons (fC (.str [97, 98, 99, 100, 101, 102, 103, 104, 105])) (fCons (fTup fNil) fNil))) fNil)))))))))) (fSeq (fAsg 1 (fBin addT (fVar 1) (fFrz (fLstN (fCons (fTup (fCons (fC (.str [112])) (fCons (fTup (fCons (fC (.str [97, 98, 99, 100, 101, 102, 103, 104, 105])) fNil)) fNil))) fNil))))) (fSeq (fAsg 1 (fBin addT (fVar 1) (fFrz (fLstN (fCons (fTup (fCons (fC (.str [112])) (fCons (fBin mulX (fTup (fCons (fC (.str [97])) fNil)) (fC (.int 9))) fNil))) (fCons (fC (.str [112, 32, 61, 32, 97])) (fCons (fC (.int 7)) (fCons (fTup (fCons (fC (.str [112])) (fCons (fTup (fCons (fC (.str [97])) (fCons (fC (.str [])) fNil))) fNil))) (fCons (fTup (fCons (fC (.str [112])) (fCons (fTup (fCons (fTup (fCons (fC (.str [97])) fNil)) fNil)) fNil))) (fCons (fTup (fCons (fC (.str [112, 32, 113])) (fCons (fTup fNil) fNil))) fNil)))))))))) (fSeq (fAsg 1 (fBin addT (fVar 1) (fFrz (fLstN (fCons (fTup (fCons (fC (.str [112])) (fCons (fTup (fCons (fC (.str [97, 32, 98])) fNil)) fNil))) (fCons (fTup (fCons (fC .non) (fCons (fTup fNil) fNil))) (fCons (fTup (fCons (fC (.str [112])) (fCons (fC (.dct [])) fNil))) (fCons (fDisp1 [112] (fTup fNil)) (fCons (fC (.bl true)) (fCons (fTup (fCons (fC (.str [112])) (fCons (fTup (fCons (fC (.str [61])) fNil)) fNil))) (fCons (fTup (fCons (fC (.str [35])) (fCons (fTup fNil) fNil))) fNil))))))))))) (fSeq (fAsg 1 (fBin addT (fVar 1) (fFrz (fLstN (fCons (fTup (fCons (fC (.str [112, 49])) (fCons (fTup fNil) fNil))) (fCons (fTup (fCons (fC (.str [112])) (fCons (fTup (fCons (fC (.str [45])) fNil)) fNil))) fNil)))))) (fRet (fBin ixT (fVar 1) (fBin modT (fVar 0) (fC (.int 30)))))))))))
def D__law_odd_rule : List T → RD := fun ts => (runD N__law_odd_rule.length b__law_odd_rule ts).noX
theorem fn__law_odd_rule {P : Program} {w : World} {K : PySem.W.Frag} {mg : Str → Option Value} {base : Heap} {G : GG} {f : Addr} {fd : FuncData} (hK : G.K = K) (hP : G.prog = P) (hW : G.wld = w) (F : Fun K "_law_odd_rule" "_law_odd_rule" st__law_odd_rule f fd) (T : Txt K mg) :
    FnG P w K mg base 1 f fd ["cell"] (SpT G 1 D__law_odd_rule) := by
  subst hK hP hW
  refine fnG_pure (k := 0) F sc__law_odd_rule (fb := b__law_odd_rule) fun cdv A outer s H E hc hr => ?_
  unfold b__law_odd_rule
  exact (pss_consf (ps_setf (i := 1) sc__law_odd_rule.nd rfl (by first | exact Or.inl rfl | exact Or.inr rfl) (PNf.frz (pnf_lst (paf_cons pef_non (paf_cons (pef_tup paf_nil) (paf_cons (pef_tup (paf_cons (pef_str (l := [112]) rfl) paf_nil)) (paf_cons (pef_tup (paf_cons (pef_str (l := [112]) rfl) (paf_cons (pef_tup (paf_cons (pef_str (l := [97]) rfl) paf_nil)) (paf_cons pef_int paf_nil)))) (paf_cons (pef_tup (paf_cons (pef_str (l := [112]) rfl) (paf_cons (PNf.frz (pnf_lst (paf_cons (pef_str (l := [97]) rfl) paf_nil))) paf_nil))) (paf_cons (PNf.frz (pnf_lst (paf_cons (pef_str (l := [112]) rfl) (paf_cons (pef_tup (paf_cons (pef_str (l := [97]) rfl) paf_nil)) paf_nil)))) (paf_cons (pef_tup (paf_cons (pef_str (l := [80]) rfl) (paf_cons (pef_tup paf_nil) paf_nil))) (paf_cons (pef_tup (paf_cons (pef_str (l := []) rfl) (paf_cons (pef_tup paf_nil) paf_nil))) paf_nil))))))))))) (pss_consf (ps_setf (i := 1) sc__law_odd_rule.nd rfl (by first | exact Or.inl rfl | exact Or.inr rfl) (pef_bin (op_add_t rfl) (pef_var (pv 1)) (PNf.frz (pnf_lst (paf_cons (pef_tup (paf_cons (pef_str (l := [112]) rfl) (paf_cons (pef_tup (paf_cons (pef_str (l := [65]) rfl) paf_nil)) paf_nil))) (paf_cons (pef_tup (paf_cons (pef_str (l := [112]) rfl) (paf_cons (pef_str (l := [97, 98]) rfl) paf_nil))) (paf_cons (pef_tup (paf_cons (pef_str (l := [112]) rfl) (paf_cons pef_non paf_nil))) (paf_cons (pef_tup (paf_cons pef_int (paf_cons (pef_tup paf_nil) paf_nil))) (paf_cons (pef_tup (paf_cons (pef_str (l := [112]) rfl) (paf_cons (pef_tup (paf_cons pef_int paf_nil)) paf_nil))) (paf_cons (pef_tup (paf_cons (pef_str (l := [97, 98, 99, 100, 101, 102, 103, 104, 105]) rfl) (paf_cons (pef_tup paf_nil) paf_nil))) paf_nil)))))))))) (pss_consf (ps_setf (i := 1) sc__law_odd_rule.nd rfl (by first | exact Or.inl rfl | exact Or.inr rfl) (pef_bin (op_add_t rfl) (pef_var (pv 1)) (PNf.frz (pnf_lst (paf_cons (pef_tup (paf_cons (pef_str (l := [112]) rfl) (paf_cons (pef_tup (paf_cons (pef_str (l := [97, 98, 99, 100, 101, 102, 103, 104, 105]) rfl) paf_nil)) paf_nil))) paf_nil))))) (pss_consf (ps_setf (i := 1) sc__law_odd_rule.nd rfl (by first | exact Or.inl rfl | exact Or.inr rfl) (pef_bin (op_add_t rfl) (pef_var (pv 1)) (PNf.frz (pnf_lst (paf_cons (pef_tup (paf_cons (pef_str (l := [112]) rfl) (paf_cons (pef_bin (op_mul_x rfl) (pef_tup (paf_cons (pef_str (l := [97]) rfl) paf_nil)) pef_int) paf_nil))) (paf_cons (pef_str (l := [112, 32, 61, 32, 97]) rfl) (paf_cons pef_int (paf_cons (pef_tup (paf_cons (pef_str (l := [112]) rfl) (paf_cons (pef_tup (paf_cons (pef_str (l := [97]) rfl) (paf_cons (pef_str (l := []) rfl) paf_nil))) paf_nil))) (paf_cons (pef_tup (paf_cons (pef_str (l := [112]) rfl) (paf_cons (pef_tup (paf_cons (pef_tup (paf_cons (pef_str (l := [97]) rfl) paf_nil)) paf_nil)) paf_nil))) (paf_cons (pef_tup (paf_cons (pef_str (l := [112, 32, 113]) rfl) (paf_cons (pef_tup paf_nil) paf_nil))) paf_nil)))))))))) (pss_consf (ps_setf (i := 1) sc__law_odd_rule.nd rfl (by first | exact Or.inl rfl | exact Or.inr rfl) (pef_bin (op_add_t rfl) (pef_var (pv 1)) (PNf.frz (pnf_lst (paf_cons (pef_tup (paf_cons (pef_str (l := [112]) rfl) (paf_cons (pef_tup (paf_cons (pef_str (l := [97, 32, 98]) rfl) paf_nil)) paf_nil))) (paf_cons (pef_tup (paf_cons pef_non (paf_cons (pef_tup paf_nil) paf_nil))) (paf_cons (pef_tup (paf_cons (pef_str (l := [112]) rfl) (paf_cons pef_dct0 paf_nil))) (paf_cons (pef_disp1 (pef_tup paf_nil)) (paf_cons pef_bl (paf_cons (pef_tup (paf_cons (pef_str (l := [112]) rfl) (paf_cons (pef_tup (paf_cons (pef_str (l := [61]) rfl) paf_nil)) paf_nil))) (paf_cons (pef_tup (paf_cons (pef_str (l := [35]) rfl) (paf_cons (pef_tup paf_nil) paf_nil))) paf_nil))))))))))) (pss_consf (ps_setf (i := 1) sc__law_odd_rule.nd rfl (by first | exact Or.inl rfl | exact Or.inr rfl) (pef_bin (op_add_t rfl) (pef_var (pv 1)) (PNf.frz (pnf_lst (paf_cons (pef_tup (paf_cons (pef_str (l := [112, 49]) rfl) (paf_cons (pef_tup paf_nil) paf_nil))) (paf_cons (pef_tup (paf_cons (pef_str (l := [112]) rfl) (paf_cons (pef_tup (paf_cons (pef_str (l := [45]) rfl) paf_nil)) paf_nil))) paf_nil)))))) (pss_onef (ps_retf (pef_ix rfl (pef_var (pv 1)) (pef_bin (op_mod_t) (pef_var (pv 0)) pef_int))))))))))

def st__law_no_list : Stmt := PySem.Challenge.pw_paperreader_k13_grammars_refused.main.body.getD 35 (.Pass ⟨0, 0, 0, 0⟩)
abbrev N__law_no_list : List Str := ["cell", "some"]
theorem sc__law_no_list : FnScope N__law_no_list ["cell"] (defScope st__law_no_list) := ⟨rfl, rfl, rfl, by decide +kernel, rfl, by decide +kernel, by decide +kernel⟩
def b__law_no_list : FS := (fSeq (fAsg 1 (fFrz (fLstN (fCons (fC .non) (fCons (fC (.int 5)) (fCons (fC (.str [])) (fCons (fC (.str [112])) (fCons (fC (.dct [])) (fCons (fDisp1 [112] (fC (.int 1))) (fCons (fC (.bl true)) (fCons (fFrz (fLstN fNil)) (fCons (fTup fNil) (fCons (fFrz (fLstN (fCons (fTup fNil) fNil))) (fCons (fFrz (fLstN (fCons (fFrz (fLstN fNil)) fNil))) fNil)))))))))))))) (fRet (fBin ixT (fBin addT (fVar 1) (fFrz (fLstN (fCons (fFrz (fLstN (fCons (fTup (fCons (fC (.str [112])) (fCons (fTup fNil) fNil))) (fCons (fC .non) fNil)))) fNil)))) (fBin modT (fVar 0) (fC (.int 12))))))
def D__law_no_list : List T → RD := fun ts => (runD N__law_no_list.length b__law_no_list ts).noX
theorem fn__law_no_list {P : Program} {w : World} {K : PySem.W.Frag} {mg : Str → Option Value} {base : Heap} {G : GG} {f : Addr} {fd : FuncData} (hK : G.K = K) (hP : G.prog = P) (hW : G.wld = w) (F : Fun K "_law_no_list" "_law_no_list" st__law_no_list f fd) (T : Txt K mg) :
    FnG P w K mg base 1 f fd ["cell"] (SpT G 1 D__law_no_list) := by
  subst hK hP hW
  refine fnG_pure (k := 0) F sc__law_no_list (fb := b__law_no_list) fun cdv A outer s H E hc hr => ?_
  unfold b__law_no_list
  exact (pss_consf (ps_setf (i := 1) sc__law_no_list.nd rfl (by first | exact Or.inl rfl | exact Or.inr rfl) (PNf.frz (pnf_lst (paf_cons pef_non (paf_cons pef_int (paf_cons (pef_str (l := []) rfl) (paf_cons (pef_str (l := [112]) rfl) (paf_cons pef_dct0 (paf_cons (pef_disp1 pef_int) (paf_cons pef_bl (paf_cons (PNf.frz (pnf_lst paf_nil)) (paf_cons (pef_tup paf_nil) (paf_cons (PNf.frz (pnf_lst (paf_cons (pef_tup paf_nil) paf_nil))) (paf_cons (PNf.frz (pnf_lst (paf_cons (PNf.frz (pnf_lst paf_nil)) paf_nil))) paf_nil)))))))))))))) (pss_onef (ps_retf (pef_ix rfl (pef_bin (op_add_t rfl) (pef_var (pv 1)) (PNf.frz (pnf_lst (paf_cons (PNf.frz (pnf_lst (paf_cons (pef_tup (paf_cons (pef_str (l := [112]) rfl) (paf_cons (pef_tup paf_nil) paf_nil))) (paf_cons pef_non paf_nil)))) paf_nil)))) (pef_bin (op_mod_t) (pef_var (pv 0)) pef_int)))))

def st__law_many : Stmt := PySem.Challenge.pw_paperreader_k13_grammars_refused.main.body.getD 36 (.Pass ⟨0, 0, 0, 0⟩)
abbrev N__law_many : List Str := ["cell", "letters", "rules", "k"]
theorem sc__law_many : FnScope N__law_many ["cell"] (defScope st__law_many) := ⟨rfl, rfl, rfl, by decide +kernel, rfl, by decide +kernel, by decide +kernel⟩
def b__law_many : FS := (fSeq (fAsg 1 (fC (.str [97, 98, 99, 100, 101, 102, 103, 104, 105, 106, 107, 108, 109, 110, 111, 112, 113, 114, 115, 116, 117, 118, 119, 120, 121, 122]))) (fSeq (fAsg 2 (fOwn (fLstN fNil))) (fSeq (fFor (fRange1 (fCons (fBin addT (fC (.int 300)) (fBin modT (fVar 0) (fC (.int 3)))) fNil)) (fSet 3) (fDrop (fAppend (fVar 2) (fTup (fCons (fBin addT (fC (.str [112])) (fBin ixT (fVar 1) (fBin divT (fVar 3) (fC (.int 26))))) (fCons (fTup (fCons (fBin ixT (fVar 1) (fBin modT (fVar 3) (fC (.int 26)))) fNil)) fNil)))))) (fSeq (fIfS (fTest (fBin eqT (fBin modT (fBin divT (fVar 0) (fC (.int 3))) (fC (.int 3))) (fC (.int 1)))) (fAsgG (fSubL (fVar 2) (fBin modT (fBin divT (fVar 0) (fC (.int 9))) (fC (.int 300)))) (fCallD D__law_odd_rule 1 (fCons (fBin divT (fVar 0) (fC (.int 11))) fNil))) fNext) (fSeq (fIfS (fTest (fBin eqT (fBin modT (fBin divT (fVar 0) (fC (.int 3))) (fC (.int 3))) (fC (.int 2)))) (fAsgG (fSubL (fVar 2) (fBin modT (fBin divT (fVar 0) (fC (.int 9))) (fC (.int 300)))) (fBin ixT (fVar 2) (fBin modT (fBin addT (fBin addT (fBin divT (fVar 0) (fC (.int 9))) (fC (.int 1))) (fBin modT (fBin divT (fVar 0) (fC (.int 11))) (fC (.int 298)))) (fC (.int 300))))) fNext) (fRet (fVar 2)))))))
def D__law_many : List T → RD := fun ts => (runD N__law_many.length b__law_many ts).noX
theorem fn__law_many {P : Program} {w : World} {K : PySem.W.Frag} {mg : Str → Option Value} {base : Heap} {G : GG} {f : Addr} {fd : FuncData} (hK : G.K = K) (hP : G.prog = P) (hW : G.wld = w) (F : Fun K "_law_many" "_law_many" st__law_many f fd) (T : Txt K mg) (c__law_odd_rule : CalG P w K mg base G 1 "_law_odd_rule" 1 D__law_odd_rule) :
    FnG P w K mg base 2 f fd ["cell"] (SpT G 1 D__law_many) := by
  subst hK hP hW
  refine fnG_pure (k := 1) F sc__law_many (fb := b__law_many) fun cdv A outer s H E hc hr => ?_
  unfold b__law_many
  exact (pss_consf (ps_setf (i := 1) sc__law_many.nd rfl (by first | exact Or.inl rfl | exact Or.inr rfl) (pef_str (l := [97, 98, 99, 100, 101, 102, 103, 104, 105, 106, 107, 108, 109, 110, 111, 112, 113, 114, 115, 116, 117, 118, 119, 120, 121, 122]) rfl)) (pss_consf (ps_setf (i := 2) sc__law_many.nd rfl (by first | exact Or.inl rfl | exact Or.inr rfl) (PNf.own (pnf_lst paf_nil))) (pss_consf (ps_forf PassesOwn.never rfl (pif_range1 (by rfl) T.b_range (paf_cons (pef_bin (op_add_t rfl) pef_int (pef_bin (op_mod_t) (pef_var (pv 0)) pef_int)) paf_nil)) (pgf_name (pg_name (i := 3) sc__law_many.nd rfl (by first | exact Or.inl rfl | exact Or.inr rfl))) (pss_onef (ps_exprf (pef_append (pef_var (pv 2)) (pef_tup (paf_cons (pef_bin (op_add_t rfl) (pef_str (l := [112]) rfl) (pef_ix rfl (pef_var (pv 1)) (pef_bin (op_div_t) (pef_var (pv 3)) pef_int))) (paf_cons (pef_tup (paf_cons (pef_ix rfl (pef_var (pv 1)) (pef_bin (op_mod_t) (pef_var (pv 3)) pef_int)) paf_nil)) paf_nil))))))) (pss_consf (ps_iff (ptf_cmp (op_eq_t rfl (hu64 hr.room)) (pef_bin (op_mod_t) (pef_bin (op_div_t) (pef_var (pv 0)) pef_int) pef_int) pef_int (by first | rfl | with_unfolding_all rfl)) (pss_onef (ps_asgf (pef_calldG c__law_odd_rule (hr.mono (by decide)) (by rfl) (paf_cons (pef_bin (op_div_t) (pef_var (pv 0)) pef_int) paf_nil)) (pgf_subL (pef_var (pv 2)) (pef_bin (op_mod_t) (pef_bin (op_div_t) (pef_var (pv 0)) pef_int) pef_int)))) pss_nilf) (pss_consf (ps_iff (ptf_cmp (op_eq_t rfl (hu64 hr.room)) (pef_bin (op_mod_t) (pef_bin (op_div_t) (pef_var (pv 0)) pef_int) pef_int) pef_int (by first | rfl | with_unfolding_all rfl)) (pss_onef (ps_asgf (pef_ix rfl (pef_var (pv 2)) (pef_bin (op_mod_t) (pef_bin (op_add_t rfl) (pef_bin (op_add_t rfl) (pef_bin (op_div_t) (pef_var (pv 0)) pef_int) pef_int) (pef_bin (op_mod_t) (pef_bin (op_div_t) (pef_var (pv 0)) pef_int) pef_int)) pef_int)) (pgf_subL (pef_var (pv 2)) (pef_bin (op_mod_t) (pef_bin (op_div_t) (pef_var (pv 0)) pef_int) pef_int)))) pss_nilf) (pss_onef (ps_retf (pef_var (pv 2)))))))))

def st__law_many_right : Stmt := PySem.Challenge.pw_paperreader_k13_grammars_refused.main.body.getD 37 (.Pass ⟨0, 0, 0, 0⟩)
abbrev N__law_many_right : List Str := ["more", "many", "due"]
theorem sc__law_many_right : FnScope N__law_many_right ["more"] (defScope st__law_many_right) := ⟨rfl, rfl, rfl, by decide +kernel, rfl, by decide +kernel, by decide +kernel⟩
def b__law_many_right : FS := (fSeq (fAsg 1 (fCallD D__law_many 1 (fCons (fVar 0) fNil))) (fSeq (fAsg 2 (fC (.str [84, 111, 111, 77, 97, 110, 121]))) (fSeq (fIfS (fTest (fBin eqT (fCall lenX (fCons (fVar 1) fNil)) (fC (.int 300)))) (fAsg 2 (fCall tupleX (fCons (fVar 1) fNil))) fNext) (fSeq (fIfS (fTest (fBin gtT (fBin modT (fBin divT (fVar 0) (fC (.int 3))) (fC (.int 3))) (fC (.int 0)))) (fAsg 2 (fC (.str [78, 111, 71, 114, 97, 109, 109, 97, 114]))) fNext) (fRet (fBin eqT (fCallD D__law_made 1 (fCons (fVar 1) fNil)) (fVar 2)))))))
def D__law_many_right : List T → RD := fun ts => (runD N__law_many_right.length b__law_many_right ts).noX
theorem fn__law_many_right {P : Program} {w : World} {K : PySem.W.Frag} {mg : Str → Option Value} {base : Heap} {G : GG} {f : Addr} {fd : FuncData} (hK : G.K = K) (hP : G.prog = P) (hW : G.wld = w) (F : Fun K "_law_many_right" "_law_many_right" st__law_many_right f fd) (T : Txt K mg) (c__law_made : CalG P w K mg base G 11 "_law_made" 1 D__law_made) (c__law_many : CalG P w K mg base G 2 "_law_many" 1 D__law_many) :
    FnG P w K mg base 12 f fd ["more"] (SpT G 1 D__law_many_right) := by
  subst hK hP hW
  refine fnG_pure (k := 11) F sc__law_many_right (fb := b__law_many_right) fun cdv A outer s H E hc hr => ?_
  unfold b__law_many_right
  exact (pss_consf (ps_setf (i := 1) sc__law_many_right.nd rfl (by first | exact Or.inl rfl | exact Or.inr rfl) (pef_calldG c__law_many (hr.mono (by decide)) (by rfl) (paf_cons (pef_var (pv 0)) paf_nil))) (pss_consf (ps_setf (i := 2) sc__law_many_right.nd rfl (by first | exact Or.inl rfl | exact Or.inr rfl) (pef_str (l := [84, 111, 111, 77, 97, 110, 121]) rfl)) (pss_consf (ps_iff (ptf_cmp (op_eq_t rfl (hu64 hr.room)) (pef_callB (call_len_x rfl) (by rfl) T.b_len (by first | rfl | decide +kernel) (paf_cons (pef_var (pv 1)) paf_nil)) pef_int (by first | rfl | with_unfolding_all rfl)) (pss_onef (ps_setf (i := 2) sc__law_many_right.nd rfl (by first | exact Or.inl rfl | exact Or.inr rfl) (pef_callTy (call_tuple_x rfl rfl) (by rfl) T.b_tuple (by first | rfl | decide +kernel) (paf_cons (pef_var (pv 1)) paf_nil)))) pss_nilf) (pss_consf (ps_iff (ptf_cmp (op_gt_t) (pef_bin (op_mod_t) (pef_bin (op_div_t) (pef_var (pv 0)) pef_int) pef_int) pef_int (by first | rfl | with_unfolding_all rfl)) (pss_onef (ps_setf (i := 2) sc__law_many_right.nd rfl (by first | exact Or.inl rfl | exact Or.inr rfl) (pef_str (l := [78, 111, 71, 114, 97, 109, 109, 97, 114]) rfl))) pss_nilf) (pss_onef (ps_retf (pef_cmp (op_eq_t rfl (hu64 hr.room)) (pef_calldG c__law_made (hr.mono (by decide)) (by rfl) (paf_cons (pef_var (pv 1)) paf_nil)) (pef_var (pv 2)) (by first | rfl | with_unfolding_all rfl))))))))

def st__law_right : Stmt := PySem.Challenge.pw_paperreader_k13_grammars_refused.main.body.getD 38 (.Pass ⟨0, 0, 0, 0⟩)
abbrev N__law_right : List Str := ["cell", "rules", "at", "odd", "kept", "way", "more", "again"]
theorem sc__law_right : FnScope N__law_right ["cell"] (defScope st__law_right) := ⟨rfl, rfl, rfl, by decide +kernel, rfl, by decide +kernel, by decide +kernel⟩
def b__law_right : FS := (fSeq (fAsg 1 (fCallD D__law_rules 1 (fCons (fVar 0) fNil))) (fSeq (fAsgG (fGTup 3 (fGCons (fSet 5) (fGCons (fSet 2) (fGCons (fSet 6) fGNil)))) (fCallD D__law_draws 2 (fCons (fCallD D__law_mix 2 (fCons (fVar 0) (fCons (fC (.int 3)) fNil))) (fCons (fFrz (fLstN (fCons (fC (.int 5)) (fCons (fC (.int 20)) (fCons (fBin powT (fC (.int 10)) (fC (.int 6))) fNil))))) fNil)))) (fSeq (fAsg 2 (fBin modT (fVar 2) (fBin addT (fCall lenX (fCons (fVar 1) fNil)) (fC (.int 1))))) (fSeq (fIfS (fTest (fBin neT (fCallD D__law_made 1 (fCons (fVar 1) fNil)) (fCall tupleX (fCons (fVar 1) fNil)))) (fRet (fC (.bl false))) fNext) (fSeq (fAsg 3 (fBin addT (fBin addT (fSlice (fVar 1) fNoPart (fPart (fVar 2))) (fFrz (fLstN (fCons (fCallD D__law_odd_rule 1 (fCons (fVar 6) fNil)) fNil)))) (fSlice (fVar 1) (fPart (fVar 2)) fNoPart))) (fSeq (fIfS (fTest (fBin eqT (fVar 5) (fC (.int 3)))) (fSeq (fAsg 7 (fBin ixT (fVar 1) (fBin modT (fVar 6) (fCall lenX (fCons (fVar 1) fNil))))) (fAsg 3 (fBin addT (fBin addT (fSlice (fVar 1) fNoPart (fPart (fVar 2))) (fFrz (fLstN (fCons (fVar 7) fNil)))) (fSlice (fVar 1) (fPart (fVar 2)) fNoPart)))) fNext) (fSeq (fIfS (fTest (fBin eqT (fVar 5) (fC (.int 4)))) (fAsg 3 (fCallD D__law_no_list 1 (fCons (fVar 6) fNil))) fNext) (fSeq (fAsg 4 (fCall reprT (fCons (fVar 3) fNil))) (fSeq (fIfS (fOr (fTest (fBin neT (fCallD D__law_made 1 (fCons (fVar 3) fNil)) (fC (.str [78, 111, 71, 114, 97, 109, 109, 97, 114])))) (fTest (fBin neT (fCall reprT (fCons (fVar 3) fNil)) (fVar 4)))) (fRet (fC (.bl false))) fNext) (fRet (fOrV (fBin gtT (fVar 5) (fC (.int 0))) (fCallD D__law_many_right 1 (fCons (fVar 6) fNil)))))))))))))
def D__law_right : List T → RD := fun ts => (runD N__law_right.length b__law_right ts).noX
theorem fn__law_right {P : Program} {w : World} {K : PySem.W.Frag} {mg : Str → Option Value} {base : Heap} {G : GG} {f : Addr} {fd : FuncData} (hK : G.K = K) (hP : G.prog = P) (hW : G.wld = w) (F : Fun K "_law_right" "_law_right" st__law_right f fd) (T : Txt K mg) (c__law_draws : CalG P w K mg base G 1 "_law_draws" 2 D__law_draws) (c__law_made : CalG P w K mg base G 11 "_law_made" 1 D__law_made) (c__law_many_right : CalG P w K mg base G 12 "_law_many_right" 1 D__law_many_right) (c__law_mix : CalG P w K mg base G 1 "_law_mix" 2 D__law_mix) (c__law_no_list : CalG P w K mg base G 1 "_law_no_list" 1 D__law_no_list) (c__law_odd_rule : CalG P w K mg base G 1 "_law_odd_rule" 1 D__law_odd_rule) (c__law_rules : CalG P w K mg base G 4 "_law_rules" 1 D__law_rules) (hM : ∃ mm, base.Ns sysModules mm) :
    FnG P w K mg base 13 f fd ["cell"] (SpT G 1 D__law_right) := by
  subst hK hP hW
  refine fnG_pure (k := 12) F sc__law_right (fb := b__law_right) fun cdv A outer s H E hc hr => ?_
  unfold b__law_right
  exact (pss_consf (ps_setf (i := 1) sc__law_right.nd rfl (by first | exact Or.inl rfl | exact Or.inr rfl) (pef_calldG c__law_rules (hr.mono (by decide)) (by rfl) (paf_cons (pef_var (pv 0)) paf_nil))) (pss_consf (ps_asgf (pef_calldG c__law_draws (hr.mono (by decide)) (by rfl) (paf_cons (pef_calldG c__law_mix (hr.mono (by decide)) (by rfl) (paf_cons (pef_var (pv 0)) (paf_cons pef_int paf_nil))) (paf_cons (PNf.frz (pnf_lst (paf_cons pef_int (paf_cons pef_int (paf_cons (pef_bin (op_pow_t) pef_int pef_int) paf_nil))))) paf_nil))) (pgf_tup rfl rfl (pgsf_cons (pgf_name (pg_name (i := 5) sc__law_right.nd rfl (by first | exact Or.inl rfl | exact Or.inr rfl))) (pgsf_cons (pgf_name (pg_name (i := 2) sc__law_right.nd rfl (by first | exact Or.inl rfl | exact Or.inr rfl))) (pgsf_cons (pgf_name (pg_name (i := 6) sc__law_right.nd rfl (by first | exact Or.inl rfl | exact Or.inr rfl))) pgsf_nil))))) (pss_consf (ps_setf (i := 2) sc__law_right.nd rfl (by first | exact Or.inl rfl | exact Or.inr rfl) (pef_bin (op_mod_t) (pef_var (pv 2)) (pef_bin (op_add_t rfl) (pef_callB (call_len_x rfl) (by rfl) T.b_len (by first | rfl | decide +kernel) (paf_cons (pef_var (pv 1)) paf_nil)) pef_int))) (pss_consf (ps_iff (ptf_cmp (op_ne_t rfl (hu64 hr.room)) (pef_calldG c__law_made (hr.mono (by decide)) (by rfl) (paf_cons (pef_var (pv 1)) paf_nil)) (pef_callTy (call_tuple_x rfl rfl) (by rfl) T.b_tuple (by first | rfl | decide +kernel) (paf_cons (pef_var (pv 1)) paf_nil)) (by first | rfl | with_unfolding_all rfl)) (pss_onef (ps_retf pef_bl)) pss_nilf) (pss_consf (ps_setf (i := 3) sc__law_right.nd rfl (by first | exact Or.inl rfl | exact Or.inr rfl) (pef_bin (op_add_t rfl) (pef_bin (op_add_t rfl) (pef_slice rfl (pef_var (pv 1)) pof_none (pof_some (pef_var (pv 2)))) (PNf.frz (pnf_lst (paf_cons (pef_calldG c__law_odd_rule (hr.mono (by decide)) (by rfl) (paf_cons (pef_var (pv 6)) paf_nil)) paf_nil)))) (pef_slice rfl (pef_var (pv 1)) (pof_some (pef_var (pv 2))) pof_none))) (pss_consf (ps_iff (ptf_cmp (op_eq_t rfl (hu64 hr.room)) (pef_var (pv 5)) pef_int (by first | rfl | with_unfolding_all rfl)) (pss_consf (ps_setf (i := 7) sc__law_right.nd rfl (by first | exact Or.inl rfl | exact Or.inr rfl) (pef_ix rfl (pef_var (pv 1)) (pef_bin (op_mod_t) (pef_var (pv 6)) (pef_callB (call_len_x rfl) (by rfl) T.b_len (by first | rfl | decide +kernel) (paf_cons (pef_var (pv 1)) paf_nil))))) (pss_onef (ps_setf (i := 3) sc__law_right.nd rfl (by first | exact Or.inl rfl | exact Or.inr rfl) (pef_bin (op_add_t rfl) (pef_bin (op_add_t rfl) (pef_slice rfl (pef_var (pv 1)) pof_none (pof_some (pef_var (pv 2)))) (PNf.frz (pnf_lst (paf_cons (pef_var (pv 7)) paf_nil)))) (pef_slice rfl (pef_var (pv 1)) (pof_some (pef_var (pv 2))) pof_none))))) pss_nilf) (pss_consf (ps_iff (ptf_cmp (op_eq_t rfl (hu64 hr.room)) (pef_var (pv 5)) pef_int (by first | rfl | with_unfolding_all rfl)) (pss_onef (ps_setf (i := 3) sc__law_right.nd rfl (by first | exact Or.inl rfl | exact Or.inr rfl) (pef_calldG c__law_no_list (hr.mono (by decide)) (by rfl) (paf_cons (pef_var (pv 6)) paf_nil)))) pss_nilf) (pss_consf (ps_setf (i := 4) sc__law_right.nd rfl (by first | exact Or.inl rfl | exact Or.inr rfl) (pef_callB (call_repr_t rfl hr.free (hu64 hr.room) hM) (by rfl) T.b_repr (by first | rfl | decide +kernel) (paf_cons (pef_var (pv 3)) paf_nil))) (pss_consf (ps_iff (PWf.pt (pwf_or (ptf_cmp (op_ne_t rfl (hu64 hr.room)) (pef_calldG c__law_made (hr.mono (by decide)) (by rfl) (paf_cons (pef_var (pv 3)) paf_nil)) (pef_str (l := [78, 111, 71, 114, 97, 109, 109, 97, 114]) rfl) (by first | rfl | with_unfolding_all rfl)) (pwf_or1 (ptf_cmp (op_ne_t rfl (hu64 hr.room)) (pef_callB (call_repr_t rfl hr.free (hu64 hr.room) hM) (by rfl) T.b_repr (by first | rfl | decide +kernel) (paf_cons (pef_var (pv 3)) paf_nil)) (pef_var (pv 4)) (by first | rfl | with_unfolding_all rfl))))) (pss_onef (ps_retf pef_bl)) pss_nilf) (pss_onef (ps_retf (pef_or (pef_cmp (op_gt_t) (pef_var (pv 5)) pef_int (by first | rfl | with_unfolding_all rfl)) (pef_one (pef_calldG c__law_many_right (hr.mono (by decide)) (by rfl) (paf_cons (pef_var (pv 6)) paf_nil)))))))))))))))

def st_law : Stmt := PySem.Challenge.pw_paperreader_k13_grammars_refused.main.body.getD 39 (.Pass ⟨0, 0, 0, 0⟩)
abbrev N_law : List Str := ["script", "cell"]
theorem sc_law : FnScope N_law ["script"] (defScope st_law) := ⟨rfl, rfl, rfl, by decide +kernel, rfl, by decide +kernel, by decide +kernel⟩
def b_law : FS := (fRet (fCall allT (fCons (fFrz (fLc [1] (fItL (fBin addT (fVar 0) (fFrz (fLstN (fCons (fC (.int 0)) (fCons (fC (.int 1)) (fCons (fC (.int 2)) (fCons (fC (.int 3)) (fCons (fC (.int 4)) (fCons (fC (.int 5)) fNil)))))))))) (fSet 1) fYes (fCallD D__law_right 1 (fCons (fVar 1) fNil)))) fNil)))
def D_law : List T → RD := fun ts => (runD N_law.length b_law ts).noX
theorem fn_law {P : Program} {w : World} {K : PySem.W.Frag} {mg : Str → Option Value} {base : Heap} {G : GG} {f : Addr} {fd : FuncData} (hK : G.K = K) (hP : G.prog = P) (hW : G.wld = w) (F : Fun K "law" "law" st_law f fd) (T : Txt K mg) (c__law_right : CalG P w K mg base G 13 "_law_right" 1 D__law_right) :
    FnG P w K mg base 14 f fd ["script"] (SpT G 1 D_law) := by
  subst hK hP hW
  refine fnG_pure (k := 13) F sc_law (fb := b_law) fun cdv A outer s H E hc hr => ?_
  unfold b_law
  exact (pss_onef (ps_retf (pef_callB (call_all_t rfl rfl) (by rfl) T.b_all (by first | rfl | decide +kernel) (paf_cons (PNf.frz (pnf_lc (own := [("cell", 1)]) rfl sc_law.nd (pif_list rfl (pef_bin (op_add_t rfl) (pef_var (pv 0)) (PNf.frz (pnf_lst (paf_cons pef_int (paf_cons pef_int (paf_cons pef_int (paf_cons pef_int (paf_cons pef_int (paf_cons pef_int paf_nil)))))))))) (blkOk_by (N := N_law) (sc := defScope st_law) (by decide +kernel)) (fun _ _ _ _ _ => (pgf_name (pg_name (i := 1) sc_law.nd rfl (by first | exact Or.inl rfl | exact Or.inr rfl)))) (fun _ _ _ _ _ => ptsf_nil) (fun _ _ _ _ _ => (pef_calldG c__law_right (hr.mono (by decide)) (by rfl) (paf_cons (pef_var (pv 1)) paf_nil))))) paf_nil))))

/-- the law's own mathematics: to be proved -/
abbrev LawTrue : Prop := ∀ ns : List Int, ns.length ≤ 63 → (∀ z ∈ ns, Builtin.Int.intBits z ≤ 1048576) → D_law [.lst (ns.map .int)] = .ok (.bl true)
theorem all_mk (law_true : LawTrue) {l : PySem.W.OpenLaw} {w : World} {K : PySem.W.Frag} {h : Heap} {mg : Str → Option Value} {fa f0 f1 f2 f3 f4 f5 f6 C_Grammar f7 f8 f9 f10 f11 f12 f13 f14 f15 f16 f17 f18 f19 f20 X_NoChart X_NoDeed X_NoGrammar X_NoMachine X_NoPart X_NoRow X_NoTable X_NoText X_NoTree X_ReadError X_TooMany : Addr} (X : K.In h) (G : h.Ns mainGlobals mg) (hfa : mg "law" = some (.ref fa)) (tabs : TabsOf PySem.Challenge.pw_paperreader_k13_grammars_refused mg h) (noT : ∀ a, h.get? a = some { cls := .none, data := .fields #[] } → K.lookup a = none)
    {od0 an0 od1 an1 od2 an2 od3 an3 od4 an4 od5 an5 od6 an6 od7 an7 od8 an8 od9 an9 od10 an10 od11 an11 od12 an12 od13 an13 od14 an14 od15 an15 od16 an16 od17 an17 od18 an18 od19 an19 od20 an20 : Option Addr} {sl0 sl1 sl2 sl3 sl4 sl5 sl6 sl7 sl8 sl9 sl10 sl11 sl12 sl13 sl14 sl15 sl16 sl17 sl18 sl19 sl20 : Array (Option Value)} {oc0 kV0 dc0 pm0 cd0 ct0 oc1 kV1 dc1 pm1 cd1 ct1 oc2 kV2 dc2 pm2 cd2 ct2 oc3 kV3 dc3 pm3 cd3 ct3 oc4 kV4 dc4 pm4 cd4 ct4 oc5 kV5 dc5 pm5 cd5 ct5 oc6 kV6 dc6 pm6 cd6 ct6 oc7 kV7 dc7 pm7 cd7 ct7 oc8 kV8 dc8 pm8 cd8 ct8 oc9 kV9 dc9 pm9 cd9 ct9 oc10 kV10 dc10 pm10 cd10 ct10 oc11 kV11 dc11 pm11 cd11 ct11 oc12 kV12 dc12 pm12 cd12 ct12 oc13 kV13 dc13 pm13 cd13 ct13 oc14 kV14 dc14 pm14 cd14 ct14 oc15 kV15 dc15 pm15 cd15 ct15 oc16 kV16 dc16 pm16 cd16 ct16 oc17 kV17 dc17 pm17 cd17 ct17 oc18 kV18 dc18 pm18 cd18 ct18 oc19 kV19 dc19 pm19 cd19 ct19 oc20 kV20 dc20 pm20 cd20 ct20 : Value} {g_MOST_LETTERS g_MOST_NAMES g_MOST_RULES : Tok}
    (a0 : PySem.W.nsIn K mainGlobals "is_name" = some (some (.ref f0)))
    (l0 : K.lookup f0 = some ⟨oc0, od0, .func (PySem.W.fnOf "is_name" "is_name" (defArgs st_is_name) (defBody st_is_name) (defScope st_is_name) .none kV0 dc0 pm0 an0 cd0 ct0), sl0⟩)
    (c0 : PySem.W.codeIn K cd0 "is_name" = true)
    (k0 : PySem.W.keepIn K (.ref f0) = true)
    (a1 : PySem.W.nsIn K mainGlobals "are_names" = some (some (.ref f1)))
    (l1 : K.lookup f1 = some ⟨oc1, od1, .func (PySem.W.fnOf "are_names" "are_names" (defArgs st_are_names) (defBody st_are_names) (defScope st_are_names) .none kV1 dc1 pm1 an1 cd1 ct1), sl1⟩)
    (c1 : PySem.W.codeIn K cd1 "are_names" = true)
    (k1 : PySem.W.keepIn K (.ref f1) = true)
    (a2 : PySem.W.nsIn K mainGlobals "is_rule" = some (some (.ref f2)))
    (l2 : K.lookup f2 = some ⟨oc2, od2, .func (PySem.W.fnOf "is_rule" "is_rule" (defArgs st_is_rule) (defBody st_is_rule) (defScope st_is_rule) .none kV2 dc2 pm2 an2 cd2 ct2), sl2⟩)
    (c2 : PySem.W.codeIn K cd2 "is_rule" = true)
    (k2 : PySem.W.keepIn K (.ref f2) = true)
    (a3 : PySem.W.nsIn K mainGlobals "check_rules" = some (some (.ref f3)))
    (l3 : K.lookup f3 = some ⟨oc3, od3, .func (PySem.W.fnOf "check_rules" "check_rules" (defArgs st_check_rules) (defBody st_check_rules) (defScope st_check_rules) .none kV3 dc3 pm3 an3 cd3 ct3), sl3⟩)
    (c3 : PySem.W.codeIn K cd3 "check_rules" = true)
    (k3 : PySem.W.keepIn K (.ref f3) = true)
    (a4 : PySem.W.nsIn K mainGlobals "numbers_by_part" = some (some (.ref f4)))
    (l4 : K.lookup f4 = some ⟨oc4, od4, .func (PySem.W.fnOf "numbers_by_part" "numbers_by_part" (defArgs st_numbers_by_part) (defBody st_numbers_by_part) (defScope st_numbers_by_part) .none kV4 dc4 pm4 an4 cd4 ct4), sl4⟩)
    (c4 : PySem.W.codeIn K cd4 "numbers_by_part" = true)
    (k4 : PySem.W.keepIn K (.ref f4) = true)
    (a5 : PySem.W.nsIn K mainGlobals "words_of" = some (some (.ref f5)))
    (l5 : K.lookup f5 = some ⟨oc5, od5, .func (PySem.W.fnOf "words_of" "words_of" (defArgs st_words_of) (defBody st_words_of) (defScope st_words_of) .none kV5 dc5 pm5 an5 cd5 ct5), sl5⟩)
    (c5 : PySem.W.codeIn K cd5 "words_of" = true)
    (k5 : PySem.W.keepIn K (.ref f5) = true)
    (ac_Grammar : PySem.W.nsIn K mainGlobals "Grammar" = some (some (.ref C_Grammar)))
    (m2_Grammar : PySem.W.findIn K (.ref C_Grammar) "__init__" = some (some (.ref f6)))
    (l6 : K.lookup f6 = some ⟨oc6, od6, .func (PySem.W.fnOf "__init__" "Grammar.__init__" (defArgs st_Grammar___init__) (defBody st_Grammar___init__) (defScope st_Grammar___init__) .none kV6 dc6 pm6 an6 cd6 ct6), sl6⟩)
    (c6 : PySem.W.codeIn K cd6 "Grammar.__init__" = true)
    (k6 : PySem.W.keepIn K (.ref f6) = true)
    (a7 : PySem.W.nsIn K mainGlobals "_law_draws" = some (some (.ref f7)))
    (l7 : K.lookup f7 = some ⟨oc7, od7, .func (PySem.W.fnOf "_law_draws" "_law_draws" (defArgs st__law_draws) (defBody st__law_draws) (defScope st__law_draws) .none kV7 dc7 pm7 an7 cd7 ct7), sl7⟩)
    (c7 : PySem.W.codeIn K cd7 "_law_draws" = true)
    (k7 : PySem.W.keepIn K (.ref f7) = true)
    (a8 : PySem.W.nsIn K mainGlobals "_law_mix" = some (some (.ref f8)))
    (l8 : K.lookup f8 = some ⟨oc8, od8, .func (PySem.W.fnOf "_law_mix" "_law_mix" (defArgs st__law_mix) (defBody st__law_mix) (defScope st__law_mix) .none kV8 dc8 pm8 an8 cd8 ct8), sl8⟩)
    (c8 : PySem.W.codeIn K cd8 "_law_mix" = true)
    (k8 : PySem.W.keepIn K (.ref f8) = true)
    (a9 : PySem.W.nsIn K mainGlobals "_law_word_of" = some (some (.ref f9)))
    (l9 : K.lookup f9 = some ⟨oc9, od9, .func (PySem.W.fnOf "_law_word_of" "_law_word_of" (defArgs st__law_word_of) (defBody st__law_word_of) (defScope st__law_word_of) .none kV9 dc9 pm9 an9 cd9 ct9), sl9⟩)
    (c9 : PySem.W.codeIn K cd9 "_law_word_of" = true)
    (k9 : PySem.W.keepIn K (.ref f9) = true)
    (a10 : PySem.W.nsIn K mainGlobals "_law_names" = some (some (.ref f10)))
    (l10 : K.lookup f10 = some ⟨oc10, od10, .func (PySem.W.fnOf "_law_names" "_law_names" (defArgs st__law_names) (defBody st__law_names) (defScope st__law_names) .none kV10 dc10 pm10 an10 cd10 ct10), sl10⟩)
    (c10 : PySem.W.codeIn K cd10 "_law_names" = true)
    (k10 : PySem.W.keepIn K (.ref f10) = true)
    (a11 : PySem.W.nsIn K mainGlobals "_law_by_digits" = some (some (.ref f11)))
    (l11 : K.lookup f11 = some ⟨oc11, od11, .func (PySem.W.fnOf "_law_by_digits" "_law_by_digits" (defArgs st__law_by_digits) (defBody st__law_by_digits) (defScope st__law_by_digits) .none kV11 dc11 pm11 an11 cd11 ct11), sl11⟩)
    (c11 : PySem.W.codeIn K cd11 "_law_by_digits" = true)
    (k11 : PySem.W.keepIn K (.ref f11) = true)
    (a12 : PySem.W.nsIn K mainGlobals "_law_by_mixes" = some (some (.ref f12)))
    (l12 : K.lookup f12 = some ⟨oc12, od12, .func (PySem.W.fnOf "_law_by_mixes" "_law_by_mixes" (defArgs st__law_by_mixes) (defBody st__law_by_mixes) (defScope st__law_by_mixes) .none kV12 dc12 pm12 an12 cd12 ct12), sl12⟩)
    (c12 : PySem.W.codeIn K cd12 "_law_by_mixes" = true)
    (k12 : PySem.W.keepIn K (.ref f12) = true)
    (a13 : PySem.W.nsIn K mainGlobals "_law_rules" = some (some (.ref f13)))
    (l13 : K.lookup f13 = some ⟨oc13, od13, .func (PySem.W.fnOf "_law_rules" "_law_rules" (defArgs st__law_rules) (defBody st__law_rules) (defScope st__law_rules) .none kV13 dc13 pm13 an13 cd13 ct13), sl13⟩)
    (c13 : PySem.W.codeIn K cd13 "_law_rules" = true)
    (k13 : PySem.W.keepIn K (.ref f13) = true)
    (a14 : PySem.W.nsIn K mainGlobals "_law_made" = some (some (.ref f14)))
    (l14 : K.lookup f14 = some ⟨oc14, od14, .func (PySem.W.fnOf "_law_made" "_law_made" (defArgs st__law_made) (defBody st__law_made) (defScope st__law_made) .none kV14 dc14 pm14 an14 cd14 ct14), sl14⟩)
    (c14 : PySem.W.codeIn K cd14 "_law_made" = true)
    (k14 : PySem.W.keepIn K (.ref f14) = true)
    (a15 : PySem.W.nsIn K mainGlobals "_law_odd_rule" = some (some (.ref f15)))
    (l15 : K.lookup f15 = some ⟨oc15, od15, .func (PySem.W.fnOf "_law_odd_rule" "_law_odd_rule" (defArgs st__law_odd_rule) (defBody st__law_odd_rule) (defScope st__law_odd_rule) .none kV15 dc15 pm15 an15 cd15 ct15), sl15⟩)
    (c15 : PySem.W.codeIn K cd15 "_law_odd_rule" = true)
    (k15 : PySem.W.keepIn K (.ref f15) = true)
    (a16 : PySem.W.nsIn K mainGlobals "_law_no_list" = some (some (.ref f16)))
    (l16 : K.lookup f16 = some ⟨oc16, od16, .func (PySem.W.fnOf "_law_no_list" "_law_no_list" (defArgs st__law_no_list) (defBody st__law_no_list) (defScope st__law_no_list) .none kV16 dc16 pm16 an16 cd16 ct16), sl16⟩)
    (c16 : PySem.W.codeIn K cd16 "_law_no_list" = true)
    (k16 : PySem.W.keepIn K (.ref f16) = true)
    (a17 : PySem.W.nsIn K mainGlobals "_law_many" = some (some (.ref f17)))
    (l17 : K.lookup f17 = some ⟨oc17, od17, .func (PySem.W.fnOf "_law_many" "_law_many" (defArgs st__law_many) (defBody st__law_many) (defScope st__law_many) .none kV17 dc17 pm17 an17 cd17 ct17), sl17⟩)
    (c17 : PySem.W.codeIn K cd17 "_law_many" = true)
    (k17 : PySem.W.keepIn K (.ref f17) = true)
    (a18 : PySem.W.nsIn K mainGlobals "_law_many_right" = some (some (.ref f18)))
    (l18 : K.lookup f18 = some ⟨oc18, od18, .func (PySem.W.fnOf "_law_many_right" "_law_many_right" (defArgs st__law_many_right) (defBody st__law_many_right) (defScope st__law_many_right) .none kV18 dc18 pm18 an18 cd18 ct18), sl18⟩)
    (c18 : PySem.W.codeIn K cd18 "_law_many_right" = true)
    (k18 : PySem.W.keepIn K (.ref f18) = true)
    (a19 : PySem.W.nsIn K mainGlobals "_law_right" = some (some (.ref f19)))
    (l19 : K.lookup f19 = some ⟨oc19, od19, .func (PySem.W.fnOf "_law_right" "_law_right" (defArgs st__law_right) (defBody st__law_right) (defScope st__law_right) .none kV19 dc19 pm19 an19 cd19 ct19), sl19⟩)
    (c19 : PySem.W.codeIn K cd19 "_law_right" = true)
    (k19 : PySem.W.keepIn K (.ref f19) = true)
    (a20 : PySem.W.nsIn K mainGlobals "law" = some (some (.ref f20)))
    (l20 : K.lookup f20 = some ⟨oc20, od20, .func (PySem.W.fnOf "law" "law" (defArgs st_law) (defBody st_law) (defScope st_law) .none kV20 dc20 pm20 an20 cd20 ct20), sl20⟩)
    (c20 : PySem.W.codeIn K cd20 "law" = true)
    (k20 : PySem.W.keepIn K (.ref f20) = true)
    (m1_Grammar : PySem.W.makesIn K C_Grammar = true)
    (m3_Grammar : PySem.W.isFn K (.ref f6) = true)
    (m4_Grammar : PySem.W.keepIn K (.ref C_Grammar) = true)
    (p1_Grammar : PySem.W.plainGet K C_Grammar Str.empty = true)
    (p2_Grammar : PySem.W.hasDictIn K C_Grammar = true)
    (p3_Grammar : PySem.W.plainOver K C_Grammar = true)
    (p4_Grammar : PySem.W.findIn K (.ref C_Grammar) "__setattr__" = some (some (.builtin "object.__setattr__")))
    (na_Grammar_known : PySem.W.findIn K (.ref C_Grammar) "known" = some none)
    (na_Grammar_numbers : PySem.W.findIn K (.ref C_Grammar) "numbers" = some none)
    (na_Grammar_parts : PySem.W.findIn K (.ref C_Grammar) "parts" = some none)
    (na_Grammar_rules : PySem.W.findIn K (.ref C_Grammar) "rules" = some none)
    (na_Grammar_start : PySem.W.findIn K (.ref C_Grammar) "start" = some none)
    (na_Grammar_words : PySem.W.findIn K (.ref C_Grammar) "words" = some none)
    (ax_NoChart : PySem.W.nsIn K mainGlobals "NoChart" = some (some (.ref X_NoChart)))
    (ax_NoDeed : PySem.W.nsIn K mainGlobals "NoDeed" = some (some (.ref X_NoDeed)))
    (ax_NoGrammar : PySem.W.nsIn K mainGlobals "NoGrammar" = some (some (.ref X_NoGrammar)))
    (x1_NoGrammar : PySem.W.excIn K X_NoGrammar mroVE "ValueError.__new__" = true)
    (x2_NoGrammar : PySem.W.keepIn K (.ref X_NoGrammar) = true)
    (x3_NoGrammar : PySem.W.subIn K (.ref X_NoGrammar) (.type "BaseException") = some true)
    (x4_NoGrammar : PySem.W.typeIn K (.ref X_NoGrammar) = some (.type "type"))
    (y0_NoGrammar : PySem.W.findIn K (.ref X_NoGrammar) "__getattribute__" = some (some (.builtin "BaseException.__getattribute__")))
    (y1_NoGrammar : PySem.W.findIn K (.ref X_NoGrammar) "__getattr__" = some none)
    (y2_NoGrammar : PySem.W.hasDictIn K X_NoGrammar = true)
    (y3_NoGrammar : PySem.W.findIn K (.ref X_NoGrammar) "__class__" = some (some (.builtin "object.__class__")))
    (y4_NoGrammar : PySem.W.mroIn K X_NoGrammar (.type "object") = some true)
    (ax_NoMachine : PySem.W.nsIn K mainGlobals "NoMachine" = some (some (.ref X_NoMachine)))
    (ax_NoPart : PySem.W.nsIn K mainGlobals "NoPart" = some (some (.ref X_NoPart)))
    (ax_NoRow : PySem.W.nsIn K mainGlobals "NoRow" = some (some (.ref X_NoRow)))
    (ax_NoTable : PySem.W.nsIn K mainGlobals "NoTable" = some (some (.ref X_NoTable)))
    (ax_NoText : PySem.W.nsIn K mainGlobals "NoText" = some (some (.ref X_NoText)))
    (ax_NoTree : PySem.W.nsIn K mainGlobals "NoTree" = some (some (.ref X_NoTree)))
    (ax_ReadError : PySem.W.nsIn K mainGlobals "ReadError" = some (some (.ref X_ReadError)))
    (ax_TooMany : PySem.W.nsIn K mainGlobals "TooMany" = some (some (.ref X_TooMany)))
    (x1_TooMany : PySem.W.excIn K X_TooMany mroVE "ValueError.__new__" = true)
    (x2_TooMany : PySem.W.keepIn K (.ref X_TooMany) = true)
    (x3_TooMany : PySem.W.subIn K (.ref X_TooMany) (.type "BaseException") = some true)
    (x4_TooMany : PySem.W.typeIn K (.ref X_TooMany) = some (.type "type"))
    (y0_TooMany : PySem.W.findIn K (.ref X_TooMany) "__getattribute__" = some (some (.builtin "BaseException.__getattribute__")))
    (y1_TooMany : PySem.W.findIn K (.ref X_TooMany) "__getattr__" = some none)
    (y2_TooMany : PySem.W.hasDictIn K X_TooMany = true)
    (y3_TooMany : PySem.W.findIn K (.ref X_TooMany) "__class__" = some (some (.builtin "object.__class__")))
    (y4_TooMany : PySem.W.mroIn K X_TooMany (.type "object") = some true)
    (y_n : PySem.W.specialIn K (.builtin "object.__class__") "__get__" = some (some (.builtin "getset_descriptor.__get__")))
    (y_t : PySem.W.takesIn K (.builtin "object.__class__") = some true)
    (s0 : PySem.W.kitOne K (.ref X_NoGrammar) (.ref X_NoChart) = some false)
    (s1 : PySem.W.kitOne K (.ref X_NoGrammar) (.ref X_NoDeed) = some false)
    (s2 : PySem.W.kitOne K (.ref X_NoGrammar) (.ref X_NoGrammar) = some true)
    (s3 : PySem.W.kitOne K (.ref X_NoGrammar) (.ref X_NoMachine) = some false)
    (s4 : PySem.W.kitOne K (.ref X_NoGrammar) (.ref X_NoPart) = some false)
    (s5 : PySem.W.kitOne K (.ref X_NoGrammar) (.ref X_NoRow) = some false)
    (s6 : PySem.W.kitOne K (.ref X_NoGrammar) (.ref X_NoTable) = some false)
    (s7 : PySem.W.kitOne K (.ref X_NoGrammar) (.ref X_NoText) = some false)
    (s8 : PySem.W.kitOne K (.ref X_NoGrammar) (.ref X_NoTree) = some false)
    (s9 : PySem.W.kitOne K (.ref X_NoGrammar) (.ref X_ReadError) = some true)
    (s10 : PySem.W.kitOne K (.ref X_NoGrammar) (.ref X_TooMany) = some false)
    (s11 : PySem.W.kitOne K (.ref X_NoGrammar) (.type "ValueError") = some true)
    (s12 : PySem.W.kitOne K (.ref X_TooMany) (.ref X_NoChart) = some false)
    (s13 : PySem.W.kitOne K (.ref X_TooMany) (.ref X_NoDeed) = some false)
    (s14 : PySem.W.kitOne K (.ref X_TooMany) (.ref X_NoGrammar) = some false)
    (s15 : PySem.W.kitOne K (.ref X_TooMany) (.ref X_NoMachine) = some false)
    (s16 : PySem.W.kitOne K (.ref X_TooMany) (.ref X_NoPart) = some false)
    (s17 : PySem.W.kitOne K (.ref X_TooMany) (.ref X_NoRow) = some false)
    (s18 : PySem.W.kitOne K (.ref X_TooMany) (.ref X_NoTable) = some false)
    (s19 : PySem.W.kitOne K (.ref X_TooMany) (.ref X_NoText) = some false)
    (s20 : PySem.W.kitOne K (.ref X_TooMany) (.ref X_NoTree) = some false)
    (s21 : PySem.W.kitOne K (.ref X_TooMany) (.ref X_ReadError) = some true)
    (s22 : PySem.W.kitOne K (.ref X_TooMany) (.ref X_TooMany) = some true)
    (s23 : PySem.W.kitOne K (.ref X_TooMany) (.type "ValueError") = some true)
    (rb_ReadError : PySem.W.subIn K (.ref X_ReadError) (.type "BaseException") = some true)
    (ri_ReadError : PySem.W.isClsIn K X_ReadError = true)
    (rt_ReadError : PySem.W.typeIn K (.ref X_ReadError) = some (.type "type"))
    (e_NoGrammar_ReadError : PySem.W.subIn K (.ref X_NoGrammar) (.ref X_ReadError) = some true)
    (e_TooMany_ReadError : PySem.W.subIn K (.ref X_TooMany) (.ref X_ReadError) = some true)
    (z_MOST_LETTERS : PySem.W.nsIn K mainGlobals "MOST_LETTERS" = some (some (.int 8 g_MOST_LETTERS)))
    (z_MOST_NAMES : PySem.W.nsIn K mainGlobals "MOST_NAMES" = some (some (.int 8 g_MOST_NAMES)))
    (z_MOST_RULES : PySem.W.nsIn K mainGlobals "MOST_RULES" = some (some (.int 300 g_MOST_RULES)))
    (z_ValueError : PySem.W.nsIn K mainGlobals "ValueError" = some none)
    (z_abs : PySem.W.nsIn K mainGlobals "abs" = some none)
    (z_all : PySem.W.nsIn K mainGlobals "all" = some none)
    (z_dict : PySem.W.nsIn K mainGlobals "dict" = some none)
    (z_enumerate : PySem.W.nsIn K mainGlobals "enumerate" = some none)
    (z_isinstance : PySem.W.nsIn K mainGlobals "isinstance" = some none)
    (z_len : PySem.W.nsIn K mainGlobals "len" = some none)
    (z_list : PySem.W.nsIn K mainGlobals "list" = some none)
    (z_range : PySem.W.nsIn K mainGlobals "range" = some none)
    (z_repr : PySem.W.nsIn K mainGlobals "repr" = some none)
    (z_sorted : PySem.W.nsIn K mainGlobals "sorted" = some none)
    (z_str : PySem.W.nsIn K mainGlobals "str" = some none)
    (z_tuple : PySem.W.nsIn K mainGlobals "tuple" = some none) :
    LawG l w K 14 63 "script" mg fa h := by
  have T : Txt K mg := ⟨⟨_, PySem.W.mg_of X G z_MOST_LETTERS⟩, ⟨_, PySem.W.mg_of X G z_MOST_NAMES⟩, ⟨_, PySem.W.mg_of X G z_MOST_RULES⟩, PySem.W.mg_none_of X G z_ValueError, PySem.W.mg_none_of X G z_abs, PySem.W.mg_none_of X G z_all, PySem.W.mg_none_of X G z_dict, PySem.W.mg_none_of X G z_enumerate, PySem.W.mg_none_of X G z_isinstance, PySem.W.mg_none_of X G z_len, PySem.W.mg_none_of X G z_list, PySem.W.mg_none_of X G z_range, PySem.W.mg_none_of X G z_repr, PySem.W.mg_none_of X G z_sorted, PySem.W.mg_none_of X G z_str, PySem.W.mg_none_of X G z_tuple⟩
  have F0 := fun_mk (st := st_is_name) l0 c0 k0
  have b0 := F0.binds (ps := ["thing"]) fun _ _ _ _ _ _ us hl => match us, hl with | [_], _ => rfl
  obtain ⟨cc0, P0, e0, C0, hP0⟩ := tab_at X tabs (x := "is_name") (by decide +kernel) (PySem.W.mg_of X G a0) l0
  have F1 := fun_mk (st := st_are_names) l1 c1 k1
  have b1 := F1.binds (ps := ["thing", "most"]) fun _ _ _ _ _ _ us hl => match us, hl with | [_, _], _ => rfl
  obtain ⟨cc1, P1, e1, C1, hP1⟩ := tab_at X tabs (x := "are_names") (by decide +kernel) (PySem.W.mg_of X G a1) l1
  have F2 := fun_mk (st := st_is_rule) l2 c2 k2
  have b2 := F2.binds (ps := ["thing"]) fun _ _ _ _ _ _ us hl => match us, hl with | [_], _ => rfl
  have F3 := fun_mk (st := st_check_rules) l3 c3 k3
  have b3 := F3.binds (ps := ["rules"]) fun _ _ _ _ _ _ us hl => match us, hl with | [_], _ => rfl
  obtain ⟨cc3, P3, e3, C3, hP3⟩ := tab_at X tabs (x := "check_rules") (by decide +kernel) (PySem.W.mg_of X G a3) l3
  have F4 := fun_mk (st := st_numbers_by_part) l4 c4 k4
  have b4 := F4.binds (ps := ["rules"]) fun _ _ _ _ _ _ us hl => match us, hl with | [_], _ => rfl
  have F5 := fun_mk (st := st_words_of) l5 c5 k5
  have b5 := F5.binds (ps := ["rules", "parts"]) fun _ _ _ _ _ _ us hl => match us, hl with | [_, _], _ => rfl
  have F6 := fun_mk (st := st_Grammar___init__) l6 c6 k6
  have b6 := F6.binds (ps := ["self", "rules"]) fun _ _ _ _ _ _ us hl => match us, hl with | [_, _], _ => rfl
  have F7 := fun_mk (st := st__law_draws) l7 c7 k7
  have b7 := F7.binds (ps := ["number", "sizes"]) fun _ _ _ _ _ _ us hl => match us, hl with | [_, _], _ => rfl
  have F8 := fun_mk (st := st__law_mix) l8 c8 k8
  have b8 := F8.binds (ps := ["number", "k"]) fun _ _ _ _ _ _ us hl => match us, hl with | [_, _], _ => rfl
  have F9 := fun_mk (st := st__law_word_of) l9 c9 k9
  have b9 := F9.binds (ps := ["e"]) fun _ _ _ _ _ _ us hl => match us, hl with | [_], _ => rfl
  have F10 := fun_mk (st := st__law_names) l10 c10 k10
  have b10 := F10.binds (ps := ["number"]) fun _ _ _ _ _ _ us hl => match us, hl with | [_], _ => rfl
  have F11 := fun_mk (st := st__law_by_digits) l11 c11 k11
  have b11 := F11.binds (ps := ["cell"]) fun _ _ _ _ _ _ us hl => match us, hl with | [_], _ => rfl
  have F12 := fun_mk (st := st__law_by_mixes) l12 c12 k12
  have b12 := F12.binds (ps := ["cell"]) fun _ _ _ _ _ _ us hl => match us, hl with | [_], _ => rfl
  have F13 := fun_mk (st := st__law_rules) l13 c13 k13
  have b13 := F13.binds (ps := ["cell"]) fun _ _ _ _ _ _ us hl => match us, hl with | [_], _ => rfl
  have F14 := fun_mk (st := st__law_made) l14 c14 k14
  have b14 := F14.binds (ps := ["rules"]) fun _ _ _ _ _ _ us hl => match us, hl with | [_], _ => rfl
  have F15 := fun_mk (st := st__law_odd_rule) l15 c15 k15
  have b15 := F15.binds (ps := ["cell"]) fun _ _ _ _ _ _ us hl => match us, hl with | [_], _ => rfl
  have F16 := fun_mk (st := st__law_no_list) l16 c16 k16
  have b16 := F16.binds (ps := ["cell"]) fun _ _ _ _ _ _ us hl => match us, hl with | [_], _ => rfl
  have F17 := fun_mk (st := st__law_many) l17 c17 k17
  have b17 := F17.binds (ps := ["cell"]) fun _ _ _ _ _ _ us hl => match us, hl with | [_], _ => rfl
  have F18 := fun_mk (st := st__law_many_right) l18 c18 k18
  have b18 := F18.binds (ps := ["more"]) fun _ _ _ _ _ _ us hl => match us, hl with | [_], _ => rfl
  have F19 := fun_mk (st := st__law_right) l19 c19 k19
  have b19 := F19.binds (ps := ["cell"]) fun _ _ _ _ _ _ us hl => match us, hl with | [_], _ => rfl
  have F20 := fun_mk (st := st_law) l20 c20 k20
  have b20 := F20.binds (ps := ["script"]) fun _ _ _ _ _ _ us hl => match us, hl with | [_], _ => rfl
  have e := hfa.symm.trans (PySem.W.mg_of X G a20)
  cases e
  have hPs : ∀ p ∈ ([(cc0, P0), (cc1, P1), (cc3, P3)] : List (Addr × Addr)), h.get? p.2 = some { cls := .none, data := .fields #[] } := by
    simp only [List.mem_cons, List.not_mem_nil, or_false, false_or, forall_eq_or_imp, forall_eq, false_implies, implies_true]
    exact ⟨hP0, hP1, hP3⟩
  have hCs : ∀ p ∈ ([(cc0, P0), (cc1, P1), (cc3, P3)] : List (Addr × Addr)), PySem.W.CodeHd h p.1 p.2 := by
    simp only [List.mem_cons, List.not_mem_nil, or_false, false_or, forall_eq_or_imp, forall_eq, false_implies, implies_true]
    exact ⟨C0, C1, C3⟩
  refine ⟨PySem.W.fnOf "law" "law" (defArgs st_law) (defBody st_law) (defScope st_law) .none kV20 dc20 pm20 an20 cd20 ct20, [(cc0, P0), (cc1, P1), (cc3, P3)], SpT (GG0 l.prog w K (fun c => ([(("Grammar" : Str), C_Grammar)] : List (Str × Addr)).lookup c) (fun c => ([(("NoChart" : Str), X_NoChart), (("NoDeed" : Str), X_NoDeed), (("NoGrammar" : Str), X_NoGrammar), (("NoMachine" : Str), X_NoMachine), (("NoPart" : Str), X_NoPart), (("NoRow" : Str), X_NoRow), (("NoTable" : Str), X_NoTable), (("NoText" : Str), X_NoText), (("NoTree" : Str), X_NoTree), (("ReadError" : Str), X_ReadError), (("TooMany" : Str), X_TooMany)] : List (Str × Addr)).lookup c) (([(cc0, P0), (cc1, P1), (cc3, P3)] : List (Addr × Addr)).map (·.2))) 1 D_law, hPs, fun p hp => noT p.2 (hPs p hp), hCs, fun s u => .of_eq rfl, fun H a ns hl hb hT hS => spT_law hS hT (law_true ns hl hb), fun base hbk hbg hM hTB => ?_⟩
  obtain ⟨GG, hGG⟩ : ∃ GG, GG = (GG0 l.prog w K (fun c => ([(("Grammar" : Str), C_Grammar)] : List (Str × Addr)).lookup c) (fun c => ([(("NoChart" : Str), X_NoChart), (("NoDeed" : Str), X_NoDeed), (("NoGrammar" : Str), X_NoGrammar), (("NoMachine" : Str), X_NoMachine), (("NoPart" : Str), X_NoPart), (("NoRow" : Str), X_NoRow), (("NoTable" : Str), X_NoTable), (("NoText" : Str), X_NoText), (("NoTree" : Str), X_NoTree), (("ReadError" : Str), X_ReadError), (("TooMany" : Str), X_TooMany)] : List (Str × Addr)).lookup c) (([(cc0, P0), (cc1, P1), (cc3, P3)] : List (Addr × Addr)).map (·.2))) := ⟨_, rfl⟩
  rw [← hGG]
  have hK : GG.K = K := by rw [hGG]
  have hP : GG.prog = l.prog := by rw [hGG]
  have hW : GG.wld = w := by rw [hGG]
  have hX : GG.exr = exrOf GG.ecl := by rw [hGG]
  have hTab0 : P0 ∈ GG.tabs := by rw [hGG]; simp
  have hTab1 : P1 ∈ GG.tabs := by rw [hGG]; simp
  have hTab3 : P3 ∈ GG.tabs := by rw [hGG]; simp
  have hc_Grammar : GG.cls "Grammar" = some C_Grammar := by rw [hGG]; rfl
  have hE_NoChart : GG.ecl "NoChart" = some X_NoChart := by rw [hGG]; rfl
  have hE_NoDeed : GG.ecl "NoDeed" = some X_NoDeed := by rw [hGG]; rfl
  have hE_NoGrammar : GG.ecl "NoGrammar" = some X_NoGrammar := by rw [hGG]; rfl
  have hE_NoMachine : GG.ecl "NoMachine" = some X_NoMachine := by rw [hGG]; rfl
  have hE_NoPart : GG.ecl "NoPart" = some X_NoPart := by rw [hGG]; rfl
  have hE_NoRow : GG.ecl "NoRow" = some X_NoRow := by rw [hGG]; rfl
  have hE_NoTable : GG.ecl "NoTable" = some X_NoTable := by rw [hGG]; rfl
  have hE_NoText : GG.ecl "NoText" = some X_NoText := by rw [hGG]; rfl
  have hE_NoTree : GG.ecl "NoTree" = some X_NoTree := by rw [hGG]; rfl
  have hE_ReadError : GG.ecl "ReadError" = some X_ReadError := by rw [hGG]; rfl
  have hE_TooMany : GG.ecl "TooMany" = some X_TooMany := by rw [hGG]; rfl
  have at_Grammar_known : ∀ C, GG.cls "Grammar" = some C → Cls K C ∧ NoAttr K C "known" := fun C hC => by
    obtain rfl := Option.some.inj (hc_Grammar.symm.trans hC)
    exact ⟨⟨p1_Grammar, p2_Grammar, p3_Grammar, p4_Grammar⟩, na_Grammar_known⟩
  have at_Grammar_numbers : ∀ C, GG.cls "Grammar" = some C → Cls K C ∧ NoAttr K C "numbers" := fun C hC => by
    obtain rfl := Option.some.inj (hc_Grammar.symm.trans hC)
    exact ⟨⟨p1_Grammar, p2_Grammar, p3_Grammar, p4_Grammar⟩, na_Grammar_numbers⟩
  have at_Grammar_parts : ∀ C, GG.cls "Grammar" = some C → Cls K C ∧ NoAttr K C "parts" := fun C hC => by
    obtain rfl := Option.some.inj (hc_Grammar.symm.trans hC)
    exact ⟨⟨p1_Grammar, p2_Grammar, p3_Grammar, p4_Grammar⟩, na_Grammar_parts⟩
  have at_Grammar_rules : ∀ C, GG.cls "Grammar" = some C → Cls K C ∧ NoAttr K C "rules" := fun C hC => by
    obtain rfl := Option.some.inj (hc_Grammar.symm.trans hC)
    exact ⟨⟨p1_Grammar, p2_Grammar, p3_Grammar, p4_Grammar⟩, na_Grammar_rules⟩
  have at_Grammar_start : ∀ C, GG.cls "Grammar" = some C → Cls K C ∧ NoAttr K C "start" := fun C hC => by
    obtain rfl := Option.some.inj (hc_Grammar.symm.trans hC)
    exact ⟨⟨p1_Grammar, p2_Grammar, p3_Grammar, p4_Grammar⟩, na_Grammar_start⟩
  have at_Grammar_words : ∀ C, GG.cls "Grammar" = some C → Cls K C ∧ NoAttr K C "words" := fun C hC => by
    obtain rfl := Option.some.inj (hc_Grammar.symm.trans hC)
    exact ⟨⟨p1_Grammar, p2_Grammar, p3_Grammar, p4_Grammar⟩, na_Grammar_words⟩
  have v_NoChart : ClD mg GG "NoChart" := ⟨X_NoChart, PySem.W.mg_of X G ax_NoChart, hE_NoChart⟩
  have v_NoDeed : ClD mg GG "NoDeed" := ⟨X_NoDeed, PySem.W.mg_of X G ax_NoDeed, hE_NoDeed⟩
  have v_NoGrammar : ClD mg GG "NoGrammar" := ⟨X_NoGrammar, PySem.W.mg_of X G ax_NoGrammar, hE_NoGrammar⟩
  have v_NoMachine : ClD mg GG "NoMachine" := ⟨X_NoMachine, PySem.W.mg_of X G ax_NoMachine, hE_NoMachine⟩
  have v_NoPart : ClD mg GG "NoPart" := ⟨X_NoPart, PySem.W.mg_of X G ax_NoPart, hE_NoPart⟩
  have v_NoRow : ClD mg GG "NoRow" := ⟨X_NoRow, PySem.W.mg_of X G ax_NoRow, hE_NoRow⟩
  have v_NoTable : ClD mg GG "NoTable" := ⟨X_NoTable, PySem.W.mg_of X G ax_NoTable, hE_NoTable⟩
  have v_NoText : ClD mg GG "NoText" := ⟨X_NoText, PySem.W.mg_of X G ax_NoText, hE_NoText⟩
  have v_NoTree : ClD mg GG "NoTree" := ⟨X_NoTree, PySem.W.mg_of X G ax_NoTree, hE_NoTree⟩
  have v_ReadError : ClD mg GG "ReadError" := ⟨X_ReadError, PySem.W.mg_of X G ax_ReadError, hE_ReadError⟩
  have v_TooMany : ClD mg GG "TooMany" := ⟨X_TooMany, PySem.W.mg_of X G ax_TooMany, hE_TooMany⟩
  have x_NoGrammar : ExD K mg GG "NoGrammar" := ⟨X_NoGrammar, ⟨PySem.W.mg_of X G ax_NoGrammar, x1_NoGrammar, x2_NoGrammar, x3_NoGrammar, x4_NoGrammar⟩, hE_NoGrammar⟩
  have ex_NoGrammar : ExcC K X_NoGrammar := ⟨y0_NoGrammar, y1_NoGrammar, x3_NoGrammar, y2_NoGrammar, y3_NoGrammar, y_n, y_t, y4_NoGrammar⟩
  have x_TooMany : ExD K mg GG "TooMany" := ⟨X_TooMany, ⟨PySem.W.mg_of X G ax_TooMany, x1_TooMany, x2_TooMany, x3_TooMany, x4_TooMany⟩, hE_TooMany⟩
  have ex_TooMany : ExcC K X_TooMany := ⟨y0_TooMany, y1_TooMany, x3_TooMany, y2_TooMany, y3_TooMany, y_n, y_t, y4_TooMany⟩
  have so : SubOk GG sub_tab := by
    unfold sub_tab
    refine subOk_of ?_
    rw [hK]
    unfold sub_rows
    exact (List.forall_mem_cons.mpr ⟨fun C hC => by
      obtain rfl := Option.some.inj (hE_NoGrammar.symm.trans hC)
      exact ⟨ex_NoGrammar, fun D hD => by obtain rfl := Option.some.inj (hE_NoChart.symm.trans hD); exact s0⟩, (List.forall_mem_cons.mpr ⟨fun C hC => by
      obtain rfl := Option.some.inj (hE_NoGrammar.symm.trans hC)
      exact ⟨ex_NoGrammar, fun D hD => by obtain rfl := Option.some.inj (hE_NoDeed.symm.trans hD); exact s1⟩, (List.forall_mem_cons.mpr ⟨fun C hC => by
      obtain rfl := Option.some.inj (hE_NoGrammar.symm.trans hC)
      exact ⟨ex_NoGrammar, fun D hD => by obtain rfl := Option.some.inj (hE_NoGrammar.symm.trans hD); exact s2⟩, (List.forall_mem_cons.mpr ⟨fun C hC => by
      obtain rfl := Option.some.inj (hE_NoGrammar.symm.trans hC)
      exact ⟨ex_NoGrammar, fun D hD => by obtain rfl := Option.some.inj (hE_NoMachine.symm.trans hD); exact s3⟩, (List.forall_mem_cons.mpr ⟨fun C hC => by
      obtain rfl := Option.some.inj (hE_NoGrammar.symm.trans hC)
      exact ⟨ex_NoGrammar, fun D hD => by obtain rfl := Option.some.inj (hE_NoPart.symm.trans hD); exact s4⟩, (List.forall_mem_cons.mpr ⟨fun C hC => by
      obtain rfl := Option.some.inj (hE_NoGrammar.symm.trans hC)
      exact ⟨ex_NoGrammar, fun D hD => by obtain rfl := Option.some.inj (hE_NoRow.symm.trans hD); exact s5⟩, (List.forall_mem_cons.mpr ⟨fun C hC => by
      obtain rfl := Option.some.inj (hE_NoGrammar.symm.trans hC)
      exact ⟨ex_NoGrammar, fun D hD => by obtain rfl := Option.some.inj (hE_NoTable.symm.trans hD); exact s6⟩, (List.forall_mem_cons.mpr ⟨fun C hC => by
      obtain rfl := Option.some.inj (hE_NoGrammar.symm.trans hC)
      exact ⟨ex_NoGrammar, fun D hD => by obtain rfl := Option.some.inj (hE_NoText.symm.trans hD); exact s7⟩, (List.forall_mem_cons.mpr ⟨fun C hC => by
      obtain rfl := Option.some.inj (hE_NoGrammar.symm.trans hC)
      exact ⟨ex_NoGrammar, fun D hD => by obtain rfl := Option.some.inj (hE_NoTree.symm.trans hD); exact s8⟩, (List.forall_mem_cons.mpr ⟨fun C hC => by
      obtain rfl := Option.some.inj (hE_NoGrammar.symm.trans hC)
      exact ⟨ex_NoGrammar, fun D hD => by obtain rfl := Option.some.inj (hE_ReadError.symm.trans hD); exact s9⟩, (List.forall_mem_cons.mpr ⟨fun C hC => by
      obtain rfl := Option.some.inj (hE_NoGrammar.symm.trans hC)
      exact ⟨ex_NoGrammar, fun D hD => by obtain rfl := Option.some.inj (hE_TooMany.symm.trans hD); exact s10⟩, (List.forall_mem_cons.mpr ⟨fun C hC => by
      obtain rfl := Option.some.inj (hE_NoGrammar.symm.trans hC)
      exact ⟨ex_NoGrammar, s11⟩, (List.forall_mem_cons.mpr ⟨fun C hC => by
      obtain rfl := Option.some.inj (hE_TooMany.symm.trans hC)
      exact ⟨ex_TooMany, fun D hD => by obtain rfl := Option.some.inj (hE_NoChart.symm.trans hD); exact s12⟩, (List.forall_mem_cons.mpr ⟨fun C hC => by
      obtain rfl := Option.some.inj (hE_TooMany.symm.trans hC)
      exact ⟨ex_TooMany, fun D hD => by obtain rfl := Option.some.inj (hE_NoDeed.symm.trans hD); exact s13⟩, (List.forall_mem_cons.mpr ⟨fun C hC => by
      obtain rfl := Option.some.inj (hE_TooMany.symm.trans hC)
      exact ⟨ex_TooMany, fun D hD => by obtain rfl := Option.some.inj (hE_NoGrammar.symm.trans hD); exact s14⟩, (List.forall_mem_cons.mpr ⟨fun C hC => by
      obtain rfl := Option.some.inj (hE_TooMany.symm.trans hC)
      exact ⟨ex_TooMany, fun D hD => by obtain rfl := Option.some.inj (hE_NoMachine.symm.trans hD); exact s15⟩, (List.forall_mem_cons.mpr ⟨fun C hC => by
      obtain rfl := Option.some.inj (hE_TooMany.symm.trans hC)
      exact ⟨ex_TooMany, fun D hD => by obtain rfl := Option.some.inj (hE_NoPart.symm.trans hD); exact s16⟩, (List.forall_mem_cons.mpr ⟨fun C hC => by
      obtain rfl := Option.some.inj (hE_TooMany.symm.trans hC)
      exact ⟨ex_TooMany, fun D hD => by obtain rfl := Option.some.inj (hE_NoRow.symm.trans hD); exact s17⟩, (List.forall_mem_cons.mpr ⟨fun C hC => by
      obtain rfl := Option.some.inj (hE_TooMany.symm.trans hC)
      exact ⟨ex_TooMany, fun D hD => by obtain rfl := Option.some.inj (hE_NoTable.symm.trans hD); exact s18⟩, (List.forall_mem_cons.mpr ⟨fun C hC => by
      obtain rfl := Option.some.inj (hE_TooMany.symm.trans hC)
      exact ⟨ex_TooMany, fun D hD => by obtain rfl := Option.some.inj (hE_NoText.symm.trans hD); exact s19⟩, (List.forall_mem_cons.mpr ⟨fun C hC => by
      obtain rfl := Option.some.inj (hE_TooMany.symm.trans hC)
      exact ⟨ex_TooMany, fun D hD => by obtain rfl := Option.some.inj (hE_NoTree.symm.trans hD); exact s20⟩, (List.forall_mem_cons.mpr ⟨fun C hC => by
      obtain rfl := Option.some.inj (hE_TooMany.symm.trans hC)
      exact ⟨ex_TooMany, fun D hD => by obtain rfl := Option.some.inj (hE_ReadError.symm.trans hD); exact s21⟩, (List.forall_mem_cons.mpr ⟨fun C hC => by
      obtain rfl := Option.some.inj (hE_TooMany.symm.trans hC)
      exact ⟨ex_TooMany, fun D hD => by obtain rfl := Option.some.inj (hE_TooMany.symm.trans hD); exact s22⟩, (List.forall_mem_cons.mpr ⟨fun C hC => by
      obtain rfl := Option.some.inj (hE_TooMany.symm.trans hC)
      exact ⟨ex_TooMany, s23⟩, (fun _ h => nomatch h)⟩)⟩)⟩)⟩)⟩)⟩)⟩)⟩)⟩)⟩)⟩)⟩)⟩)⟩)⟩)⟩)⟩)⟩)⟩)⟩)⟩)⟩)⟩)⟩)
  have hcat_ReadError : ∀ e C D b, GG.ecl e = some C → GG.ecl "ReadError" = some D → cat_ReadError e = some b → PySem.W.exmOne K (.ref C) (.ref D) = some b := fun e C D b hC hD hb => by
    obtain rfl := Option.some.inj (hE_ReadError.symm.trans hD)
    unfold cat_ReadError at hb
    split at hb
    · rename_i he
      cases hb
      rcases List.mem_cons.mp he with rfl | he
      · obtain rfl := Option.some.inj (hE_NoGrammar.symm.trans hC)
        exact exm_mk rb_ReadError ri_ReadError rt_ReadError e_NoGrammar_ReadError
      rcases List.mem_cons.mp he with rfl | he
      · obtain rfl := Option.some.inj (hE_TooMany.symm.trans hC)
        exact exm_mk rb_ReadError ri_ReadError rt_ReadError e_TooMany_ReadError
      cases he
    · cases hb
  have q0 : CalG l.prog w K mg base GG 3 "is_name" 1 D_is_name := ⟨_, _, _, fn_is_name hK hP hW F0 T (c := cc0) (P' := P0) e0 (tabB_of (hTB (cc0, P0) (by simp))) hTab0 so, PySem.W.mg_of X G a0, F0.kp, b0⟩
  have q1 : CalG l.prog w K mg base GG 5 "are_names" 2 D_are_names := ⟨_, _, _, fn_are_names hK hP hW F1 T (c := cc1) (P' := P1) e1 (tabB_of (hTB (cc1, P1) (by simp))) hTab1 q0 so, PySem.W.mg_of X G a1, F1.kp, b1⟩
  have q2 : CalG l.prog w K mg base GG 6 "is_rule" 1 D_is_rule := ⟨_, _, _, fn_is_rule hK hP hW F2 T q1 q0 so, PySem.W.mg_of X G a2, F2.kp, b2⟩
  have q3 : CalG l.prog w K mg base GG 8 "check_rules" 1 D_check_rules := ⟨_, _, _, fn_check_rules hK hP hW F3 T (c := cc3) (P' := P3) e3 (tabB_of (hTB (cc3, P3) (by simp))) hTab3 q2 x_NoGrammar x_TooMany hX so, PySem.W.mg_of X G a3, F3.kp, b3⟩
  have q4 : CalG l.prog w K mg base GG 1 "numbers_by_part" 1 D_numbers_by_part := ⟨_, _, _, fn_numbers_by_part hK hP hW F4 T, PySem.W.mg_of X G a4, F4.kp, b4⟩
  have q5 : CalG l.prog w K mg base GG 1 "words_of" 2 D_words_of := ⟨_, _, _, fn_words_of hK hP hW F5 T, PySem.W.mg_of X G a5, F5.kp, b5⟩
  have q6 : MakG l.prog w K mg base GG 9 "Grammar" 1 D_Grammar___init__ := ⟨C_Grammar, _, _, _, fn_Grammar___init__ hK hP hW F6 T q3 q4 q5 at_Grammar_known at_Grammar_numbers at_Grammar_parts at_Grammar_rules at_Grammar_start at_Grammar_words, ⟨m1_Grammar, m2_Grammar, m3_Grammar, m4_Grammar⟩, PySem.W.mg_of X G ac_Grammar, hc_Grammar, b6⟩
  have q7 : CalG l.prog w K mg base GG 1 "_law_draws" 2 D__law_draws := ⟨_, _, _, fn__law_draws hK hP hW F7 T, PySem.W.mg_of X G a7, F7.kp, b7⟩
  have q8 : CalG l.prog w K mg base GG 1 "_law_mix" 2 D__law_mix := ⟨_, _, _, fn__law_mix hK hP hW F8 T, PySem.W.mg_of X G a8, F8.kp, b8⟩
  have q9 : CalG l.prog w K mg base GG 1 "_law_word_of" 1 D__law_word_of := ⟨_, _, _, fn__law_word_of hK hP hW F9 T v_NoChart v_NoDeed v_NoGrammar v_NoMachine v_NoPart v_NoRow v_NoTable v_NoText v_NoTree v_TooMany so, PySem.W.mg_of X G a9, F9.kp, b9⟩
  have q10 : CalG l.prog w K mg base GG 2 "_law_names" 1 D__law_names := ⟨_, _, _, fn__law_names hK hP hW F10 T q7 q8, PySem.W.mg_of X G a10, F10.kp, b10⟩
  have q11 : CalG l.prog w K mg base GG 2 "_law_by_digits" 1 D__law_by_digits := ⟨_, _, _, fn__law_by_digits hK hP hW F11 T q7, PySem.W.mg_of X G a11, F11.kp, b11⟩
  have q12 : CalG l.prog w K mg base GG 3 "_law_by_mixes" 1 D__law_by_mixes := ⟨_, _, _, fn__law_by_mixes hK hP hW F12 T q7 q8 q10, PySem.W.mg_of X G a12, F12.kp, b12⟩
  have q13 : CalG l.prog w K mg base GG 4 "_law_rules" 1 D__law_rules := ⟨_, _, _, fn__law_rules hK hP hW F13 T q11 q12, PySem.W.mg_of X G a13, F13.kp, b13⟩
  have q14 : CalG l.prog w K mg base GG 11 "_law_made" 1 D__law_made := CalG.noX ⟨_, _, _, fn__law_made hK hP hW F14 T q9 q6 at_Grammar_rules v_ReadError hX hcat_ReadError, PySem.W.mg_of X G a14, F14.kp, b14⟩
  have q15 : CalG l.prog w K mg base GG 1 "_law_odd_rule" 1 D__law_odd_rule := ⟨_, _, _, fn__law_odd_rule hK hP hW F15 T, PySem.W.mg_of X G a15, F15.kp, b15⟩
  have q16 : CalG l.prog w K mg base GG 1 "_law_no_list" 1 D__law_no_list := ⟨_, _, _, fn__law_no_list hK hP hW F16 T, PySem.W.mg_of X G a16, F16.kp, b16⟩
  have q17 : CalG l.prog w K mg base GG 2 "_law_many" 1 D__law_many := ⟨_, _, _, fn__law_many hK hP hW F17 T q15, PySem.W.mg_of X G a17, F17.kp, b17⟩
  have q18 : CalG l.prog w K mg base GG 12 "_law_many_right" 1 D__law_many_right := ⟨_, _, _, fn__law_many_right hK hP hW F18 T q14 q17, PySem.W.mg_of X G a18, F18.kp, b18⟩
  have q19 : CalG l.prog w K mg base GG 13 "_law_right" 1 D__law_right := ⟨_, _, _, fn__law_right hK hP hW F19 T q7 q14 q18 q8 q16 q15 q13 hM, PySem.W.mg_of X G a19, F19.kp, b19⟩
  exact fn_law hK hP hW F20 T q19
end K13
namespace K13
open PySem L2 GxR Gx Tr
--GRAM
def okN : Nat → T → Bool
  | 0, t => okT t && t.nr
  | k + 1, t => (okT t && t.nr) && (match t with | .tup ts => ts.all (okN k) | _ => true)
theorem okN_ok {k : Nat} {t : T} (h : okN k t = true) : okT t = true ∧ t.nr = true := by
  cases k with
  | zero => unfold okN at h; rw [Bool.and_eq_true] at h; exact h
  | succ k => unfold okN at h; rw [Bool.and_eq_true, Bool.and_eq_true] at h; exact h.1
theorem okN_in {k : Nat} {ts : List T} (h : okN (k + 1) (.tup ts) = true) : ∀ x ∈ ts, okN k x = true := by
  unfold okN at h
  rw [Bool.and_eq_true] at h
  exact fun x hx => List.all_eq_true.mp h.2 x hx
theorem is_name_eq {t : T} (h : okT t = true) : D_is_name [t] = .ok (.bl (nameT t)) := by
  refine runD_ret (ρ := ⟨[some t, none], []⟩) ?_ fz_bl
  have hb : t.base = true := okT_base h
  by_cases hs : ∀ s, t ≠ .str s
  · simp -implicitDefEqProofs only [b_is_name, fSeq, fIfS, fRet, fRetN, fNext, fAsg, fAsgG, fPar, fDrop, fOr, fAnd, fNot, fTest, fTruth, fAndV, fOrV, fNotV, fIf, fChain, fCall, fCallN, fCallD, fCons, fNil, fVar, fC, fBin, fTup, fFrz, fOwn, fLstN, fSlice, fNoPart, fPart, fSet, fGTup, fGCons, fGNil, rb_ok, rb_exc, rb_stk, noExc, Env.put, List.getElem?_cons_zero, List.getElem?_cons_succ, List.set_cons_zero, List.set_cons_succ, List.length_cons, List.length_nil, vw_non, vw_bl, vw_int, vw_str, vw_ty, vw_tup, vw_lst, vw_dct, vw_dcN, vw_exo, vw_cl, vw_obj, List.map_cons, List.map_nil, if_true, if_false, reduceIte, nr_non, nr_bl, nr_int, nr_str, nr_ty, nr_tup, nr_lst, nrs_nil, nrs_cons, Bool.and_true, Bool.true_and, Bool.and_false, Bool.false_and, Bool.not_true, Bool.not_false, Bool.or_false, Bool.false_or, Nat.reduceAdd, Nat.reduceLT, Nat.reduceLeDiff, Nat.reduceEqDiff, Nat.zero_add, initE, List.cons_append, List.nil_append, List.replicate, List.replicate_succ, List.replicate_zero, Nat.reduceSub, Bool.false_eq_true, decide_true, decide_false, and_true, true_and, and_self, fz_bl, fz_int, fz_str, fz_non, isU_s, isU_t, base_vw hb, noU_str hb hs, nameT_no hs]
  · obtain ⟨s, rfl⟩ : ∃ s, t = .str s := Classical.byContradiction fun z => hs fun s e => z ⟨s, e⟩
    have hl : s.length ≤ 30000 := by simpa [okT, T.base] using h
    have lt := len_test s ⟨[some (.str s), none], []⟩ hl rfl
    unfold b_is_name
    have e1 : fOr (fNot (fTest (fCall (isiU (isiE sub_tab)) (fCons (fVar 0) (fCons (fC (.ty "str")) fNil))))) (fNot (fTest (fChain leT leT (fC (.int 1)) (fCall lenX (fCons (fVar 0) fNil)) (fC (.int 8))))) ⟨[some (.str s), none], []⟩ = .ok (!(decide (1 ≤ s.length) && decide (s.length ≤ 8)), ⟨[some (.str s), none], []⟩) := by
      have e0 : fTest (fCall (isiU (isiE sub_tab)) (fCons (fVar 0) (fCons (fC (.ty "str")) fNil))) ⟨[some (.str s), none], []⟩ = .ok (true, ⟨[some (.str s), none], []⟩) := by simp -implicitDefEqProofs only [fSeq, fIfS, fRet, fRetN, fNext, fAsg, fAsgG, fPar, fDrop, fOr, fAnd, fNot, fTest, fTruth, fAndV, fOrV, fNotV, fIf, fChain, fCall, fCallN, fCallD, fCons, fNil, fVar, fC, fBin, fTup, fFrz, fOwn, fLstN, fSlice, fNoPart, fPart, fSet, fGTup, fGCons, fGNil, rb_ok, rb_exc, rb_stk, noExc, Env.put, List.getElem?_cons_zero, List.getElem?_cons_succ, List.set_cons_zero, List.set_cons_succ, List.length_cons, List.length_nil, vw_non, vw_bl, vw_int, vw_str, vw_ty, vw_tup, vw_lst, vw_dct, vw_dcN, vw_exo, vw_cl, vw_obj, List.map_cons, List.map_nil, if_true, if_false, reduceIte, nr_non, nr_bl, nr_int, nr_str, nr_ty, nr_tup, nr_lst, nrs_nil, nrs_cons, Bool.and_true, Bool.true_and, Bool.and_false, Bool.false_and, Bool.not_true, Bool.not_false, Bool.or_false, Bool.false_or, Nat.reduceAdd, Nat.reduceLT, Nat.reduceLeDiff, Nat.reduceEqDiff, Nat.zero_add, initE, List.cons_append, List.nil_append, List.replicate, List.replicate_succ, List.replicate_zero, Nat.reduceSub, Bool.false_eq_true, decide_true, decide_false, and_true, true_and, and_self, fz_bl, fz_int, fz_str, fz_non, isU_s, isU_t]
      unfold fOr fNot
      rw [e0]
      simp -implicitDefEqProofs only [rb_ok, Bool.not_true, Bool.false_eq_true, if_false, lt]
    show fSeq _ _ ⟨[some (.str s), none], []⟩ = _
    unfold fSeq fIfS
    rw [e1]
    rw [show nameT (.str s) = (decide (1 ≤ s.length) && (decide (s.length ≤ 8) && s.all lowc)) from rfl]
    cases (decide (1 ≤ s.length)) <;> cases (decide (s.length ≤ 8)) <;> simp -implicitDefEqProofs only [fSeq, fIfS, fRet, fRetN, fNext, fAsg, fAsgG, fPar, fDrop, fOr, fAnd, fNot, fTest, fTruth, fAndV, fOrV, fNotV, fIf, fChain, fCall, fCallN, fCallD, fCons, fNil, fVar, fC, fBin, fTup, fFrz, fOwn, fLstN, fSlice, fNoPart, fPart, fSet, fGTup, fGCons, fGNil, rb_ok, rb_exc, rb_stk, noExc, Env.put, List.getElem?_cons_zero, List.getElem?_cons_succ, List.set_cons_zero, List.set_cons_succ, List.length_cons, List.length_nil, vw_non, vw_bl, vw_int, vw_str, vw_ty, vw_tup, vw_lst, vw_dct, vw_dcN, vw_exo, vw_cl, vw_obj, List.map_cons, List.map_nil, if_true, if_false, reduceIte, nr_non, nr_bl, nr_int, nr_str, nr_ty, nr_tup, nr_lst, nrs_nil, nrs_cons, Bool.and_true, Bool.true_and, Bool.and_false, Bool.false_and, Bool.not_true, Bool.not_false, Bool.or_false, Bool.false_or, Nat.reduceAdd, Nat.reduceLT, Nat.reduceLeDiff, Nat.reduceEqDiff, Nat.zero_add, initE, List.cons_append, List.nil_append, List.replicate, List.replicate_succ, List.replicate_zero, Nat.reduceSub, Bool.false_eq_true, decide_true, decide_false, and_true, true_and, and_self, fz_bl, fz_int, fz_str, fz_non, isU_s, isU_t, name_all]
theorem are_names_eq {t : T} {n : Nat} (h : okN 1 t = true) : D_are_names [t, .int n] = .ok (.bl (namesT n t)) := by
  refine runD_ret (ρ := ⟨[some t, some (.int n), none], []⟩) ?_ fz_bl
  have hb := okT_base (okN_ok h).1
  by_cases hs : ∀ s, t ≠ .tup s
  · simp -implicitDefEqProofs only [b_are_names, fSeq, fIfS, fRet, fRetN, fNext, fAsg, fAsgG, fPar, fDrop, fOr, fAnd, fNot, fTest, fTruth, fAndV, fOrV, fNotV, fIf, fChain, fCall, fCallN, fCallD, fCons, fNil, fVar, fC, fBin, fTup, fFrz, fOwn, fLstN, fSlice, fNoPart, fPart, fSet, fGTup, fGCons, fGNil, rb_ok, rb_exc, rb_stk, noExc, Env.put, List.getElem?_cons_zero, List.getElem?_cons_succ, List.set_cons_zero, List.set_cons_succ, List.length_cons, List.length_nil, vw_non, vw_bl, vw_int, vw_str, vw_ty, vw_tup, vw_lst, vw_dct, vw_dcN, vw_exo, vw_cl, vw_obj, List.map_cons, List.map_nil, if_true, if_false, reduceIte, nr_non, nr_bl, nr_int, nr_str, nr_ty, nr_tup, nr_lst, nrs_nil, nrs_cons, Bool.and_true, Bool.true_and, Bool.and_false, Bool.false_and, Bool.not_true, Bool.not_false, Bool.or_false, Bool.false_or, Nat.reduceAdd, Nat.reduceLT, Nat.reduceLeDiff, Nat.reduceEqDiff, Nat.zero_add, initE, List.cons_append, List.nil_append, List.replicate, List.replicate_succ, List.replicate_zero, Nat.reduceSub, Bool.false_eq_true, decide_true, decide_false, and_true, true_and, and_self, fz_bl, fz_int, fz_str, fz_non, isU_s, isU_t, base_vw hb, noU_tup hb hs, namesT_no hs]
  · obtain ⟨ts, rfl⟩ : ∃ s, t = .tup s := Classical.byContradiction fun z => hs fun s e => z ⟨s, e⟩
    rw [show namesT n (.tup ts) = (decide (ts.length ≤ n) && ts.all nameT) from rfl]
    by_cases h1 : ts.length ≤ n
    · have h2 : ¬ (n : Int) < ts.length := by omega
      have e1 : fAA false [2] (fItT (fVar 0)) (fSet 2) fYes (fCallD D_is_name 1 (fCons (fVar 2) fNil)) ⟨[some (.tup ts), some (.int n), none], []⟩ = .ok (.bl (ts.all nameT), ⟨[some (.tup ts), some (.int n), none], []⟩) := by
        obtain ⟨ρ', e1, e2⟩ := aaLoop_all (g := fSet 2) (ft := fYes) (fe := fCallD D_is_name 1 (fCons (fVar 2) fNil)) (t0 := .tup ts) (u := .tup ts) (vs := [2]) (ρ := ⟨[some (.tup ts), some (.int n), none], []⟩) nameT rfl rfl ts (fun x hx => ⟨⟨[some (.tup ts), some (.int n), some x], []⟩, rfl, rfl, by
          obtain ⟨o1, o2⟩ := okN_ok (okN_in h x hx)
          simp -implicitDefEqProofs only [fSeq, fIfS, fRet, fRetN, fNext, fAsg, fAsgG, fPar, fDrop, fOr, fAnd, fNot, fTest, fTruth, fAndV, fOrV, fNotV, fIf, fChain, fCall, fCallN, fCallD, fCons, fNil, fVar, fC, fBin, fTup, fFrz, fOwn, fLstN, fSlice, fNoPart, fPart, fSet, fGTup, fGCons, fGNil, rb_ok, rb_exc, rb_stk, noExc, Env.put, List.getElem?_cons_zero, List.getElem?_cons_succ, List.set_cons_zero, List.set_cons_succ, List.length_cons, List.length_nil, vw_non, vw_bl, vw_int, vw_str, vw_ty, vw_tup, vw_lst, vw_dct, vw_dcN, vw_exo, vw_cl, vw_obj, List.map_cons, List.map_nil, if_true, if_false, reduceIte, nr_non, nr_bl, nr_int, nr_str, nr_ty, nr_tup, nr_lst, nrs_nil, nrs_cons, Bool.and_true, Bool.true_and, Bool.and_false, Bool.false_and, Bool.not_true, Bool.not_false, Bool.or_false, Bool.false_or, Nat.reduceAdd, Nat.reduceLT, Nat.reduceLeDiff, Nat.reduceEqDiff, Nat.zero_add, initE, List.cons_append, List.nil_append, List.replicate, List.replicate_succ, List.replicate_zero, Nat.reduceSub, Bool.false_eq_true, decide_true, decide_false, and_true, true_and, and_self, fz_bl, fz_int, fz_str, fz_non, isU_s, isU_t, o2, is_name_eq o1], rfl⟩)
        show (R.bind (noExc (aaLoop false [2] _ _ _ (.tup ts) (.tup ts) ts ⟨[some (.tup ts), some (.int n), none], []⟩)) fun q => .ok (T.bl q.1, wipeE q.2 [2])) = _
        rw [e1]
        show R.ok (T.bl _, wipeE ρ' [2]) = _
        rw [e2]
      simp -implicitDefEqProofs only [b_are_names, fSeq, fIfS, fRet, fRetN, fNext, fAsg, fAsgG, fPar, fDrop, fOr, fAnd, fNot, fTest, fTruth, fAndV, fOrV, fNotV, fIf, fChain, fCall, fCallN, fCallD, fCons, fNil, fVar, fC, fBin, fTup, fFrz, fOwn, fLstN, fSlice, fNoPart, fPart, fSet, fGTup, fGCons, fGNil, rb_ok, rb_exc, rb_stk, noExc, Env.put, List.getElem?_cons_zero, List.getElem?_cons_succ, List.set_cons_zero, List.set_cons_succ, List.length_cons, List.length_nil, vw_non, vw_bl, vw_int, vw_str, vw_ty, vw_tup, vw_lst, vw_dct, vw_dcN, vw_exo, vw_cl, vw_obj, List.map_cons, List.map_nil, if_true, if_false, reduceIte, nr_non, nr_bl, nr_int, nr_str, nr_ty, nr_tup, nr_lst, nrs_nil, nrs_cons, Bool.and_true, Bool.true_and, Bool.and_false, Bool.false_and, Bool.not_true, Bool.not_false, Bool.or_false, Bool.false_or, Nat.reduceAdd, Nat.reduceLT, Nat.reduceLeDiff, Nat.reduceEqDiff, Nat.zero_add, initE, List.cons_append, List.nil_append, List.replicate, List.replicate_succ, List.replicate_zero, Nat.reduceSub, Bool.false_eq_true, decide_true, decide_false, and_true, true_and, and_self, fz_bl, fz_int, fz_str, fz_non, isU_s, isU_t, lenX_t, gt_ii, decide_eq_false h2, decide_eq_true h1, e1]
    · have h2 : (n : Int) < ts.length := by omega
      simp -implicitDefEqProofs only [b_are_names, fSeq, fIfS, fRet, fRetN, fNext, fAsg, fAsgG, fPar, fDrop, fOr, fAnd, fNot, fTest, fTruth, fAndV, fOrV, fNotV, fIf, fChain, fCall, fCallN, fCallD, fCons, fNil, fVar, fC, fBin, fTup, fFrz, fOwn, fLstN, fSlice, fNoPart, fPart, fSet, fGTup, fGCons, fGNil, rb_ok, rb_exc, rb_stk, noExc, Env.put, List.getElem?_cons_zero, List.getElem?_cons_succ, List.set_cons_zero, List.set_cons_succ, List.length_cons, List.length_nil, vw_non, vw_bl, vw_int, vw_str, vw_ty, vw_tup, vw_lst, vw_dct, vw_dcN, vw_exo, vw_cl, vw_obj, List.map_cons, List.map_nil, if_true, if_false, reduceIte, nr_non, nr_bl, nr_int, nr_str, nr_ty, nr_tup, nr_lst, nrs_nil, nrs_cons, Bool.and_true, Bool.true_and, Bool.and_false, Bool.false_and, Bool.not_true, Bool.not_false, Bool.or_false, Bool.false_or, Nat.reduceAdd, Nat.reduceLT, Nat.reduceLeDiff, Nat.reduceEqDiff, Nat.zero_add, initE, List.cons_append, List.nil_append, List.replicate, List.replicate_succ, List.replicate_zero, Nat.reduceSub, Bool.false_eq_true, decide_true, decide_false, and_true, true_and, and_self, fz_bl, fz_int, fz_str, fz_non, isU_s, isU_t, lenX_t, gt_ii, decide_eq_true h2, decide_eq_false h1]
/-- a rule, as the text tells it -/
def ruleT : T → Bool
  | .tup [a, b] => nameT a && namesT 8 b
  | _ => false
theorem ne_ii (i j : Int) : neT (.int i) (.int j) = some (.bl (!decide (i = j))) := by
  unfold neT
  rw [if_pos ⟨rfl, rfl, by simp [T.py, PyData.depth]⟩]
  simp [T.py, PyData.eqv]
  rfl
theorem ix_t0 (a : T) (ts : List T) : ixT (.tup (a :: ts)) (.int 0) = some a := by
  show atI (a :: ts) 0 = _
  unfold atI ixN
  rw [if_pos (by decide), if_pos (by simp only [List.length_cons]; omega)]
  rfl
theorem ix_t1 (a b : T) (ts : List T) : ixT (.tup (a :: b :: ts)) (.int 1) = some b := by
  show atI (a :: b :: ts) 1 = _
  unfold atI ixN
  rw [if_pos (by decide), if_pos (by simp only [List.length_cons]; omega)]
  rfl
theorem ruleT_two {ts : List T} (h : ts.length ≠ 2) : ruleT (.tup ts) = false := by
  match ts, h with
  | [], _ => rfl
  | [_], _ => rfl
  | [_, _], h => exact (h rfl).elim
  | _ :: _ :: _ :: _, _ => rfl
theorem is_rule_eq {t : T} (h : okN 2 t = true) : D_is_rule [t] = .ok (.bl (ruleT t)) := by
  refine runD_ret (ρ := ⟨[some t], []⟩) ?_ fz_bl
  have hb := okT_base (okN_ok h).1
  by_cases hs : ∀ s, t ≠ .tup s
  · have e : ruleT t = false := by cases t <;> first | rfl | exact (hs _ rfl).elim
    simp -implicitDefEqProofs only [b_is_rule, fSeq, fIfS, fRet, fRetN, fNext, fAsg, fAsgG, fPar, fDrop, fOr, fAnd, fNot, fTest, fTruth, fAndV, fOrV, fNotV, fIf, fChain, fCall, fCallN, fCallD, fCons, fNil, fVar, fC, fBin, fTup, fFrz, fOwn, fLstN, fSlice, fNoPart, fPart, fSet, fGTup, fGCons, fGNil, rb_ok, rb_exc, rb_stk, noExc, Env.put, List.getElem?_cons_zero, List.getElem?_cons_succ, List.set_cons_zero, List.set_cons_succ, List.length_cons, List.length_nil, vw_non, vw_bl, vw_int, vw_str, vw_ty, vw_tup, vw_lst, vw_dct, vw_dcN, vw_exo, vw_cl, vw_obj, List.map_cons, List.map_nil, if_true, if_false, reduceIte, nr_non, nr_bl, nr_int, nr_str, nr_ty, nr_tup, nr_lst, nrs_nil, nrs_cons, Bool.and_true, Bool.true_and, Bool.and_false, Bool.false_and, Bool.not_true, Bool.not_false, Bool.or_false, Bool.false_or, Nat.reduceAdd, Nat.reduceLT, Nat.reduceLeDiff, Nat.reduceEqDiff, Nat.zero_add, initE, List.cons_append, List.nil_append, List.replicate, List.replicate_succ, List.replicate_zero, Nat.reduceSub, Bool.false_eq_true, decide_true, decide_false, and_true, true_and, and_self, fz_bl, fz_int, fz_str, fz_non, isU_s, isU_t, base_vw hb, noU_tup hb hs, e]
  · obtain ⟨ts, rfl⟩ : ∃ s, t = .tup s := Classical.byContradiction fun z => hs fun s e => z ⟨s, e⟩
    by_cases h2 : ts.length = 2
    · match ts, h2, h with
      | [a, b], _, h =>
        obtain ⟨a1, a2⟩ := okN_ok (okN_in h a (by simp))
        have b0 := okN_in h b (by simp)
        obtain ⟨b1, b2⟩ := okN_ok b0
        have e8 : D_are_names [b, .int 8] = .ok (.bl (namesT 8 b)) := are_names_eq (n := 8) b0
        have en := is_name_eq a1
        have e2 : (2 : Int) = ((0 + 1 + 1 : Nat) : Int) := by decide
        rw [show ruleT (.tup [a, b]) = (nameT a && namesT 8 b) from rfl]
        cases hn : nameT a <;> rw [hn] at en <;> simp -implicitDefEqProofs only [b_is_rule, fSeq, fIfS, fRet, fRetN, fNext, fAsg, fAsgG, fPar, fDrop, fOr, fAnd, fNot, fTest, fTruth, fAndV, fOrV, fNotV, fIf, fChain, fCall, fCallN, fCallD, fCons, fNil, fVar, fC, fBin, fTup, fFrz, fOwn, fLstN, fSlice, fNoPart, fPart, fSet, fGTup, fGCons, fGNil, rb_ok, rb_exc, rb_stk, noExc, Env.put, List.getElem?_cons_zero, List.getElem?_cons_succ, List.set_cons_zero, List.set_cons_succ, List.length_cons, List.length_nil, vw_non, vw_bl, vw_int, vw_str, vw_ty, vw_tup, vw_lst, vw_dct, vw_dcN, vw_exo, vw_cl, vw_obj, List.map_cons, List.map_nil, if_true, if_false, reduceIte, nr_non, nr_bl, nr_int, nr_str, nr_ty, nr_tup, nr_lst, nrs_nil, nrs_cons, Bool.and_true, Bool.true_and, Bool.and_false, Bool.false_and, Bool.not_true, Bool.not_false, Bool.or_false, Bool.false_or, Nat.reduceAdd, Nat.reduceLT, Nat.reduceLeDiff, Nat.reduceEqDiff, Nat.zero_add, initE, List.cons_append, List.nil_append, List.replicate, List.replicate_succ, List.replicate_zero, Nat.reduceSub, Bool.false_eq_true, decide_true, decide_false, and_true, true_and, and_self, fz_bl, fz_int, fz_str, fz_non, isU_s, isU_t, lenX_t, ne_ii, ← e2, ix_t0, ix_t1, a2, b2, en, e8, base_vw (okT_base a1), base_vw (okT_base b1)]
    · have h3 : ¬ ((ts.length : Nat) : Int) = 2 := by omega
      simp -implicitDefEqProofs only [b_is_rule, fSeq, fIfS, fRet, fRetN, fNext, fAsg, fAsgG, fPar, fDrop, fOr, fAnd, fNot, fTest, fTruth, fAndV, fOrV, fNotV, fIf, fChain, fCall, fCallN, fCallD, fCons, fNil, fVar, fC, fBin, fTup, fFrz, fOwn, fLstN, fSlice, fNoPart, fPart, fSet, fGTup, fGCons, fGNil, rb_ok, rb_exc, rb_stk, noExc, Env.put, List.getElem?_cons_zero, List.getElem?_cons_succ, List.set_cons_zero, List.set_cons_succ, List.length_cons, List.length_nil, vw_non, vw_bl, vw_int, vw_str, vw_ty, vw_tup, vw_lst, vw_dct, vw_dcN, vw_exo, vw_cl, vw_obj, List.map_cons, List.map_nil, if_true, if_false, reduceIte, nr_non, nr_bl, nr_int, nr_str, nr_ty, nr_tup, nr_lst, nrs_nil, nrs_cons, Bool.and_true, Bool.true_and, Bool.and_false, Bool.false_and, Bool.not_true, Bool.not_false, Bool.or_false, Bool.false_or, Nat.reduceAdd, Nat.reduceLT, Nat.reduceLeDiff, Nat.reduceEqDiff, Nat.zero_add, initE, List.cons_append, List.nil_append, List.replicate, List.replicate_succ, List.replicate_zero, Nat.reduceSub, Bool.false_eq_true, decide_true, decide_false, and_true, true_and, and_self, fz_bl, fz_int, fz_str, fz_non, isU_s, isU_t, lenX_t, ne_ii, decide_eq_false h3, ruleT_two h2]
/-! ### check_rules -/
/-- the things, each once, as they first come (by what a dict tells apart) -/
def onceT : List T → List T → List T
  | acc, [] => acc
  | acc, t :: ts => if (acc.any fun p => decide (nkOf p = nkOf t)) = true then onceT acc ts else onceT (acc ++ [t]) ts
theorem onceT_len : ∀ (ts acc : List T), (onceT acc ts).length ≤ acc.length + ts.length
  | [], acc => Nat.le_refl _
  | t :: ts, acc => by
    unfold onceT
    split
    · have := onceT_len ts acc; simp only [List.length_cons]; omega
    · have := onceT_len ts (acc ++ [t]); simp only [List.length_append, List.length_cons, List.length_nil] at *; omega
/-- a key of a dict of nested keys -/
def keyN (t : T) : Prop := ∃ n key, t = .tup n ∧ nkOf (.tup n) = some key ∧ key.depth ≤ 8
theorem any_map {acc : List T} {f : T → T × T} (hf : ∀ x, (f x).1 = x) (t : T) : ((acc.map f).any fun p => decide (nkOf p.1 = nkOf t)) = acc.any fun p => decide (nkOf p = nkOf t) := by
  rw [List.any_map]
  congr 1
  funext x
  simp only [Function.comp, hf]
theorem put_once {acc : List T} {t : T} (hk : keyN t) (hl : acc.length ≤ 1000) : putNT (acc.map fun x => (x, T.bl true)) t (.bl true) = some ((onceT acc [t]).map fun x => (x, T.bl true)) := by
  obtain ⟨n, key, rfl, e, hd⟩ := hk
  unfold putNT
  simp only [e]
  rw [if_pos ⟨hd, by rw [List.length_map]; omega⟩]
  unfold putG onceT
  rw [any_map (fun _ => rfl)]
  split
  · rename_i h
    congr 1
    unfold onceT
    rw [List.map_map]
    refine List.map_congr_left fun x _ => ?_
    show (if nkOf x = nkOf (.tup n) then (x, T.bl true) else (x, T.bl true)) = (x, T.bl true)
    split <;> rfl
  · unfold onceT
    rw [List.map_append]
    rfl
theorem once_step (acc : List T) (t : T) (ts : List T) : onceT (onceT acc [t]) ts = onceT acc (t :: ts) := by
  conv => rhs; unfold onceT
  conv => lhs; arg 1; unfold onceT
  split
  · unfold onceT; rfl
  · conv => lhs; arg 1; unfold onceT
theorem dcLoop_once (t0 u : T) (ρ : Tr.Env) (st : stays ρ.mu t0 u = true) (h0 : ∀ t, ∃ ρ1, fSet 1 t ρ = .ok ρ1 ∧ (fVar 1) ρ1 = .ok (t, ρ1) ∧ wipeE ρ1 [1] = ρ) : ∀ (ts acc : List T), (∀ t ∈ ts, keyN t) → acc.length + ts.length ≤ 1000 →
    dcLoop putNT [1] (fSet 1) fYes (fVar 1) (fC (.bl true)) t0 u ts ρ (acc.map fun x => (x, T.bl true)) = .ok ((onceT acc ts).map fun x => (x, T.bl true), ρ)
  | [], acc, _, _ => by unfold dcLoop; rw [if_pos st]; rfl
  | t :: ts, acc, hk, hl => by
    obtain ⟨ρ1, e1, e2, e3⟩ := h0 t
    unfold dcLoop
    rw [if_pos st, e1]
    simp only [R.bind, fYes, if_true, fC]
    rw [e2]
    simp only []
    rw [put_once (hk t (List.mem_cons_self ..)) (by simp only [List.length_cons] at hl; omega)]
    simp only []
    rw [e3, dcLoop_once t0 u ρ st h0 ts (onceT acc [t]) (fun x hx => hk x (List.mem_cons_of_mem _ hx)) (by
      have := onceT_len [t] acc
      simp only [List.length_cons, List.length_nil] at *
      omega), once_step]
theorem small_once {ts : List T} (h : ∀ t ∈ ts, keyN t) : smallK (ts.map fun x => (x, T.bl true)) = true := by
  unfold smallK
  rw [List.all_map, List.all_eq_true]
  intro x hx
  obtain ⟨n, key, rfl, e, hd⟩ := h x hx
  simp only [Function.comp, e]
  exact decide_eq_true hd
theorem once_mem : ∀ (ts acc : List T), ∀ x ∈ onceT acc ts, x ∈ acc ∨ x ∈ ts
  | [], acc, x, h => .inl h
  | t :: ts, acc, x, h => by
    unfold onceT at h
    split at h
    · rcases once_mem ts acc x h with h | h
      · exact .inl h
      · exact .inr (List.mem_cons_of_mem _ h)
    · rcases once_mem ts (acc ++ [t]) x h with h | h
      · rcases List.mem_append.mp h with h | h
        · exact .inl h
        · rw [List.mem_singleton] at h; exact .inr (by rw [h]; exact List.mem_cons_self ..)
      · exact .inr (List.mem_cons_of_mem _ h)
/-! names and rows of names as keys -/
theorem nk_str (s : List Nat) : nkOf (.str s) = some (.text (S s)) := by rw [nkOf]
theorem nks_strs : ∀ (ss : List (List Nat)), nksOf (ss.map T.str) = some (ss.map fun s => NestedKey.text (S s))
  | [] => by rw [List.map_nil, nksOf]; rfl
  | s :: ss => by rw [List.map_cons, nksOf, nk_str, nks_strs ss]; rfl
theorem nameT_str {t : T} (h : nameT t = true) : ∃ s, t = .str s ∧ 1 ≤ s.length ∧ s.length ≤ 8 := by
  cases t with
  | str s =>
    have h : (decide (1 ≤ s.length) && (decide (s.length ≤ 8) && s.all lowc)) = true := h
    rw [Bool.and_eq_true, Bool.and_eq_true] at h
    exact ⟨s, rfl, of_decide_eq_true h.1, of_decide_eq_true h.2.1⟩
  | _ => cases h
theorem namesT_strs {n : Nat} {t : T} (h : namesT n t = true) : ∃ ss : List (List Nat), t = .tup (ss.map T.str) ∧ ss.length ≤ n ∧ ∀ s ∈ ss, nameT (.str s) = true := by
  cases t with
  | tup ts =>
    have h : (decide (ts.length ≤ n) && ts.all nameT) = true := h
    rw [Bool.and_eq_true] at h
    obtain ⟨ss, rfl, q⟩ := strs_of (P := fun s => nameT (.str s) = true) (us := ts) fun t ht => by
      have q := List.all_eq_true.mp h.2 t ht
      obtain ⟨s, rfl, _⟩ := nameT_str q
      exact ⟨s, rfl, q⟩
    exact ⟨ss, rfl, by have := of_decide_eq_true h.1; rwa [List.length_map] at this, q⟩
  | _ => cases h
/-- a rule's part and names -/
theorem ruleT_of {t : T} (h : ruleT t = true) : ∃ (a : List Nat) (bs : List (List Nat)), t = .tup [.str a, .tup (bs.map T.str)] ∧ nameT (.str a) = true ∧ bs.length ≤ 8 ∧ ∀ s ∈ bs, nameT (.str s) = true := by
  unfold ruleT at h
  split at h
  · rw [Bool.and_eq_true] at h
    obtain ⟨a, rfl, _⟩ := nameT_str h.1
    obtain ⟨bs, rfl, q1, q2⟩ := namesT_strs h.2
    exact ⟨a, bs, rfl, h.1, q1, q2⟩
  · cases h
theorem nk_rule (a : List Nat) (bs : List (List Nat)) : nkOf (.tup [.str a, .tup (bs.map T.str)]) = some (.tup [.text (S a), .tup (bs.map fun s => NestedKey.text (S s))]) := by
  have e : nksOf [.str a, .tup (bs.map T.str)] = some [.text (S a), .tup (bs.map fun s => NestedKey.text (S s))] := by
    rw [nksOf, nk_str, nksOf, nkOf, nks_strs, nksOf]
    rfl
  rw [nkOf, e]
  rfl
theorem depthAll_texts (ss : List (List Nat)) : NestedKey.depthAll (ss.map fun s => NestedKey.text (S s)) = 0 := by
  induction ss with
  | nil => simp [NestedKey.depthAll]
  | cons s r ih => rw [List.map_cons]; simp [NestedKey.depthAll, NestedKey.depth, ih]
theorem ruleT_key {t : T} (h : ruleT t = true) : keyN t := by
  obtain ⟨a, bs, rfl, _⟩ := ruleT_of h
  exact ⟨_, _, rfl, nk_rule a bs, by simp [NestedKey.depth, NestedKey.depthAll, depthAll_texts]⟩
theorem S_inj {a b : List Nat} (h : S a = S b) : a = b := by
  have := congrArg (fun x : Str => x.cps.toList) h
  simpa using this
theorem texts_inj : ∀ {a b : List (List Nat)}, (a.map fun s => NestedKey.text (S s)) = (b.map fun s => NestedKey.text (S s)) → a = b
  | [], [], _ => rfl
  | [], _ :: _, h => by simp at h
  | _ :: _, [], h => by simp at h
  | x :: a, y :: b, h => by
    rw [List.map_cons, List.map_cons] at h
    injection h with h1 h2
    injection h1 with h1
    rw [S_inj h1, texts_inj h2]
/-- rules that a dict does not tell apart are the same -/
theorem rule_inj {s t : T} (hs : ruleT s = true) (ht : ruleT t = true) (h : nkOf s = nkOf t) : s = t := by
  obtain ⟨a, bs, rfl, _⟩ := ruleT_of hs
  obtain ⟨c, ds, rfl, _⟩ := ruleT_of ht
  rw [nk_rule, nk_rule] at h
  injection h with h
  injection h with h
  injection h with h1 h2
  injection h1 with h1
  injection h2 with h2 _
  injection h2 with h2
  rw [S_inj h1, texts_inj h2]
/-- unlike rules stay as they are; of others there are fewer -/
theorem once_unlike : ∀ (ts acc : List T), (acc ++ ts).Nodup → (∀ t ∈ acc ++ ts, ruleT t = true) → onceT acc ts = acc ++ ts
  | [], acc, _, _ => by unfold onceT; rw [List.append_nil]
  | t :: ts, acc, nd, hr => by
    have ht : t ∉ acc := fun z => by
      rw [List.nodup_append] at nd
      exact nd.2.2 t z t (List.mem_cons_self ..) rfl
    unfold onceT
    rw [if_neg (fun z => by
      obtain ⟨x, hx, e⟩ := List.any_eq_true.mp z
      have := rule_inj (hr x (List.mem_append_left _ hx)) (hr t (List.mem_append_right _ (List.mem_cons_self ..))) (of_decide_eq_true e)
      exact ht (this ▸ hx))]
    rw [once_unlike ts (acc ++ [t]) (by rw [List.append_assoc]; exact nd) (by rw [List.append_assoc]; exact hr), List.append_assoc]
    rfl
theorem once_fewer : ∀ (ts acc : List T), ¬ ts.Nodup ∨ (∃ t ∈ ts, t ∈ acc) → (onceT acc ts).length < acc.length + ts.length
  | [], acc, h => by
    rcases h with h | ⟨t, ht, _⟩
    · exact (h List.nodup_nil).elim
    · cases ht
  | t :: ts, acc, h => by
    unfold onceT
    by_cases hm : (acc.any fun p => decide (nkOf p = nkOf t)) = true
    · rw [if_pos hm]
      have := onceT_len ts acc
      simp only [List.length_cons]
      omega
    · rw [if_neg hm]
      have hn : t ∉ acc := fun z => hm (List.any_eq_true.mpr ⟨t, z, decide_eq_true rfl⟩)
      have q := once_fewer ts (acc ++ [t]) (by
        rcases h with h | ⟨x, hx, hx2⟩
        · rw [List.nodup_cons] at h
          by_cases ht : t ∈ ts
          · exact .inr ⟨t, ht, List.mem_append_right _ (List.mem_singleton.mpr rfl)⟩
          · exact .inl fun z => h ⟨ht, z⟩
        · rcases List.mem_cons.mp hx with e | hx
          · exact (hn (e ▸ hx2)).elim
          · exact .inr ⟨x, hx, List.mem_append_left _ hx2⟩)
      simp only [List.length_append, List.length_cons, List.length_nil] at *
      omega
def isSeq : T → Bool
  | .lst _ => true
  | .tup _ => true
  | _ => false
theorem kA_l : kitAnyB "list" ["list", "tuple"] = some true := by decide +kernel
theorem kA_t : kitAnyB "tuple" ["list", "tuple"] = some true := by decide +kernel
theorem kA_n : kitAnyB "NoneType" ["list", "tuple"] = some false := by decide +kernel
theorem kA_b : kitAnyB "bool" ["list", "tuple"] = some false := by decide +kernel
theorem kA_i : kitAnyB "int" ["list", "tuple"] = some false := by decide +kernel
theorem kA_s : kitAnyB "str" ["list", "tuple"] = some false := by decide +kernel
theorem kA_d : kitAnyB "dict" ["list", "tuple"] = some false := by decide +kernel
theorem isi_seq {t : T} (h : t.base = true) : isiU (isiE sub_tab) [t, .tup [.ty "list", .ty "tuple"]] = some (.bl (isSeq t)) := by
  cases t <;> first | (cases h; done) | (simp [isiU, tyN, tysOf, isSeq, kA_l, kA_t, kA_n, kA_b, kA_i, kA_s, kA_d])
theorem runD_exc {n : Nat} {fb : FS} {ts : List T} {x : Str} {ρ : Tr.Env} (h : fb (initE n ts) = .exc ⟨x, []⟩ ρ) : runD n fb ts = .exc ⟨x, []⟩ := by
  unfold runD
  rw [h]
  rfl
theorem runD_nx {n : Nat} {fb : FS} {ts : List T} {ρ : Tr.Env} (h : fb (initE n ts) = .ok (.next ρ)) : runD n fb ts = .ok .non := by
  unfold runD
  rw [h]
theorem check_none {t : T} (h : t.base = true) (h0 : isSeq t = false ∨ t = .lst [] ∨ t = .tup []) : D_check_rules [t] = .exc ⟨"NoGrammar", []⟩ := by
  refine runD_exc (ρ := ⟨[some t, none], []⟩) ?_
  have e := isi_seq h
  rcases h0 with h0 | rfl | rfl
  · rw [h0] at e
    simp -implicitDefEqProofs only [b_check_rules, fSeq, fIfS, fRet, fRetN, fNext, fAsg, fAsgG, fPar, fDrop, fOr, fAnd, fNot, fTest, fTruth, fAndV, fOrV, fNotV, fIf, fChain, fCall, fCallN, fCallD, fCons, fNil, fVar, fC, fBin, fTup, fFrz, fOwn, fLstN, fSlice, fNoPart, fPart, fSet, fGTup, fGCons, fGNil, rb_ok, rb_exc, rb_stk, noExc, Env.put, List.getElem?_cons_zero, List.getElem?_cons_succ, List.set_cons_zero, List.set_cons_succ, List.length_cons, List.length_nil, vw_non, vw_bl, vw_int, vw_str, vw_ty, vw_tup, vw_lst, vw_dct, vw_dcN, vw_exo, vw_cl, vw_obj, List.map_cons, List.map_nil, if_true, if_false, reduceIte, nr_non, nr_bl, nr_int, nr_str, nr_ty, nr_tup, nr_lst, nrs_nil, nrs_cons, Bool.and_true, Bool.true_and, Bool.and_false, Bool.false_and, Bool.not_true, Bool.not_false, Bool.or_false, Bool.false_or, Nat.reduceAdd, Nat.reduceLT, Nat.reduceLeDiff, Nat.reduceEqDiff, Nat.zero_add, initE, List.cons_append, List.nil_append, List.replicate, List.replicate_succ, List.replicate_zero, Nat.reduceSub, Bool.false_eq_true, decide_true, decide_false, and_true, true_and, and_self, fz_bl, fz_int, fz_str, fz_non, isU_s, isU_t, base_vw h, e, fRaise]
  · rw [show isSeq (.lst []) = true from rfl] at e
    have q : eqT (.int ((0 : Nat) : Int)) (.int 0) = some (.bl true) := eq_ii 0 0
    simp -implicitDefEqProofs only [b_check_rules, fSeq, fIfS, fRet, fRetN, fNext, fAsg, fAsgG, fPar, fDrop, fOr, fAnd, fNot, fTest, fTruth, fAndV, fOrV, fNotV, fIf, fChain, fCall, fCallN, fCallD, fCons, fNil, fVar, fC, fBin, fTup, fFrz, fOwn, fLstN, fSlice, fNoPart, fPart, fSet, fGTup, fGCons, fGNil, rb_ok, rb_exc, rb_stk, noExc, Env.put, List.getElem?_cons_zero, List.getElem?_cons_succ, List.set_cons_zero, List.set_cons_succ, List.length_cons, List.length_nil, vw_non, vw_bl, vw_int, vw_str, vw_ty, vw_tup, vw_lst, vw_dct, vw_dcN, vw_exo, vw_cl, vw_obj, List.map_cons, List.map_nil, if_true, if_false, reduceIte, nr_non, nr_bl, nr_int, nr_str, nr_ty, nr_tup, nr_lst, nrs_nil, nrs_cons, Bool.and_true, Bool.true_and, Bool.and_false, Bool.false_and, Bool.not_true, Bool.not_false, Bool.or_false, Bool.false_or, Nat.reduceAdd, Nat.reduceLT, Nat.reduceLeDiff, Nat.reduceEqDiff, Nat.zero_add, initE, List.cons_append, List.nil_append, List.replicate, List.replicate_succ, List.replicate_zero, Nat.reduceSub, Bool.false_eq_true, decide_true, decide_false, and_true, true_and, and_self, fz_bl, fz_int, fz_str, fz_non, isU_s, isU_t, e, lenX_l, q, fRaise]
  · rw [show isSeq (.tup []) = true from rfl] at e
    have q : eqT (.int ((0 : Nat) : Int)) (.int 0) = some (.bl true) := eq_ii 0 0
    simp -implicitDefEqProofs only [b_check_rules, fSeq, fIfS, fRet, fRetN, fNext, fAsg, fAsgG, fPar, fDrop, fOr, fAnd, fNot, fTest, fTruth, fAndV, fOrV, fNotV, fIf, fChain, fCall, fCallN, fCallD, fCons, fNil, fVar, fC, fBin, fTup, fFrz, fOwn, fLstN, fSlice, fNoPart, fPart, fSet, fGTup, fGCons, fGNil, rb_ok, rb_exc, rb_stk, noExc, Env.put, List.getElem?_cons_zero, List.getElem?_cons_succ, List.set_cons_zero, List.set_cons_succ, List.length_cons, List.length_nil, vw_non, vw_bl, vw_int, vw_str, vw_ty, vw_tup, vw_lst, vw_dct, vw_dcN, vw_exo, vw_cl, vw_obj, List.map_cons, List.map_nil, if_true, if_false, reduceIte, nr_non, nr_bl, nr_int, nr_str, nr_ty, nr_tup, nr_lst, nrs_nil, nrs_cons, Bool.and_true, Bool.true_and, Bool.and_false, Bool.false_and, Bool.not_true, Bool.not_false, Bool.or_false, Bool.false_or, Nat.reduceAdd, Nat.reduceLT, Nat.reduceLeDiff, Nat.reduceEqDiff, Nat.zero_add, initE, List.cons_append, List.nil_append, List.replicate, List.replicate_succ, List.replicate_zero, Nat.reduceSub, Bool.false_eq_true, decide_true, decide_false, and_true, true_and, and_self, fz_bl, fz_int, fz_str, fz_non, isU_s, isU_t, e, lenX_t, q, fRaise]
theorem all_rules {rs : List T} (h : ∀ x ∈ rs, okN 2 x = true) : fAA false [1] (fItL (fVar 0)) (fSet 1) fYes (fCallD D_is_rule 1 (fCons (fVar 1) fNil)) ⟨[some (.lst rs), none], []⟩ = .ok (.bl (rs.all ruleT), ⟨[some (.lst rs), none], []⟩) := by
  obtain ⟨ρ', e1, e2⟩ := aaLoop_all (g := fSet 1) (ft := fYes) (fe := fCallD D_is_rule 1 (fCons (fVar 1) fNil)) (t0 := .lst rs) (u := .lst rs) (vs := [1]) (ρ := ⟨[some (.lst rs), none], []⟩) ruleT rfl rfl rs (fun x hx => ⟨⟨[some (.lst rs), some x], []⟩, rfl, rfl, by
    obtain ⟨o1, o2⟩ := okN_ok (h x hx)
    simp -implicitDefEqProofs only [fSeq, fIfS, fRet, fRetN, fNext, fAsg, fAsgG, fPar, fDrop, fOr, fAnd, fNot, fTest, fTruth, fAndV, fOrV, fNotV, fIf, fChain, fCall, fCallN, fCallD, fCons, fNil, fVar, fC, fBin, fTup, fFrz, fOwn, fLstN, fSlice, fNoPart, fPart, fSet, fGTup, fGCons, fGNil, rb_ok, rb_exc, rb_stk, noExc, Env.put, List.getElem?_cons_zero, List.getElem?_cons_succ, List.set_cons_zero, List.set_cons_succ, List.length_cons, List.length_nil, vw_non, vw_bl, vw_int, vw_str, vw_ty, vw_tup, vw_lst, vw_dct, vw_dcN, vw_exo, vw_cl, vw_obj, List.map_cons, List.map_nil, if_true, if_false, reduceIte, nr_non, nr_bl, nr_int, nr_str, nr_ty, nr_tup, nr_lst, nrs_nil, nrs_cons, Bool.and_true, Bool.true_and, Bool.and_false, Bool.false_and, Bool.not_true, Bool.not_false, Bool.or_false, Bool.false_or, Nat.reduceAdd, Nat.reduceLT, Nat.reduceLeDiff, Nat.reduceEqDiff, Nat.zero_add, initE, List.cons_append, List.nil_append, List.replicate, List.replicate_succ, List.replicate_zero, Nat.reduceSub, Bool.false_eq_true, decide_true, decide_false, and_true, true_and, and_self, fz_bl, fz_int, fz_str, fz_non, isU_s, isU_t, o2, is_rule_eq (h x hx)], rfl⟩)
  show (R.bind (noExc (aaLoop false [1] _ _ _ (.lst rs) (.lst rs) rs ⟨[some (.lst rs), none], []⟩)) fun q => .ok (T.bl q.1, wipeE q.2 [1])) = _
  rw [e1]
  show R.ok (T.bl _, wipeE ρ' [1]) = _
  rw [e2]
theorem once_rules {rs : List T} (hr : ∀ x ∈ rs, ruleT x = true) (hl : rs.length ≤ 1000) : fDc .dcN putNT [1] (fItL (fVar 0)) (fSet 1) fYes (fVar 1) (fC (.bl true)) ⟨[some (.lst rs), none], []⟩ = .ok (.dcN ((onceT [] rs).map fun x => (x, T.bl true)), ⟨[some (.lst rs), none], []⟩) := by
  have e := dcLoop_once (.lst rs) (.lst rs) ⟨[some (.lst rs), none], []⟩ rfl (fun t => ⟨⟨[some (.lst rs), some t], []⟩, rfl, rfl, rfl⟩) rs [] (fun t ht => ruleT_key (hr t ht)) (by simpa using hl)
  show (R.bind (noExc (dcLoop putNT [1] _ _ _ _ (.lst rs) (.lst rs) rs ⟨[some (.lst rs), none], []⟩ [])) fun q => .ok (T.dcN q.1, wipeE q.2 [1])) = _
  rw [show ([] : List (T × T)) = ([] : List T).map (fun x => (x, T.bl true)) from rfl, e]
  rfl
theorem lenX_N (s : List (T × T)) (h : smallK s = true) (hl : s.length ≤ 16777217) : lenX [.dcN s] = some (.int s.length) := if_pos ⟨h, hl⟩
theorem eq_len0 {α : Type} {a : α} {as : List α} : eqT (.int (((a :: as).length : Nat) : Int)) (.int 0) = some (.bl false) := by
  rw [eq_ii, decide_eq_false (by simp only [List.length_cons]; omega)]
section
variable {r : T} {rs : List T}
theorem isi_cons : isiU (isiE sub_tab) [.lst (r :: rs), .tup [.ty "list", .ty "tuple"]] = some (.bl true) := isi_seq rfl
theorem check_norule (h : ∀ x ∈ r :: rs, okN 2 x = true) (hn : (r :: rs).all ruleT = false) : D_check_rules [.lst (r :: rs)] = .exc ⟨"NoGrammar", []⟩ := by
  refine runD_exc (ρ := ⟨[some (.lst (r :: rs)), none], []⟩) ?_
  have e := all_rules h
  rw [hn] at e
  have q := @eq_len0 T r rs
  simp only [List.length_cons] at q
  simp -implicitDefEqProofs only [b_check_rules, fSeq, fIfS, fRet, fRetN, fNext, fAsg, fAsgG, fPar, fDrop, fOr, fAnd, fNot, fTest, fTruth, fAndV, fOrV, fNotV, fIf, fChain, fCall, fCallN, fCallD, fCons, fNil, fVar, fC, fBin, fTup, fFrz, fOwn, fLstN, fSlice, fNoPart, fPart, fSet, fGTup, fGCons, fGNil, rb_ok, rb_exc, rb_stk, noExc, Env.put, List.getElem?_cons_zero, List.getElem?_cons_succ, List.set_cons_zero, List.set_cons_succ, List.length_cons, List.length_nil, vw_non, vw_bl, vw_int, vw_str, vw_ty, vw_tup, vw_lst, vw_dct, vw_dcN, vw_exo, vw_cl, vw_obj, List.map_cons, List.map_nil, if_true, if_false, reduceIte, nr_non, nr_bl, nr_int, nr_str, nr_ty, nr_tup, nr_lst, nrs_nil, nrs_cons, Bool.and_true, Bool.true_and, Bool.and_false, Bool.false_and, Bool.not_true, Bool.not_false, Bool.or_false, Bool.false_or, Nat.reduceAdd, Nat.reduceLT, Nat.reduceLeDiff, Nat.reduceEqDiff, Nat.zero_add, initE, List.cons_append, List.nil_append, List.replicate, List.replicate_succ, List.replicate_zero, Nat.reduceSub, Bool.false_eq_true, decide_true, decide_false, and_true, true_and, and_self, fz_bl, fz_int, fz_str, fz_non, isU_s, isU_t, isi_cons, lenX_l, q, e, fRaise]
theorem check_twice (h : ∀ x ∈ r :: rs, okN 2 x = true) (hr : ∀ x ∈ r :: rs, ruleT x = true) (hl : (r :: rs).length ≤ 1000) (nd : ¬ (r :: rs).Nodup) : D_check_rules [.lst (r :: rs)] = .exc ⟨"NoGrammar", []⟩ := by
  refine runD_exc (ρ := ⟨[some (.lst (r :: rs)), none], []⟩) ?_
  have e := all_rules h
  rw [List.all_eq_true.mpr hr] at e
  have e2 := once_rules hr hl
  have f := once_fewer (r :: rs) [] (.inl nd)
  have sm := small_once (ts := onceT [] (r :: rs)) fun t ht => ruleT_key (hr t ((once_mem (r :: rs) [] t ht).elim (fun z => nomatch z) id))
  have q := @eq_len0 T r rs
  have ln := lenX_N _ sm (by rw [List.length_map]; simp only [List.length_nil] at f; omega)
  rw [List.length_map] at ln
  have lt : ltT (.int ((onceT [] (r :: rs)).length : Nat)) (.int (((rs.length + 1 : Nat)) : Int)) = some (.bl true) := by
    rw [lt_ii, decide_eq_true (by simp only [List.length_nil, List.length_cons] at f; omega)]
  generalize onceT [] (r :: rs) = os at *
  simp only [List.length_cons] at q
  simp -implicitDefEqProofs only [b_check_rules, fSeq, fIfS, fRet, fRetN, fNext, fAsg, fAsgG, fPar, fDrop, fOr, fAnd, fNot, fTest, fTruth, fAndV, fOrV, fNotV, fIf, fChain, fCall, fCallN, fCallD, fCons, fNil, fVar, fC, fBin, fTup, fFrz, fOwn, fLstN, fSlice, fNoPart, fPart, fSet, fGTup, fGCons, fGNil, rb_ok, rb_exc, rb_stk, noExc, Env.put, List.getElem?_cons_zero, List.getElem?_cons_succ, List.set_cons_zero, List.set_cons_succ, List.length_cons, List.length_nil, vw_non, vw_bl, vw_int, vw_str, vw_ty, vw_tup, vw_lst, vw_dct, vw_dcN, vw_exo, vw_cl, vw_obj, List.map_cons, List.map_nil, if_true, if_false, reduceIte, nr_non, nr_bl, nr_int, nr_str, nr_ty, nr_tup, nr_lst, nrs_nil, nrs_cons, Bool.and_true, Bool.true_and, Bool.and_false, Bool.false_and, Bool.not_true, Bool.not_false, Bool.or_false, Bool.false_or, Nat.reduceAdd, Nat.reduceLT, Nat.reduceLeDiff, Nat.reduceEqDiff, Nat.zero_add, initE, List.cons_append, List.nil_append, List.replicate, List.replicate_succ, List.replicate_zero, Nat.reduceSub, Bool.false_eq_true, decide_true, decide_false, and_true, true_and, and_self, fz_bl, fz_int, fz_str, fz_non, isU_s, isU_t, isi_cons, lenX_l, q, e, e2, ln, lt, fRaise]
theorem check_left (h : ∀ x ∈ r :: rs, okN 2 x = true) (hr : ∀ x ∈ r :: rs, ruleT x = true) (hl : (r :: rs).length ≤ 1000) (nd : (r :: rs).Nodup) (fin : R Tr.Flow)
    (hf : fIfS (fTest (fBin gtT (fCall lenX (fCons (fVar 0) fNil)) (fC (.int 300)))) (fRaise "TooMany") fNext ⟨[some (.lst (r :: rs)), none], []⟩ = fin) : b_check_rules (initE 2 [.lst (r :: rs)]) = fin := by
  have e := all_rules h
  rw [List.all_eq_true.mpr hr] at e
  have e2 := once_rules hr hl
  have f := once_unlike (r :: rs) [] (by simpa using nd) (by simpa using hr)
  rw [List.nil_append] at f
  rw [f] at e2
  have sm := small_once (ts := r :: rs) fun t ht => ruleT_key (hr t ht)
  have q := @eq_len0 T r rs
  have ln := lenX_N _ sm (by rw [List.length_map]; omega)
  rw [List.length_map] at ln
  have lt : ltT (.int (((r :: rs).length : Nat) : Int)) (.int (((r :: rs).length : Nat) : Int)) = some (.bl false) := by
    rw [lt_ii, decide_eq_false (by omega)]
  rw [← hf]
  generalize hz : fIfS (fTest (fBin gtT (fCall lenX (fCons (fVar 0) fNil)) (fC (.int 300)))) (fRaise "TooMany") fNext = last
  have hb : b_check_rules = b_check_rules := rfl
  conv at hb => rhs; unfold b_check_rules
  rw [hz] at hb
  rw [hb]
  generalize hks : (r :: rs).map (fun x => (x, T.bl true)) = ks at e2 ln
  simp only [List.length_cons] at q lt ln
  simp -implicitDefEqProofs only [fSeq, fIfS, fRet, fRetN, fNext, fAsg, fAsgG, fPar, fDrop, fOr, fAnd, fNot, fTest, fTruth, fAndV, fOrV, fNotV, fIf, fChain, fCall, fCallN, fCallD, fCons, fNil, fVar, fC, fBin, fTup, fFrz, fOwn, fLstN, fSlice, fNoPart, fPart, fSet, fGTup, fGCons, fGNil, rb_ok, rb_exc, rb_stk, noExc, Env.put, List.getElem?_cons_zero, List.getElem?_cons_succ, List.set_cons_zero, List.set_cons_succ, List.length_cons, List.length_nil, vw_non, vw_bl, vw_int, vw_str, vw_ty, vw_tup, vw_lst, vw_dct, vw_dcN, vw_exo, vw_cl, vw_obj, List.map_cons, List.map_nil, if_true, if_false, reduceIte, nr_non, nr_bl, nr_int, nr_str, nr_ty, nr_tup, nr_lst, nrs_nil, nrs_cons, Bool.and_true, Bool.true_and, Bool.and_false, Bool.false_and, Bool.not_true, Bool.not_false, Bool.or_false, Bool.false_or, Nat.reduceAdd, Nat.reduceLT, Nat.reduceLeDiff, Nat.reduceEqDiff, Nat.zero_add, initE, List.cons_append, List.nil_append, List.replicate, List.replicate_succ, List.replicate_zero, Nat.reduceSub, Bool.false_eq_true, decide_true, decide_false, and_true, true_and, and_self, fz_bl, fz_int, fz_str, fz_non, isU_s, isU_t, isi_cons, lenX_l, q, e, e2, ln, lt]
theorem check_many (h : ∀ x ∈ r :: rs, okN 2 x = true) (hr : ∀ x ∈ r :: rs, ruleT x = true) (hl : (r :: rs).length ≤ 1000) (nd : (r :: rs).Nodup) (hm : 300 < (r :: rs).length) : D_check_rules [.lst (r :: rs)] = .exc ⟨"TooMany", []⟩ := by
  refine runD_exc (ρ := ⟨[some (.lst (r :: rs)), none], []⟩) (check_left h hr hl nd _ ?_)
  have g : gtT (.int ((rs.length + 1 : Nat) : Int)) (.int 300) = some (.bl true) := by rw [gt_ii, decide_eq_true (by simp only [List.length_cons] at hm; omega)]
  simp -implicitDefEqProofs only [fSeq, fIfS, fRet, fRetN, fNext, fAsg, fAsgG, fPar, fDrop, fOr, fAnd, fNot, fTest, fTruth, fAndV, fOrV, fNotV, fIf, fChain, fCall, fCallN, fCallD, fCons, fNil, fVar, fC, fBin, fTup, fFrz, fOwn, fLstN, fSlice, fNoPart, fPart, fSet, fGTup, fGCons, fGNil, rb_ok, rb_exc, rb_stk, noExc, Env.put, List.getElem?_cons_zero, List.getElem?_cons_succ, List.set_cons_zero, List.set_cons_succ, List.length_cons, List.length_nil, vw_non, vw_bl, vw_int, vw_str, vw_ty, vw_tup, vw_lst, vw_dct, vw_dcN, vw_exo, vw_cl, vw_obj, List.map_cons, List.map_nil, if_true, if_false, reduceIte, nr_non, nr_bl, nr_int, nr_str, nr_ty, nr_tup, nr_lst, nrs_nil, nrs_cons, Bool.and_true, Bool.true_and, Bool.and_false, Bool.false_and, Bool.not_true, Bool.not_false, Bool.or_false, Bool.false_or, Nat.reduceAdd, Nat.reduceLT, Nat.reduceLeDiff, Nat.reduceEqDiff, Nat.zero_add, initE, List.cons_append, List.nil_append, List.replicate, List.replicate_succ, List.replicate_zero, Nat.reduceSub, Bool.false_eq_true, decide_true, decide_false, and_true, true_and, and_self, fz_bl, fz_int, fz_str, fz_non, isU_s, isU_t, lenX_l, g, fRaise]
theorem check_good (h : ∀ x ∈ r :: rs, okN 2 x = true) (hr : ∀ x ∈ r :: rs, ruleT x = true) (nd : (r :: rs).Nodup) (hm : (r :: rs).length ≤ 300) : D_check_rules [.lst (r :: rs)] = .ok .non := by
  refine runD_nx (ρ := ⟨[some (.lst (r :: rs)), none], []⟩) (check_left h hr (by omega) nd _ ?_)
  have g : gtT (.int ((rs.length + 1 : Nat) : Int)) (.int 300) = some (.bl false) := by rw [gt_ii, decide_eq_false (by simp only [List.length_cons] at hm; omega)]
  simp -implicitDefEqProofs only [fSeq, fIfS, fRet, fRetN, fNext, fAsg, fAsgG, fPar, fDrop, fOr, fAnd, fNot, fTest, fTruth, fAndV, fOrV, fNotV, fIf, fChain, fCall, fCallN, fCallD, fCons, fNil, fVar, fC, fBin, fTup, fFrz, fOwn, fLstN, fSlice, fNoPart, fPart, fSet, fGTup, fGCons, fGNil, rb_ok, rb_exc, rb_stk, noExc, Env.put, List.getElem?_cons_zero, List.getElem?_cons_succ, List.set_cons_zero, List.set_cons_succ, List.length_cons, List.length_nil, vw_non, vw_bl, vw_int, vw_str, vw_ty, vw_tup, vw_lst, vw_dct, vw_dcN, vw_exo, vw_cl, vw_obj, List.map_cons, List.map_nil, if_true, if_false, reduceIte, nr_non, nr_bl, nr_int, nr_str, nr_ty, nr_tup, nr_lst, nrs_nil, nrs_cons, Bool.and_true, Bool.true_and, Bool.and_false, Bool.false_and, Bool.not_true, Bool.not_false, Bool.or_false, Bool.false_or, Nat.reduceAdd, Nat.reduceLT, Nat.reduceLeDiff, Nat.reduceEqDiff, Nat.zero_add, initE, List.cons_append, List.nil_append, List.replicate, List.replicate_succ, List.replicate_zero, Nat.reduceSub, Bool.false_eq_true, decide_true, decide_false, and_true, true_and, and_self, fz_bl, fz_int, fz_str, fz_non, isU_s, isU_t, lenX_l, g]
end
/-! ### numbers_by_part -/
/-- a rule's tree -/
def mkR (q : List Nat × List (List Nat)) : T := .tup [.str q.1, .tup (q.2.map T.str)]
def addN (acc : List (List Nat × List T)) (p : List Nat) (i : T) : List (List Nat × List T) :=
  if (acc.any fun q => decide (q.1 = p)) = true then acc.map (fun q => if q.1 = p then (q.1, q.2 ++ [i]) else q) else acc ++ [(p, [i])]
/-- for each part the numbers of its rules -/
def numbersF : List (List Nat × List T) → Nat → List (List Nat) → List (List Nat × List T)
  | acc, _, [] => acc
  | acc, k, p :: ps => numbersF (addN acc p (.int (k : Nat))) (k + 1) ps
def enumR : Nat → List T → List T
  | _, [] => []
  | k, t :: ts => .tup [.int (k : Nat), t] :: enumR (k + 1) ts
theorem enumR_get : ∀ (ts : List T) (k i : Nat), (enumR k ts)[i]? = (ts[i]?).map fun t => T.tup [.int ((k + i : Nat) : Int), t]
  | [], k, i => by simp [enumR]
  | t :: ts, k, 0 => by simp [enumR]
  | t :: ts, k, i + 1 => by
    unfold enumR
    rw [List.getElem?_cons_succ, List.getElem?_cons_succ, enumR_get ts (k + 1) i]
    rw [show k + 1 + i = k + (i + 1) by omega]
theorem enumF_R (ts : List T) : enumF ts = enumR 0 ts := by
  refine List.ext_getElem? fun i => ?_
  rw [enumR_get]
  cases h : ts[i]? with
  | none =>
    have hl := List.getElem?_eq_none_iff.mp h
    rw [List.getElem?_eq_none (by unfold enumF; simpa using hl)]
    rfl
  | some t =>
    have hl := (List.getElem?_eq_some_iff.mp h).1
    unfold enumF
    rw [List.getElem?_map, List.getElem?_range hl]
    show some (T.tup [.int (i : Nat), ts.getD i .non]) = some (T.tup [.int ((0 + i : Nat) : Int), t])
    rw [List.getD_eq_getElem?_getD, h, Nat.zero_add]
    rfl
theorem key_str (s p : List Nat) : (keyT (.str s) = some (.inr (S p))) ↔ s = p := by
  constructor
  · intro h
    have h : some (Sum.inr (S s)) = (some (.inr (S p)) : Option Key) := h
    injection h with h
    injection h with h
    exact S_inj h
  · rintro rfl; rfl
theorem key_str2 (s p : List Nat) : (keyT (.str s) = keyT (.str p)) ↔ s = p := key_str s p
/-- the dict and the lists, as they stand -/
def nodesOf (ps : List (List Nat × Nat)) (nodes : List (List T)) : List Node := .dct (ps.map fun q => (.str q.1, .ref q.2)) :: nodes.map .lst
def viewOf (ps : List (List Nat × Nat)) (nodes : List (List T)) : List (List Nat × List T) := ps.map fun q => (q.1, nodes.getD (q.2 - 1) [])
structure NumOk (ps : List (List Nat × Nat)) (nodes : List (List T)) (k : Nat) : Prop where
  at_ : ∀ q ∈ ps, 1 ≤ q.2 ∧ q.2 ≤ nodes.length
  one : (ps.map (·.2)).Nodup
  name : (ps.map (·.1)).Nodup
  len : ps.length ≤ k
  lens : ∀ l ∈ nodes, l.length ≤ k
  nr : ∀ l ∈ nodes, T.nrs l = true
theorem getK_ps (ps : List (List Nat × Nat)) (p : List Nat) : getK (ps.map fun q => (T.str q.1, T.ref q.2)) (.inr (S p)) = (ps.find? fun q => decide (q.1 = p)).map fun q => T.ref q.2 := by
  unfold getK
  rw [List.find?_map, Option.map_map]
  have : ((fun p_1 : T × T => decide (keyT p_1.1 = some (Sum.inr (S p)))) ∘ fun q : List Nat × Nat => (T.str q.1, T.ref q.2)) = fun q => decide (q.1 = p) := by
    funext q
    simp only [Function.comp, key_str]
  rw [this]
  rfl
theorem putG_new (ps : List (List Nat × Nat)) (p : List Nat) (v : T) (h : (ps.find? fun q => decide (q.1 = p)) = none) : putG keyT (ps.map fun q => (T.str q.1, T.ref q.2)) (.str p) v = (ps.map fun q => (T.str q.1, T.ref q.2)) ++ [(.str p, v)] := by
  unfold putG
  rw [if_neg]
  intro z
  obtain ⟨x, hx, e⟩ := List.any_eq_true.mp z
  obtain ⟨q, hq, rfl⟩ := List.mem_map.mp hx
  have := List.find?_eq_none.mp h q hq
  rw [decide_eq_true_eq, key_str2] at e
  exact this (by rw [e]; simp)
theorem view_any (ps : List (List Nat × Nat)) (nodes : List (List T)) (p : List Nat) : ((viewOf ps nodes).any fun q => decide (q.1 = p)) = (ps.find? fun q => decide (q.1 = p)).isSome := by
  unfold viewOf
  rw [List.any_map, Bool.eq_iff_iff, List.any_eq_true, List.find?_isSome]
  rfl
theorem mu_at (ps : List (List Nat × Nat)) (nodes : List (List T)) {j : Nat} (h1 : 1 ≤ j) (h2 : j ≤ nodes.length) : (nodesOf ps nodes)[j]? = some (.lst (nodes.getD (j - 1) [])) := by
  obtain ⟨m, rfl⟩ : ∃ m, j = m + 1 := ⟨j - 1, by omega⟩
  show (nodes.map Node.lst)[m]? = _
  rw [List.getElem?_map, Nat.add_sub_cancel, List.getD_eq_getElem?_getD, List.getElem?_eq_getElem (by omega)]
  rfl
theorem mu_set (ps : List (List Nat × Nat)) (nodes : List (List T)) {j : Nat} (h1 : 1 ≤ j) (l : List T) : (nodesOf ps nodes).set j (.lst l) = nodesOf ps (nodes.set (j - 1) l) := by
  obtain ⟨m, rfl⟩ : ∃ m, j = m + 1 := ⟨j - 1, by omega⟩
  show Node.dct _ :: (nodes.map Node.lst).set m (.lst l) = _
  unfold nodesOf
  rw [Nat.add_sub_cancel, List.map_set]
theorem mu_push (ps : List (List Nat × Nat)) (nodes : List (List T)) : nodesOf ps nodes ++ [.lst []] = nodesOf ps (nodes ++ [[]]) := by
  show Node.dct _ :: (nodes.map Node.lst ++ [Node.lst []]) = _
  unfold nodesOf
  rw [List.map_append]
  rfl
theorem inj_map {α β : Type} {f : α → β} : ∀ {l : List α}, (l.map f).Nodup → ∀ {x y : α}, x ∈ l → y ∈ l → f x = f y → x = y
  | [], _, x, y, hx, _, _ => nomatch hx
  | a :: l, nd, x, y, hx, hy, e => by
    rw [List.map_cons, List.nodup_cons] at nd
    rcases List.mem_cons.mp hx with e1 | hx <;> rcases List.mem_cons.mp hy with e2 | hy
    · rw [e1, e2]
    · exact (nd.1 (List.mem_map.mpr ⟨y, hy, by rw [← e, e1]⟩)).elim
    · exact (nd.1 (List.mem_map.mpr ⟨x, hx, by rw [e, e2]⟩)).elim
    · exact inj_map nd.2 hx hy e
/-- one turn of the walk over the rules -/
theorem num_step {ps : List (List Nat × Nat)} {nodes : List (List T)} {k : Nat} (ok : NumOk ps nodes k) (hk : k < 1000) (R : Option T) (q : List Nat × List (List Nat)) :
    ∃ ps' nodes', NumOk ps' nodes' (k + 1) ∧ viewOf ps' nodes' = addN (viewOf ps nodes) q.1 (.int (k : Nat)) ∧
      fDrop (fAppend (fSetd (fVar 1) (fBin ixT (fVar 3) (fC (.int 0))) (fOwn (fLstN fNil))) (fVar 2)) ⟨[R, some (.ref 0), some (.int (k : Nat)), some (mkR q)], nodesOf ps nodes⟩ = .ok (.next ⟨[R, some (.ref 0), some (.int (k : Nat)), some (mkR q)], nodesOf ps' nodes'⟩) := by
  obtain ⟨p, bs⟩ := q
  have ln : ps.length < 16777216 := by have := ok.len; omega
  have ix0 : ixT (mkR (p, bs)) (.int 0) = some (.str p) := ix_t0 _ _
  have vw0 : ∀ μ, vw μ (mkR (p, bs)) = mkR (p, bs) := fun _ => rfl
  have md : mudct (nodesOf ps nodes) (.ref 0) = some (0, ps.map fun q => (T.str q.1, T.ref q.2)) := rfl
  have md2 : mudct (nodesOf ps (nodes ++ [[]])) (.ref 0) = some (0, ps.map fun q => (T.str q.1, T.ref q.2)) := rfl
  have hmu : (nodesOf ps nodes).length = nodes.length + 1 := by show (nodes.map Node.lst).length + 1 = _; rw [List.length_map]
  have kp : keyT (.str p) = some (.inr (S p)) := rfl
  have gk := getK_ps ps p
  cases hf : ps.find? fun q => decide (q.1 = p) with
  | some r =>
    obtain ⟨p', j⟩ := r
    have hp' : p' = p := by have := List.find?_some hf; simpa using this
    subst hp'
    have hm := List.mem_of_find?_eq_some hf
    obtain ⟨j1, j2⟩ := ok.at_ _ hm
    rw [hf] at gk
    have gk : getK (ps.map fun q => (T.str q.1, T.ref q.2)) (.inr (S p')) = some (.ref j) := gk
    have j2' : j ≤ (nodes ++ [[]]).length := by rw [List.length_append]; simp only [List.length_cons, List.length_nil]; simp only at j2; omega
    have gd : (nodes ++ [[]]).getD (j - 1) [] = nodes.getD (j - 1) [] := by
      rw [List.getD_eq_getElem?_getD, List.getElem?_append_left (by simp only at j1 j2; omega), ← List.getD_eq_getElem?_getD]
    have at2 := mu_at ps (nodes ++ [[]]) j1 j2'
    rw [gd] at at2
    have ml : mulist (nodesOf ps (nodes ++ [[]])) (.ref j) = some (j, nodes.getD (j - 1) []) := by
      unfold mulist
      simp only [at2]
    have hin : nodes.getD (j - 1) [] ∈ nodes := by
      rw [List.getD_eq_getElem?_getD, List.getElem?_eq_getElem (by simp only at j1 j2; omega)]
      exact List.getElem_mem _
    have hl := ok.lens _ hin
    refine ⟨ps, (nodes ++ [[]]).set (j - 1) (nodes.getD (j - 1) [] ++ [T.int (k : Nat)]), ⟨fun r hr => ?_, ok.one, ok.name, Nat.le_succ_of_le ok.len, fun l hl2 => ?_, fun l hl2 => ?_⟩, ?_, ?_⟩
    · obtain ⟨a1, a2⟩ := ok.at_ r hr
      refine ⟨a1, ?_⟩
      rw [List.length_set, List.length_append]
      omega
    · rcases List.mem_or_eq_of_mem_set hl2 with h | rfl
      · rcases List.mem_append.mp h with h | h
        · exact Nat.le_succ_of_le (ok.lens l h)
        · rw [List.mem_singleton.mp h]; exact Nat.zero_le _
      · rw [List.length_append]; simp only [List.length_cons, List.length_nil]; omega
    · rcases List.mem_or_eq_of_mem_set hl2 with h | rfl
      · rcases List.mem_append.mp h with h | h
        · exact ok.nr l h
        · rw [List.mem_singleton.mp h]; exact nrs_nil
      · rw [nrs_append, ok.nr _ hin, nrs_cons, nr_int, nrs_nil]; rfl
    · unfold addN
      rw [view_any, hf, if_pos (show (some (p', j) : Option (List Nat × Nat)).isSome = true from rfl)]
      unfold viewOf
      rw [List.map_map]
      refine List.map_congr_left fun r hr => ?_
      simp only [Function.comp]
      obtain ⟨a1, a2⟩ := ok.at_ r hr
      by_cases e : r.1 = p'
      · rw [if_pos e]
        have er : r.2 = j := by rw [inj_map ok.name hr hm e]
        rw [er, List.getD_eq_getElem?_getD, List.getElem?_set_self (by rw [List.length_append]; simp only [List.length_cons, List.length_nil]; simp only at j1 j2; omega)]
        rfl
      · rw [if_neg e]
        have ne : j - 1 ≠ r.2 - 1 := fun z => e (by
          have : r.2 = j := by simp only at j1; omega
          rw [inj_map ok.one hr hm this])
        rw [List.getD_eq_getElem?_getD, List.getElem?_set_ne ne, List.getElem?_append_left (by omega), ← List.getD_eq_getElem?_getD]
    · rw [← mu_set ps (nodes ++ [[]]) j1]
      simp -implicitDefEqProofs only [fSeq, fIfS, fRet, fRetN, fNext, fAsg, fAsgG, fPar, fDrop, fOr, fAnd, fNot, fTest, fTruth, fAndV, fOrV, fNotV, fIf, fChain, fCall, fCallN, fCallD, fCons, fNil, fVar, fC, fBin, fTup, fFrz, fOwn, fLstN, fSlice, fNoPart, fPart, fSet, fGTup, fGCons, fGNil, rb_ok, rb_exc, rb_stk, noExc, Env.put, List.getElem?_cons_zero, List.getElem?_cons_succ, List.set_cons_zero, List.set_cons_succ, List.length_cons, List.length_nil, vw_non, vw_bl, vw_int, vw_str, vw_ty, vw_tup, vw_lst, vw_dct, vw_dcN, vw_exo, vw_cl, vw_obj, List.map_cons, List.map_nil, if_true, if_false, reduceIte, nr_non, nr_bl, nr_int, nr_str, nr_ty, nr_tup, nr_lst, nrs_nil, nrs_cons, Bool.and_true, Bool.true_and, Bool.and_false, Bool.false_and, Bool.not_true, Bool.not_false, Bool.or_false, Bool.false_or, Nat.reduceAdd, Nat.reduceLT, Nat.reduceLeDiff, Nat.reduceEqDiff, Nat.zero_add, initE, List.cons_append, List.nil_append, List.replicate, List.replicate_succ, List.replicate_zero, Nat.reduceSub, Bool.false_eq_true, decide_true, decide_false, and_true, true_and, and_self, fz_bl, fz_int, fz_str, fz_non, isU_s, isU_t, fSetd, fAppend, md, md2, vw0, ix0, kp, gk, mu_push, ml, List.length_map, if_pos ln]
      rw [if_pos (show (nodes.getD (j - 1) []).length < 16777216 by omega)]
      simp -implicitDefEqProofs only [fSeq, fIfS, fRet, fRetN, fNext, fAsg, fAsgG, fPar, fDrop, fOr, fAnd, fNot, fTest, fTruth, fAndV, fOrV, fNotV, fIf, fChain, fCall, fCallN, fCallD, fCons, fNil, fVar, fC, fBin, fTup, fFrz, fOwn, fLstN, fSlice, fNoPart, fPart, fSet, fGTup, fGCons, fGNil, rb_ok, rb_exc, rb_stk, noExc, Env.put, List.getElem?_cons_zero, List.getElem?_cons_succ, List.set_cons_zero, List.set_cons_succ, List.length_cons, List.length_nil, vw_non, vw_bl, vw_int, vw_str, vw_ty, vw_tup, vw_lst, vw_dct, vw_dcN, vw_exo, vw_cl, vw_obj, List.map_cons, List.map_nil, if_true, if_false, reduceIte, nr_non, nr_bl, nr_int, nr_str, nr_ty, nr_tup, nr_lst, nrs_nil, nrs_cons, Bool.and_true, Bool.true_and, Bool.and_false, Bool.false_and, Bool.not_true, Bool.not_false, Bool.or_false, Bool.false_or, Nat.reduceAdd, Nat.reduceLT, Nat.reduceLeDiff, Nat.reduceEqDiff, Nat.zero_add, initE, List.cons_append, List.nil_append, List.replicate, List.replicate_succ, List.replicate_zero, Nat.reduceSub, Bool.false_eq_true, decide_true, decide_false, and_true, true_and, and_self, fz_bl, fz_int, fz_str, fz_non, isU_s, isU_t]
  | none =>
    rw [hf] at gk
    have gk : getK (ps.map fun q => (T.str q.1, T.ref q.2)) (.inr (S p)) = none := gk
    have pn := putG_new ps p (.ref (nodes.length + 1)) hf
    have nm : ∀ r ∈ ps, r.1 ≠ p := fun r hr e => by
      have := List.find?_eq_none.mp hf r hr
      exact this (by rw [e]; simp)
    refine ⟨ps ++ [(p, nodes.length + 1)], nodes ++ [[T.int (k : Nat)]], ⟨fun r hr => ?_, ?_, ?_, ?_, fun l hl2 => ?_, fun l hl2 => ?_⟩, ?_, ?_⟩
    · rw [List.length_append]
      rcases List.mem_append.mp hr with hr | hr
      · obtain ⟨a1, a2⟩ := ok.at_ r hr
        exact ⟨a1, by omega⟩
      · rw [List.mem_singleton.mp hr]
        exact ⟨by simp only; omega, by simp only [List.length_cons, List.length_nil]; omega⟩
    · rw [List.map_append, List.nodup_append]
      refine ⟨ok.one, by simp, fun a ha b hb e => ?_⟩
      obtain ⟨r, hr, rfl⟩ := List.mem_map.mp ha
      have hb : b = nodes.length + 1 := by simpa using hb
      have := (ok.at_ r hr).2
      omega
    · rw [List.map_append, List.nodup_append]
      refine ⟨ok.name, by simp, fun a ha b hb e => ?_⟩
      obtain ⟨r, hr, rfl⟩ := List.mem_map.mp ha
      have hb : b = p := by simpa using hb
      exact nm r hr (e.trans hb)
    · rw [List.length_append]; simp only [List.length_cons, List.length_nil]; have := ok.len; omega
    · rcases List.mem_append.mp hl2 with h | h
      · exact Nat.le_succ_of_le (ok.lens l h)
      · rw [List.mem_singleton.mp h]; simp only [List.length_cons, List.length_nil]; omega
    · rcases List.mem_append.mp hl2 with h | h
      · exact ok.nr l h
      · rw [List.mem_singleton.mp h, nrs_cons, nr_int, nrs_nil]; rfl
    · unfold addN
      rw [view_any, hf, if_neg (by simp)]
      unfold viewOf
      rw [List.map_append]
      congr 1
      · refine List.map_congr_left fun r hr => ?_
        obtain ⟨a1, a2⟩ := ok.at_ r hr
        rw [List.getD_eq_getElem?_getD, List.getElem?_append_left (by omega), ← List.getD_eq_getElem?_getD]
      · rw [List.map_cons, List.map_nil, List.getD_eq_getElem?_getD, Nat.add_sub_cancel, List.getElem?_append_right (Nat.le_refl _), Nat.sub_self]
        rfl
    · have push : (nodesOf ps (nodes ++ [[]])).set 0 (.dct ((ps.map fun q => (T.str q.1, T.ref q.2)) ++ [(T.str p, T.ref (nodes.length + 1))])) = nodesOf (ps ++ [(p, nodes.length + 1)]) (nodes ++ [[]]) := by
        unfold nodesOf
        rw [List.set_cons_zero, List.map_append (l₁ := ps)]
        rfl
      have at2 := mu_at (ps ++ [(p, nodes.length + 1)]) (nodes ++ [[]]) (j := nodes.length + 1) (by omega) (by simp)
      have gd : (nodes ++ [[]]).getD (nodes.length + 1 - 1) [] = ([] : List T) := by
        rw [List.getD_eq_getElem?_getD, Nat.add_sub_cancel, List.getElem?_append_right (Nat.le_refl _), Nat.sub_self]
        rfl
      rw [gd] at at2
      have ml : mulist (nodesOf (ps ++ [(p, nodes.length + 1)]) (nodes ++ [[]])) (.ref (nodes.length + 1)) = some (nodes.length + 1, []) := by
        unfold mulist
        simp only [at2]
      have fin := mu_set (ps ++ [(p, nodes.length + 1)]) (nodes ++ [[]]) (j := nodes.length + 1) (by omega) ([] ++ [T.int (k : Nat)])
      have fin2 : (nodes ++ [[]]).set (nodes.length + 1 - 1) ([] ++ [T.int (k : Nat)]) = nodes ++ [[T.int (k : Nat)]] := by
        rw [Nat.add_sub_cancel, List.set_append_right _ _ (Nat.le_refl _), Nat.sub_self]
        rfl
      rw [fin2] at fin
      rw [← fin]
      simp -implicitDefEqProofs only [fSeq, fIfS, fRet, fRetN, fNext, fAsg, fAsgG, fPar, fDrop, fOr, fAnd, fNot, fTest, fTruth, fAndV, fOrV, fNotV, fIf, fChain, fCall, fCallN, fCallD, fCons, fNil, fVar, fC, fBin, fTup, fFrz, fOwn, fLstN, fSlice, fNoPart, fPart, fSet, fGTup, fGCons, fGNil, rb_ok, rb_exc, rb_stk, noExc, Env.put, List.getElem?_cons_zero, List.getElem?_cons_succ, List.set_cons_zero, List.set_cons_succ, List.length_cons, List.length_nil, vw_non, vw_bl, vw_int, vw_str, vw_ty, vw_tup, vw_lst, vw_dct, vw_dcN, vw_exo, vw_cl, vw_obj, List.map_cons, List.map_nil, if_true, if_false, reduceIte, nr_non, nr_bl, nr_int, nr_str, nr_ty, nr_tup, nr_lst, nrs_nil, nrs_cons, Bool.and_true, Bool.true_and, Bool.and_false, Bool.false_and, Bool.not_true, Bool.not_false, Bool.or_false, Bool.false_or, Nat.reduceAdd, Nat.reduceLT, Nat.reduceLeDiff, Nat.reduceEqDiff, Nat.zero_add, initE, List.cons_append, List.nil_append, List.replicate, List.replicate_succ, List.replicate_zero, Nat.reduceSub, Bool.false_eq_true, decide_true, decide_false, and_true, true_and, and_self, fz_bl, fz_int, fz_str, fz_non, isU_s, isU_t, fSetd, fAppend, md, md2, vw0, ix0, kp, gk, hmu, mu_push, pn, push, ml, List.length_map, if_pos ln]
theorem mapO_refs (ps : List (List Nat × Nat)) (nodes : List (List T)) (ok : ∀ q ∈ ps, 1 ≤ q.2 ∧ q.2 ≤ nodes.length) (nr : ∀ l ∈ nodes, T.nrs l = true) (all : List (List Nat × Nat)) : mapO (fun p => (fz (nodesOf all nodes) 7 p.2).map fun y => (p.1, y)) (ps.map fun q => (T.str q.1, T.ref q.2)) = some ((viewOf ps nodes).map fun q => (T.str q.1, T.lst q.2)) := by
  induction ps with
  | nil => rfl
  | cons q ps ih =>
    obtain ⟨h1, h2⟩ := ok q (List.mem_cons_self ..)
    have hin : nodes.getD (q.2 - 1) [] ∈ nodes := by
      rw [List.getD_eq_getElem?_getD, List.getElem?_eq_getElem (by omega)]
      exact List.getElem_mem _
    have e : fz (nodesOf all nodes) 7 (.ref q.2) = some (.lst (nodes.getD (q.2 - 1) [])) := fz_lst (mu_at all nodes h1 h2) (nr _ hin)
    rw [List.map_cons]
    unfold mapO
    simp only [e, Option.map_some]
    rw [ih fun r hr => ok r (List.mem_cons_of_mem _ hr)]
    rfl
theorem numbers_loop (R : Option T) (t0 u : T) (h0 : ∀ μ, stays μ t0 u = true) : ∀ (qs : List (List Nat × List (List Nat))) (k : Nat) (ps : List (List Nat × Nat)) (nodes : List (List T)) (a b : Option T), NumOk ps nodes k → k + qs.length ≤ 1000 →
    ∃ ps' nodes' a' b' k', NumOk ps' nodes' k' ∧ viewOf ps' nodes' = numbersF (viewOf ps nodes) k (qs.map (·.1)) ∧
      forLoop (fGTup 2 (fGCons (fSet 2) (fGCons (fSet 3) fGNil))) (fDrop (fAppend (fSetd (fVar 1) (fBin ixT (fVar 3) (fC (.int 0))) (fOwn (fLstN fNil))) (fVar 2))) t0 u (enumR k (qs.map mkR)) ⟨[R, some (.ref 0), a, b], nodesOf ps nodes⟩ = .ok (.next ⟨[R, some (.ref 0), a', b'], nodesOf ps' nodes'⟩)
  | [], k, ps, nodes, a, b, ok, _ => ⟨ps, nodes, a, b, k, ok, rfl, by
    rw [List.map_nil]
    unfold enumR forLoop
    rw [if_pos (h0 _)]⟩
  | q :: qs, k, ps, nodes, a, b, ok, hl => by
    obtain ⟨ps1, nodes1, ok1, v1, e1⟩ := num_step ok (by simp only [List.length_cons] at hl; omega) R q
    obtain ⟨ps2, nodes2, a2, b2, k2, ok2, v2, e2⟩ := numbers_loop R t0 u h0 qs (k + 1) ps1 nodes1 (some (.int (k : Nat))) (some (mkR q)) ok1 (by simp only [List.length_cons] at hl; omega)
    refine ⟨ps2, nodes2, a2, b2, k2, ok2, ?_, ?_⟩
    · rw [v2, v1, List.map_cons]
      rfl
    · rw [List.map_cons]
      unfold enumR forLoop
      rw [if_pos (h0 _)]
      have g : fGTup 2 (fGCons (fSet 2) (fGCons (fSet 3) fGNil)) (.tup [.int (k : Nat), mkR q]) ⟨[R, some (.ref 0), a, b], nodesOf ps nodes⟩ = .ok ⟨[R, some (.ref 0), some (.int (k : Nat)), some (mkR q)], nodesOf ps nodes⟩ := rfl
      rw [g]
      simp only [noExc, rb_ok]
      rw [e1]
      simp only [rb_ok]
      exact e2
theorem nr_mkR (q : List Nat × List (List Nat)) : (mkR q).nr = true := by
  unfold mkR
  rw [nr_tup, nrs_cons, nr_str, nrs_cons, nr_tup, nrs_nil]
  rw [nrs_mem (a := q.2.map T.str) fun t ht => by obtain ⟨s, _, rfl⟩ := List.mem_map.mp ht; exact nr_str s]
  rfl
theorem numbers_eq (qs : List (List Nat × List (List Nat))) (hl : qs.length ≤ 1000) : D_numbers_by_part [.tup (qs.map mkR)] = .ok (.dct ((numbersF [] 0 (qs.map (·.1))).map fun q => (T.str q.1, T.lst q.2))) := by
  obtain ⟨ps, nodes, a, b, k, ok, v, e⟩ := numbers_loop (some (.tup (qs.map mkR))) (.tup (qs.map mkR)) (.tup (qs.map mkR)) (fun _ => rfl) qs 0 [] [] none none ⟨(fun _ h => nomatch h), List.nodup_nil, List.nodup_nil, Nat.le_refl _, (fun _ h => nomatch h), (fun _ h => nomatch h)⟩ (by omega)
  refine runD_ret (t := .ref 0) (ρ := ⟨[some (.tup (qs.map mkR)), some (.ref 0), a, b], nodesOf ps nodes⟩) ?_ ?_
  · have e2 : nodesOf [] [] = [.dct []] := rfl
    rw [e2] at e
    simp -implicitDefEqProofs only [b_numbers_by_part, fSeq, fIfS, fRet, fRetN, fNext, fAsg, fAsgG, fPar, fDrop, fOr, fAnd, fNot, fTest, fTruth, fAndV, fOrV, fNotV, fIf, fChain, fCall, fCallN, fCallD, fCons, fNil, fVar, fC, fBin, fTup, fFrz, fOwn, fLstN, fSlice, fNoPart, fPart, fSet, fGTup, fGCons, fGNil, rb_ok, rb_exc, rb_stk, noExc, Env.put, List.getElem?_cons_zero, List.getElem?_cons_succ, List.set_cons_zero, List.set_cons_succ, List.length_cons, List.length_nil, vw_non, vw_bl, vw_int, vw_str, vw_ty, vw_tup, vw_lst, vw_dct, vw_dcN, vw_exo, vw_cl, vw_obj, List.map_cons, List.map_nil, if_true, if_false, reduceIte, nr_non, nr_bl, nr_int, nr_str, nr_ty, nr_tup, nr_lst, nrs_nil, nrs_cons, Bool.and_true, Bool.true_and, Bool.and_false, Bool.false_and, Bool.not_true, Bool.not_false, Bool.or_false, Bool.false_or, Nat.reduceAdd, Nat.reduceLT, Nat.reduceLeDiff, Nat.reduceEqDiff, Nat.zero_add, initE, List.cons_append, List.nil_append, List.replicate, List.replicate_succ, List.replicate_zero, Nat.reduceSub, Bool.false_eq_true, decide_true, decide_false, and_true, true_and, and_self, fz_bl, fz_int, fz_str, fz_non, isU_s, isU_t, fOwnD0, fFor, fEnumT, enumF_R]
    rw [e]
    simp -implicitDefEqProofs only [fSeq, fIfS, fRet, fRetN, fNext, fAsg, fAsgG, fPar, fDrop, fOr, fAnd, fNot, fTest, fTruth, fAndV, fOrV, fNotV, fIf, fChain, fCall, fCallN, fCallD, fCons, fNil, fVar, fC, fBin, fTup, fFrz, fOwn, fLstN, fSlice, fNoPart, fPart, fSet, fGTup, fGCons, fGNil, rb_ok, rb_exc, rb_stk, noExc, Env.put, List.getElem?_cons_zero, List.getElem?_cons_succ, List.set_cons_zero, List.set_cons_succ, List.length_cons, List.length_nil, vw_non, vw_bl, vw_int, vw_str, vw_ty, vw_tup, vw_lst, vw_dct, vw_dcN, vw_exo, vw_cl, vw_obj, List.map_cons, List.map_nil, if_true, if_false, reduceIte, nr_non, nr_bl, nr_int, nr_str, nr_ty, nr_tup, nr_lst, nrs_nil, nrs_cons, Bool.and_true, Bool.true_and, Bool.and_false, Bool.false_and, Bool.not_true, Bool.not_false, Bool.or_false, Bool.false_or, Nat.reduceAdd, Nat.reduceLT, Nat.reduceLeDiff, Nat.reduceEqDiff, Nat.zero_add, initE, List.cons_append, List.nil_append, List.replicate, List.replicate_succ, List.replicate_zero, Nat.reduceSub, Bool.false_eq_true, decide_true, decide_false, and_true, true_and, and_self, fz_bl, fz_int, fz_str, fz_non, isU_s, isU_t]
  · have m := mapO_refs ps nodes ok.at_ ok.nr ps
    rw [v] at m
    have v0 : viewOf [] [] = [] := rfl
    rw [v0] at m
    show fz (nodesOf ps nodes) (7 + 1) (.ref 0) = _
    unfold fz
    rw [if_neg (by simp [T.nr])]
    have at0 : (nodesOf ps nodes)[0]? = some (.dct (ps.map fun q => (T.str q.1, T.ref q.2))) := rfl
    simp only [at0]
    rw [m]
    rfl
/-! ### words_of -/
def addW (parts ws : List (List Nat)) (p : List Nat) : List (List Nat) := if p ∈ parts then ws else if p ∈ ws then ws else ws ++ [p]
def wordsF (parts : List (List Nat)) : List (List Nat) → List (List Nat) → List (List Nat)
  | ws, [] => ws
  | ws, p :: ps => wordsF parts (addW parts ws p) ps
theorem wordsF_append (parts : List (List Nat)) : ∀ (a b ws : List (List Nat)), wordsF parts ws (a ++ b) = wordsF parts (wordsF parts ws a) b
  | [], b, ws => rfl
  | p :: a, b, ws => wordsF_append parts a b (addW parts ws p)
def wdct (ws : List (List Nat)) : List (T × T) := ws.map fun w => (T.str w, T.bl true)
theorem hasK_strs {α : Type} (xs : List α) (f : α → List Nat) (g : α → T) (p : List Nat) : hasK (xs.map fun x => (T.str (f x), g x)) (.inr (S p)) = decide (p ∈ xs.map f) := by
  unfold hasK
  rw [List.any_map, Bool.eq_iff_iff, List.any_eq_true, decide_eq_true_eq, List.mem_map]
  simp only [Function.comp, decide_eq_true_eq, key_str]
theorem put_word (ws : List (List Nat)) (p : List Nat) : putG keyT (wdct ws) (.str p) (.bl true) = wdct (if p ∈ ws then ws else ws ++ [p]) := by
  unfold putG wdct
  have e : ((ws.map fun w => (T.str w, T.bl true)).any fun q => decide (keyT q.1 = keyT (.str p))) = decide (p ∈ ws) := by
    have := hasK_strs ws id (fun _ => T.bl true) p
    rw [List.map_id] at this
    exact this
  rw [e]
  by_cases h : p ∈ ws
  · rw [decide_eq_true h, if_pos rfl, if_pos h, List.map_map]
    refine List.map_congr_left fun w _ => ?_
    simp only [Function.comp]
    split <;> rfl
  · rw [decide_eq_false h, if_neg (by simp), if_neg h, List.map_append]
    rfl
section
variable {kvs : List (T × T)} {parts : List (List Nat)} (hp : ∀ p : List Nat, hasK kvs (.inr (S p)) = decide (p ∈ parts))
include hp
theorem word_step (R a : Option T) (ws : List (List Nat)) (hl : ws.length < 10000) (p : List Nat) :
    fIfS (fTest (fBin notInX (fVar 4) (fVar 1))) (fAsgG (fSubD (fVar 2) (fVar 4)) (fC (.bl true))) fNext ⟨[R, some (.dct kvs), some (.ref 0), a, some (.str p)], [.dct (wdct ws)]⟩ = .ok (.next ⟨[R, some (.dct kvs), some (.ref 0), a, some (.str p)], [.dct (wdct (addW parts ws p))]⟩) := by
  have e : notInX (.str p) (.dct kvs) = some (.bl (!hasK kvs (.inr (S p)))) := rfl
  rw [hp p] at e
  have md : mudct [Node.dct (wdct ws)] (.ref 0) = some (0, wdct ws) := rfl
  have kp : keyT (.str p) = some (.inr (S p)) := rfl
  have pw := put_word ws p
  have lw : (wdct ws).length < 16777216 := by unfold wdct; rw [List.length_map]; omega
  unfold addW
  by_cases h : p ∈ parts
  · rw [decide_eq_true h] at e
    rw [if_pos h]
    simp -implicitDefEqProofs only [fSeq, fIfS, fRet, fRetN, fNext, fAsg, fAsgG, fPar, fDrop, fOr, fAnd, fNot, fTest, fTruth, fAndV, fOrV, fNotV, fIf, fChain, fCall, fCallN, fCallD, fCons, fNil, fVar, fC, fBin, fTup, fFrz, fOwn, fLstN, fSlice, fNoPart, fPart, fSet, fGTup, fGCons, fGNil, rb_ok, rb_exc, rb_stk, noExc, Env.put, List.getElem?_cons_zero, List.getElem?_cons_succ, List.set_cons_zero, List.set_cons_succ, List.length_cons, List.length_nil, vw_non, vw_bl, vw_int, vw_str, vw_ty, vw_tup, vw_lst, vw_dct, vw_dcN, vw_exo, vw_cl, vw_obj, List.map_cons, List.map_nil, if_true, if_false, reduceIte, nr_non, nr_bl, nr_int, nr_str, nr_ty, nr_tup, nr_lst, nrs_nil, nrs_cons, Bool.and_true, Bool.true_and, Bool.and_false, Bool.false_and, Bool.not_true, Bool.not_false, Bool.or_false, Bool.false_or, Nat.reduceAdd, Nat.reduceLT, Nat.reduceLeDiff, Nat.reduceEqDiff, Nat.zero_add, initE, List.cons_append, List.nil_append, List.replicate, List.replicate_succ, List.replicate_zero, Nat.reduceSub, Bool.false_eq_true, decide_true, decide_false, and_true, true_and, and_self, fz_bl, fz_int, fz_str, fz_non, isU_s, isU_t, e]
  · rw [decide_eq_false h] at e
    rw [if_neg h]
    simp -implicitDefEqProofs only [fSeq, fIfS, fRet, fRetN, fNext, fAsg, fAsgG, fPar, fDrop, fOr, fAnd, fNot, fTest, fTruth, fAndV, fOrV, fNotV, fIf, fChain, fCall, fCallN, fCallD, fCons, fNil, fVar, fC, fBin, fTup, fFrz, fOwn, fLstN, fSlice, fNoPart, fPart, fSet, fGTup, fGCons, fGNil, rb_ok, rb_exc, rb_stk, noExc, Env.put, List.getElem?_cons_zero, List.getElem?_cons_succ, List.set_cons_zero, List.set_cons_succ, List.length_cons, List.length_nil, vw_non, vw_bl, vw_int, vw_str, vw_ty, vw_tup, vw_lst, vw_dct, vw_dcN, vw_exo, vw_cl, vw_obj, List.map_cons, List.map_nil, if_true, if_false, reduceIte, nr_non, nr_bl, nr_int, nr_str, nr_ty, nr_tup, nr_lst, nrs_nil, nrs_cons, Bool.and_true, Bool.true_and, Bool.and_false, Bool.false_and, Bool.not_true, Bool.not_false, Bool.or_false, Bool.false_or, Nat.reduceAdd, Nat.reduceLT, Nat.reduceLeDiff, Nat.reduceEqDiff, Nat.zero_add, initE, List.cons_append, List.nil_append, List.replicate, List.replicate_succ, List.replicate_zero, Nat.reduceSub, Bool.false_eq_true, decide_true, decide_false, and_true, true_and, and_self, fz_bl, fz_int, fz_str, fz_non, isU_s, isU_t, e, fSubD, md, kp, if_pos lw, pw]
theorem words_in (R a : Option T) (t0 u : T) (h0 : ∀ μ, stays μ t0 u = true) : ∀ (bs ws : List (List Nat)) (b : Option T), ws.length + bs.length < 10000 →
    ∃ b', forLoop (fSet 4) (fIfS (fTest (fBin notInX (fVar 4) (fVar 1))) (fAsgG (fSubD (fVar 2) (fVar 4)) (fC (.bl true))) fNext) t0 u (bs.map T.str) ⟨[R, some (.dct kvs), some (.ref 0), a, b], [.dct (wdct ws)]⟩ =
      .ok (.next ⟨[R, some (.dct kvs), some (.ref 0), a, b'], [.dct (wdct (wordsF parts ws bs))]⟩)
  | [], ws, b, _ => ⟨b, by rw [List.map_nil]; unfold forLoop; rw [if_pos (h0 _)]; rfl⟩
  | p :: bs, ws, b, hl => by
    have l1 : (addW parts ws p).length ≤ ws.length + 1 := by
      unfold addW
      split
      · omega
      · split
        · omega
        · rw [List.length_append]; simp
    obtain ⟨b', e'⟩ := words_in R a t0 u h0 bs (addW parts ws p) (some (.str p)) (by simp only [List.length_cons] at hl; omega)
    refine ⟨b', ?_⟩
    rw [List.map_cons]
    unfold forLoop
    rw [if_pos (h0 _)]
    have g : fSet 4 (.str p) ⟨[R, some (.dct kvs), some (.ref 0), a, b], [.dct (wdct ws)]⟩ = .ok ⟨[R, some (.dct kvs), some (.ref 0), a, some (.str p)], [.dct (wdct ws)]⟩ := rfl
    rw [g]
    simp only [noExc, rb_ok]
    rw [word_step hp R a ws (by simp only [List.length_cons] at hl; omega) p]
    simp only [rb_ok]
    exact e'
theorem wordsF_len : ∀ (bs ws : List (List Nat)), (wordsF parts ws bs).length ≤ ws.length + bs.length
  | [], ws => Nat.le_refl _
  | p :: bs, ws => by
    have l1 : (addW parts ws p).length ≤ ws.length + 1 := by
      unfold addW
      split
      · omega
      · split
        · omega
        · rw [List.length_append]; simp
    have := wordsF_len bs (addW parts ws p)
    unfold wordsF
    simp only [List.length_cons]
    omega
theorem words_out (R : Option T) (t0 u : T) (h0 : ∀ μ, stays μ t0 u = true) : ∀ (qs : List (List Nat × List (List Nat))) (ws : List (List Nat)) (a b : Option T), (∀ q ∈ qs, q.2.length ≤ 8) → ws.length + 8 * qs.length < 10000 →
    ∃ a' b', forLoop (fSet 3) (fFor (fItT (fBin ixT (fVar 3) (fC (.int 1)))) (fSet 4) (fIfS (fTest (fBin notInX (fVar 4) (fVar 1))) (fAsgG (fSubD (fVar 2) (fVar 4)) (fC (.bl true))) fNext)) t0 u (qs.map mkR) ⟨[R, some (.dct kvs), some (.ref 0), a, b], [.dct (wdct ws)]⟩ =
      .ok (.next ⟨[R, some (.dct kvs), some (.ref 0), a', b'], [.dct (wdct (wordsF parts ws (qs.map (·.2)).flatten))]⟩)
  | [], ws, a, b, _, _ => ⟨a, b, by rw [List.map_nil]; unfold forLoop; rw [if_pos (h0 _)]; rfl⟩
  | q :: qs, ws, a, b, h8, hl => by
    have q8 := h8 q (List.mem_cons_self ..)
    obtain ⟨b1, e1⟩ := words_in hp R (some (mkR q)) (.tup (q.2.map T.str)) (.tup (q.2.map T.str)) (fun _ => rfl) q.2 ws b (by simp only [List.length_cons] at hl; omega)
    have wl := wordsF_len hp q.2 ws
    obtain ⟨a2, b2, e2⟩ := words_out R t0 u h0 qs (wordsF parts ws q.2) (some (mkR q)) b1 (fun x hx => h8 x (List.mem_cons_of_mem _ hx)) (by simp only [List.length_cons] at hl; omega)
    refine ⟨a2, b2, ?_⟩
    rw [List.map_cons]
    unfold forLoop
    rw [if_pos (h0 _)]
    have g : fSet 3 (mkR q) ⟨[R, some (.dct kvs), some (.ref 0), a, b], [.dct (wdct ws)]⟩ = .ok ⟨[R, some (.dct kvs), some (.ref 0), some (mkR q), b], [.dct (wdct ws)]⟩ := rfl
    rw [g]
    simp only [noExc, rb_ok]
    have vw0 : ∀ μ, vw μ (mkR q) = mkR q := fun _ => rfl
    have ix1 : ixT (mkR q) (.int 1) = some (.tup (q.2.map T.str)) := ix_t1 _ _ _
    have inner : fFor (fItT (fBin ixT (fVar 3) (fC (.int 1)))) (fSet 4) (fIfS (fTest (fBin notInX (fVar 4) (fVar 1))) (fAsgG (fSubD (fVar 2) (fVar 4)) (fC (.bl true))) fNext) ⟨[R, some (.dct kvs), some (.ref 0), some (mkR q), b], [.dct (wdct ws)]⟩ = .ok (.next ⟨[R, some (.dct kvs), some (.ref 0), some (mkR q), b1], [.dct (wdct (wordsF parts ws q.2))]⟩) := by
      unfold fFor
      have it : fItT (fBin ixT (fVar 3) (fC (.int 1))) ⟨[R, some (.dct kvs), some (.ref 0), some (mkR q), b], [.dct (wdct ws)]⟩ = .ok (⟨q.2.map T.str, .tup (q.2.map T.str), .tup (q.2.map T.str)⟩, ⟨[R, some (.dct kvs), some (.ref 0), some (mkR q), b], [.dct (wdct ws)]⟩) := by
        simp -implicitDefEqProofs only [fSeq, fIfS, fRet, fRetN, fNext, fAsg, fAsgG, fPar, fDrop, fOr, fAnd, fNot, fTest, fTruth, fAndV, fOrV, fNotV, fIf, fChain, fCall, fCallN, fCallD, fCons, fNil, fVar, fC, fBin, fTup, fFrz, fOwn, fLstN, fSlice, fNoPart, fPart, fSet, fGTup, fGCons, fGNil, rb_ok, rb_exc, rb_stk, noExc, Env.put, List.getElem?_cons_zero, List.getElem?_cons_succ, List.set_cons_zero, List.set_cons_succ, List.length_cons, List.length_nil, vw_non, vw_bl, vw_int, vw_str, vw_ty, vw_tup, vw_lst, vw_dct, vw_dcN, vw_exo, vw_cl, vw_obj, List.map_cons, List.map_nil, if_true, if_false, reduceIte, nr_non, nr_bl, nr_int, nr_str, nr_ty, nr_tup, nr_lst, nrs_nil, nrs_cons, Bool.and_true, Bool.true_and, Bool.and_false, Bool.false_and, Bool.not_true, Bool.not_false, Bool.or_false, Bool.false_or, Nat.reduceAdd, Nat.reduceLT, Nat.reduceLeDiff, Nat.reduceEqDiff, Nat.zero_add, initE, List.cons_append, List.nil_append, List.replicate, List.replicate_succ, List.replicate_zero, Nat.reduceSub, Bool.false_eq_true, decide_true, decide_false, and_true, true_and, and_self, fz_bl, fz_int, fz_str, fz_non, isU_s, isU_t, fItT, vw0, ix1]
      rw [it]
      simp only [rb_ok]
      exact e1
    rw [inner]
    simp only [rb_ok]
    rw [List.map_cons, List.flatten_cons, wordsF_append]
    exact e2
theorem txK_w (ws : List (List Nat)) : txK (wdct ws) = some ws := by
  induction ws with
  | nil => rfl
  | cons w ws ih =>
    unfold wdct at *
    rw [List.map_cons]
    unfold txK
    rw [ih]
    rfl
theorem words_eq (qs : List (List Nat × List (List Nat))) (h8 : ∀ q ∈ qs, q.2.length ≤ 8) (hl : qs.length ≤ 1000) (h64 : (wordsF parts [] (qs.map (·.2)).flatten).length < 64) :
    D_words_of [.tup (qs.map mkR), .dct kvs] = .ok (.tup ((sortS (wordsF parts [] (qs.map (·.2)).flatten)).map T.str)) := by
  obtain ⟨a, b, e⟩ := words_out hp (some (.tup (qs.map mkR))) (.tup (qs.map mkR)) (.tup (qs.map mkR)) (fun _ => rfl) qs [] none none h8 (by simp only [List.length_nil]; omega)
  have sr : sortedT [.dct (wdct (wordsF parts [] (qs.map (·.2)).flatten))] = some (.lst ((sortS (wordsF parts [] (qs.map (·.2)).flatten)).map T.str)) := by
    show (txK (wdct (wordsF parts [] (qs.map (·.2)).flatten))).bind _ = _
    rw [txK_w hp]
    exact if_pos h64
  generalize wordsF parts [] (qs.map (·.2)).flatten = W at *
  have w0 : wdct [] = [] := rfl
  rw [w0] at e
  have vr : vw [Node.dct (wdct W)] (.ref 0) = .dct (wdct W) := rfl
  refine runD_ret (t := .tup ((sortS W).map T.str)) (ρ := ⟨[some (.tup (qs.map mkR)), some (.dct kvs), some (.ref 0), a, b], [.dct (wdct W)]⟩) ?_ (fz_tup (nrs_mem fun t ht => by obtain ⟨s, _, rfl⟩ := List.mem_map.mp ht; exact nr_str s))
  have b0 : b_words_of (initE 5 [.tup (qs.map mkR), .dct kvs]) = fSeq (fFor (fItT (fVar 0)) (fSet 3) (fFor (fItT (fBin ixT (fVar 3) (fC (.int 1)))) (fSet 4) (fIfS (fTest (fBin notInX (fVar 4) (fVar 1))) (fAsgG (fSubD (fVar 2) (fVar 4)) (fC (.bl true))) fNext))) (fRet (fCall tupleX (fCons (fCall sortedT (fCons (fVar 2) fNil)) fNil))) ⟨[some (.tup (qs.map mkR)), some (.dct kvs), some (.ref 0), none, none], [.dct []]⟩ := rfl
  show b_words_of (initE 5 [.tup (qs.map mkR), .dct kvs]) = _
  rw [b0]
  have l1 : fFor (fItT (fVar 0)) (fSet 3) (fFor (fItT (fBin ixT (fVar 3) (fC (.int 1)))) (fSet 4) (fIfS (fTest (fBin notInX (fVar 4) (fVar 1))) (fAsgG (fSubD (fVar 2) (fVar 4)) (fC (.bl true))) fNext)) ⟨[some (.tup (qs.map mkR)), some (.dct kvs), some (.ref 0), none, none], [.dct []]⟩ = .ok (.next ⟨[some (.tup (qs.map mkR)), some (.dct kvs), some (.ref 0), a, b], [.dct (wdct W)]⟩) := e
  unfold fSeq
  rw [l1]
  simp -implicitDefEqProofs only [fSeq, fIfS, fRet, fRetN, fNext, fAsg, fAsgG, fPar, fDrop, fOr, fAnd, fNot, fTest, fTruth, fAndV, fOrV, fNotV, fIf, fChain, fCall, fCallN, fCallD, fCons, fNil, fVar, fC, fBin, fTup, fFrz, fOwn, fLstN, fSlice, fNoPart, fPart, fSet, fGTup, fGCons, fGNil, rb_ok, rb_exc, rb_stk, noExc, Env.put, List.getElem?_cons_zero, List.getElem?_cons_succ, List.set_cons_zero, List.set_cons_succ, List.length_cons, List.length_nil, vw_non, vw_bl, vw_int, vw_str, vw_ty, vw_tup, vw_lst, vw_dct, vw_dcN, vw_exo, vw_cl, vw_obj, List.map_cons, List.map_nil, if_true, if_false, reduceIte, nr_non, nr_bl, nr_int, nr_str, nr_ty, nr_tup, nr_lst, nrs_nil, nrs_cons, Bool.and_true, Bool.true_and, Bool.and_false, Bool.false_and, Bool.not_true, Bool.not_false, Bool.or_false, Bool.false_or, Nat.reduceAdd, Nat.reduceLT, Nat.reduceLeDiff, Nat.reduceEqDiff, Nat.zero_add, initE, List.cons_append, List.nil_append, List.replicate, List.replicate_succ, List.replicate_zero, Nat.reduceSub, Bool.false_eq_true, decide_true, decide_false, and_true, true_and, and_self, fz_bl, fz_int, fz_str, fz_non, isU_s, isU_t, vr, sr, tupleX_l]
end
/-! ### Grammar(rules) -/
def onceS : List (List Nat) → List (List Nat) → List (List Nat)
  | acc, [] => acc
  | acc, p :: ps => onceS (if p ∈ acc then acc else acc ++ [p]) ps
theorem known_loop (t0 u : T) (ρ : Tr.Env) (st : stays ρ.mu t0 u = true) (h0 : ∀ t, ∃ ρ1, fSet 2 t ρ = .ok ρ1 ∧ (fVar 2) ρ1 = .ok (t, ρ1) ∧ wipeE ρ1 [2] = ρ) : ∀ (ps acc : List (List Nat)), acc.length + ps.length ≤ 10000 →
    dcLoop putKT [2] (fSet 2) fYes (fVar 2) (fC (.bl true)) t0 u (ps.map T.str) ρ (wdct acc) = .ok (wdct (onceS acc ps), ρ)
  | [], acc, _ => by rw [List.map_nil]; unfold dcLoop; rw [if_pos st]; rfl
  | p :: ps, acc, hl => by
    obtain ⟨ρ1, e1, e2, e3⟩ := h0 (.str p)
    have l1 : (if p ∈ acc then acc else acc ++ [p]).length ≤ acc.length + 1 := by
      split
      · omega
      · rw [List.length_append]; simp
    rw [List.map_cons]
    unfold dcLoop
    rw [if_pos st, e1]
    simp only [R.bind, fYes, if_true, fC]
    rw [e2]
    have pk : putKT (wdct acc) (.str p) (.bl true) = some (wdct (if p ∈ acc then acc else acc ++ [p])) := by
      show (if (wdct acc).length < 16777216 then some (putG keyT (wdct acc) (.str p) (.bl true)) else none) = _
      rw [if_pos (by unfold wdct; rw [List.length_map]; simp only [List.length_cons] at hl; omega), put_word]
    simp only []
    rw [pk]
    simp only []
    rw [e3, known_loop t0 u ρ st h0 ps _ (by simp only [List.length_cons] at hl; omega)]
    rfl
theorem rule_ok {t : T} (h : ruleT t = true) : okN 2 t = true := by
  obtain ⟨a, bs, rfl, h1, h2, h3⟩ := ruleT_of h
  have st : ∀ s, nameT (.str s) = true → okN 0 (.str s) = true ∧ okN 1 (.str s) = true := fun s hs => by
    obtain ⟨s', e, _, l8⟩ := nameT_str hs
    cases e
    have : okT (.str s) = true := by simp [okT, T.base]; omega
    simp [okN, this, nr_str]
  have nrb : T.nrs (bs.map T.str) = true := nrs_mem fun t ht => by obtain ⟨s, _, rfl⟩ := List.mem_map.mp ht; exact nr_str s
  have hb : okN 1 (.tup (bs.map T.str)) = true := by
    unfold okN
    rw [Bool.and_eq_true, Bool.and_eq_true]
    refine ⟨⟨by simp [okT, T.base], by rw [nr_tup]; exact nrb⟩, List.all_eq_true.mpr fun t ht => ?_⟩
    obtain ⟨s, hs, rfl⟩ := List.mem_map.mp ht
    exact (st s (h3 s hs)).1
  unfold okN
  rw [Bool.and_eq_true, Bool.and_eq_true]
  refine ⟨⟨by simp [okT, T.base], by rw [nr_tup, nrs_cons, nr_str, nrs_cons, nr_tup, nrb, nrs_nil]; rfl⟩, List.all_eq_true.mpr fun t ht => ?_⟩
  rcases List.mem_cons.mp ht with rfl | ht
  · exact (st a h1).2
  · rw [List.mem_singleton.mp ht]; exact hb
/-- a grammar's tree -/
def numsOf (qs : List (List Nat × List (List Nat))) : List (List Nat × List T) := numbersF [] 0 (qs.map (·.1))
def wordsOf (qs : List (List Nat × List (List Nat))) : List (List Nat) := wordsF ((numsOf qs).map (·.1)) [] (qs.map (·.2)).flatten
def numsT (qs : List (List Nat × List (List Nat))) : T := .dct ((numsOf qs).map fun q => (T.str q.1, T.lst q.2))
def gramT (qs : List (List Nat × List (List Nat))) : T := .obj "Grammar" [("rules", .tup (qs.map mkR)), ("numbers", numsT qs), ("parts", .tup ((numsOf qs).map fun q => T.str q.1)), ("words", .tup ((sortS (wordsOf qs)).map T.str)),
  ("start", .str (((numsOf qs).map (·.1)).headD [])), ("known", .dct (wdct (onceS [] (sortS (wordsOf qs)))))]
theorem addN_ne (acc : List (List Nat × List T)) (p : List Nat) (i : T) : addN acc p i ≠ [] := by
  unfold addN
  split
  · rename_i h
    intro z
    rw [List.map_eq_nil_iff] at z
    rw [z] at h
    cases h
  · simp
theorem numbersF_ne : ∀ (ps : List (List Nat)) (acc : List (List Nat × List T)) (k : Nat), acc ≠ [] ∨ ps ≠ [] → numbersF acc k ps ≠ []
  | [], acc, k, h => h.elim id fun z => (z rfl).elim
  | p :: ps, acc, k, _ => numbersF_ne ps _ _ (.inl (addN_ne acc p _))
theorem nr_numsT (qs : List (List Nat × List (List Nat))) (h : ∀ q ∈ numsOf qs, T.nrs q.2 = true) : (numsT qs).nr = true := by
  unfold numsT
  generalize numsOf qs = N at *
  have : T.nrd (N.map fun q => (T.str q.1, T.lst q.2)) = true := by
    induction N with
    | nil => simp [T.nrd]
    | cons q N ih =>
      rw [List.map_cons, T.nrd, nr_lst, h q (List.mem_cons_self ..), ih fun r hr => h r (List.mem_cons_of_mem _ hr)]
      first | rfl | simp [nr_str]
  first | (simp only [T.nr]; exact this) | (rw [T.nr]; exact this)
theorem addN_nr {acc : List (List Nat × List T)} {p : List Nat} {i : T} (hi : i.nr = true) (h : ∀ q ∈ acc, T.nrs q.2 = true) : ∀ q ∈ addN acc p i, T.nrs q.2 = true := fun q hq => by
  unfold addN at hq
  split at hq
  · obtain ⟨r, hr, rfl⟩ := List.mem_map.mp hq
    split
    · rw [nrs_append, h r hr, nrs_cons, hi, nrs_nil]; rfl
    · exact h r hr
  · rcases List.mem_append.mp hq with hq | hq
    · exact h q hq
    · rw [List.mem_singleton.mp hq, nrs_cons, hi, nrs_nil]; rfl
theorem numbersF_nr : ∀ (ps : List (List Nat)) (acc : List (List Nat × List T)) (k : Nat), (∀ q ∈ acc, T.nrs q.2 = true) → ∀ q ∈ numbersF acc k ps, T.nrs q.2 = true
  | [], acc, k, h => h
  | p :: ps, acc, k, h => numbersF_nr ps _ _ (addN_nr (nr_int _) h)
theorem put_step {f : Str} {fv : FE} {v : T} {fs : List (Str × T)} {a b : Option T} (hv : fv ⟨[some (.ref 0), a, b], [.obj "Grammar" fs]⟩ = .ok (v, ⟨[some (.ref 0), a, b], [.obj "Grammar" fs]⟩)) (hl : fs.length < 1000) :
    fPutF "Grammar" f (fVar 0) fv ⟨[some (.ref 0), a, b], [.obj "Grammar" fs]⟩ = .ok (.next ⟨[some (.ref 0), a, b], [.obj "Grammar" (putT f v fs)]⟩) := by
  unfold fPutF
  rw [hv]
  have e : fVar 0 ⟨[some (.ref 0), a, b], [.obj "Grammar" fs]⟩ = .ok (.ref 0, ⟨[some (.ref 0), a, b], [.obj "Grammar" fs]⟩) := rfl
  simp only [rb_ok]
  rw [e]
  simp only [rb_ok]
  have m : muobj [Node.obj "Grammar" fs] (.ref 0) = some (0, ("Grammar" : Str), fs) := rfl
  simp only [m]
  rw [if_pos ⟨trivial, hl⟩]
  rfl
theorem fld_step {f : Str} {fs : List (Str × T)} {t : T} {a b : Option T} (h : fs.lookup f = some t) : fFld "Grammar" f (fVar 0) ⟨[some (.ref 0), a, b], [.obj "Grammar" fs]⟩ = .ok (t, ⟨[some (.ref 0), a, b], [.obj "Grammar" fs]⟩) := by
  unfold fFld
  have e : fVar 0 ⟨[some (.ref 0), a, b], [.obj "Grammar" fs]⟩ = .ok (.ref 0, ⟨[some (.ref 0), a, b], [.obj "Grammar" fs]⟩) := rfl
  rw [e]
  simp only [rb_ok]
  have m : vw [Node.obj "Grammar" fs] (.ref 0) = .obj "Grammar" fs := rfl
  simp only [m, if_true, h]
theorem seq_step {f g : FS} {ρ ρ1 : Tr.Env} (h : f ρ = .ok (.next ρ1)) : fSeq f g ρ = g ρ1 := by
  unfold fSeq
  rw [h]
  rfl
theorem nrs_mkR (qs : List (List Nat × List (List Nat))) : T.nrs (qs.map mkR) = true := nrs_mem fun t ht => by obtain ⟨q, _, rfl⟩ := List.mem_map.mp ht; exact nr_mkR q
theorem nrs_strs (ss : List (List Nat)) : T.nrs (ss.map T.str) = true := nrs_mem fun t ht => by obtain ⟨q, _, rfl⟩ := List.mem_map.mp ht; exact nr_str q
theorem put1 (v r : T) : putT ("numbers" : Str) v [(("rules" : Str), r)] = [(("rules" : Str), r), (("numbers" : Str), v)] := rfl
theorem put2 (v r n : T) : putT ("parts" : Str) v [(("rules" : Str), r), (("numbers" : Str), n)] = [(("rules" : Str), r), (("numbers" : Str), n), (("parts" : Str), v)] := rfl
theorem put3 (v r n p : T) : putT ("words" : Str) v [(("rules" : Str), r), (("numbers" : Str), n), (("parts" : Str), p)] = [(("rules" : Str), r), (("numbers" : Str), n), (("parts" : Str), p), (("words" : Str), v)] := rfl
theorem put4 (v r n p w : T) : putT ("start" : Str) v [(("rules" : Str), r), (("numbers" : Str), n), (("parts" : Str), p), (("words" : Str), w)] = [(("rules" : Str), r), (("numbers" : Str), n), (("parts" : Str), p), (("words" : Str), w), (("start" : Str), v)] := rfl
theorem put5 (v r n p w t : T) : putT ("known" : Str) v [(("rules" : Str), r), (("numbers" : Str), n), (("parts" : Str), p), (("words" : Str), w), (("start" : Str), t)] = [(("rules" : Str), r), (("numbers" : Str), n), (("parts" : Str), p), (("words" : Str), w), (("start" : Str), t), (("known" : Str), v)] := rfl
theorem lk1 (r : T) (l : List (Str × T)) : List.lookup ("rules" : Str) ((("rules" : Str), r) :: l) = some r := rfl
theorem lk2 (r n : T) (l : List (Str × T)) : List.lookup ("numbers" : Str) ((("rules" : Str), r) :: (("numbers" : Str), n) :: l) = some n := rfl
theorem lk3 (r n p : T) (l : List (Str × T)) : List.lookup ("parts" : Str) ((("rules" : Str), r) :: (("numbers" : Str), n) :: (("parts" : Str), p) :: l) = some p := rfl
theorem lk4 (r n p w : T) (l : List (Str × T)) : List.lookup ("words" : Str) ((("rules" : Str), r) :: (("numbers" : Str), n) :: (("parts" : Str), p) :: (("words" : Str), w) :: l) = some w := rfl
theorem known_step (a : Option T) {fs : List (Str × T)} (W : List (List Nat)) (hW : W.length ≤ 1000) (h : fs.lookup ("words" : Str) = some (.tup (W.map T.str))) :
    fDc .dct putKT [2] (fItT (fFld "Grammar" "words" (fVar 0))) (fSet 2) fYes (fVar 2) (fC (.bl true)) ⟨[some (.ref 0), a, none], [.obj "Grammar" fs]⟩ = .ok (.dct (wdct (onceS [] W)), ⟨[some (.ref 0), a, none], [.obj "Grammar" fs]⟩) := by
  have kl := known_loop (.tup (W.map T.str)) (.tup (W.map T.str)) ⟨[some (.ref 0), a, none], [.obj "Grammar" fs]⟩ rfl (fun t => ⟨⟨[some (.ref 0), a, some t], [.obj "Grammar" fs]⟩, rfl, rfl, rfl⟩) W [] (by simp only [List.length_nil]; omega)
  have w0 : wdct [] = [] := rfl
  rw [w0] at kl
  have it : fItT (fFld "Grammar" "words" (fVar 0)) ⟨[some (.ref 0), a, none], [.obj "Grammar" fs]⟩ = .ok (⟨W.map T.str, .tup (W.map T.str), .tup (W.map T.str)⟩, ⟨[some (.ref 0), a, none], [.obj "Grammar" fs]⟩) := by
    unfold fItT
    rw [fld_step h]
    rfl
  unfold fDc
  rw [it]
  simp only [rb_ok]
  have wp : wipeE (⟨[some (.ref 0), a, none], [.obj "Grammar" fs]⟩ : Tr.Env) [2] = ⟨[some (.ref 0), a, none], [.obj "Grammar" fs]⟩ := rfl
  rw [wp, kl]
  simp only [noExc, rb_ok]
  rw [wp]
section
variable {qs : List (List Nat × List (List Nat))}
theorem numsOf_ne (ne : qs ≠ []) : numsOf qs ≠ [] := numbersF_ne _ _ _ (.inr fun z => ne (List.map_eq_nil_iff.mp z))
theorem hasK_nums (p : List Nat) : hasK ((numsOf qs).map fun q => (T.str q.1, T.lst q.2)) (.inr (S p)) = decide (p ∈ (numsOf qs).map (·.1)) := hasK_strs (numsOf qs) (·.1) (fun q => T.lst q.2) p
/-- the numbers' own function, told by its tree -/
theorem gram_eq (ne : qs ≠ []) (hr : ∀ q ∈ qs, ruleT (mkR q) = true) (nd : (qs.map mkR).Nodup) (hl : qs.length ≤ 300) (h64 : (wordsOf qs).length < 64) : D_Grammar___init__ [.lst (qs.map mkR)] = .ok (gramT qs) := by
  have ck : D_check_rules [.lst (qs.map mkR)] = .ok .non := by
    cases qs with
    | nil => exact (ne rfl).elim
    | cons q qs =>
      rw [List.map_cons] at nd ⊢
      have rr : ∀ x ∈ mkR q :: qs.map mkR, ruleT x = true := fun x hx => by
        rw [← List.map_cons] at hx
        obtain ⟨y, hy, rfl⟩ := List.mem_map.mp hx
        exact hr y hy
      refine check_good (fun x hx => rule_ok (rr x hx)) rr nd ?_
      rw [List.length_cons, List.length_map]
      exact hl
  have nm : D_numbers_by_part [.tup (qs.map mkR)] = .ok (numsT qs) := numbers_eq qs (by omega)
  have q8 : ∀ q ∈ qs, q.2.length ≤ 8 := fun q hq => by
    obtain ⟨a, bs, e, _, h8, _⟩ := ruleT_of (hr q hq)
    unfold mkR at e
    injection e with e
    injection e with _ e
    injection e with e _
    injection e with e
    have := congrArg List.length e
    rw [List.length_map, List.length_map] at this
    omega
  have wd : D_words_of [.tup (qs.map mkR), numsT qs] = .ok (.tup ((sortS (wordsOf qs)).map T.str)) := words_eq hasK_nums qs q8 (by omega) h64
  have nn : (numsT qs).nr = true := nr_numsT qs (numbersF_nr _ _ _ fun q hq => nomatch hq)
  have sl : (sortS (wordsOf qs)).length < 64 := by rw [(sortS_perm _).length_eq]; exact h64
  generalize hρ0 : (⟨[some (.ref 0), some (.lst (qs.map mkR)), none], [.obj "Grammar" []]⟩ : Tr.Env) = ρ0
  have st : ∀ fs : List (Str × T), ∃ ρ : Tr.Env, ρ = ⟨[some (.ref 0), some (.lst (qs.map mkR)), none], [.obj "Grammar" fs]⟩ := fun fs => ⟨_, rfl⟩
  have v1 : ∀ fs : List (Str × T), fVar 1 ⟨[some (.ref 0), some (.lst (qs.map mkR)), none], [.obj "Grammar" fs]⟩ = .ok (.lst (qs.map mkR), ⟨[some (.ref 0), some (.lst (qs.map mkR)), none], [.obj "Grammar" fs]⟩) := fun _ => rfl
  have nrl : T.nrs [T.lst (qs.map mkR)] = true := by rw [nrs_cons, nr_lst, nrs_mkR, nrs_nil]; rfl
  have s0 : fDrop (fCallX D_check_rules 1 (fCons (fVar 1) fNil)) ⟨[some (.ref 0), some (.lst (qs.map mkR)), none], [.obj "Grammar" []]⟩ = .ok (.next ⟨[some (.ref 0), some (.lst (qs.map mkR)), none], [.obj "Grammar" []]⟩) := by
    unfold fDrop fCallX
    simp only [fCons, fNil, v1, rb_ok]
    rw [if_pos ⟨rfl, nrl⟩, ck]
    simp only [nr_non, if_true, rb_ok]
  have one : ∀ (fs : List (Str × T)) (f : Str) (t : T) (D : List T → RD) (c : T), fs.lookup f = some t → T.nrs [t] = true → D [t] = .ok c → c.nr = true → fCallD D 1 (fCons (fFld "Grammar" f (fVar 0)) fNil) ⟨[some (.ref 0), some (.lst (qs.map mkR)), none], [.obj "Grammar" fs]⟩ = .ok (c, ⟨[some (.ref 0), some (.lst (qs.map mkR)), none], [.obj "Grammar" fs]⟩) := fun fs f t D c h n e m =>
    fCallD_eq (ts := [t]) (by simp only [fCons, fNil, fld_step h, rb_ok]) rfl n e m
  have r1 := put_step (f := "rules") (fv := fCall tupleX (fCons (fVar 1) fNil)) (v := .tup (qs.map mkR)) (fs := []) (a := some (.lst (qs.map mkR))) (b := none) (by simp only [fCall, fCons, fNil, v1, rb_ok, List.map_cons, List.map_nil, vw_lst, tupleX_l]) (by simp)
  have p0 : putT ("rules" : Str) (T.tup (qs.map mkR)) [] = [(("rules" : Str), T.tup (qs.map mkR))] := rfl
  rw [p0] at r1
  have r2 := put_step (f := "numbers") (fs := [("rules", .tup (qs.map mkR))]) (a := some (.lst (qs.map mkR))) (b := none) (one _ "rules" _ D_numbers_by_part (numsT qs) (lk1 _ _) (by rw [nrs_cons, nr_tup, nrs_mkR, nrs_nil]; rfl) nm nn) (by simp)
  rw [put1] at r2
  have r3 := put_step (f := "parts") (fv := fCall tupleX (fCons (fFld "Grammar" "numbers" (fVar 0)) fNil)) (v := .tup ((numsOf qs).map fun q => T.str q.1)) (fs := [("rules", .tup (qs.map mkR)), ("numbers", numsT qs)]) (a := some (.lst (qs.map mkR))) (b := none) (by
    have vwn : ∀ μ, vw μ (numsT qs) = numsT qs := fun _ => rfl
    have tx : tupleX [numsT qs] = some (.tup ((numsOf qs).map fun q => T.str q.1)) := by
      have e := tupleX_d ((numsOf qs).map fun q => (T.str q.1, T.lst q.2))
      rw [List.map_map] at e
      exact e
    simp only [fCall, fCons, fNil, fld_step (lk2 (.tup (qs.map mkR)) (numsT qs) []), rb_ok, List.map_cons, List.map_nil, vwn, tx]) (by simp)
  rw [put2] at r3
  have r4 := put_step (f := "words") (fv := fCallD D_words_of 2 (fCons (fFld "Grammar" "rules" (fVar 0)) (fCons (fFld "Grammar" "numbers" (fVar 0)) fNil))) (v := .tup ((sortS (wordsOf qs)).map T.str)) (fs := [("rules", .tup (qs.map mkR)), ("numbers", numsT qs), ("parts", .tup ((numsOf qs).map fun q => T.str q.1))]) (a := some (.lst (qs.map mkR))) (b := none)
    (fCallD_eq (ts := [.tup (qs.map mkR), numsT qs]) (by simp only [fCons, fNil, fld_step (lk1 _ _), fld_step (lk2 _ _ _), rb_ok]) rfl (by rw [nrs_cons, nr_tup, nrs_mkR, nrs_cons, nn, nrs_nil]; rfl) wd (by rw [nr_tup]; exact nrs_strs _)) (by simp)
  rw [put3] at r4
  have ixp : ixT (.tup ((numsOf qs).map fun q => T.str q.1)) (.int 0) = some (.str (((numsOf qs).map (·.1)).headD [])) := by
    have h := numsOf_ne ne
    cases hn : numsOf qs with
    | nil => exact (h hn).elim
    | cons q N => exact ix_t0 _ _
  have r5 := put_step (f := "start") (fv := fBin ixT (fFld "Grammar" "parts" (fVar 0)) (fC (.int 0))) (v := .str (((numsOf qs).map (·.1)).headD [])) (fs := [("rules", .tup (qs.map mkR)), ("numbers", numsT qs), ("parts", .tup ((numsOf qs).map fun q => T.str q.1)), ("words", .tup ((sortS (wordsOf qs)).map T.str))]) (a := some (.lst (qs.map mkR))) (b := none)
    (by simp only [fBin, fC, fld_step (lk3 _ _ _ _), rb_ok, vw_tup, vw_int, ixp]) (by simp)
  rw [put4] at r5
  have r6 := put_step (f := "known") (known_step (some (.lst (qs.map mkR))) (sortS (wordsOf qs)) (by omega) (lk4 (.tup (qs.map mkR)) (numsT qs) (.tup ((numsOf qs).map fun q => T.str q.1)) (.tup ((sortS (wordsOf qs)).map T.str)) [("start", .str (((numsOf qs).map (·.1)).headD []))])) (by simp)
  rw [put5] at r6
  have body : b_Grammar___init__ (initO 3 "Grammar" [.lst (qs.map mkR)]) = .ok (.next ⟨[some (.ref 0), some (.lst (qs.map mkR)), none], [.obj "Grammar" [("rules", .tup (qs.map mkR)), ("numbers", numsT qs), ("parts", .tup ((numsOf qs).map fun q => T.str q.1)), ("words", .tup ((sortS (wordsOf qs)).map T.str)), ("start", .str (((numsOf qs).map (·.1)).headD [])), ("known", .dct (wdct (onceS [] (sortS (wordsOf qs)))))]]⟩) := by
    show b_Grammar___init__ ⟨[some (.ref 0), some (.lst (qs.map mkR)), none], [.obj "Grammar" []]⟩ = _
    unfold b_Grammar___init__
    rw [seq_step s0, seq_step r1, seq_step r2, seq_step r3, seq_step r4, seq_step r5]
    exact r6
  unfold D_Grammar___init__ runI
  rw [show N_Grammar___init__.length = 3 from rfl, body]
  simp only []
  have nw : T.nrd (wdct (onceS [] (sortS (wordsOf qs)))) = true := by
    generalize onceS [] (sortS (wordsOf qs)) = K
    induction K with
    | nil => simp [wdct, T.nrd]
    | cons k K ih => unfold wdct at *; rw [List.map_cons, T.nrd, ih]; first | rfl | simp [nr_str, nr_bl]
  have nk : (T.dct (wdct (onceS [] (sortS (wordsOf qs))))).nr = true := by first | (simp only [T.nr]; exact nw) | (rw [T.nr]; exact nw)
  have np : (T.tup ((numsOf qs).map fun q => T.str q.1)).nr = true := by rw [nr_tup]; exact nrs_mem fun t ht => by obtain ⟨q, _, rfl⟩ := List.mem_map.mp ht; exact nr_str _
  have fzz : ∀ (μ : List Node) (k : Nat) (t : T), t.nr = true → fz μ k t = some t := fun μ k t h => fz_nr h
  show (match fz [Node.obj "Grammar" _] (8 + 1) (.ref 0) with | some t => RD.ok t | none => RD.stk) = _
  unfold fz
  rw [if_neg (by simp [T.nr])]
  simp only [List.getElem?_cons_zero, mapO, fzz _ _ _ nn, fzz _ _ _ nk, fzz _ _ _ np, fzz _ _ (.tup (qs.map mkR)) (by rw [nr_tup]; exact nrs_mkR qs), fzz _ _ (.tup ((sortS (wordsOf qs)).map T.str)) (by rw [nr_tup]; exact nrs_strs _), fzz _ _ (.str _) (nr_str _), Option.map_some]
  rfl
end
--GRAMEND
end K13
namespace K13
open PySem L2 GxR Gx Tr
theorem mulX_r (i j : Int) (h1 : -(2 ^ 64) < j) (h2 : j < 2 ^ 64) : mulX (.int i) (.int j) = some (.int (i * j)) := mul_r i j h1 h2
theorem mulX_l (i j : Int) (h1 : -(2 ^ 64) < i) (h2 : i < 2 ^ 64) : mulX (.int i) (.int j) = some (.int (i * j)) := mul_l i j h1 h2
def mix (n k : Int) : Int := let m := (n * 48271 + k * 104729 + 11) % 2147483647; (m * m + 48271 * m + k) % 2147483629
theorem mix_eq (n k : Int) : D__law_mix [.int n, .int k] = .ok (.int (mix n k)) := by
  refine runD_ret (t := .int (mix n k)) (ρ := ⟨[some (.int n), some (.int k), some (.int ((n * 48271 + k * 104729 + 11) % 2147483647))], []⟩) ?_ fz_int
  have h0 := Int.emod_nonneg (n * 48271 + k * 104729 + 11) (b := 2147483647) (by decide)
  have h1 := Int.emod_lt_of_pos (n * 48271 + k * 104729 + 11) (b := 2147483647) (by decide)
  have e1 := mulX_r n 48271 (by decide) (by decide)
  have e2 := mulX_r k 104729 (by decide) (by decide)
  have e3 := mod_ii (n * 48271 + k * 104729 + 11) 2147483647 (by decide)
  generalize hm : (n * 48271 + k * 104729 + 11) % 2147483647 = m at *
  have e4 := mulX_r m m (by omega) (by omega)
  have e5 := mulX_l 48271 m (by decide) (by decide)
  have e6 := mod_ii (m * m + 48271 * m + k) 2147483629 (by decide)
  simp -implicitDefEqProofs only [b__law_mix, fSeq, fIfS, fRet, fRetN, fNext, fAsg, fAsgG, fPar, fDrop, fOr, fAnd, fNot, fTest, fTruth, fAndV, fOrV, fNotV, fIf, fChain, fCall, fCallN, fCallD, fCons, fNil, fVar, fC, fBin, fTup, fFrz, fOwn, fLstN, fSlice, fNoPart, fPart, fSet, fGTup, fGCons, fGNil, rb_ok, rb_exc, rb_stk, noExc, Env.put, List.getElem?_cons_zero, List.getElem?_cons_succ, List.set_cons_zero, List.set_cons_succ, List.length_cons, List.length_nil, vw_non, vw_bl, vw_int, vw_str, vw_ty, vw_tup, vw_lst, vw_dct, vw_dcN, vw_exo, vw_cl, vw_obj, List.map_cons, List.map_nil, if_true, if_false, reduceIte, nr_non, nr_bl, nr_int, nr_str, nr_ty, nr_tup, nr_lst, nrs_nil, nrs_cons, Bool.and_true, Bool.true_and, Bool.and_false, Bool.false_and, Bool.not_true, Bool.not_false, Bool.or_false, Bool.false_or, Nat.reduceAdd, Nat.reduceLT, Nat.reduceLeDiff, Nat.reduceEqDiff, Nat.zero_add, initE, List.cons_append, List.nil_append, List.replicate, List.replicate_succ, List.replicate_zero, Nat.reduceSub, Bool.false_eq_true, decide_true, decide_false, and_true, true_and, and_self, fz_bl, fz_int, fz_str, fz_non, isU_s, isU_t, e1, e2, add_ii, e3, e4, e5, e6, hm, mix]
def draws : Int → List Int → List Int
  | _, [] => []
  | n, s :: r => n % s :: draws (n / s) r
theorem draws_eq (n : Int) (ss : List Int) (hs : ∀ s ∈ ss, 0 < s ∧ s < 2 ^ 64) (hl : ss.length ≤ 1000) : D__law_draws [.int n, .lst (ss.map .int)] = .ok (.lst ((draws n ss).map .int)) := by
  have key : ∃ fl, forLoop (fSet 3) (fSeq (fDrop (fAppend (fVar 2) (fBin modT (fVar 0) (fVar 3)))) (fAsg 0 (fBin divT (fVar 0) (fVar 3)))) (.lst (ss.map .int)) (.lst (ss.map .int)) (ss.map .int) ⟨[some (.int n), some (.lst (ss.map .int)), some (.ref 0), none], [.lst []]⟩ = .ok fl ∧
      ∃ a b, fl = .next ⟨[some (.int a), some (.lst (ss.map .int)), some (.ref 0), b], [.lst ((draws n ss).map .int)]⟩ := by
    refine forLoop_post (fun ts ρ => ∃ (a : Int) (b : Option T) (pre : List Int) (rest : List Int), ts = rest.map .int ∧ (∀ s ∈ rest, 0 < s ∧ s < 2 ^ 64) ∧ pre.length + rest.length ≤ 1000 ∧ ρ = ⟨[some (.int a), some (.lst (ss.map .int)), some (.ref 0), b], [.lst (pre.map .int)]⟩ ∧ draws n ss = pre ++ draws a rest) ?_ ?_ _ _ ⟨n, none, [], ss, rfl, hs, by simpa using hl, rfl, rfl⟩
    · rintro ρ ⟨a, b, pre, rest, e, _, _, rfl, q⟩
      cases rest with
      | cons x y => cases e
      | nil =>
        refine ⟨rfl, a, b, ?_⟩
        rw [q]
        simp [draws]
    · rintro t ts ρ ⟨a, b, pre, rest, e, hr, hl, rfl, q⟩
      cases rest with
      | nil => cases e
      | cons s rest =>
        cases e
        obtain ⟨p1, p2⟩ := hr s (List.mem_cons_self ..)
        refine ⟨rfl, ⟨[some (.int a), some (.lst (ss.map .int)), some (.ref 0), some (.int s)], [.lst (pre.map .int)]⟩, .next ⟨[some (.int (a / s)), some (.lst (ss.map .int)), some (.ref 0), some (.int s)], [.lst ((pre ++ [a % s]).map .int)]⟩, by simp -implicitDefEqProofs only [fSeq, fIfS, fRet, fRetN, fNext, fAsg, fAsgG, fPar, fDrop, fOr, fAnd, fNot, fTest, fTruth, fAndV, fOrV, fNotV, fIf, fChain, fCall, fCallN, fCallD, fCons, fNil, fVar, fC, fBin, fTup, fFrz, fOwn, fLstN, fSlice, fNoPart, fPart, fSet, fGTup, fGCons, fGNil, rb_ok, rb_exc, rb_stk, noExc, Env.put, List.getElem?_cons_zero, List.getElem?_cons_succ, List.set_cons_zero, List.set_cons_succ, List.length_cons, List.length_nil, vw_non, vw_bl, vw_int, vw_str, vw_ty, vw_tup, vw_lst, vw_dct, vw_dcN, vw_exo, vw_cl, vw_obj, List.map_cons, List.map_nil, if_true, if_false, reduceIte, nr_non, nr_bl, nr_int, nr_str, nr_ty, nr_tup, nr_lst, nrs_nil, nrs_cons, Bool.and_true, Bool.true_and, Bool.and_false, Bool.false_and, Bool.not_true, Bool.not_false, Bool.or_false, Bool.false_or, Nat.reduceAdd, Nat.reduceLT, Nat.reduceLeDiff, Nat.reduceEqDiff, Nat.zero_add, initE, List.cons_append, List.nil_append, List.replicate, List.replicate_succ, List.replicate_zero, Nat.reduceSub, Bool.false_eq_true, decide_true, decide_false, and_true, true_and, and_self, fz_bl, fz_int, fz_str, fz_non, isU_s, isU_t], ?_, ?_⟩
        · simp -implicitDefEqProofs only [fSeq, fIfS, fRet, fRetN, fNext, fAsg, fAsgG, fPar, fDrop, fOr, fAnd, fNot, fTest, fTruth, fAndV, fOrV, fNotV, fIf, fChain, fCall, fCallN, fCallD, fCons, fNil, fVar, fC, fBin, fTup, fFrz, fOwn, fLstN, fSlice, fNoPart, fPart, fSet, fGTup, fGCons, fGNil, rb_ok, rb_exc, rb_stk, noExc, Env.put, List.getElem?_cons_zero, List.getElem?_cons_succ, List.set_cons_zero, List.set_cons_succ, List.length_cons, List.length_nil, vw_non, vw_bl, vw_int, vw_str, vw_ty, vw_tup, vw_lst, vw_dct, vw_dcN, vw_exo, vw_cl, vw_obj, List.map_cons, List.map_nil, if_true, if_false, reduceIte, nr_non, nr_bl, nr_int, nr_str, nr_ty, nr_tup, nr_lst, nrs_nil, nrs_cons, Bool.and_true, Bool.true_and, Bool.and_false, Bool.false_and, Bool.not_true, Bool.not_false, Bool.or_false, Bool.false_or, Nat.reduceAdd, Nat.reduceLT, Nat.reduceLeDiff, Nat.reduceEqDiff, Nat.zero_add, initE, List.cons_append, List.nil_append, List.replicate, List.replicate_succ, List.replicate_zero, Nat.reduceSub, Bool.false_eq_true, decide_true, decide_false, and_true, true_and, and_self, fz_bl, fz_int, fz_str, fz_non, isU_s, isU_t, fAppend, mulist, mod_ii a s p1, div_ii a s p1 p2, List.length_map]
          rw [if_pos (by simp at hl; omega)]
          simp -implicitDefEqProofs only [fSeq, fIfS, fRet, fRetN, fNext, fAsg, fAsgG, fPar, fDrop, fOr, fAnd, fNot, fTest, fTruth, fAndV, fOrV, fNotV, fIf, fChain, fCall, fCallN, fCallD, fCons, fNil, fVar, fC, fBin, fTup, fFrz, fOwn, fLstN, fSlice, fNoPart, fPart, fSet, fGTup, fGCons, fGNil, rb_ok, rb_exc, rb_stk, noExc, Env.put, List.getElem?_cons_zero, List.getElem?_cons_succ, List.set_cons_zero, List.set_cons_succ, List.length_cons, List.length_nil, vw_non, vw_bl, vw_int, vw_str, vw_ty, vw_tup, vw_lst, vw_dct, vw_dcN, vw_exo, vw_cl, vw_obj, List.map_cons, List.map_nil, if_true, if_false, reduceIte, nr_non, nr_bl, nr_int, nr_str, nr_ty, nr_tup, nr_lst, nrs_nil, nrs_cons, Bool.and_true, Bool.true_and, Bool.and_false, Bool.false_and, Bool.not_true, Bool.not_false, Bool.or_false, Bool.false_or, Nat.reduceAdd, Nat.reduceLT, Nat.reduceLeDiff, Nat.reduceEqDiff, Nat.zero_add, initE, List.cons_append, List.nil_append, List.replicate, List.replicate_succ, List.replicate_zero, Nat.reduceSub, Bool.false_eq_true, decide_true, decide_false, and_true, true_and, and_self, fz_bl, fz_int, fz_str, fz_non, isU_s, isU_t, List.map_append, div_ii a s p1 p2]
        · simp only []
          exact ⟨a / s, some (.int s), pre ++ [a % s], rest, rfl, fun s hs => hr s (List.mem_cons_of_mem _ hs), by simp at hl ⊢; omega, rfl, by rw [q]; simp [draws]⟩
  obtain ⟨fl, h1, a, b, rfl⟩ := key
  refine runD_ret (t := .ref 0) (ρ := ⟨[some (.int a), some (.lst (ss.map .int)), some (.ref 0), b], [.lst ((draws n ss).map .int)]⟩) ?_ ?_
  · simp -implicitDefEqProofs only [b__law_draws, fSeq, fIfS, fRet, fRetN, fNext, fAsg, fAsgG, fPar, fDrop, fOr, fAnd, fNot, fTest, fTruth, fAndV, fOrV, fNotV, fIf, fChain, fCall, fCallN, fCallD, fCons, fNil, fVar, fC, fBin, fTup, fFrz, fOwn, fLstN, fSlice, fNoPart, fPart, fSet, fGTup, fGCons, fGNil, rb_ok, rb_exc, rb_stk, noExc, Env.put, List.getElem?_cons_zero, List.getElem?_cons_succ, List.set_cons_zero, List.set_cons_succ, List.length_cons, List.length_nil, vw_non, vw_bl, vw_int, vw_str, vw_ty, vw_tup, vw_lst, vw_dct, vw_dcN, vw_exo, vw_cl, vw_obj, List.map_cons, List.map_nil, if_true, if_false, reduceIte, nr_non, nr_bl, nr_int, nr_str, nr_ty, nr_tup, nr_lst, nrs_nil, nrs_cons, Bool.and_true, Bool.true_and, Bool.and_false, Bool.false_and, Bool.not_true, Bool.not_false, Bool.or_false, Bool.false_or, Nat.reduceAdd, Nat.reduceLT, Nat.reduceLeDiff, Nat.reduceEqDiff, Nat.zero_add, initE, List.cons_append, List.nil_append, List.replicate, List.replicate_succ, List.replicate_zero, Nat.reduceSub, Bool.false_eq_true, decide_true, decide_false, and_true, true_and, and_self, fz_bl, fz_int, fz_str, fz_non, isU_s, isU_t, fFor, fItL]
    rw [h1]
    simp -implicitDefEqProofs only [fSeq, fIfS, fRet, fRetN, fNext, fAsg, fAsgG, fPar, fDrop, fOr, fAnd, fNot, fTest, fTruth, fAndV, fOrV, fNotV, fIf, fChain, fCall, fCallN, fCallD, fCons, fNil, fVar, fC, fBin, fTup, fFrz, fOwn, fLstN, fSlice, fNoPart, fPart, fSet, fGTup, fGCons, fGNil, rb_ok, rb_exc, rb_stk, noExc, Env.put, List.getElem?_cons_zero, List.getElem?_cons_succ, List.set_cons_zero, List.set_cons_succ, List.length_cons, List.length_nil, vw_non, vw_bl, vw_int, vw_str, vw_ty, vw_tup, vw_lst, vw_dct, vw_dcN, vw_exo, vw_cl, vw_obj, List.map_cons, List.map_nil, if_true, if_false, reduceIte, nr_non, nr_bl, nr_int, nr_str, nr_ty, nr_tup, nr_lst, nrs_nil, nrs_cons, Bool.and_true, Bool.true_and, Bool.and_false, Bool.false_and, Bool.not_true, Bool.not_false, Bool.or_false, Bool.false_or, Nat.reduceAdd, Nat.reduceLT, Nat.reduceLeDiff, Nat.reduceEqDiff, Nat.zero_add, initE, List.cons_append, List.nil_append, List.replicate, List.replicate_succ, List.replicate_zero, Nat.reduceSub, Bool.false_eq_true, decide_true, decide_false, and_true, true_and, and_self, fz_bl, fz_int, fz_str, fz_non, isU_s, isU_t]
  · refine fz_lst rfl (nrs_mem fun t ht => ?_)
    obtain ⟨i, _, rfl⟩ := List.mem_map.mp ht
    exact nr_int i
theorem draws2 (n a b : Int) (ha : 0 < a ∧ a < 2 ^ 64) (hb : 0 < b ∧ b < 2 ^ 64) : D__law_draws [.int n, .lst [.int a, .int b]] = .ok (.lst [.int (n % a), .int (n / a % b)]) := draws_eq n [a, b] (by simpa using ⟨ha, hb⟩) (by simp)
theorem draws3 (n a b c : Int) (ha : 0 < a ∧ a < 2 ^ 64) (hb : 0 < b ∧ b < 2 ^ 64) (hc : 0 < c ∧ c < 2 ^ 64) : D__law_draws [.int n, .lst [.int a, .int b, .int c]] = .ok (.lst [.int (n % a), .int (n / a % b), .int (n / a / b % c)]) := draws_eq n [a, b, c] (by simpa using ⟨ha, hb, hc⟩) (by simp)
theorem draws4 (n a b c d : Int) (ha : 0 < a ∧ a < 2 ^ 64) (hb : 0 < b ∧ b < 2 ^ 64) (hc : 0 < c ∧ c < 2 ^ 64) (hd : 0 < d ∧ d < 2 ^ 64) : D__law_draws [.int n, .lst [.int a, .int b, .int c, .int d]] = .ok (.lst [.int (n % a), .int (n / a % b), .int (n / a / b % c), .int (n / a / b / c % d)]) := draws_eq n [a, b, c, d] (by simpa using ⟨ha, hb, hc, hd⟩) (by simp)
theorem isE {c k : Str} {b : Bool} (h : rowOf sub_rows (c, .inr k) = some b) : isiU (isiE sub_tab) [.exo c, .cl k] = some (.bl b) := by
  show (rowOf sub_rows (c, .inr k)).map T.bl = _
  rw [h]
  rfl
theorem isEt {c : Str} {n : String} {b : Bool} (h : rowOf sub_rows (c, .inl n) = some b) : isiU (isiE sub_tab) [.exo c, .ty n] = some (.bl b) := by
  show (rowOf sub_rows (c, .inl n)).map T.bl = _
  rw [h]
  rfl
theorem ix_n (xs : List T) (n : Nat) : ixT (.lst xs) (.int (n : Nat)) = (if n < xs.length then xs[n]? else none) := by
  show atI xs (n : Nat) = _
  unfold atI ixN
  rw [if_pos (by omega)]
  by_cases h : n < xs.length
  · rw [if_pos (by omega), if_pos h]; rfl
  · rw [if_neg (by omega), if_neg h]; rfl
theorem wg0 : isiU (isiE sub_tab) [.exo "NoGrammar", .cl "NoGrammar"] = some (.bl true) := isE (by decide +kernel)
theorem wg1 : isiU (isiE sub_tab) [.exo "NoGrammar", .cl "NoText"] = some (.bl false) := isE (by decide +kernel)
theorem wg2 : isiU (isiE sub_tab) [.exo "NoGrammar", .cl "NoRow"] = some (.bl false) := isE (by decide +kernel)
theorem wg3 : isiU (isiE sub_tab) [.exo "NoGrammar", .cl "NoPart"] = some (.bl false) := isE (by decide +kernel)
theorem wg4 : isiU (isiE sub_tab) [.exo "NoGrammar", .cl "NoTree"] = some (.bl false) := isE (by decide +kernel)
theorem wg5 : isiU (isiE sub_tab) [.exo "NoGrammar", .cl "NoChart"] = some (.bl false) := isE (by decide +kernel)
theorem wg6 : isiU (isiE sub_tab) [.exo "NoGrammar", .cl "NoTable"] = some (.bl false) := isE (by decide +kernel)
theorem wg7 : isiU (isiE sub_tab) [.exo "NoGrammar", .cl "NoMachine"] = some (.bl false) := isE (by decide +kernel)
theorem wg8 : isiU (isiE sub_tab) [.exo "NoGrammar", .cl "NoDeed"] = some (.bl false) := isE (by decide +kernel)
theorem wg9 : isiU (isiE sub_tab) [.exo "NoGrammar", .cl "TooMany"] = some (.bl false) := isE (by decide +kernel)
theorem wgv : isiU (isiE sub_tab) [.exo "NoGrammar", .ty "ValueError"] = some (.bl true) := isEt (by decide +kernel)
theorem wgc : countT [T.bl true, T.bl false, T.bl false, T.bl false, T.bl false, T.bl false, T.bl false, T.bl false, T.bl false, T.bl false] (.bl true) = some (.int 1) := by rfl
theorem wgi : indexT [T.bl true, T.bl false, T.bl false, T.bl false, T.bl false, T.bl false, T.bl false, T.bl false, T.bl false, T.bl false] (.bl true) = some (.int 0) := by rfl
theorem wgw : D__law_word_of [.exo "NoGrammar"] = .ok (.str [78, 111, 71, 114, 97, 109, 109, 97, 114]) := by
  refine runD_ret (t := .str [78, 111, 71, 114, 97, 109, 109, 97, 114]) (ρ := ⟨[some (.exo "NoGrammar"), some (.lst [T.bl true, T.bl false, T.bl false, T.bl false, T.bl false, T.bl false, T.bl false, T.bl false, T.bl false, T.bl false]), some (.lst [.str [78, 111, 71, 114, 97, 109, 109, 97, 114], .str [78, 111, 84, 101, 120, 116], .str [78, 111, 82, 111, 119], .str [78, 111, 80, 97, 114, 116], .str [78, 111, 84, 114, 101, 101], .str [78, 111, 67, 104, 97, 114, 116], .str [78, 111, 84, 97, 98, 108, 101], .str [78, 111, 77, 97, 99, 104, 105, 110, 101], .str [78, 111, 68, 101, 101, 100]])], []⟩) ?_ fz_str
  have n1 : neT (.int 1) (.int 1) = some (.bl false) := ne_ii 1 1
  simp -implicitDefEqProofs only [b__law_word_of, fSeq, fIfS, fRet, fRetN, fNext, fAsg, fAsgG, fPar, fDrop, fOr, fAnd, fNot, fTest, fTruth, fAndV, fOrV, fNotV, fIf, fChain, fCall, fCallN, fCallD, fCons, fNil, fVar, fC, fBin, fTup, fFrz, fOwn, fLstN, fSlice, fNoPart, fPart, fSet, fGTup, fGCons, fGNil, rb_ok, rb_exc, rb_stk, noExc, Env.put, List.getElem?_cons_zero, List.getElem?_cons_succ, List.set_cons_zero, List.set_cons_succ, List.length_cons, List.length_nil, vw_non, vw_bl, vw_int, vw_str, vw_ty, vw_tup, vw_lst, vw_dct, vw_dcN, vw_exo, vw_cl, vw_obj, List.map_cons, List.map_nil, if_true, if_false, reduceIte, nr_non, nr_bl, nr_int, nr_str, nr_ty, nr_tup, nr_lst, nrs_nil, nrs_cons, Bool.and_true, Bool.true_and, Bool.and_false, Bool.false_and, Bool.not_true, Bool.not_false, Bool.or_false, Bool.false_or, Nat.reduceAdd, Nat.reduceLT, Nat.reduceLeDiff, Nat.reduceEqDiff, Nat.zero_add, initE, List.cons_append, List.nil_append, List.replicate, List.replicate_succ, List.replicate_zero, Nat.reduceSub, Bool.false_eq_true, decide_true, decide_false, and_true, true_and, and_self, fz_bl, fz_int, fz_str, fz_non, isU_s, isU_t, fLM, wg0, wg1, wg2, wg3, wg4, wg5, wg6, wg7, wg8, wg9, wgv, wgc, wgi, n1, add_ll, ix_n, Nat.reduceLeDiff]
  rfl
theorem wm0 : isiU (isiE sub_tab) [.exo "TooMany", .cl "NoGrammar"] = some (.bl false) := isE (by decide +kernel)
theorem wm1 : isiU (isiE sub_tab) [.exo "TooMany", .cl "NoText"] = some (.bl false) := isE (by decide +kernel)
theorem wm2 : isiU (isiE sub_tab) [.exo "TooMany", .cl "NoRow"] = some (.bl false) := isE (by decide +kernel)
theorem wm3 : isiU (isiE sub_tab) [.exo "TooMany", .cl "NoPart"] = some (.bl false) := isE (by decide +kernel)
theorem wm4 : isiU (isiE sub_tab) [.exo "TooMany", .cl "NoTree"] = some (.bl false) := isE (by decide +kernel)
theorem wm5 : isiU (isiE sub_tab) [.exo "TooMany", .cl "NoChart"] = some (.bl false) := isE (by decide +kernel)
theorem wm6 : isiU (isiE sub_tab) [.exo "TooMany", .cl "NoTable"] = some (.bl false) := isE (by decide +kernel)
theorem wm7 : isiU (isiE sub_tab) [.exo "TooMany", .cl "NoMachine"] = some (.bl false) := isE (by decide +kernel)
theorem wm8 : isiU (isiE sub_tab) [.exo "TooMany", .cl "NoDeed"] = some (.bl false) := isE (by decide +kernel)
theorem wm9 : isiU (isiE sub_tab) [.exo "TooMany", .cl "TooMany"] = some (.bl true) := isE (by decide +kernel)
theorem wmv : isiU (isiE sub_tab) [.exo "TooMany", .ty "ValueError"] = some (.bl true) := isEt (by decide +kernel)
theorem wmc : countT [T.bl false, T.bl false, T.bl false, T.bl false, T.bl false, T.bl false, T.bl false, T.bl false, T.bl false, T.bl true] (.bl true) = some (.int 1) := by rfl
theorem wmi : indexT [T.bl false, T.bl false, T.bl false, T.bl false, T.bl false, T.bl false, T.bl false, T.bl false, T.bl false, T.bl true] (.bl true) = some (.int 9) := by rfl
theorem wmw : D__law_word_of [.exo "TooMany"] = .ok (.str [84, 111, 111, 77, 97, 110, 121]) := by
  refine runD_ret (t := .str [84, 111, 111, 77, 97, 110, 121]) (ρ := ⟨[some (.exo "TooMany"), some (.lst [T.bl false, T.bl false, T.bl false, T.bl false, T.bl false, T.bl false, T.bl false, T.bl false, T.bl false, T.bl true]), some (.lst [.str [78, 111, 71, 114, 97, 109, 109, 97, 114], .str [78, 111, 84, 101, 120, 116], .str [78, 111, 82, 111, 119], .str [78, 111, 80, 97, 114, 116], .str [78, 111, 84, 114, 101, 101], .str [78, 111, 67, 104, 97, 114, 116], .str [78, 111, 84, 97, 98, 108, 101], .str [78, 111, 77, 97, 99, 104, 105, 110, 101], .str [78, 111, 68, 101, 101, 100]])], []⟩) ?_ fz_str
  have n1 : neT (.int 1) (.int 1) = some (.bl false) := ne_ii 1 1
  simp -implicitDefEqProofs only [b__law_word_of, fSeq, fIfS, fRet, fRetN, fNext, fAsg, fAsgG, fPar, fDrop, fOr, fAnd, fNot, fTest, fTruth, fAndV, fOrV, fNotV, fIf, fChain, fCall, fCallN, fCallD, fCons, fNil, fVar, fC, fBin, fTup, fFrz, fOwn, fLstN, fSlice, fNoPart, fPart, fSet, fGTup, fGCons, fGNil, rb_ok, rb_exc, rb_stk, noExc, Env.put, List.getElem?_cons_zero, List.getElem?_cons_succ, List.set_cons_zero, List.set_cons_succ, List.length_cons, List.length_nil, vw_non, vw_bl, vw_int, vw_str, vw_ty, vw_tup, vw_lst, vw_dct, vw_dcN, vw_exo, vw_cl, vw_obj, List.map_cons, List.map_nil, if_true, if_false, reduceIte, nr_non, nr_bl, nr_int, nr_str, nr_ty, nr_tup, nr_lst, nrs_nil, nrs_cons, Bool.and_true, Bool.true_and, Bool.and_false, Bool.false_and, Bool.not_true, Bool.not_false, Bool.or_false, Bool.false_or, Nat.reduceAdd, Nat.reduceLT, Nat.reduceLeDiff, Nat.reduceEqDiff, Nat.zero_add, initE, List.cons_append, List.nil_append, List.replicate, List.replicate_succ, List.replicate_zero, Nat.reduceSub, Bool.false_eq_true, decide_true, decide_false, and_true, true_and, and_self, fz_bl, fz_int, fz_str, fz_non, isU_s, isU_t, fLM, wm0, wm1, wm2, wm3, wm4, wm5, wm6, wm7, wm8, wm9, wmv, wmc, wmi, n1, add_ll, ix_n, Nat.reduceLeDiff]
  rfl
/-! ### Grammar(rules), tried -/
theorem nr_gramT (qs : List (List Nat × List (List Nat))) : (gramT qs).nr = true := by
  have nn : (numsT qs).nr = true := nr_numsT qs (numbersF_nr _ _ _ fun q hq => nomatch hq)
  have nw : T.nrd (wdct (onceS [] (sortS (wordsOf qs)))) = true := by
    generalize onceS [] (sortS (wordsOf qs)) = K
    induction K with
    | nil => simp [wdct, T.nrd]
    | cons k K ih => unfold wdct at *; rw [List.map_cons, T.nrd, ih]; first | rfl | simp [nr_str, nr_bl]
  have nk : (T.dct (wdct (onceS [] (sortS (wordsOf qs))))).nr = true := by first | (simp only [T.nr]; exact nw) | (rw [T.nr]; exact nw)
  have np : (T.tup ((numsOf qs).map fun q => T.str q.1)).nr = true := by rw [nr_tup]; exact nrs_mem fun t ht => by obtain ⟨q, _, rfl⟩ := List.mem_map.mp ht; exact nr_str _
  have n1 : (T.tup (qs.map mkR)).nr = true := by rw [nr_tup]; exact nrs_mkR qs
  have n2 : (T.tup ((sortS (wordsOf qs)).map T.str)).nr = true := by rw [nr_tup]; exact nrs_strs _
  unfold gramT
  generalize T.tup (qs.map mkR) = a at *
  generalize numsT qs = b at *
  generalize T.tup ((numsOf qs).map fun q => T.str q.1) = c at *
  generalize T.tup ((sortS (wordsOf qs)).map T.str) = d at *
  generalize T.dct (wdct (onceS [] (sortS (wordsOf qs)))) = e at *
  simp [T.nr, T.nrf, n1, nn, np, n2, nk]
theorem made_ok {t : T} {qs : List (List Nat × List (List Nat))} (hn : t.nr = true) (h : D_Grammar___init__ [t] = .ok (gramT qs)) : D__law_made [t] = .ok (.tup (qs.map mkR)) := by
  refine runD_ret (t := .tup (qs.map mkR)) (ρ := ⟨[some t, some (gramT qs), some .non, none], []⟩) ?_ (fz_tup (nrs_mkR qs))
  have ng := nr_gramT qs
  have lk : ∀ μ, vw μ (gramT qs) = gramT qs := fun _ => rfl
  have mk : fMake D_Grammar___init__ 1 (fCons (fVar 0) fNil) ⟨[some t, some .non, some .non, none], []⟩ = .ok (gramT qs, ⟨[some t, some .non, some .non, none], []⟩) := by
    unfold fMake
    have e : (fCons (fVar 0) fNil) ⟨[some t, some .non, some .non, none], []⟩ = .ok ([t], ⟨[some t, some .non, some .non, none], []⟩) := rfl
    rw [e]
    simp only [rb_ok]
    rw [if_pos ⟨rfl, by rw [nrs_cons, hn, nrs_nil]; rfl⟩, h]
    simp only [ng, if_true]
  have is1 : isT .non .non = some (.bl true) := rfl
  have fl : fFld "Grammar" "rules" (fVar 1) ⟨[some t, some (gramT qs), some .non, none], []⟩ = .ok (.tup (qs.map mkR), ⟨[some t, some (gramT qs), some .non, none], []⟩) := by
    unfold fFld
    have e : fVar 1 ⟨[some t, some (gramT qs), some .non, none], []⟩ = .ok (gramT qs, ⟨[some t, some (gramT qs), some .non, none], []⟩) := rfl
    rw [e]
    simp only [rb_ok, lk]
    rfl
  simp -implicitDefEqProofs only [b__law_made, fSeq, fIfS, fRet, fRetN, fNext, fAsg, fAsgG, fPar, fDrop, fOr, fAnd, fNot, fTest, fTruth, fAndV, fOrV, fNotV, fIf, fChain, fCall, fCallN, fCallD, fCons, fNil, fVar, fC, fBin, fTup, fFrz, fOwn, fLstN, fSlice, fNoPart, fPart, fSet, fGTup, fGCons, fGNil, rb_ok, rb_exc, rb_stk, noExc, Env.put, List.getElem?_cons_zero, List.getElem?_cons_succ, List.set_cons_zero, List.set_cons_succ, List.length_cons, List.length_nil, vw_non, vw_bl, vw_int, vw_str, vw_ty, vw_tup, vw_lst, vw_dct, vw_dcN, vw_exo, vw_cl, vw_obj, List.map_cons, List.map_nil, if_true, if_false, reduceIte, nr_non, nr_bl, nr_int, nr_str, nr_ty, nr_tup, nr_lst, nrs_nil, nrs_cons, Bool.and_true, Bool.true_and, Bool.and_false, Bool.false_and, Bool.not_true, Bool.not_false, Bool.or_false, Bool.false_or, Nat.reduceAdd, Nat.reduceLT, Nat.reduceLeDiff, Nat.reduceEqDiff, Nat.zero_add, initE, List.cons_append, List.nil_append, List.replicate, List.replicate_succ, List.replicate_zero, Nat.reduceSub, Bool.false_eq_true, decide_true, decide_false, and_true, true_and, and_self, fz_bl, fz_int, fz_str, fz_non, isU_s, isU_t, fTry, mk, is1, fl]
theorem made_exc {t : T} {c : Str} {l : List Nat} (hn : t.nr = true) (h : D_Grammar___init__ [t] = .exc ⟨c, []⟩) (hc : cat_ReadError c = some true) (hw : D__law_word_of [.exo c] = .ok (.str l)) : D__law_made [t] = .ok (.str l) := by
  refine runD_ret (t := .str l) (ρ := ⟨[some t, some .non, some (.exo c), none], []⟩) ?_ fz_str
  have mk : fMake D_Grammar___init__ 1 (fCons (fVar 0) fNil) ⟨[some t, some .non, some .non, none], []⟩ = .exc ⟨c, []⟩ ⟨[some t, some .non, some .non, none], []⟩ := by
    unfold fMake
    have e : (fCons (fVar 0) fNil) ⟨[some t, some .non, some .non, none], []⟩ = .ok ([t], ⟨[some t, some .non, some .non, none], []⟩) := rfl
    rw [e]
    simp only [rb_ok]
    rw [if_pos ⟨rfl, by rw [nrs_cons, hn, nrs_nil]; rfl⟩, h]
  have is1 : isT (.exo c) .non = some (.bl false) := rfl
  have nx : (T.exo c).nr = true := by simp [T.nr]
  have tr : fTry cat_ReadError 3 2 (fAsg 1 (fMake D_Grammar___init__ 1 (fCons (fVar 0) fNil))) ⟨[some t, some .non, some .non, none], []⟩ = .ok (.next ⟨[some t, some .non, some (.exo c), none], []⟩) := by
    unfold fTry fAsg
    rw [mk]
    simp only [rb_exc, hc]
    rfl
  have cw : fCallD D__law_word_of 1 (fCons (fVar 2) fNil) ⟨[some t, some .non, some (.exo c), none], []⟩ = .ok (.str l, ⟨[some t, some .non, some (.exo c), none], []⟩) := fCallD_eq (ts := [.exo c]) rfl rfl (by rw [nrs_cons, nx, nrs_nil]; rfl) hw (nr_str _)
  simp -implicitDefEqProofs only [b__law_made, fSeq, fIfS, fRet, fRetN, fNext, fAsg, fAsgG, fPar, fDrop, fOr, fAnd, fNot, fTest, fTruth, fAndV, fOrV, fNotV, fIf, fChain, fCall, fCallN, fCallD, fCons, fNil, fVar, fC, fBin, fTup, fFrz, fOwn, fLstN, fSlice, fNoPart, fPart, fSet, fGTup, fGCons, fGNil, rb_ok, rb_exc, rb_stk, noExc, Env.put, List.getElem?_cons_zero, List.getElem?_cons_succ, List.set_cons_zero, List.set_cons_succ, List.length_cons, List.length_nil, vw_non, vw_bl, vw_int, vw_str, vw_ty, vw_tup, vw_lst, vw_dct, vw_dcN, vw_exo, vw_cl, vw_obj, List.map_cons, List.map_nil, if_true, if_false, reduceIte, nr_non, nr_bl, nr_int, nr_str, nr_ty, nr_tup, nr_lst, nrs_nil, nrs_cons, Bool.and_true, Bool.true_and, Bool.and_false, Bool.false_and, Bool.not_true, Bool.not_false, Bool.or_false, Bool.false_or, Nat.reduceAdd, Nat.reduceLT, Nat.reduceLeDiff, Nat.reduceEqDiff, Nat.zero_add, initE, List.cons_append, List.nil_append, List.replicate, List.replicate_succ, List.replicate_zero, Nat.reduceSub, Bool.false_eq_true, decide_true, decide_false, and_true, true_and, and_self, fz_bl, fz_int, fz_str, fz_non, isU_s, isU_t, tr, is1, nx, hw]
theorem cat_g : cat_ReadError "NoGrammar" = some true := by decide +kernel
theorem cat_m : cat_ReadError "TooMany" = some true := by decide +kernel
/-- what the checks refuse, the making refuses -/
theorem make_exc {t : T} {c : Str} (hn : t.nr = true) (h : D_check_rules [t] = .exc ⟨c, []⟩) : D_Grammar___init__ [t] = .exc ⟨c, []⟩ := by
  unfold D_Grammar___init__ runI
  have s0 : fDrop (fCallX D_check_rules 1 (fCons (fVar 1) fNil)) ⟨[some (.ref 0), some t, none], [.obj "Grammar" []]⟩ = .exc ⟨c, []⟩ ⟨[some (.ref 0), some t, none], [.obj "Grammar" []]⟩ := by
    unfold fDrop fCallX
    have e : (fCons (fVar 1) fNil) ⟨[some (.ref 0), some t, none], [.obj "Grammar" []]⟩ = .ok ([t], ⟨[some (.ref 0), some t, none], [.obj "Grammar" []]⟩) := rfl
    rw [e]
    simp only [rb_ok]
    rw [if_pos ⟨rfl, by rw [nrs_cons, hn, nrs_nil]; rfl⟩, h]
    simp only [rb_exc]
  have body : b_Grammar___init__ (initO N_Grammar___init__.length "Grammar" [t]) = .exc ⟨c, []⟩ ⟨[some (.ref 0), some t, none], [.obj "Grammar" []]⟩ := by
    show b_Grammar___init__ ⟨[some (.ref 0), some t, none], [.obj "Grammar" []]⟩ = _
    unfold b_Grammar___init__
    show fSeq _ _ ⟨[some (.ref 0), some t, none], [.obj "Grammar" []]⟩ = _
    unfold fSeq
    rw [s0]
    rfl
  rw [body]
  rfl
theorem made_refused {t : T} (hn : t.nr = true) (h : D_check_rules [t] = .exc ⟨"NoGrammar", []⟩) : D__law_made [t] = .ok (.str [78, 111, 71, 114, 97, 109, 109, 97, 114]) := made_exc hn (make_exc hn h) cat_g wgw
theorem made_many {t : T} (hn : t.nr = true) (h : D_check_rules [t] = .exc ⟨"TooMany", []⟩) : D__law_made [t] = .ok (.str [84, 111, 111, 77, 97, 110, 121]) := made_exc hn (make_exc hn h) cat_m wmw
theorem made_good {qs : List (List Nat × List (List Nat))} (ne : qs ≠ []) (hr : ∀ q ∈ qs, ruleT (mkR q) = true) (nd : (qs.map mkR).Nodup) (hl : qs.length ≤ 300) (h64 : (wordsOf qs).length < 64) : D__law_made [.lst (qs.map mkR)] = .ok (.tup (qs.map mkR)) :=
  made_ok (by rw [nr_lst]; exact nrs_mkR qs) (gram_eq ne hr nd hl h64)
/-! ### things that are no rules, and no lists of rules -/
def oddL : List T := [T.non, T.tup [], T.tup [T.str [112]], T.tup [T.str [112], T.tup [T.str [97]], T.int 1], T.tup [T.str [112], T.lst [T.str [97]]], T.lst [T.str [112], T.tup [T.str [97]]], T.tup [T.str [80], T.tup []], T.tup [T.str [], T.tup []], T.tup [T.str [112], T.tup [T.str [65]]], T.tup [T.str [112], T.str [97, 98]], T.tup [T.str [112], T.non], T.tup [T.int 5, T.tup []], T.tup [T.str [112], T.tup [T.int 5]], T.tup [T.str [97, 98, 99, 100, 101, 102, 103, 104, 105], T.tup []], T.tup [T.str [112], T.tup [T.str [97, 98, 99, 100, 101, 102, 103, 104, 105]]], T.tup [T.str [112], T.tup [T.str [97], T.str [97], T.str [97], T.str [97], T.str [97], T.str [97], T.str [97], T.str [97], T.str [97]]], T.str [112, 32, 61, 32, 97], T.int 7, T.tup [T.str [112], T.tup [T.str [97], T.str []]], T.tup [T.str [112], T.tup [T.tup [T.str [97]]]], T.tup [T.str [112, 32, 113], T.tup []], T.tup [T.str [112], T.tup [T.str [97, 32, 98]]], T.tup [T.non, T.tup []], T.tup [T.str [112], T.dct []], T.dct [(T.str [112], T.tup [])], T.bl true, T.tup [T.str [112], T.tup [T.str [61]]], T.tup [T.str [35], T.tup []], T.tup [T.str [112, 49], T.tup []], T.tup [T.str [112], T.tup [T.str [45]]]]
def noL : List T := [T.non, T.int 5, T.str [], T.str [112], T.dct [], T.dct [(T.str [112], T.int 1)], T.bl true, T.lst [], T.tup [], T.lst [T.tup []], T.lst [T.lst []], T.lst [T.tup [T.str [112], T.tup []], T.non]]
def pdOk (d : PyData) : Bool := d.showable && (decide (d.depth ≤ 5) && (d.leavesShort 8 && decide (d.bulk ≤ 300)))
def pdB (t : T) : Bool := match T.pd t with
  | some d => pdOk d
  | none => false
theorem odd_run (c : Int) : b__law_odd_rule (initE 2 [.int c]) = fRet (fBin ixT (fVar 1) (fBin modT (fVar 0) (fC (.int 30)))) ⟨[some (.int c), some (.lst oddL)], []⟩ := by rfl
theorem no_run (c : Int) : b__law_no_list (initE 2 [.int c]) = fRet (fBin ixT (fBin addT (fVar 1) (fFrz (fLstN (fCons (fFrz (fLstN (fCons (fTup (fCons (fC (.str [112])) (fCons (fTup fNil) fNil))) (fCons (fC .non) fNil)))) fNil)))) (fBin modT (fVar 0) (fC (.int 12)))) ⟨[some (.int c), some (.lst (noL.take 11))], []⟩ := by rfl
theorem odd_len : oddL.length = 30 := rfl
theorem odd_all : oddL.all (fun t => okN 2 t && (!ruleT t && pdB t)) = true := by decide +kernel
theorem no_all : noL.all (fun t => t.base && (t.nr && pdB t)) = true := by decide +kernel
theorem odd_eq (c : Int) : ∃ x ∈ oddL, D__law_odd_rule [.int c] = .ok x ∧ okN 2 x = true ∧ ruleT x = false ∧ pdB x = true := by
  have a1 := Int.emod_nonneg c (b := 30) (by decide)
  have a2 := Int.emod_lt_of_pos c (b := 30) (by decide)
  obtain ⟨x, hx, e⟩ := ix_l' oddL (c % 30) a1 (by rw [odd_len]; exact a2)
  have p := List.all_eq_true.mp odd_all x hx
  rw [Bool.and_eq_true, Bool.and_eq_true] at p
  refine ⟨x, hx, runD_ret (t := x) (ρ := ⟨[some (.int c), some (.lst oddL)], []⟩) ?_ (fz_nr (okN_ok p.1).2), p.1, by simpa using p.2.1, p.2.2⟩
  show b__law_odd_rule (initE 2 [.int c]) = _
  rw [odd_run]
  generalize oddL = l at *
  simp -implicitDefEqProofs only [fSeq, fIfS, fRet, fRetN, fNext, fAsg, fAsgG, fPar, fDrop, fOr, fAnd, fNot, fTest, fTruth, fAndV, fOrV, fNotV, fIf, fChain, fCall, fCallN, fCallD, fCons, fNil, fVar, fC, fBin, fTup, fFrz, fOwn, fLstN, fSlice, fNoPart, fPart, fSet, fGTup, fGCons, fGNil, rb_ok, rb_exc, rb_stk, noExc, Env.put, List.getElem?_cons_zero, List.getElem?_cons_succ, List.set_cons_zero, List.set_cons_succ, List.length_cons, List.length_nil, vw_non, vw_bl, vw_int, vw_str, vw_ty, vw_tup, vw_lst, vw_dct, vw_dcN, vw_exo, vw_cl, vw_obj, List.map_cons, List.map_nil, if_true, if_false, reduceIte, nr_non, nr_bl, nr_int, nr_str, nr_ty, nr_tup, nr_lst, nrs_nil, nrs_cons, Bool.and_true, Bool.true_and, Bool.and_false, Bool.false_and, Bool.not_true, Bool.not_false, Bool.or_false, Bool.false_or, Nat.reduceAdd, Nat.reduceLT, Nat.reduceLeDiff, Nat.reduceEqDiff, Nat.zero_add, initE, List.cons_append, List.nil_append, List.replicate, List.replicate_succ, List.replicate_zero, Nat.reduceSub, Bool.false_eq_true, decide_true, decide_false, and_true, true_and, and_self, fz_bl, fz_int, fz_str, fz_non, isU_s, isU_t, mod_ii c 30 (by decide), e]
theorem no_eq (c : Int) : ∃ x ∈ noL, D__law_no_list [.int c] = .ok x ∧ x.base = true ∧ x.nr = true ∧ pdB x = true := by
  have a1 := Int.emod_nonneg c (b := 12) (by decide)
  have a2 := Int.emod_lt_of_pos c (b := 12) (by decide)
  obtain ⟨x, hx, e⟩ := ix_l' noL (c % 12) a1 (by rw [show noL.length = 12 from rfl]; exact a2)
  have p := List.all_eq_true.mp no_all x hx
  rw [Bool.and_eq_true, Bool.and_eq_true] at p
  refine ⟨x, hx, runD_ret (t := x) (ρ := ⟨[some (.int c), some (.lst (noL.take 11))], []⟩) ?_ (fz_nr p.2.1), p.1, p.2.1, p.2.2⟩
  show b__law_no_list (initE 2 [.int c]) = _
  rw [no_run]
  have two : addT (.lst (noL.take 11)) (.lst [.lst [.tup [.str [112], .tup []], .non]]) = some (.lst noL) := rfl
  generalize noL.take 11 = l at *
  generalize noL = m at *
  simp -implicitDefEqProofs only [fSeq, fIfS, fRet, fRetN, fNext, fAsg, fAsgG, fPar, fDrop, fOr, fAnd, fNot, fTest, fTruth, fAndV, fOrV, fNotV, fIf, fChain, fCall, fCallN, fCallD, fCons, fNil, fVar, fC, fBin, fTup, fFrz, fOwn, fLstN, fSlice, fNoPart, fPart, fSet, fGTup, fGCons, fGNil, rb_ok, rb_exc, rb_stk, noExc, Env.put, List.getElem?_cons_zero, List.getElem?_cons_succ, List.set_cons_zero, List.set_cons_succ, List.length_cons, List.length_nil, vw_non, vw_bl, vw_int, vw_str, vw_ty, vw_tup, vw_lst, vw_dct, vw_dcN, vw_exo, vw_cl, vw_obj, List.map_cons, List.map_nil, if_true, if_false, reduceIte, nr_non, nr_bl, nr_int, nr_str, nr_ty, nr_tup, nr_lst, nrs_nil, nrs_cons, Bool.and_true, Bool.true_and, Bool.and_false, Bool.false_and, Bool.not_true, Bool.not_false, Bool.or_false, Bool.false_or, Nat.reduceAdd, Nat.reduceLT, Nat.reduceLeDiff, Nat.reduceEqDiff, Nat.zero_add, initE, List.cons_append, List.nil_append, List.replicate, List.replicate_succ, List.replicate_zero, Nat.reduceSub, Bool.false_eq_true, decide_true, decide_false, and_true, true_and, and_self, fz_bl, fz_int, fz_str, fz_non, isU_s, isU_t, mod_ii c 12 (by decide), two, e]
/-- what is no list of rules is refused -/
theorem no_made {x : T} (hx : x ∈ noL) (hb : x.base = true) (hn : x.nr = true) : D__law_made [x] = .ok (.str [78, 111, 71, 114, 97, 109, 109, 97, 114]) := by
  refine made_refused hn ?_
  have kinds : ∀ y ∈ noL, (isSeq y = false ∨ y = .lst [] ∨ y = .tup []) ∨ ∃ r rs, y = .lst (r :: rs) ∧ (∀ z ∈ r :: rs, okN 2 z = true) ∧ (r :: rs).all ruleT = false := by
    intro y hy
    simp only [noL, List.mem_cons, List.not_mem_nil, or_false] at hy
    rcases hy with rfl | rfl | rfl | rfl | rfl | rfl | rfl | rfl | rfl | rfl | rfl | rfl
    · exact .inl (.inl rfl)
    · exact .inl (.inl rfl)
    · exact .inl (.inl rfl)
    · exact .inl (.inl rfl)
    · exact .inl (.inl rfl)
    · exact .inl (.inl rfl)
    · exact .inl (.inl rfl)
    · exact .inl (.inr (.inl rfl))
    · exact .inl (.inr (.inr rfl))
    · exact .inr ⟨_, _, rfl, fun z hz => List.all_eq_true.mp (show ([T.tup []].all fun z => okN 2 z) = true by decide +kernel) z hz, by decide +kernel⟩
    · exact .inr ⟨_, _, rfl, fun z hz => List.all_eq_true.mp (show ([T.lst []].all fun z => okN 2 z) = true by decide +kernel) z hz, by decide +kernel⟩
    · exact .inr ⟨_, _, rfl, fun z hz => List.all_eq_true.mp (show ([T.tup [T.str [112], T.tup []], T.non].all fun z => okN 2 z) = true by decide +kernel) z hz, by decide +kernel⟩
  rcases kinds x hx with h | ⟨r, rs, rfl, h1, h2⟩
  · exact check_none hb h
  · exact check_norule h1 h2
/-! ### repr of such lists -/
theorem pd_rule {q : List Nat × List (List Nat)} (h : ruleT (mkR q) = true) : pdB (mkR q) = true := by
  obtain ⟨a, bs, e, h1, h8, h2⟩ := ruleT_of h
  rw [e]
  have nm : ∀ s : List Nat, nameT (.str s) = true → s.length ≤ 8 ∧ ∀ c ∈ s, c < 16 ^ 8 := fun s hs => by
    have hs : (decide (1 ≤ s.length) && (decide (s.length ≤ 8) && s.all lowc)) = true := hs
    rw [Bool.and_eq_true, Bool.and_eq_true] at hs
    refine ⟨of_decide_eq_true hs.2.1, fun c hc => ?_⟩
    have := List.all_eq_true.mp hs.2.2 c hc
    unfold lowc at this
    rw [Bool.and_eq_true] at this
    have := of_decide_eq_true this.2
    omega
  have pds : T.pds (bs.map T.str) = some (bs.map fun s => PyData.str (S s)) := by
    clear h8 h2 e h
    induction bs with
    | nil => rw [List.map_nil, T.pds]; rfl
    | cons b bs ih => rw [List.map_cons, T.pds, T.pd, ih]; rfl
  have top : T.pd (.tup [.str a, .tup (bs.map T.str)]) = some (.tuple [.str (S a), .tuple (bs.map fun s => PyData.str (S s))]) := by
    rw [T.pd, T.pds, T.pd, T.pds, T.pd, pds, T.pds]
    rfl
  unfold pdB
  rw [top]
  have f1 : PyData.showableAll (bs.map fun s => PyData.str (S s)) = true := by
    clear h8 h2 e h pds top
    induction bs with
    | nil => simp [PyData.showableAll]
    | cons b bs ih => rw [List.map_cons]; simp only [PyData.showableAll, PyData.showable, ih]; rfl
  have f2 : PyData.depthAll (bs.map fun s => PyData.str (S s)) = 0 := by
    clear h8 h2 e h pds top f1
    induction bs with
    | nil => simp [PyData.depthAll]
    | cons b bs ih => rw [List.map_cons]; simp only [PyData.depthAll, PyData.depth, ih]; rfl
  have f3 : PyData.leavesShortAll 8 (bs.map fun s => PyData.str (S s)) = true := by
    clear h8 e h pds top f1 f2
    induction bs with
    | nil => simp [PyData.leavesShortAll]
    | cons b bs ih =>
      rw [List.map_cons]
      simp only [PyData.leavesShortAll, PyData.leavesShort, ih fun s hs => h2 s (List.mem_cons_of_mem _ hs), Bool.and_true, List.all_eq_true, decide_eq_true_eq]
      exact fun c hc => (nm b (h2 b (List.mem_cons_self ..))).2 c (by simpa using hc)
  have f4 : PyData.bulkAll (bs.map fun s => PyData.str (S s)) ≤ 9 * bs.length := by
    clear h8 e h pds top f1 f2 f3
    induction bs with
    | nil => simp [PyData.bulkAll]
    | cons b bs ih =>
      have := ih fun s hs => h2 s (List.mem_cons_of_mem _ hs)
      have l := (nm b (h2 b (List.mem_cons_self ..))).1
      rw [List.map_cons]
      simp only [PyData.bulkAll, PyData.bulk, List.length_cons, List.size_toArray]
      omega
  obtain ⟨l1, c1⟩ := nm a h1
  have f5 : (PyData.str (S a)).leavesShort 8 = true := by
    simp only [PyData.leavesShort, List.all_eq_true, decide_eq_true_eq]
    exact fun c hc => c1 c (by simpa using hc)
  unfold pdOk
  simp only [PyData.showable, PyData.showableAll, PyData.depth, PyData.depthAll, PyData.leavesShortAll, f5, PyData.leavesShort, f3, f1, f2, PyData.bulk, PyData.bulkAll, Bool.and_true, Bool.true_and, List.size_toArray]
  rw [Bool.and_eq_true, Bool.and_eq_true]
  exact ⟨by decide, List.all_eq_true.mpr (fun c hc => decide_eq_true (c1 c hc)), decide_eq_true (by omega)⟩
theorem pd_list : ∀ {ts : List T}, (∀ t ∈ ts, pdB t = true) → ∃ ds, T.pds ts = some ds ∧ PyData.showableAll ds = true ∧ PyData.depthAll ds ≤ 5 ∧ PyData.leavesShortAll 8 ds = true ∧ PyData.bulkAll ds ≤ 301 * ts.length
  | [], _ => ⟨[], by rw [T.pds], by simp [PyData.showableAll], by simp [PyData.depthAll], by simp [PyData.leavesShortAll], by simp [PyData.bulkAll]⟩
  | t :: ts, h => by
    obtain ⟨ds, e, s1, s2, s3, s4⟩ := pd_list fun x hx => h x (List.mem_cons_of_mem _ hx)
    have ht := h t (List.mem_cons_self ..)
    unfold pdB at ht
    cases hd : T.pd t with
    | none => rw [hd] at ht; cases ht
    | some d =>
      rw [hd] at ht
      have ht : pdOk d = true := ht
      unfold pdOk at ht
      rw [Bool.and_eq_true, Bool.and_eq_true, Bool.and_eq_true] at ht
      obtain ⟨p1, p2, p3, p4⟩ := ht
      have p2 := of_decide_eq_true p2
      have p4 := of_decide_eq_true p4
      refine ⟨d :: ds, by rw [T.pds, hd, e], by simp only [PyData.showableAll, p1, s1, Bool.and_self], by simp only [PyData.depthAll]; omega, by simp only [PyData.leavesShortAll, p3, s3, Bool.and_self], by simp only [PyData.bulkAll, List.length_cons]; omega⟩
theorem repr_of {t : T} {d : PyData} (hd : T.pd t = some d) (h1 : d.showable = true) (h2 : d.depth ≤ 20) (h3 : d.leavesShort 8 = true) (h4 : d.bulk ≤ 100000) : ∃ l, reprT [t] = some (.str l) := by
  have h5 := PyData.shown_le_bulk 8 (Nat.le_refl _) d h3
  refine ⟨d.shown.cps.toList, ?_⟩
  unfold reprT
  simp only [hd]
  exact if_pos ⟨h1, h2, by omega⟩
theorem repr_list {ts : List T} (h : ∀ t ∈ ts, pdB t = true) (hl : ts.length ≤ 300) : ∃ l, reprT [.lst ts] = some (.str l) := by
  obtain ⟨ds, e, s1, s2, s3, s4⟩ := pd_list h
  refine repr_of (d := .list ds) (by rw [T.pd, e]; rfl) (by simpa only [PyData.showable] using s1) (by simp only [PyData.depth]; omega) (by simpa only [PyData.leavesShort] using s3) (by simp only [PyData.bulk]; omega)
theorem repr_one {t : T} (h : pdB t = true) : ∃ l, reprT [t] = some (.str l) := by
  unfold pdB at h
  cases hd : T.pd t with
  | none => rw [hd] at h; cases h
  | some d =>
    rw [hd] at h
    have h : pdOk d = true := h
    unfold pdOk at h
    rw [Bool.and_eq_true, Bool.and_eq_true, Bool.and_eq_true] at h
    exact repr_of hd h.1 (Nat.le_trans (of_decide_eq_true h.2.1) (by decide)) h.2.2.1 (Nat.le_trans (of_decide_eq_true h.2.2.2) (by decide))
end K13
namespace K13
open PySem L2 GxR Gx Tr
/-! ### three hundred rules -/
def manyQ (k : Nat) : List Nat × List (List Nat) := ([112, 97 + k / 26], [[97 + k % 26]])
def manyQs (n : Nat) : List (List Nat × List (List Nat)) := (List.range n).map manyQ
abbrev lettersT : T := .str [97, 98, 99, 100, 101, 102, 103, 104, 105, 106, 107, 108, 109, 110, 111, 112, 113, 114, 115, 116, 117, 118, 119, 120, 121, 122]
theorem letter_at (n : Nat) (h : n < 26) : ixT lettersT (.int (n : Nat)) = some (.str [97 + n]) := by
  have e : ([97, 98, 99, 100, 101, 102, 103, 104, 105, 106, 107, 108, 109, 110, 111, 112, 113, 114, 115, 116, 117, 118, 119, 120, 121, 122] : List Nat) = (List.range 26).map (97 + ·) := by decide
  have g : ((List.range 26).map (97 + ·))[n]? = some (97 + n) := by rw [List.getElem?_map, List.getElem?_range h]; rfl
  exact ix_s _ (n : Nat) _ (by decide) (by omega) (by rw [e, Int.toNat_natCast]; exact g)
theorem div_nat (k m : Nat) (h : 0 < m) (hm : m < 1000) : divT (.int (k : Nat)) (.int (m : Nat)) = some (.int ((k / m : Nat) : Int)) := by
  rw [div_ii (k : Nat) (m : Nat) (by omega) (by omega)]
  rfl
theorem mod_nat (k m : Nat) (h : 0 < m) : modT (.int (k : Nat)) (.int (m : Nat)) = some (.int ((k % m : Nat) : Int)) := by
  rw [mod_ii (k : Nat) (m : Nat) (by omega)]
  rfl
theorem many_loop (c : T) (n : Nat) (hn : n ≤ 302) : ∃ b, forLoop (fSet 3) (fDrop (fAppend (fVar 2) (fTup (fCons (fBin addT (fC (.str [112])) (fBin ixT (fVar 1) (fBin divT (fVar 3) (fC (.int 26))))) (fCons (fTup (fCons (fBin ixT (fVar 1) (fBin modT (fVar 3) (fC (.int 26)))) fNil)) fNil))))) .non .non
    ((List.range n).map fun (k : Nat) => T.int (0 + (k : Int))) ⟨[some c, some lettersT, some (.ref 0), none], [.lst []]⟩ = .ok (.next ⟨[some c, some lettersT, some (.ref 0), b], [.lst ((manyQs n).map mkR)]⟩) := by
  have key := forLoop_post (g := fSet 3) (fb := fDrop (fAppend (fVar 2) (fTup (fCons (fBin addT (fC (.str [112])) (fBin ixT (fVar 1) (fBin divT (fVar 3) (fC (.int 26))))) (fCons (fTup (fCons (fBin ixT (fVar 1) (fBin modT (fVar 3) (fC (.int 26)))) fNil)) fNil))))) (t0 := .non) (u := .non)
    (P := fun fl => ∃ b, fl = .next ⟨[some c, some lettersT, some (.ref 0), b], [.lst ((manyQs n).map mkR)]⟩)
    (fun ts ρ => ∃ (k : Nat) (b : Option T), k ≤ n ∧ ts = ((List.range n).drop k).map (fun (k : Nat) => T.int (0 + (k : Int))) ∧ ρ = ⟨[some c, some lettersT, some (.ref 0), b], [.lst ((manyQs k).map mkR)]⟩) ?_ ?_ ((List.range n).map fun (k : Nat) => T.int (0 + (k : Int))) ⟨[some c, some lettersT, some (.ref 0), none], [.lst []]⟩ ⟨0, none, Nat.zero_le _, rfl, rfl⟩
  · obtain ⟨fl, e, b, rfl⟩ := key
    exact ⟨b, e⟩
  · rintro ρ ⟨k, b, hk, e, rfl⟩
    have l := congrArg List.length e
    rw [List.length_nil, List.length_map, List.length_drop, List.length_range] at l
    obtain rfl : k = n := by omega
    exact ⟨rfl, b, rfl⟩
  · rintro t ts ρ ⟨k, b, hk, e, rfl⟩
    have hlt : k < n := by
      have l := congrArg List.length e
      rw [List.length_cons, List.length_map, List.length_drop, List.length_range] at l
      omega
    have ed : (List.range n).drop k = k :: (List.range n).drop (k + 1) := by
      rw [List.drop_eq_getElem_cons (by rw [List.length_range]; exact hlt), List.getElem_range]
    rw [ed, List.map_cons] at e
    injection e with e1 e2
    subst e1
    have z : (0 : Int) + (k : Int) = (k : Nat) := by omega
    rw [z]
    have d1 := div_nat k 26 (by decide) (by decide)
    have d2 := mod_nat k 26 (by decide)
    have d1 : divT (.int (k : Nat)) (.int 26) = some (.int ((k / 26 : Nat) : Int)) := d1
    have d2 : modT (.int (k : Nat)) (.int 26) = some (.int ((k % 26 : Nat) : Int)) := d2
    have i1 := letter_at (k / 26) (by omega)
    have i2 := letter_at (k % 26) (Nat.mod_lt _ (by decide))
    have ad : addT (.str [112]) (.str [97 + k / 26]) = some (.str [112, 97 + k / 26]) := rfl
    have ln : ((manyQs k).map mkR).length = k := by unfold manyQs; rw [List.length_map, List.length_map, List.length_range]
    have nx : (manyQs (k + 1)).map mkR = (manyQs k).map mkR ++ [.tup [.str [112, 97 + k / 26], .tup [.str [97 + k % 26]]]] := by
      unfold manyQs
      rw [List.range_succ, List.map_append, List.map_append]
      rfl
    refine ⟨rfl, ⟨[some c, some lettersT, some (.ref 0), some (.int (k : Nat))], [.lst ((manyQs k).map mkR)]⟩, .next ⟨[some c, some lettersT, some (.ref 0), some (.int (k : Nat))], [.lst ((manyQs (k + 1)).map mkR)]⟩, rfl, ?_, k + 1, _, hlt, e2, rfl⟩
    rw [nx]
    generalize (manyQs k).map mkR = M at *
    simp -implicitDefEqProofs only [fSeq, fIfS, fRet, fRetN, fNext, fAsg, fAsgG, fPar, fDrop, fOr, fAnd, fNot, fTest, fTruth, fAndV, fOrV, fNotV, fIf, fChain, fCall, fCallN, fCallD, fCons, fNil, fVar, fC, fBin, fTup, fFrz, fOwn, fLstN, fSlice, fNoPart, fPart, fSet, fGTup, fGCons, fGNil, rb_ok, rb_exc, rb_stk, noExc, Env.put, List.getElem?_cons_zero, List.getElem?_cons_succ, List.set_cons_zero, List.set_cons_succ, List.length_cons, List.length_nil, vw_non, vw_bl, vw_int, vw_str, vw_ty, vw_tup, vw_lst, vw_dct, vw_dcN, vw_exo, vw_cl, vw_obj, List.map_cons, List.map_nil, if_true, if_false, reduceIte, nr_non, nr_bl, nr_int, nr_str, nr_ty, nr_tup, nr_lst, nrs_nil, nrs_cons, Bool.and_true, Bool.true_and, Bool.and_false, Bool.false_and, Bool.not_true, Bool.not_false, Bool.or_false, Bool.false_or, Nat.reduceAdd, Nat.reduceLT, Nat.reduceLeDiff, Nat.reduceEqDiff, Nat.zero_add, initE, List.cons_append, List.nil_append, List.replicate, List.replicate_succ, List.replicate_zero, Nat.reduceSub, Bool.false_eq_true, decide_true, decide_false, and_true, true_and, and_self, fz_bl, fz_int, fz_str, fz_non, isU_s, isU_t, fAppend, mulist, d1, d2, i1, i2, ad]
    rw [if_pos (by rw [ln]; omega)]
    rfl
theorem nodup_mkR : ∀ {qs : List (List Nat × List (List Nat))}, qs.Nodup → (qs.map mkR).Nodup
  | [], _ => List.nodup_nil
  | q :: qs, h => by
    rw [List.nodup_cons] at h
    rw [List.map_cons, List.nodup_cons]
    refine ⟨fun z => ?_, nodup_mkR h.2⟩
    obtain ⟨r, hr, e⟩ := List.mem_map.mp z
    unfold mkR at e
    injection e with e
    injection e with e1 e2
    injection e1 with e1
    injection e2 with e2 _
    injection e2 with e2
    have e3 : r.2 = q.2 := by
      have inj : ∀ {a b : List (List Nat)}, a.map T.str = b.map T.str → a = b := fun {a} => by
        induction a with
        | nil => intro b hb; cases b with
          | nil => rfl
          | cons x y => cases hb
        | cons x y ih => intro b hb; cases b with
          | nil => cases hb
          | cons u v =>
            rw [List.map_cons, List.map_cons] at hb
            injection hb with h1 h2
            injection h1 with h1
            rw [h1, ih h2]
      exact inj e2
    exact h.1 (by rw [← Prod.ext e1 e3]; exact hr)
theorem many_rule : (manyQs 302).all (fun q => ruleT (mkR q)) = true := by decide +kernel
theorem many_nodup : (manyQs 302).Nodup := by decide +kernel
theorem many_words : (wordsOf (manyQs 300)).length < 64 := by decide +kernel
end K13
namespace K13
open PySem L2 GxR Gx Tr
theorem manyQs_len (n : Nat) : (manyQs n).length = n := by unfold manyQs; rw [List.length_map, List.length_range]
theorem manyT_len (n : Nat) : ((manyQs n).map mkR).length = n := by rw [List.length_map, manyQs_len]
theorem manyQs_take {n : Nat} (h : n ≤ 302) : manyQs n = (manyQs 302).take n := by
  unfold manyQs
  rw [← List.map_take, List.take_range, Nat.min_eq_left h]
theorem many_rule_n {n : Nat} (h : n ≤ 302) : ∀ q ∈ manyQs n, ruleT (mkR q) = true := fun q hq => by
  rw [manyQs_take h] at hq
  exact List.all_eq_true.mp many_rule q (List.mem_of_mem_take hq)
theorem many_nodup_n {n : Nat} (h : n ≤ 302) : ((manyQs n).map mkR).Nodup := by
  refine nodup_mkR ?_
  rw [manyQs_take h]
  exact List.Sublist.nodup (List.take_sublist _ _) many_nodup
theorem many_rules_n {n : Nat} (h : n ≤ 302) : ∀ x ∈ (manyQs n).map mkR, ruleT x = true := fun x hx => by
  obtain ⟨q, hq, rfl⟩ := List.mem_map.mp hx
  exact many_rule_n h q hq
/-- lists of right things, by the checks -/
theorem refused_odd {ts : List T} {x : T} (hx : x ∈ ts) (h : ∀ y ∈ ts, okN 2 y = true) (hr : ruleT x = false) : D__law_made [.lst ts] = .ok (.str [78, 111, 71, 114, 97, 109, 109, 97, 114]) := by
  cases ts with
  | nil => cases hx
  | cons r rs =>
    refine made_refused (by rw [nr_lst]; exact nrs_mem fun t ht => (okN_ok (h t ht)).2) (check_norule h ?_)
    cases ha : (r :: rs).all ruleT with
    | false => rfl
    | true => rw [List.all_eq_true.mp ha x hx] at hr; cases hr
theorem refused_twice {ts : List T} (ne : ts ≠ []) (h : ∀ y ∈ ts, ruleT y = true) (hl : ts.length ≤ 1000) (nd : ¬ ts.Nodup) : D__law_made [.lst ts] = .ok (.str [78, 111, 71, 114, 97, 109, 109, 97, 114]) := by
  cases ts with
  | nil => exact (ne rfl).elim
  | cons r rs => exact made_refused (by rw [nr_lst]; exact nrs_mem fun t ht => (okN_ok (rule_ok (h t ht))).2) (check_twice (fun x hx => rule_ok (h x hx)) h hl nd)
theorem refused_many {ts : List T} (h : ∀ y ∈ ts, ruleT y = true) (hl : ts.length ≤ 1000) (nd : ts.Nodup) (hm : 300 < ts.length) : D__law_made [.lst ts] = .ok (.str [84, 111, 111, 77, 97, 110, 121]) := by
  cases ts with
  | nil => simp at hm
  | cons r rs => exact made_many (by rw [nr_lst]; exact nrs_mem fun t ht => (okN_ok (rule_ok (h t ht))).2) (check_many (fun x hx => rule_ok (h x hx)) h hl nd hm)
theorem set_mem {α : Type} {l : List α} {i : Nat} {x : α} (h : i < l.length) : x ∈ l.set i x := by
  have := List.getElem?_set_self (a := x) h
  exact List.mem_of_getElem? this
theorem set_twice {α : Type} {l : List α} {i j : Nat} {x : α} (hij : i ≠ j) (hi : i < l.length) (hj : l[j]? = some x) : ¬ (l.set i x).Nodup := fun nd => by
  have e1 : (l.set i x)[i]? = some x := List.getElem?_set_self hi
  have e2 : (l.set i x)[j]? = some x := by rw [List.getElem?_set_ne hij]; exact hj
  obtain ⟨h1, g1⟩ := List.getElem?_eq_some_iff.mp e1
  obtain ⟨h2, g2⟩ := List.getElem?_eq_some_iff.mp e2
  have p := List.pairwise_iff_getElem.mp nd
  rcases Nat.lt_or_gt_of_ne hij with h | h
  · exact p i j h1 h2 h (g1.trans g2.symm)
  · exact p j i h2 h1 h (g2.trans g1.symm)
/-- what _law_many tells, three ways -/
theorem many_eq (c : Int) : ∃ n : Nat, 300 ≤ n ∧ n ≤ 302 ∧ (n : Int) = 300 + c % 3 ∧
    ((c / 3 % 3 = 0 ∧ D__law_many [.int c] = .ok (.lst ((manyQs n).map mkR))) ∨
     (c / 3 % 3 = 1 ∧ ∃ i x, i < n ∧ okN 2 x = true ∧ ruleT x = false ∧ D__law_many [.int c] = .ok (.lst (((manyQs n).map mkR).set i x))) ∨
     (c / 3 % 3 = 2 ∧ ∃ i j x, i < n ∧ i ≠ j ∧ ((manyQs n).map mkR)[j]? = some x ∧ D__law_many [.int c] = .ok (.lst (((manyQs n).map mkR).set i x)))) := by
  have a1 := Int.emod_nonneg c (b := 3) (by decide)
  have a2 := Int.emod_lt_of_pos c (b := 3) (by decide)
  obtain ⟨n, hn⟩ : ∃ n : Nat, (n : Int) = 300 + c % 3 := ⟨(300 + c % 3).toNat, by omega⟩
  have n1 : 300 ≤ n := by omega
  have n2 : n ≤ 302 := by omega
  refine ⟨n, n1, n2, hn, ?_⟩
  obtain ⟨b, lp⟩ := many_loop (.int c) n n2
  have hlen := manyT_len n
  have nrM : T.nrs ((manyQs n).map mkR) = true := nrs_mkR _
  have b1 := Int.emod_nonneg (c / 3) (b := 3) (by decide)
  have b2 := Int.emod_lt_of_pos (c / 3) (b := 3) (by decide)
  have i1 := Int.emod_nonneg (c / 9) (b := 300) (by decide)
  have i2 := Int.emod_lt_of_pos (c / 9) (b := 300) (by decide)
  obtain ⟨i, hi⟩ : ∃ i : Nat, (i : Int) = c / 9 % 300 := ⟨(c / 9 % 300).toNat, by omega⟩
  have hin : i < n := by omega
  have ixi : ixN ((manyQs n).map mkR).length ((i : Nat) : Int) = some i := by
    unfold ixN
    rw [if_pos (by omega), if_pos (by rw [hlen]; omega)]
    rfl
  have pre : ∀ rest : FS, fSeq (fAsg 1 (fC lettersT)) (fSeq (fAsg 2 (fOwn (fLstN fNil))) (fSeq (fFor (fRange1 (fCons (fBin addT (fC (.int 300)) (fBin modT (fVar 0) (fC (.int 3)))) fNil)) (fSet 3) (fDrop (fAppend (fVar 2) (fTup (fCons (fBin addT (fC (.str [112])) (fBin ixT (fVar 1) (fBin divT (fVar 3) (fC (.int 26))))) (fCons (fTup (fCons (fBin ixT (fVar 1) (fBin modT (fVar 3) (fC (.int 26)))) fNil)) fNil)))))) rest)) (initE 4 [.int c]) = rest ⟨[some (.int c), some lettersT, some (.ref 0), b], [.lst ((manyQs n).map mkR)]⟩ := fun rest => by
    have s1 : fAsg 1 (fC lettersT) (initE 4 [.int c]) = .ok (.next ⟨[some (.int c), some lettersT, none, none], []⟩) := rfl
    have s2 : fAsg 2 (fOwn (fLstN fNil)) ⟨[some (.int c), some lettersT, none, none], []⟩ = .ok (.next ⟨[some (.int c), some lettersT, some (.ref 0), none], [.lst []]⟩) := rfl
    rw [seq_step s1, seq_step s2]
    refine seq_step ?_
    unfold fFor
    have rg := range1_eq (fBin addT (fC (.int 300)) (fBin modT (fVar 0) (fC (.int 3)))) n ⟨[some (.int c), some lettersT, some (.ref 0), none], [.lst []]⟩ ⟨[some (.int c), some lettersT, some (.ref 0), none], [.lst []]⟩ (by
      have m3 := mod_ii c 3 (by decide)
      simp only [fBin, fC, fVar, rb_ok, List.getElem?_cons_zero, vw_int, m3, add_ii, ← hn]) (by omega)
    rw [rg]
    simp only [rb_ok]
    exact lp
  have d3 := div_ii c 3 (by decide) (by decide)
  have m3 := mod_ii (c / 3) 3 (by decide)
  have d9 := div_ii c 9 (by decide) (by decide)
  have m300 := mod_ii (c / 9) 300 (by decide)
  rw [← hi] at m300
  have d11 := div_ii c 11 (by decide) (by decide)
  have unf : b__law_many (initE 4 [.int c]) = b__law_many (initE 4 [.int c]) := rfl
  rcases (show c / 3 % 3 = 0 ∨ c / 3 % 3 = 1 ∨ c / 3 % 3 = 2 by omega) with h | h | h
  · refine .inl ⟨h, runD_ret (t := .ref 0) (ρ := ⟨[some (.int c), some lettersT, some (.ref 0), b], [.lst ((manyQs n).map mkR)]⟩) ?_ (fz_lst rfl nrM)⟩
    show b__law_many (initE 4 [.int c]) = _
    unfold b__law_many
    rw [pre]
    rw [h] at m3
    have q1 := eq_ii 0 1
    have q2 := eq_ii 0 2
    generalize (manyQs n).map mkR = M at *
    simp -implicitDefEqProofs only [fSeq, fIfS, fTest, fBin, fVar, fC, fNext, fRet, rb_ok, List.getElem?_cons_zero, List.getElem?_cons_succ, vw_int, d3, m3, q1, q2, decide_false, Bool.false_eq_true, if_false, Int.reduceEq]
  · obtain ⟨x, _, ex, o1, o2, _⟩ := odd_eq (c / 11)
    refine .inr (.inl ⟨h, i, x, hin, o1, o2, runD_ret (t := .ref 0) (ρ := ⟨[some (.int c), some lettersT, some (.ref 0), b], [.lst (((manyQs n).map mkR).set i x)]⟩) ?_ (fz_lst rfl (nrs_mem fun t ht => ?_))⟩)
    · show b__law_many (initE 4 [.int c]) = _
      unfold b__law_many
      rw [pre]
      rw [h] at m3
      have q1 := eq_ii 1 1
      have q2 := eq_ii 1 2
      have xn := (okN_ok o1).2
      generalize (manyQs n).map mkR = M at *
      simp -implicitDefEqProofs only [fSeq, fIfS, fTest, fBin, fVar, fC, fNext, fRet, fAsgG, fSubL, fCallD, fCons, fNil, noExc, mulist, rb_ok, List.getElem?_cons_zero, List.getElem?_cons_succ, List.set_cons_zero, vw_int, d3, m3, d9, m300, d11, q1, q2, ixi, ex, xn, nrs_cons, nr_int, nrs_nil, Bool.and_self, List.length_cons, List.length_nil, and_self, decide_true, decide_false, if_true, Bool.false_eq_true, if_false, Int.reduceEq, Nat.reduceAdd, true_and]
    · rcases List.mem_or_eq_of_mem_set ht with ht | rfl
      · exact mem_nrs nrM t ht
      · exact (okN_ok o1).2
  · have k1 := Int.emod_nonneg (c / 11) (b := 298) (by decide)
    have k2 := Int.emod_lt_of_pos (c / 11) (b := 298) (by decide)
    have j1 := Int.emod_nonneg (c / 9 + 1 + c / 11 % 298) (b := 300) (by decide)
    have j2 := Int.emod_lt_of_pos (c / 9 + 1 + c / 11 % 298) (b := 300) (by decide)
    obtain ⟨j, hj⟩ : ∃ j : Nat, (j : Int) = (c / 9 + 1 + c / 11 % 298) % 300 := ⟨((c / 9 + 1 + c / 11 % 298) % 300).toNat, by omega⟩
    have hjn : j < ((manyQs n).map mkR).length := by rw [hlen]; omega
    have hij : i ≠ j := by omega
    have hx : ((manyQs n).map mkR)[j]? = some ((manyQs n).map mkR)[j] := List.getElem?_eq_getElem hjn
    generalize ((manyQs n).map mkR)[j] = x at *
    have xn : x.nr = true := mem_nrs nrM x (List.mem_of_getElem? hx)
    refine .inr (.inr ⟨h, i, j, x, hin, hij, hx, runD_ret (t := .ref 0) (ρ := ⟨[some (.int c), some lettersT, some (.ref 0), b], [.lst (((manyQs n).map mkR).set i x)]⟩) ?_ (fz_lst rfl (nrs_mem fun t ht => ?_))⟩)
    · show b__law_many (initE 4 [.int c]) = _
      unfold b__law_many
      rw [pre]
      rw [h] at m3
      have q1 := eq_ii 2 1
      have q2 := eq_ii 2 2
      have m298 := mod_ii (c / 11) 298 (by decide)
      have mj := mod_ii (c / 9 + 1 + c / 11 % 298) 300 (by decide)
      rw [← hj] at mj
      have ixj : ixT (.lst ((manyQs n).map mkR)) (.int ((j : Nat) : Int)) = some x := by rw [ix_n, if_pos hjn, hx]
      generalize (manyQs n).map mkR = M at *
      have vr : vw [Node.lst M] (.ref 0) = .lst M := rfl
      simp -implicitDefEqProofs only [fSeq, fIfS, fTest, fBin, fVar, fC, fNext, fRet, fAsgG, fSubL, noExc, mulist, rb_ok, List.getElem?_cons_zero, List.getElem?_cons_succ, List.set_cons_zero, vw_int, vr, d3, m3, d9, m300, d11, m298, add_ii, mj, ixj, q1, q2, ixi, decide_true, decide_false, if_true, Bool.false_eq_true, if_false, Int.reduceEq]
    · rcases List.mem_or_eq_of_mem_set ht with ht | rfl
      · exact mem_nrs nrM t ht
      · exact xn
end K13
namespace K13
open PySem L2 GxR Gx Tr
theorem eqT_self {t : T} (h : t.py.plain = true) (hd : t.py.depth ≤ 60) : eqT t t = some (.bl true) := by
  unfold eqT
  rw [if_pos ⟨h, h, by omega⟩, PySem.SeqAt.eqv_refl_plain _ h]
theorem neT_self {t : T} (h : t.py.plain = true) (hd : t.py.depth ≤ 60) : neT t t = some (.bl false) := by
  unfold neT
  rw [if_pos ⟨h, h, by omega⟩, PySem.SeqAt.eqv_refl_plain _ h]
  rfl
theorem eq_str (a : List Nat) : eqT (.str a) (.str a) = some (.bl true) := eqT_self rfl (by simp [T.py, PyData.depth])
theorem ne_str (a : List Nat) : neT (.str a) (.str a) = some (.bl false) := neT_self rfl (by simp [T.py, PyData.depth])
theorem py_strs (bs : List (List Nat)) : PyData.plainAll (T.pys (bs.map T.str)) = true ∧ PyData.depthAll (T.pys (bs.map T.str)) = 0 := by
  induction bs with
  | nil => simp [T.pys, PyData.plainAll, PyData.depthAll]
  | cons b bs ih =>
    rw [List.map_cons]
    simp only [T.pys, T.py, PyData.plainAll, PyData.plain, PyData.depthAll, PyData.depth, ih.1, ih.2]
    exact ⟨rfl, rfl⟩
theorem py_mkR (q : List Nat × List (List Nat)) : (mkR q).py.plain = true ∧ (mkR q).py.depth ≤ 2 := by
  obtain ⟨h1, h2⟩ := py_strs q.2
  unfold mkR
  simp only [T.py, T.pys, PyData.plain, PyData.plainAll, PyData.depth, PyData.depthAll, h1, h2]
  exact ⟨rfl, by decide⟩
theorem py_rules (qs : List (List Nat × List (List Nat))) : (T.tup (qs.map mkR)).py.plain = true ∧ (T.tup (qs.map mkR)).py.depth ≤ 60 := by
  have : PyData.plainAll (T.pys (qs.map mkR)) = true ∧ PyData.depthAll (T.pys (qs.map mkR)) ≤ 2 := by
    induction qs with
    | nil => simp [T.pys, PyData.plainAll, PyData.depthAll]
    | cons q qs ih =>
      obtain ⟨a, b⟩ := py_mkR q
      rw [List.map_cons]
      simp only [T.pys, PyData.plainAll, PyData.depthAll, a, ih.1]
      exact ⟨rfl, by have := ih.2; omega⟩
  simp only [T.py, PyData.plain, PyData.depth]
  exact ⟨this.1, by omega⟩
theorem many_right (c : Int) : D__law_many_right [.int c] = .ok (.bl true) := by
  obtain ⟨n, n1, n2, hn, cases3⟩ := many_eq c
  have d3 := div_ii c 3 (by decide) (by decide)
  have m3 := mod_ii (c / 3) 3 (by decide)
  have hlen := manyT_len n
  have rN := many_rules_n n2
  rcases cases3 with ⟨h, e⟩ | ⟨h, i, x, hi, o1, o2, e⟩ | ⟨h, i, j, x, hi, hij, hx, e⟩
  · rw [h] at m3
    have g0 := gt_ii 0 0
    have nM : (T.lst ((manyQs n).map mkR)).nr = true := by rw [nr_lst]; exact nrs_mkR _
    have nU : (T.tup ((manyQs n).map mkR)).nr = true := by rw [nr_tup]; exact nrs_mkR _
    by_cases h300 : n = 300
    · have made : D__law_made [.lst ((manyQs n).map mkR)] = .ok (.tup ((manyQs n).map mkR)) := made_good (by intro z; have := manyQs_len n; rw [z] at this; simp at this; omega) (many_rule_n n2) (many_nodup_n n2) (by rw [manyQs_len]; omega) (by rw [h300]; exact many_words)
      have pl := py_rules (manyQs n)
      have es := eqT_self pl.1 pl.2
      have l1 : eqT (.int ((((manyQs n).map mkR).length : Nat) : Int)) (.int 300) = some (.bl true) := by rw [eq_ii, decide_eq_true (by rw [hlen]; omega)]
      generalize (manyQs n).map mkR = M at *
      refine runD_ret (t := .bl true) (ρ := ⟨[some (.int c), some (.lst M), some (.tup M)], []⟩) ?_ fz_bl
      simp -implicitDefEqProofs only [b__law_many_right, fSeq, fIfS, fRet, fRetN, fNext, fAsg, fAsgG, fPar, fDrop, fOr, fAnd, fNot, fTest, fTruth, fAndV, fOrV, fNotV, fIf, fChain, fCall, fCallN, fCallD, fCons, fNil, fVar, fC, fBin, fTup, fFrz, fOwn, fLstN, fSlice, fNoPart, fPart, fSet, fGTup, fGCons, fGNil, rb_ok, rb_exc, rb_stk, noExc, Env.put, List.getElem?_cons_zero, List.getElem?_cons_succ, List.set_cons_zero, List.set_cons_succ, List.length_cons, List.length_nil, vw_non, vw_bl, vw_int, vw_str, vw_ty, vw_tup, vw_lst, vw_dct, vw_dcN, vw_exo, vw_cl, vw_obj, List.map_cons, List.map_nil, if_true, if_false, reduceIte, nr_non, nr_bl, nr_int, nr_str, nr_ty, nr_tup, nr_lst, nrs_nil, nrs_cons, Bool.and_true, Bool.true_and, Bool.and_false, Bool.false_and, Bool.not_true, Bool.not_false, Bool.or_false, Bool.false_or, Nat.reduceAdd, Nat.reduceLT, Nat.reduceLeDiff, Nat.reduceEqDiff, Nat.zero_add, initE, List.cons_append, List.nil_append, List.replicate, List.replicate_succ, List.replicate_zero, Nat.reduceSub, Bool.false_eq_true, decide_true, decide_false, and_true, true_and, and_self, fz_bl, fz_int, fz_str, fz_non, isU_s, isU_t, e, nM, nU, lenX_l, l1, tupleX_l, d3, m3, g0, made, es, Int.reduceLT]
    · have made : D__law_made [.lst ((manyQs n).map mkR)] = .ok (.str [84, 111, 111, 77, 97, 110, 121]) := refused_many rN (by rw [hlen]; omega) (many_nodup_n n2) (by rw [hlen]; omega)
      have es := eq_str [84, 111, 111, 77, 97, 110, 121]
      have l1 : eqT (.int ((((manyQs n).map mkR).length : Nat) : Int)) (.int 300) = some (.bl false) := by rw [eq_ii, decide_eq_false (by rw [hlen]; omega)]
      generalize (manyQs n).map mkR = M at *
      refine runD_ret (t := .bl true) (ρ := ⟨[some (.int c), some (.lst M), some (.str [84, 111, 111, 77, 97, 110, 121])], []⟩) ?_ fz_bl
      simp -implicitDefEqProofs only [b__law_many_right, fSeq, fIfS, fRet, fRetN, fNext, fAsg, fAsgG, fPar, fDrop, fOr, fAnd, fNot, fTest, fTruth, fAndV, fOrV, fNotV, fIf, fChain, fCall, fCallN, fCallD, fCons, fNil, fVar, fC, fBin, fTup, fFrz, fOwn, fLstN, fSlice, fNoPart, fPart, fSet, fGTup, fGCons, fGNil, rb_ok, rb_exc, rb_stk, noExc, Env.put, List.getElem?_cons_zero, List.getElem?_cons_succ, List.set_cons_zero, List.set_cons_succ, List.length_cons, List.length_nil, vw_non, vw_bl, vw_int, vw_str, vw_ty, vw_tup, vw_lst, vw_dct, vw_dcN, vw_exo, vw_cl, vw_obj, List.map_cons, List.map_nil, if_true, if_false, reduceIte, nr_non, nr_bl, nr_int, nr_str, nr_ty, nr_tup, nr_lst, nrs_nil, nrs_cons, Bool.and_true, Bool.true_and, Bool.and_false, Bool.false_and, Bool.not_true, Bool.not_false, Bool.or_false, Bool.false_or, Nat.reduceAdd, Nat.reduceLT, Nat.reduceLeDiff, Nat.reduceEqDiff, Nat.zero_add, initE, List.cons_append, List.nil_append, List.replicate, List.replicate_succ, List.replicate_zero, Nat.reduceSub, Bool.false_eq_true, decide_true, decide_false, and_true, true_and, and_self, fz_bl, fz_int, fz_str, fz_non, isU_s, isU_t, e, nM, lenX_l, l1, d3, m3, g0, made, es, Int.reduceLT]
  all_goals
    have es := eq_str [78, 111, 71, 114, 97, 109, 109, 97, 114]
  · rw [h] at m3
    have g0 := gt_ii 1 0
    have okM : ∀ y ∈ ((manyQs n).map mkR).set i x, okN 2 y = true := fun y hy => by
      rcases List.mem_or_eq_of_mem_set hy with hy | rfl
      · exact rule_ok (rN y hy)
      · exact o1
    have made := refused_odd (set_mem (by rw [hlen]; exact hi)) okM o2
    have nM : (T.lst (((manyQs n).map mkR).set i x)).nr = true := by rw [nr_lst]; exact nrs_mem fun t ht => (okN_ok (okM t ht)).2
    have nU : (T.tup (((manyQs n).map mkR).set i x)).nr = true := by rw [nr_tup]; exact nrs_mem fun t ht => (okN_ok (okM t ht)).2
    have l0 := eq_ii ((((((manyQs n).map mkR).set i x).length : Nat) : Int)) 300
    generalize ((manyQs n).map mkR).set i x = M at *
    generalize decide (((M.length : Nat) : Int) = 300) = bb at *
    refine runD_ret (t := .bl true) (ρ := ⟨[some (.int c), some (.lst M), some (.str [78, 111, 71, 114, 97, 109, 109, 97, 114])], []⟩) ?_ fz_bl
    cases bb <;> simp -implicitDefEqProofs only [b__law_many_right, fSeq, fIfS, fRet, fRetN, fNext, fAsg, fAsgG, fPar, fDrop, fOr, fAnd, fNot, fTest, fTruth, fAndV, fOrV, fNotV, fIf, fChain, fCall, fCallN, fCallD, fCons, fNil, fVar, fC, fBin, fTup, fFrz, fOwn, fLstN, fSlice, fNoPart, fPart, fSet, fGTup, fGCons, fGNil, rb_ok, rb_exc, rb_stk, noExc, Env.put, List.getElem?_cons_zero, List.getElem?_cons_succ, List.set_cons_zero, List.set_cons_succ, List.length_cons, List.length_nil, vw_non, vw_bl, vw_int, vw_str, vw_ty, vw_tup, vw_lst, vw_dct, vw_dcN, vw_exo, vw_cl, vw_obj, List.map_cons, List.map_nil, if_true, if_false, reduceIte, nr_non, nr_bl, nr_int, nr_str, nr_ty, nr_tup, nr_lst, nrs_nil, nrs_cons, Bool.and_true, Bool.true_and, Bool.and_false, Bool.false_and, Bool.not_true, Bool.not_false, Bool.or_false, Bool.false_or, Nat.reduceAdd, Nat.reduceLT, Nat.reduceLeDiff, Nat.reduceEqDiff, Nat.zero_add, initE, List.cons_append, List.nil_append, List.replicate, List.replicate_succ, List.replicate_zero, Nat.reduceSub, Bool.false_eq_true, decide_true, decide_false, and_true, true_and, and_self, fz_bl, fz_int, fz_str, fz_non, isU_s, isU_t, e, nM, nU, lenX_l, l0, tupleX_l, d3, m3, g0, made, es, Int.reduceLT]
  · rw [h] at m3
    have g0 := gt_ii 2 0
    have hxm := List.mem_of_getElem? hx
    have okM : ∀ y ∈ ((manyQs n).map mkR).set i x, ruleT y = true := fun y hy => by
      rcases List.mem_or_eq_of_mem_set hy with hy | rfl
      · exact rN y hy
      · exact rN _ hxm
    have made := refused_twice (ts := ((manyQs n).map mkR).set i x) (by intro z; have := congrArg List.length z; rw [List.length_set, hlen, List.length_nil] at this; omega) okM (by rw [List.length_set, hlen]; omega) (set_twice hij (by rw [hlen]; exact hi) hx)
    have nM : (T.lst (((manyQs n).map mkR).set i x)).nr = true := by rw [nr_lst]; exact nrs_mem fun t ht => (okN_ok (rule_ok (okM t ht))).2
    have nU : (T.tup (((manyQs n).map mkR).set i x)).nr = true := by rw [nr_tup]; exact nrs_mem fun t ht => (okN_ok (rule_ok (okM t ht))).2
    have l0 := eq_ii ((((((manyQs n).map mkR).set i x).length : Nat) : Int)) 300
    generalize ((manyQs n).map mkR).set i x = M at *
    generalize decide (((M.length : Nat) : Int) = 300) = bb at *
    refine runD_ret (t := .bl true) (ρ := ⟨[some (.int c), some (.lst M), some (.str [78, 111, 71, 114, 97, 109, 109, 97, 114])], []⟩) ?_ fz_bl
    cases bb <;> simp -implicitDefEqProofs only [b__law_many_right, fSeq, fIfS, fRet, fRetN, fNext, fAsg, fAsgG, fPar, fDrop, fOr, fAnd, fNot, fTest, fTruth, fAndV, fOrV, fNotV, fIf, fChain, fCall, fCallN, fCallD, fCons, fNil, fVar, fC, fBin, fTup, fFrz, fOwn, fLstN, fSlice, fNoPart, fPart, fSet, fGTup, fGCons, fGNil, rb_ok, rb_exc, rb_stk, noExc, Env.put, List.getElem?_cons_zero, List.getElem?_cons_succ, List.set_cons_zero, List.set_cons_succ, List.length_cons, List.length_nil, vw_non, vw_bl, vw_int, vw_str, vw_ty, vw_tup, vw_lst, vw_dct, vw_dcN, vw_exo, vw_cl, vw_obj, List.map_cons, List.map_nil, if_true, if_false, reduceIte, nr_non, nr_bl, nr_int, nr_str, nr_ty, nr_tup, nr_lst, nrs_nil, nrs_cons, Bool.and_true, Bool.true_and, Bool.and_false, Bool.false_and, Bool.not_true, Bool.not_false, Bool.or_false, Bool.false_or, Nat.reduceAdd, Nat.reduceLT, Nat.reduceLeDiff, Nat.reduceEqDiff, Nat.zero_add, initE, List.cons_append, List.nil_append, List.replicate, List.replicate_succ, List.replicate_zero, Nat.reduceSub, Bool.false_eq_true, decide_true, decide_false, and_true, true_and, and_self, fz_bl, fz_int, fz_str, fz_non, isU_s, isU_t, e, nM, nU, lenX_l, l0, tupleX_l, d3, m3, g0, made, es, Int.reduceLT]
end K13
namespace K13
open PySem L2 GxR Gx Tr
def okQ (q : List Nat × List (List Nat)) : Prop := ruleT (mkR q) = true ∧ q.2.length ≤ 4
def dgn (i : Int) : List Nat := if i = 0 then [112] else if i = 1 then [113] else if i = 2 then [97] else [98]
theorem dg_two (i : Int) (h0 : 0 ≤ i) (h1 : i < 2) : ixT (.lst [.str [112], .str [113]]) (.int i) = some (.str (dgn i)) := by
  obtain rfl | rfl : i = 0 ∨ i = 1 := by omega
  all_goals rfl
theorem dg_four (i : Int) (h0 : 0 ≤ i) (h1 : i < 4) : ixT (.tup [.str [112], .str [113], .str [97], .str [98]]) (.int i) = some (.str (dgn i)) := by
  obtain rfl | rfl | rfl | rfl : i = 0 ∨ i = 1 ∨ i = 2 ∨ i = 3 := by omega
  all_goals rfl
theorem dg_cut (x y : T) (j : Int) (h0 : 0 ≤ j) (h1 : j < 3) : cutT (.tup [x, y]) none (some j) = some (.tup ([x, y].take j.toNat)) := by
  obtain rfl | rfl | rfl : j = 0 ∨ j = 1 ∨ j = 2 := by omega
  all_goals rfl
theorem dg_okn (i : Int) : nameT (.str (dgn i)) = true := by
  unfold dgn
  split
  · decide +kernel
  · split
    · decide +kernel
    · split <;> decide +kernel
def dgq (a b x y : Int) : List Nat × List (List Nat) := (dgn a, [dgn x, dgn y].take b.toNat)
theorem dgq_ok (a b x y : Int) (h0 : 0 ≤ b) (h1 : b < 3) : okQ (dgq a b x y) := by
  have f : ∀ i : Int, dgn i = [112] ∨ dgn i = [113] ∨ dgn i = [97] ∨ dgn i = [98] := fun i => by
    unfold dgn
    split
    · exact Or.inl rfl
    · split
      · exact Or.inr (Or.inl rfl)
      · split
        · exact Or.inr (Or.inr (Or.inl rfl))
        · exact Or.inr (Or.inr (Or.inr rfl))
  unfold dgq okQ
  rcases f a with e | e | e | e <;> rcases f x with e2 | e2 | e2 | e2 <;> rcases f y with e3 | e3 | e3 | e3 <;> rw [e, e2, e3] <;> (obtain rfl | rfl | rfl : b = 0 ∨ b = 1 ∨ b = 2 := by omega) <;> exact ⟨by rfl, by decide⟩
def dgR : FS := fSeq (fAsgG (fGTup 4 (fGCons (fSet 5) (fGCons (fSet 6) (fGCons (fSet 7) (fGCons (fSet 8) fGNil))))) (fCallD D__law_draws 2 (fCons (fVar 1) (fCons (fFrz (fLstN (fCons (fC (.int 2)) (fCons (fC (.int 3)) (fCons (fC (.int 4)) (fCons (fC (.int 4)) fNil)))))) fNil)))) (fSeq (fAsg 1 (fBin divT (fVar 1) (fC (.int 96)))) (fDrop (fAppend (fVar 2) (fTup (fCons (fBin ixT (fFrz (fLstN (fCons (fC (.str [112])) (fCons (fC (.str [113])) fNil)))) (fVar 5)) (fCons (fSlice (fTup (fCons (fBin ixT (fTup (fCons (fC (.str [112])) (fCons (fC (.str [113])) (fCons (fC (.str [97])) (fCons (fC (.str [98])) fNil))))) (fVar 7)) (fCons (fBin ixT (fTup (fCons (fC (.str [112])) (fCons (fC (.str [113])) (fCons (fC (.str [97])) (fCons (fC (.str [98])) fNil))))) (fVar 8)) fNil))) fNoPart (fPart (fVar 6))) fNil))))))
theorem dg_step (c many n : Int) (k b5 b6 b7 b8 : Option T) (ts : List T) (hl : ts.length ≤ 1000) : ∃ n' c5 c6 c7 c8 q, okQ q ∧ dgR ⟨[some (.int c), some (.int n), some (.ref 0), k, some (.int many), b5, b6, b7, b8], [.lst ts]⟩ = .ok (.next ⟨[some (.int c), some (.int n'), some (.ref 0), k, some (.int many), c5, c6, c7, c8], [.lst (ts ++ [mkR q])]⟩) := by
  have d := draws4 n 2 3 4 4 ⟨by decide, by decide⟩ ⟨by decide, by decide⟩ ⟨by decide, by decide⟩ ⟨by decide, by decide⟩
  have a1 := Int.emod_nonneg n (b := 2) (by decide)
  have a2 := Int.emod_lt_of_pos n (b := 2) (by decide)
  have b1 := Int.emod_nonneg (n / 2) (b := 3) (by decide)
  have b2 := Int.emod_lt_of_pos (n / 2) (b := 3) (by decide)
  have c1 := Int.emod_nonneg (n / 2 / 3) (b := 4) (by decide)
  have c2 := Int.emod_lt_of_pos (n / 2 / 3) (b := 4) (by decide)
  have e1 := Int.emod_nonneg (n / 2 / 3 / 4) (b := 4) (by decide)
  have e2 := Int.emod_lt_of_pos (n / 2 / 3 / 4) (b := 4) (by decide)
  generalize n % 2 = x5 at *
  generalize n / 2 % 3 = x6 at *
  generalize n / 2 / 3 % 4 = x7 at *
  generalize n / 2 / 3 / 4 % 4 = x8 at *
  have dv := div_ii n 96 (by decide) (by decide)
  have i5 := dg_two x5 a1 a2
  have i7 := dg_four x7 c1 c2
  have i8 := dg_four x8 e1 e2
  have ct := dg_cut (.str (dgn x7)) (.str (dgn x8)) x6 b1 b2
  have mk : mkR (dgq x5 x6 x7 x8) = .tup [.str (dgn x5), .tup ([.str (dgn x7), .str (dgn x8)].take x6.toNat)] := by
    unfold mkR dgq
    rw [List.map_take]
    rfl
  refine ⟨n / 96, some (.int x5), some (.int x6), some (.int x7), some (.int x8), dgq x5 x6 x7 x8, dgq_ok x5 x6 x7 x8 b1 b2, ?_⟩
  simp -implicitDefEqProofs only [dgR, fSeq, fIfS, fRet, fRetN, fNext, fAsg, fAsgG, fPar, fDrop, fOr, fAnd, fNot, fTest, fTruth, fAndV, fOrV, fNotV, fIf, fChain, fCall, fCallN, fCallD, fCons, fNil, fVar, fC, fBin, fTup, fFrz, fOwn, fLstN, fSlice, fNoPart, fPart, fSet, fGTup, fGCons, fGNil, rb_ok, rb_exc, rb_stk, noExc, Env.put, List.getElem?_cons_zero, List.getElem?_cons_succ, List.set_cons_zero, List.set_cons_succ, List.length_cons, List.length_nil, vw_non, vw_bl, vw_int, vw_str, vw_ty, vw_tup, vw_lst, vw_dct, vw_dcN, vw_exo, vw_cl, vw_obj, List.map_cons, List.map_nil, if_true, if_false, reduceIte, nr_non, nr_bl, nr_int, nr_str, nr_ty, nr_tup, nr_lst, nrs_nil, nrs_cons, Bool.and_true, Bool.true_and, Bool.and_false, Bool.false_and, Bool.not_true, Bool.not_false, Bool.or_false, Bool.false_or, Nat.reduceAdd, Nat.reduceLT, Nat.reduceLeDiff, Nat.reduceEqDiff, Nat.zero_add, initE, List.cons_append, List.nil_append, List.replicate, List.replicate_succ, List.replicate_zero, Nat.reduceSub, Bool.false_eq_true, decide_true, decide_false, and_true, true_and, and_self, fz_bl, fz_int, fz_str, fz_non, isU_s, isU_t, d, dv, i5, i7, i8, ct, fAppend, mulist]
  rw [if_pos (by omega), mk]
  rfl
theorem dg_loop (c many : Int) (n0 : Int) (l : List T) (hl : l.length ≤ 900) : ∃ n' k' c5 c6 c7 c8, ∃ qs : List (List Nat × List (List Nat)), qs.length = l.length ∧ (∀ q ∈ qs, okQ q) ∧ forLoop (fSet 3) dgR .non .non l ⟨[some (.int c), some (.int n0), some (.ref 0), none, some (.int many), none, none, none, none], [.lst []]⟩ = .ok (.next ⟨[some (.int c), some (.int n'), some (.ref 0), k', some (.int many), c5, c6, c7, c8], [.lst (qs.map mkR)]⟩) := by
  have key := forLoop_post (g := fSet 3) (fb := dgR) (t0 := .non) (u := .non)
    (P := fun fl => ∃ n' k' c5 c6 c7 c8, ∃ qs : List (List Nat × List (List Nat)), qs.length = l.length ∧ (∀ q ∈ qs, okQ q) ∧ fl = .next ⟨[some (.int c), some (.int n'), some (.ref 0), k', some (.int many), c5, c6, c7, c8], [.lst (qs.map mkR)]⟩)
    (fun ts ρ => ∃ n' k' c5 c6 c7 c8, ∃ qs : List (List Nat × List (List Nat)), qs.length + ts.length = l.length ∧ (∀ q ∈ qs, okQ q) ∧ ρ = ⟨[some (.int c), some (.int n'), some (.ref 0), k', some (.int many), c5, c6, c7, c8], [.lst (qs.map mkR)]⟩) ?_ ?_ l ⟨[some (.int c), some (.int n0), some (.ref 0), none, some (.int many), none, none, none, none], [.lst []]⟩ ⟨n0, none, none, none, none, none, [], by simp, by simp, rfl⟩
  · obtain ⟨fl, e, n', k', c5, c6, c7, c8, qs, h1, h2, rfl⟩ := key
    exact ⟨n', k', c5, c6, c7, c8, qs, h1, h2, e⟩
  · rintro ρ ⟨n', k', c5, c6, c7, c8, qs, h1, h2, rfl⟩
    exact ⟨rfl, n', k', c5, c6, c7, c8, qs, by simpa using h1, h2, rfl⟩
  · rintro t ts ρ ⟨n', k', c5, c6, c7, c8, qs, h1, h2, rfl⟩
    obtain ⟨n2, d5, d6, d7, d8, q, hq, e⟩ := dg_step c many n' (some t) c5 c6 c7 c8 (qs.map mkR) (by rw [List.length_map]; simp at h1; omega)
    refine ⟨rfl, _, _, rfl, e, ?_⟩
    refine ⟨n2, some t, d5, d6, d7, d8, qs ++ [q], by simp at h1 ⊢; omega, fun x hx => ?_, by rw [List.map_append]; rfl⟩
    rcases List.mem_append.mp hx with hx | hx
    · exact h2 x hx
    · obtain rfl := List.mem_singleton.mp hx
      exact hq
theorem digits_eq (c : Int) : ∃ qs : List (List Nat × List (List Nat)), D__law_by_digits [.int c] = .ok (.lst (qs.map mkR)) ∧ 1 ≤ qs.length ∧ qs.length ≤ 9 ∧ ∀ q ∈ qs, okQ q := by
  have ab := abs_i c
  generalize (if c < 0 then -c else c) = n at ab
  have m0 := mod_ii n 4 (by decide)
  have d0 := div_ii n 4 (by decide) (by decide)
  have a1 := Int.emod_nonneg n (b := 4) (by decide)
  have a2 := Int.emod_lt_of_pos n (b := 4) (by decide)
  generalize n % 4 = m at *
  obtain ⟨k, hk⟩ : ∃ k : Nat, (k : Int) = 1 + m := ⟨(1 + m).toNat, by omega⟩
  obtain ⟨n', k', c5, c6, c7, c8, qs, h1, h2, e⟩ := dg_loop c m (n / 4) ((List.range k).map fun (k : Nat) => T.int (0 + (k : Int))) (by simp; omega)
  have lk : qs.length = k := by simpa using h1
  refine ⟨qs, ?_, by omega, by omega, h2⟩
  have s1 : fAsg 1 (fCall absT (fCons (fVar 0) fNil)) (initE 9 [.int c]) = .ok (.next ⟨[some (.int c), some (.int n), none, none, none, none, none, none, none], []⟩) := by
    simp -implicitDefEqProofs only [fSeq, fIfS, fRet, fRetN, fNext, fAsg, fAsgG, fPar, fDrop, fOr, fAnd, fNot, fTest, fTruth, fAndV, fOrV, fNotV, fIf, fChain, fCall, fCallN, fCallD, fCons, fNil, fVar, fC, fBin, fTup, fFrz, fOwn, fLstN, fSlice, fNoPart, fPart, fSet, fGTup, fGCons, fGNil, rb_ok, rb_exc, rb_stk, noExc, Env.put, List.getElem?_cons_zero, List.getElem?_cons_succ, List.set_cons_zero, List.set_cons_succ, List.length_cons, List.length_nil, vw_non, vw_bl, vw_int, vw_str, vw_ty, vw_tup, vw_lst, vw_dct, vw_dcN, vw_exo, vw_cl, vw_obj, List.map_cons, List.map_nil, if_true, if_false, reduceIte, nr_non, nr_bl, nr_int, nr_str, nr_ty, nr_tup, nr_lst, nrs_nil, nrs_cons, Bool.and_true, Bool.true_and, Bool.and_false, Bool.false_and, Bool.not_true, Bool.not_false, Bool.or_false, Bool.false_or, Nat.reduceAdd, Nat.reduceLT, Nat.reduceLeDiff, Nat.reduceEqDiff, Nat.zero_add, initE, List.cons_append, List.nil_append, List.replicate, List.replicate_succ, List.replicate_zero, Nat.reduceSub, Bool.false_eq_true, decide_true, decide_false, and_true, true_and, and_self, fz_bl, fz_int, fz_str, fz_non, isU_s, isU_t, ab]
  have s2 : fPar 4 1 (fCons (fBin modT (fVar 1) (fC (.int 4))) (fCons (fBin divT (fVar 1) (fC (.int 4))) fNil)) ⟨[some (.int c), some (.int n), none, none, none, none, none, none, none], []⟩ = .ok (.next ⟨[some (.int c), some (.int (n / 4)), none, none, some (.int m), none, none, none, none], []⟩) := by
    simp -implicitDefEqProofs only [fSeq, fIfS, fRet, fRetN, fNext, fAsg, fAsgG, fPar, fDrop, fOr, fAnd, fNot, fTest, fTruth, fAndV, fOrV, fNotV, fIf, fChain, fCall, fCallN, fCallD, fCons, fNil, fVar, fC, fBin, fTup, fFrz, fOwn, fLstN, fSlice, fNoPart, fPart, fSet, fGTup, fGCons, fGNil, rb_ok, rb_exc, rb_stk, noExc, Env.put, List.getElem?_cons_zero, List.getElem?_cons_succ, List.set_cons_zero, List.set_cons_succ, List.length_cons, List.length_nil, vw_non, vw_bl, vw_int, vw_str, vw_ty, vw_tup, vw_lst, vw_dct, vw_dcN, vw_exo, vw_cl, vw_obj, List.map_cons, List.map_nil, if_true, if_false, reduceIte, nr_non, nr_bl, nr_int, nr_str, nr_ty, nr_tup, nr_lst, nrs_nil, nrs_cons, Bool.and_true, Bool.true_and, Bool.and_false, Bool.false_and, Bool.not_true, Bool.not_false, Bool.or_false, Bool.false_or, Nat.reduceAdd, Nat.reduceLT, Nat.reduceLeDiff, Nat.reduceEqDiff, Nat.zero_add, initE, List.cons_append, List.nil_append, List.replicate, List.replicate_succ, List.replicate_zero, Nat.reduceSub, Bool.false_eq_true, decide_true, decide_false, and_true, true_and, and_self, fz_bl, fz_int, fz_str, fz_non, isU_s, isU_t, m0, d0]
  have s3 : fAsg 2 (fOwn (fLstN fNil)) ⟨[some (.int c), some (.int (n / 4)), none, none, some (.int m), none, none, none, none], []⟩ = .ok (.next ⟨[some (.int c), some (.int (n / 4)), some (.ref 0), none, some (.int m), none, none, none, none], [.lst []]⟩) := rfl
  have rg := range1_eq (fBin addT (fC (.int 1)) (fVar 4)) k ⟨[some (.int c), some (.int (n / 4)), some (.ref 0), none, some (.int m), none, none, none, none], [.lst []]⟩ ⟨[some (.int c), some (.int (n / 4)), some (.ref 0), none, some (.int m), none, none, none, none], [.lst []]⟩ (by
      simp -implicitDefEqProofs only [fSeq, fIfS, fRet, fRetN, fNext, fAsg, fAsgG, fPar, fDrop, fOr, fAnd, fNot, fTest, fTruth, fAndV, fOrV, fNotV, fIf, fChain, fCall, fCallN, fCallD, fCons, fNil, fVar, fC, fBin, fTup, fFrz, fOwn, fLstN, fSlice, fNoPart, fPart, fSet, fGTup, fGCons, fGNil, rb_ok, rb_exc, rb_stk, noExc, Env.put, List.getElem?_cons_zero, List.getElem?_cons_succ, List.set_cons_zero, List.set_cons_succ, List.length_cons, List.length_nil, vw_non, vw_bl, vw_int, vw_str, vw_ty, vw_tup, vw_lst, vw_dct, vw_dcN, vw_exo, vw_cl, vw_obj, List.map_cons, List.map_nil, if_true, if_false, reduceIte, nr_non, nr_bl, nr_int, nr_str, nr_ty, nr_tup, nr_lst, nrs_nil, nrs_cons, Bool.and_true, Bool.true_and, Bool.and_false, Bool.false_and, Bool.not_true, Bool.not_false, Bool.or_false, Bool.false_or, Nat.reduceAdd, Nat.reduceLT, Nat.reduceLeDiff, Nat.reduceEqDiff, Nat.zero_add, initE, List.cons_append, List.nil_append, List.replicate, List.replicate_succ, List.replicate_zero, Nat.reduceSub, Bool.false_eq_true, decide_true, decide_false, and_true, true_and, and_self, fz_bl, fz_int, fz_str, fz_non, isU_s, isU_t, add_ii, hk]) (by omega)
  refine runD_ret (t := .ref 0) (ρ := ⟨[some (.int c), some (.int n'), some (.ref 0), k', some (.int m), c5, c6, c7, c8], [.lst (qs.map mkR)]⟩) ?_ (fz_lst rfl (nrs_mkR _))
  change fSeq _ (fSeq _ (fSeq _ (fSeq (fFor _ (fSet 3) dgR) _))) (initE 9 [.int c]) = _
  have s4 : fFor (fRange1 (fCons (fBin addT (fC (.int 1)) (fVar 4)) fNil)) (fSet 3) dgR ⟨[some (.int c), some (.int (n / 4)), some (.ref 0), none, some (.int m), none, none, none, none], [.lst []]⟩ = .ok (.next ⟨[some (.int c), some (.int n'), some (.ref 0), k', some (.int m), c5, c6, c7, c8], [.lst (qs.map mkR)]⟩) := by
    unfold fFor
    rw [rg]
    simp only [rb_ok]
    exact e
  rw [seq_step s1, seq_step s2, seq_step s3, seq_step s4]
  rfl
end K13
namespace K13
open PySem L2 GxR Gx Tr
theorem joinL_flat : ∀ (ss : List (List Nat)), TL.joinL [] ss = ss.flatten
  | [] => rfl
  | [p] => by simp [TL.joinL]
  | p :: q :: r => by
    show p ++ ([] ++ TL.joinL [] (q :: r)) = _
    rw [List.nil_append, joinL_flat (q :: r), ← List.flatten_cons]
def alp : List Nat := [97, 98, 99, 100, 101, 102, 103, 104, 105, 106, 107, 108, 109, 110, 111, 112, 113, 114, 115, 116, 117, 118, 119, 120, 121, 122]
theorem alp_low : ∀ c ∈ alp, lowc c = true := by decide
theorem alp2_low : ∀ c ∈ alp ++ alp, lowc c = true := by decide
theorem alp_two : mulX (.str [97, 98, 99, 100, 101, 102, 103, 104, 105, 106, 107, 108, 109, 110, 111, 112, 113, 114, 115, 116, 117, 118, 119, 120, 121, 122]) (.int 2) = some (.str (alp ++ alp)) := by rfl
theorem nm_one (n m : Int) (sz : Nat) (hsz : sz ≤ 8) (b d : Option T) : ∃ us, fLc [6] (fRange1 (fCons (fVar 4) fNil)) (fSet 6) fYes (fBin ixT (fC (.str [97, 98, 99, 100, 101, 102, 103, 104, 105, 106, 107, 108, 109, 110, 111, 112, 113, 114, 115, 116, 117, 118, 119, 120, 121, 122])) (fBin modT (fCallD D__law_mix 2 (fCons (fVar 0) (fCons (fBin addT (fC (.int 40)) (fVar 6)) fNil))) (fC (.int 26)))) ⟨[some (.int n), none, b, none, some (.int (sz : Nat)), d, none], []⟩ = .ok (us, ⟨[some (.int n), none, b, none, some (.int (sz : Nat)), d, none], []⟩) ∧ us.length = sz ∧ ∀ t ∈ us, ∃ c, lowc c = true ∧ t = .str [c] := by
  have rg := range1_eq (fVar 4) sz ⟨[some (.int n), none, b, none, some (.int (sz : Nat)), d, none], []⟩ ⟨[some (.int n), none, b, none, some (.int (sz : Nat)), d, none], []⟩ (by simp -implicitDefEqProofs only [fSeq, fIfS, fRet, fRetN, fNext, fAsg, fAsgG, fPar, fDrop, fOr, fAnd, fNot, fTest, fTruth, fAndV, fOrV, fNotV, fIf, fChain, fCall, fCallN, fCallD, fCons, fNil, fVar, fC, fBin, fTup, fFrz, fOwn, fLstN, fSlice, fNoPart, fPart, fSet, fGTup, fGCons, fGNil, rb_ok, rb_exc, rb_stk, noExc, Env.put, List.getElem?_cons_zero, List.getElem?_cons_succ, List.set_cons_zero, List.set_cons_succ, List.length_cons, List.length_nil, vw_non, vw_bl, vw_int, vw_str, vw_ty, vw_tup, vw_lst, vw_dct, vw_dcN, vw_exo, vw_cl, vw_obj, List.map_cons, List.map_nil, if_true, if_false, reduceIte, nr_non, nr_bl, nr_int, nr_str, nr_ty, nr_tup, nr_lst, nrs_nil, nrs_cons, Bool.and_true, Bool.true_and, Bool.and_false, Bool.false_and, Bool.not_true, Bool.not_false, Bool.or_false, Bool.false_or, Nat.reduceAdd, Nat.reduceLT, Nat.reduceLeDiff, Nat.reduceEqDiff, Nat.zero_add, initE, List.cons_append, List.nil_append, List.replicate, List.replicate_succ, List.replicate_zero, Nat.reduceSub, Bool.false_eq_true, decide_true, decide_false, and_true, true_and, and_self, fz_bl, fz_int, fz_str, fz_non, isU_s, isU_t]) (by omega)
  obtain ⟨us, e, l, h⟩ := fLc_rel (vs := [6]) (g := fSet 6) (ft := fYes) (fe := fBin ixT (fC (.str [97, 98, 99, 100, 101, 102, 103, 104, 105, 106, 107, 108, 109, 110, 111, 112, 113, 114, 115, 116, 117, 118, 119, 120, 121, 122])) (fBin modT (fCallD D__law_mix 2 (fCons (fVar 0) (fCons (fBin addT (fC (.int 40)) (fVar 6)) fNil))) (fC (.int 26)))) (fun t => ∃ c, lowc c = true ∧ t = .str [c]) rg rfl rfl (by simp; omega) (fun t ht => by
    obtain ⟨k, _, rfl⟩ := List.mem_map.mp ht
    refine ⟨⟨[some (.int n), none, b, none, some (.int (sz : Nat)), d, some (.int (0 + (k : Int)))], []⟩, rfl, rfl, ?_, rfl⟩
    have mx := mix_eq n (40 + (0 + (k : Int)))
    generalize mix n (40 + (0 + (k : Int))) = x at mx
    have mo := mod_ii x 26 (by decide)
    obtain ⟨c, hc, ix⟩ := ix_s' alp (x % 26) (by decide) (Int.emod_nonneg _ (by decide)) (Int.emod_lt_of_pos _ (by decide))
    unfold alp at ix
    refine ⟨.str [c], ?_, c, alp_low c hc, rfl⟩
    simp -implicitDefEqProofs only [fSeq, fIfS, fRet, fRetN, fNext, fAsg, fAsgG, fPar, fDrop, fOr, fAnd, fNot, fTest, fTruth, fAndV, fOrV, fNotV, fIf, fChain, fCall, fCallN, fCallD, fCons, fNil, fVar, fC, fBin, fTup, fFrz, fOwn, fLstN, fSlice, fNoPart, fPart, fSet, fGTup, fGCons, fGNil, rb_ok, rb_exc, rb_stk, noExc, Env.put, List.getElem?_cons_zero, List.getElem?_cons_succ, List.set_cons_zero, List.set_cons_succ, List.length_cons, List.length_nil, vw_non, vw_bl, vw_int, vw_str, vw_ty, vw_tup, vw_lst, vw_dct, vw_dcN, vw_exo, vw_cl, vw_obj, List.map_cons, List.map_nil, if_true, if_false, reduceIte, nr_non, nr_bl, nr_int, nr_str, nr_ty, nr_tup, nr_lst, nrs_nil, nrs_cons, Bool.and_true, Bool.true_and, Bool.and_false, Bool.false_and, Bool.not_true, Bool.not_false, Bool.or_false, Bool.false_or, Nat.reduceAdd, Nat.reduceLT, Nat.reduceLeDiff, Nat.reduceEqDiff, Nat.zero_add, initE, List.cons_append, List.nil_append, List.replicate, List.replicate_succ, List.replicate_zero, Nat.reduceSub, Bool.false_eq_true, decide_true, decide_false, and_true, true_and, and_self, fz_bl, fz_int, fz_str, fz_non, isU_s, isU_t, add_ii, mx, mo, ix])
  exact ⟨us, e, by simpa using l, h⟩
theorem ones_of : ∀ {us : List T}, (∀ t ∈ us, ∃ c, lowc c = true ∧ t = .str [c]) → ∃ cs : List Nat, us = (cs.map fun c => [c]).map .str ∧ cs.length = us.length ∧ cs.all lowc = true
  | [], _ => ⟨[], rfl, rfl, rfl⟩
  | t :: ts, h => by
    obtain ⟨c, hc, rfl⟩ := h t (List.mem_cons_self ..)
    obtain ⟨cs, e, l, q⟩ := ones_of fun x hx => h x (List.mem_cons_of_mem _ hx)
    exact ⟨c :: cs, by rw [e]; rfl, by simp [l], by rw [List.all_cons, hc, q]; rfl⟩
theorem flat_ones (cs : List Nat) : (cs.map fun c => [c]).flatten = cs := by
  induction cs with
  | nil => rfl
  | cons c cs ih => rw [List.map_cons, List.flatten_cons, ih]; rfl
theorem nm_cut (cs : List Nat) (k : Nat) (c : Nat) (h7 : cs.length ≤ 7) (hc : cs.all lowc = true) (hl : lowc c = true) : nameT (.str (cutL cs none (some (k : Int)) ++ [c] ++ cutL cs (some (k : Int)) none)) = true := by
  have e1 : cutL cs none (some (k : Int)) = cs.take (min k cs.length) := by
    unfold cutL
    rw [HT.sIx_none, HT.sIx_nat]
    simp
  have e2 : cutL cs (some (k : Int)) none = cs.drop (min k cs.length) := by
    unfold cutL
    rw [HT.sIx_none, HT.sIx_nat]
    exact List.take_of_length_le (by simp)
  rw [e1, e2]
  have l : (cs.take (min k cs.length) ++ [c] ++ cs.drop (min k cs.length)).length = cs.length + 1 := by simp; omega
  have a : (cs.take (min k cs.length) ++ [c] ++ cs.drop (min k cs.length)).all lowc = true := by
    rw [List.all_eq_true] at hc ⊢
    intro x hx
    rcases List.mem_append.mp hx with hx | hx
    · rcases List.mem_append.mp hx with hx | hx
      · exact hc x (List.mem_of_mem_take hx)
      · rw [List.mem_singleton.mp hx]; exact hl
    · exact hc x (List.mem_of_mem_drop hx)
  show (decide (1 ≤ _) && (decide (_ ≤ 8) && List.all _ lowc)) = true
  rw [l, a, decide_eq_true (by omega), decide_eq_true (by omega)]
  rfl
theorem nm_two (n : Int) (cs : List Nat) (h7 : cs.length ≤ 7) (hc : cs.all lowc = true) (k : Nat) (sz : Option T) (d : Int) (d0 : 0 ≤ d) (d1 : d < 26) : ∃ us, fLc [6] (fRange1 (fCons (fC (.int 7)) fNil)) (fSet 6) fYes (fBin addT (fBin addT (fSlice (fVar 1) fNoPart (fPart (fVar 2))) (fBin ixT (fVar 3) (fBin addT (fVar 5) (fBin mulX (fC (.int 3)) (fVar 6))))) (fSlice (fVar 1) (fPart (fVar 2)) fNoPart)) ⟨[some (.int n), some (.str cs), some (.int (k : Nat)), some (.str (alp ++ alp)), sz, some (.int d), none], []⟩ = .ok (us, ⟨[some (.int n), some (.str cs), some (.int (k : Nat)), some (.str (alp ++ alp)), sz, some (.int d), none], []⟩) ∧ us.length = 7 ∧ ∀ t ∈ us, nameT t = true := by
  have rg := range1_eq (fC (.int 7)) 7 ⟨[some (.int n), some (.str cs), some (.int (k : Nat)), some (.str (alp ++ alp)), sz, some (.int d), none], []⟩ ⟨[some (.int n), some (.str cs), some (.int (k : Nat)), some (.str (alp ++ alp)), sz, some (.int d), none], []⟩ rfl (by omega)
  obtain ⟨us, e, l, h⟩ := fLc_rel (vs := [6]) (g := fSet 6) (ft := fYes) (fe := fBin addT (fBin addT (fSlice (fVar 1) fNoPart (fPart (fVar 2))) (fBin ixT (fVar 3) (fBin addT (fVar 5) (fBin mulX (fC (.int 3)) (fVar 6))))) (fSlice (fVar 1) (fPart (fVar 2)) fNoPart)) (fun t => nameT t = true) rg rfl rfl (by simp) (fun t ht => by
    obtain ⟨j, hj, rfl⟩ := List.mem_map.mp ht
    have hj := List.mem_range.mp hj
    refine ⟨⟨[some (.int n), some (.str cs), some (.int (k : Nat)), some (.str (alp ++ alp)), sz, some (.int d), some (.int (0 + (j : Int)))], []⟩, rfl, rfl, ?_, rfl⟩
    have mx := mulX_l 3 (0 + (j : Int)) (by decide) (by decide)
    obtain ⟨c, hcm, ix⟩ := ix_s' (alp ++ alp) (d + 3 * (0 + (j : Int))) (by decide) (by omega) (by rw [show (alp ++ alp).length = 52 from rfl]; omega)
    have c1 := cut_s cs none (some (k : Int)) (by omega)
    have c2 := cut_s cs (some (k : Int)) none (by omega)
    have l1 := cutL_len cs none (some (k : Int))
    have l2 := cutL_len cs (some (k : Int)) none
    have s1 := add_ss (cutL cs none (some (k : Int))) [c] (by simp; omega)
    have s2 := add_ss (cutL cs none (some (k : Int)) ++ [c]) (cutL cs (some (k : Int)) none) (by simp; omega)
    refine ⟨_, ?_, nm_cut cs k c h7 hc (alp2_low c hcm)⟩
    simp -implicitDefEqProofs only [fSeq, fIfS, fRet, fRetN, fNext, fAsg, fAsgG, fPar, fDrop, fOr, fAnd, fNot, fTest, fTruth, fAndV, fOrV, fNotV, fIf, fChain, fCall, fCallN, fCallD, fCons, fNil, fVar, fC, fBin, fTup, fFrz, fOwn, fLstN, fSlice, fNoPart, fPart, fSet, fGTup, fGCons, fGNil, rb_ok, rb_exc, rb_stk, noExc, Env.put, List.getElem?_cons_zero, List.getElem?_cons_succ, List.set_cons_zero, List.set_cons_succ, List.length_cons, List.length_nil, vw_non, vw_bl, vw_int, vw_str, vw_ty, vw_tup, vw_lst, vw_dct, vw_dcN, vw_exo, vw_cl, vw_obj, List.map_cons, List.map_nil, if_true, if_false, reduceIte, nr_non, nr_bl, nr_int, nr_str, nr_ty, nr_tup, nr_lst, nrs_nil, nrs_cons, Bool.and_true, Bool.true_and, Bool.and_false, Bool.false_and, Bool.not_true, Bool.not_false, Bool.or_false, Bool.false_or, Nat.reduceAdd, Nat.reduceLT, Nat.reduceLeDiff, Nat.reduceEqDiff, Nat.zero_add, initE, List.cons_append, List.nil_append, List.replicate, List.replicate_succ, List.replicate_zero, Nat.reduceSub, Bool.false_eq_true, decide_true, decide_false, and_true, true_and, and_self, fz_bl, fz_int, fz_str, fz_non, isU_s, isU_t, add_ii, mx, ix, c1, c2, s1, s2])
  exact ⟨us, e, by simpa using l, h⟩
theorem nameT_nr {t : T} (h : nameT t = true) : t.nr = true := by
  cases t <;> first | rfl | cases h
theorem names_eq (n : Int) : ∃ us, D__law_names [.int n] = .ok (.lst us) ∧ us.length = 7 ∧ ∀ t ∈ us, nameT t = true := by
  have dr := draws3 n 8 8 26 ⟨by decide, by decide⟩ ⟨by decide, by decide⟩ ⟨by decide, by decide⟩
  have a1 := Int.emod_nonneg n (b := 8) (by decide)
  have a2 := Int.emod_lt_of_pos n (b := 8) (by decide)
  have b1 := Int.emod_nonneg (n / 8) (b := 8) (by decide)
  have d1 := Int.emod_nonneg (n / 8 / 8) (b := 26) (by decide)
  have d2 := Int.emod_lt_of_pos (n / 8 / 8) (b := 26) (by decide)
  generalize n / 8 / 8 % 26 = d at *
  generalize n / 8 % 8 = b at *
  generalize n % 8 = a at *
  obtain ⟨sz, rfl⟩ : ∃ sz : Nat, a = (sz : Nat) := ⟨a.toNat, by omega⟩
  obtain ⟨us, f1, l1, h1⟩ := nm_one n 0 sz (by omega) (some (.int b)) (some (.int d))
  obtain ⟨cs, rfl, lc, hc⟩ := ones_of h1
  have jn := join_l (cs.map fun c => [c]) 1 (fun s hs => by obtain ⟨c, _, rfl⟩ := List.mem_map.mp hs; exact Nat.le_refl 1) (by rw [List.length_map]; omega)
  rw [joinL_flat, flat_ones] at jn
  have k1 := Int.emod_nonneg b (b := (sz : Int) + 1) (by omega)
  have mo := mod_ii b ((sz : Int) + 1) (by omega)
  obtain ⟨k, hk⟩ : ∃ k : Nat, b % ((sz : Int) + 1) = (k : Nat) := ⟨(b % ((sz : Int) + 1)).toNat, by omega⟩
  rw [hk] at mo
  obtain ⟨vs, f2, l2, h2⟩ := nm_two n cs (by omega) hc k (some (.int (sz : Nat))) d d1 d2
  refine ⟨vs, ?_, l2, h2⟩
  refine runD_ret (t := .lst vs) (ρ := ⟨[some (.int n), some (.str cs), some (.int (k : Nat)), some (.str (alp ++ alp)), some (.int (sz : Nat)), some (.int d), none], []⟩) ?_ (fz_lstF (nrs_mem fun t ht => nameT_nr (h2 t ht)))
  simp -implicitDefEqProofs only [b__law_names, fSeq, fIfS, fRet, fRetN, fNext, fAsg, fAsgG, fPar, fDrop, fOr, fAnd, fNot, fTest, fTruth, fAndV, fOrV, fNotV, fIf, fChain, fCall, fCallN, fCallD, fCons, fNil, fVar, fC, fBin, fTup, fFrz, fOwn, fLstN, fSlice, fNoPart, fPart, fSet, fGTup, fGCons, fGNil, rb_ok, rb_exc, rb_stk, noExc, Env.put, List.getElem?_cons_zero, List.getElem?_cons_succ, List.set_cons_zero, List.set_cons_succ, List.length_cons, List.length_nil, vw_non, vw_bl, vw_int, vw_str, vw_ty, vw_tup, vw_lst, vw_dct, vw_dcN, vw_exo, vw_cl, vw_obj, List.map_cons, List.map_nil, if_true, if_false, reduceIte, nr_non, nr_bl, nr_int, nr_str, nr_ty, nr_tup, nr_lst, nrs_nil, nrs_cons, Bool.and_true, Bool.true_and, Bool.and_false, Bool.false_and, Bool.not_true, Bool.not_false, Bool.or_false, Bool.false_or, Nat.reduceAdd, Nat.reduceLT, Nat.reduceLeDiff, Nat.reduceEqDiff, Nat.zero_add, initE, List.cons_append, List.nil_append, List.replicate, List.replicate_succ, List.replicate_zero, Nat.reduceSub, Bool.false_eq_true, decide_true, decide_false, and_true, true_and, and_self, fz_bl, fz_int, fz_str, fz_non, isU_s, isU_t, dr]
  simp -implicitDefEqProofs only [f1, fSeq, fIfS, fRet, fRetN, fNext, fAsg, fAsgG, fPar, fDrop, fOr, fAnd, fNot, fTest, fTruth, fAndV, fOrV, fNotV, fIf, fChain, fCall, fCallN, fCallD, fCons, fNil, fVar, fC, fBin, fTup, fFrz, fOwn, fLstN, fSlice, fNoPart, fPart, fSet, fGTup, fGCons, fGNil, rb_ok, rb_exc, rb_stk, noExc, Env.put, List.getElem?_cons_zero, List.getElem?_cons_succ, List.set_cons_zero, List.set_cons_succ, List.length_cons, List.length_nil, vw_non, vw_bl, vw_int, vw_str, vw_ty, vw_tup, vw_lst, vw_dct, vw_dcN, vw_exo, vw_cl, vw_obj, List.map_cons, List.map_nil, if_true, if_false, reduceIte, nr_non, nr_bl, nr_int, nr_str, nr_ty, nr_tup, nr_lst, nrs_nil, nrs_cons, Bool.and_true, Bool.true_and, Bool.and_false, Bool.false_and, Bool.not_true, Bool.not_false, Bool.or_false, Bool.false_or, Nat.reduceAdd, Nat.reduceLT, Nat.reduceLeDiff, Nat.reduceEqDiff, Nat.zero_add, initE, List.cons_append, List.nil_append, List.replicate, List.replicate_succ, List.replicate_zero, Nat.reduceSub, Bool.false_eq_true, decide_true, decide_false, and_true, true_and, and_self, fz_bl, fz_int, fz_str, fz_non, isU_s, isU_t, fJoin, jn, mo, add_ii, alp_two]
  simp -implicitDefEqProofs only [f2, fSeq, fIfS, fRet, fRetN, fNext, fAsg, fAsgG, fPar, fDrop, fOr, fAnd, fNot, fTest, fTruth, fAndV, fOrV, fNotV, fIf, fChain, fCall, fCallN, fCallD, fCons, fNil, fVar, fC, fBin, fTup, fFrz, fOwn, fLstN, fSlice, fNoPart, fPart, fSet, fGTup, fGCons, fGNil, rb_ok, rb_exc, rb_stk, noExc, Env.put, List.getElem?_cons_zero, List.getElem?_cons_succ, List.set_cons_zero, List.set_cons_succ, List.length_cons, List.length_nil, vw_non, vw_bl, vw_int, vw_str, vw_ty, vw_tup, vw_lst, vw_dct, vw_dcN, vw_exo, vw_cl, vw_obj, List.map_cons, List.map_nil, if_true, if_false, reduceIte, nr_non, nr_bl, nr_int, nr_str, nr_ty, nr_tup, nr_lst, nrs_nil, nrs_cons, Bool.and_true, Bool.true_and, Bool.and_false, Bool.false_and, Bool.not_true, Bool.not_false, Bool.or_false, Bool.false_or, Nat.reduceAdd, Nat.reduceLT, Nat.reduceLeDiff, Nat.reduceEqDiff, Nat.zero_add, initE, List.cons_append, List.nil_append, List.replicate, List.replicate_succ, List.replicate_zero, Nat.reduceSub, Bool.false_eq_true, decide_true, decide_false, and_true, true_and, and_self, fz_bl, fz_int, fz_str, fz_non, isU_s, isU_t]
end K13
namespace K13
open PySem L2 GxR Gx Tr
theorem rule_made {a : T} {vs : List T} (ha : nameT a = true) (hv : ∀ t ∈ vs, nameT t = true) (h4 : vs.length ≤ 4) : ∃ q, mkR q = .tup [a, .tup vs] ∧ okQ q := by
  obtain ⟨s, rfl, _⟩ := nameT_str ha
  obtain ⟨ss, rfl, hs⟩ := strs_of (P := fun s => nameT (.str s) = true) (us := vs) fun t ht => by
    obtain ⟨x, rfl, _⟩ := nameT_str (hv t ht)
    exact ⟨x, rfl, hv _ ht⟩
  rw [List.length_map] at h4
  refine ⟨(s, ss), rfl, ?_, h4⟩
  show (nameT (.str s) && (decide ((ss.map T.str).length ≤ 8) && (ss.map T.str).all nameT)) = true
  rw [ha, List.length_map, decide_eq_true (by omega), List.all_eq_true.mpr hv]
  rfl
def mxE : FE := fBin ixT (fVar 1) (fBin modT (fCallD D__law_mix 2 (fCons (fVar 0) (fCons (fBin addT (fBin addT (fC (.int 100)) (fBin mulX (fC (.int 9)) (fVar 3))) (fVar 8)) fNil))) (fC (.int 7)))
theorem mx_names (c : Int) (us : List T) (l7 : us.length = 7) (hu : ∀ t ∈ us, nameT t = true) (sz : Nat) (hs : sz ≤ 8) (k : Int) (r m f p : Option T) (ts : List T) : ∃ vs, fLc [8] (fRange1 (fCons (fVar 7) fNil)) (fSet 8) fYes mxE ⟨[some (.int c), some (.lst us), r, some (.int k), m, f, p, some (.int (sz : Nat)), none], [.lst ts]⟩ = .ok (vs, ⟨[some (.int c), some (.lst us), r, some (.int k), m, f, p, some (.int (sz : Nat)), none], [.lst ts]⟩) ∧ vs.length = sz ∧ ∀ t ∈ vs, nameT t = true := by
  have rg := range1_eq (fVar 7) sz ⟨[some (.int c), some (.lst us), r, some (.int k), m, f, p, some (.int (sz : Nat)), none], [.lst ts]⟩ ⟨[some (.int c), some (.lst us), r, some (.int k), m, f, p, some (.int (sz : Nat)), none], [.lst ts]⟩ (by simp -implicitDefEqProofs only [fSeq, fIfS, fRet, fRetN, fNext, fAsg, fAsgG, fPar, fDrop, fOr, fAnd, fNot, fTest, fTruth, fAndV, fOrV, fNotV, fIf, fChain, fCall, fCallN, fCallD, fCons, fNil, fVar, fC, fBin, fTup, fFrz, fOwn, fLstN, fSlice, fNoPart, fPart, fSet, fGTup, fGCons, fGNil, rb_ok, rb_exc, rb_stk, noExc, Env.put, List.getElem?_cons_zero, List.getElem?_cons_succ, List.set_cons_zero, List.set_cons_succ, List.length_cons, List.length_nil, vw_non, vw_bl, vw_int, vw_str, vw_ty, vw_tup, vw_lst, vw_dct, vw_dcN, vw_exo, vw_cl, vw_obj, List.map_cons, List.map_nil, if_true, if_false, reduceIte, nr_non, nr_bl, nr_int, nr_str, nr_ty, nr_tup, nr_lst, nrs_nil, nrs_cons, Bool.and_true, Bool.true_and, Bool.and_false, Bool.false_and, Bool.not_true, Bool.not_false, Bool.or_false, Bool.false_or, Nat.reduceAdd, Nat.reduceLT, Nat.reduceLeDiff, Nat.reduceEqDiff, Nat.zero_add, initE, List.cons_append, List.nil_append, List.replicate, List.replicate_succ, List.replicate_zero, Nat.reduceSub, Bool.false_eq_true, decide_true, decide_false, and_true, true_and, and_self, fz_bl, fz_int, fz_str, fz_non, isU_s, isU_t]) (by omega)
  obtain ⟨vs, e, l, h⟩ := fLc_rel (vs := [8]) (g := fSet 8) (ft := fYes) (fe := mxE) (fun t => nameT t = true) rg rfl rfl (by simp; omega) (fun t ht => by
    obtain ⟨j, _, rfl⟩ := List.mem_map.mp ht
    refine ⟨⟨[some (.int c), some (.lst us), r, some (.int k), m, f, p, some (.int (sz : Nat)), some (.int (0 + (j : Int)))], [.lst ts]⟩, rfl, rfl, ?_, rfl⟩
    have ml := mulX_l 9 k (by decide) (by decide)
    have mx := mix_eq c (100 + 9 * k + (0 + (j : Int)))
    generalize mix c (100 + 9 * k + (0 + (j : Int))) = x at mx
    have mo := mod_ii x 7 (by decide)
    obtain ⟨v, hv, ix⟩ := ix_l' us (x % 7) (Int.emod_nonneg _ (by decide)) (by rw [l7]; exact Int.emod_lt_of_pos _ (by decide))
    refine ⟨v, ?_, hu v hv⟩
    simp -implicitDefEqProofs only [mxE, fSeq, fIfS, fRet, fRetN, fNext, fAsg, fAsgG, fPar, fDrop, fOr, fAnd, fNot, fTest, fTruth, fAndV, fOrV, fNotV, fIf, fChain, fCall, fCallN, fCallD, fCons, fNil, fVar, fC, fBin, fTup, fFrz, fOwn, fLstN, fSlice, fNoPart, fPart, fSet, fGTup, fGCons, fGNil, rb_ok, rb_exc, rb_stk, noExc, Env.put, List.getElem?_cons_zero, List.getElem?_cons_succ, List.set_cons_zero, List.set_cons_succ, List.length_cons, List.length_nil, vw_non, vw_bl, vw_int, vw_str, vw_ty, vw_tup, vw_lst, vw_dct, vw_dcN, vw_exo, vw_cl, vw_obj, List.map_cons, List.map_nil, if_true, if_false, reduceIte, nr_non, nr_bl, nr_int, nr_str, nr_ty, nr_tup, nr_lst, nrs_nil, nrs_cons, Bool.and_true, Bool.true_and, Bool.and_false, Bool.false_and, Bool.not_true, Bool.not_false, Bool.or_false, Bool.false_or, Nat.reduceAdd, Nat.reduceLT, Nat.reduceLeDiff, Nat.reduceEqDiff, Nat.zero_add, initE, List.cons_append, List.nil_append, List.replicate, List.replicate_succ, List.replicate_zero, Nat.reduceSub, Bool.false_eq_true, decide_true, decide_false, and_true, true_and, and_self, fz_bl, fz_int, fz_str, fz_non, isU_s, isU_t, ml, add_ii, mx, mo, ix])
  exact ⟨vs, e, by simpa using l, h⟩
def mxR : FS := fSeq (fAsgG (fGTup 2 (fGCons (fSet 6) (fGCons (fSet 7) fGNil))) (fCallD D__law_draws 2 (fCons (fCallD D__law_mix 2 (fCons (fVar 0) (fCons (fBin addT (fC (.int 10)) (fVar 3)) fNil))) (fCons (fFrz (fLstN (fCons (fBin addT (fC (.int 1)) (fVar 5)) (fCons (fC (.int 5)) fNil)))) fNil)))) (fDrop (fAppend (fVar 2) (fTup (fCons (fBin ixT (fVar 1) (fVar 6)) (fCons (fCall tupleX (fCons (fFrz (fLc [8] (fRange1 (fCons (fVar 7) fNil)) (fSet 8) fYes mxE)) fNil)) fNil)))))
theorem mx_step (c : Int) (us : List T) (l7 : us.length = 7) (hu : ∀ t ∈ us, nameT t = true) (k few : Int) (f0 : 0 ≤ few) (f1 : few < 4) (m b6 b7 : Option T) (ts : List T) (hl : ts.length ≤ 1000) : ∃ c6 c7 q, okQ q ∧ mxR ⟨[some (.int c), some (.lst us), some (.ref 0), some (.int k), m, some (.int few), b6, b7, none], [.lst ts]⟩ = .ok (.next ⟨[some (.int c), some (.lst us), some (.ref 0), some (.int k), m, some (.int few), c6, c7, none], [.lst (ts ++ [mkR q])]⟩) := by
  have mx := mix_eq c (10 + k)
  generalize mix c (10 + k) = x at mx
  have dr := draws2 x (1 + few) 5 ⟨by omega, by omega⟩ ⟨by decide, by decide⟩
  have a1 := Int.emod_nonneg x (b := 1 + few) (by omega)
  have a2 := Int.emod_lt_of_pos x (b := 1 + few) (by omega)
  have b1 := Int.emod_nonneg (x / (1 + few)) (b := 5) (by decide)
  have b2 := Int.emod_lt_of_pos (x / (1 + few)) (b := 5) (by decide)
  generalize x / (1 + few) % 5 = sz at *
  generalize x % (1 + few) = p at *
  obtain ⟨sz, rfl⟩ : ∃ n : Nat, sz = (n : Nat) := ⟨sz.toNat, by omega⟩
  obtain ⟨a, ha, ixa⟩ := ix_l' us p a1 (by rw [l7]; omega)
  obtain ⟨vs, lc, lv, hv⟩ := mx_names c us l7 hu sz (by omega) k (some (.ref 0)) m (some (.int few)) (some (.int p)) ts
  obtain ⟨q, eq, hq⟩ := rule_made (hu a ha) hv (by omega)
  have nv : T.nrs vs = true := nrs_mem fun t ht => nameT_nr (hv t ht)
  refine ⟨some (.int p), some (.int (sz : Nat)), q, hq, ?_⟩
  rw [eq]
  simp -implicitDefEqProofs only [mxR, fSeq, fIfS, fRet, fRetN, fNext, fAsg, fAsgG, fPar, fDrop, fOr, fAnd, fNot, fTest, fTruth, fAndV, fOrV, fNotV, fIf, fChain, fCall, fCallN, fCallD, fCons, fNil, fVar, fC, fBin, fTup, fFrz, fOwn, fLstN, fSlice, fNoPart, fPart, fSet, fGTup, fGCons, fGNil, rb_ok, rb_exc, rb_stk, noExc, Env.put, List.getElem?_cons_zero, List.getElem?_cons_succ, List.set_cons_zero, List.set_cons_succ, List.length_cons, List.length_nil, vw_non, vw_bl, vw_int, vw_str, vw_ty, vw_tup, vw_lst, vw_dct, vw_dcN, vw_exo, vw_cl, vw_obj, List.map_cons, List.map_nil, if_true, if_false, reduceIte, nr_non, nr_bl, nr_int, nr_str, nr_ty, nr_tup, nr_lst, nrs_nil, nrs_cons, Bool.and_true, Bool.true_and, Bool.and_false, Bool.false_and, Bool.not_true, Bool.not_false, Bool.or_false, Bool.false_or, Nat.reduceAdd, Nat.reduceLT, Nat.reduceLeDiff, Nat.reduceEqDiff, Nat.zero_add, initE, List.cons_append, List.nil_append, List.replicate, List.replicate_succ, List.replicate_zero, Nat.reduceSub, Bool.false_eq_true, decide_true, decide_false, and_true, true_and, and_self, fz_bl, fz_int, fz_str, fz_non, isU_s, isU_t, add_ii, mx, dr]
  simp -implicitDefEqProofs only [fSeq, fIfS, fRet, fRetN, fNext, fAsg, fAsgG, fPar, fDrop, fOr, fAnd, fNot, fTest, fTruth, fAndV, fOrV, fNotV, fIf, fChain, fCall, fCallN, fCallD, fCons, fNil, fVar, fC, fBin, fTup, fFrz, fOwn, fLstN, fSlice, fNoPart, fPart, fSet, fGTup, fGCons, fGNil, rb_ok, rb_exc, rb_stk, noExc, Env.put, List.getElem?_cons_zero, List.getElem?_cons_succ, List.set_cons_zero, List.set_cons_succ, List.length_cons, List.length_nil, vw_non, vw_bl, vw_int, vw_str, vw_ty, vw_tup, vw_lst, vw_dct, vw_dcN, vw_exo, vw_cl, vw_obj, List.map_cons, List.map_nil, if_true, if_false, reduceIte, nr_non, nr_bl, nr_int, nr_str, nr_ty, nr_tup, nr_lst, nrs_nil, nrs_cons, Bool.and_true, Bool.true_and, Bool.and_false, Bool.false_and, Bool.not_true, Bool.not_false, Bool.or_false, Bool.false_or, Nat.reduceAdd, Nat.reduceLT, Nat.reduceLeDiff, Nat.reduceEqDiff, Nat.zero_add, initE, List.cons_append, List.nil_append, List.replicate, List.replicate_succ, List.replicate_zero, Nat.reduceSub, Bool.false_eq_true, decide_true, decide_false, and_true, true_and, and_self, fz_bl, fz_int, fz_str, fz_non, isU_s, isU_t, ixa, lc, fAppend, mulist, tupleX_l]
  rw [if_pos (by omega)]
  rfl
theorem mx_loop (c : Int) (us : List T) (l7 : us.length = 7) (hu : ∀ t ∈ us, nameT t = true) (few m : Int) (f0 : 0 ≤ few) (f1 : few < 4) (n : Nat) (hn : n ≤ 900) : ∃ k' c6 c7, ∃ qs : List (List Nat × List (List Nat)), qs.length = n ∧ (∀ q ∈ qs, okQ q) ∧ forLoop (fSet 3) mxR .non .non ((List.range n).map fun (k : Nat) => T.int (0 + (k : Int))) ⟨[some (.int c), some (.lst us), some (.ref 0), none, some (.int m), some (.int few), none, none, none], [.lst []]⟩ = .ok (.next ⟨[some (.int c), some (.lst us), some (.ref 0), k', some (.int m), some (.int few), c6, c7, none], [.lst (qs.map mkR)]⟩) := by
  have key := forLoop_post (g := fSet 3) (fb := mxR) (t0 := .non) (u := .non)
    (P := fun fl => ∃ k' c6 c7, ∃ qs : List (List Nat × List (List Nat)), qs.length = n ∧ (∀ q ∈ qs, okQ q) ∧ fl = .next ⟨[some (.int c), some (.lst us), some (.ref 0), k', some (.int m), some (.int few), c6, c7, none], [.lst (qs.map mkR)]⟩)
    (fun ts ρ => ∃ k' c6 c7, ∃ qs : List (List Nat × List (List Nat)), qs.length + ts.length = n ∧ (∀ t ∈ ts, ∃ i : Int, t = .int i) ∧ (∀ q ∈ qs, okQ q) ∧ ρ = ⟨[some (.int c), some (.lst us), some (.ref 0), k', some (.int m), some (.int few), c6, c7, none], [.lst (qs.map mkR)]⟩) ?_ ?_ ((List.range n).map fun (k : Nat) => T.int (0 + (k : Int))) ⟨[some (.int c), some (.lst us), some (.ref 0), none, some (.int m), some (.int few), none, none, none], [.lst []]⟩ ⟨none, none, none, [], by simp, fun t ht => (by obtain ⟨k, _, rfl⟩ := List.mem_map.mp ht; exact ⟨_, rfl⟩), by simp, rfl⟩
  · obtain ⟨fl, e, k', c6, c7, qs, h1, h2, rfl⟩ := key
    exact ⟨k', c6, c7, qs, h1, h2, e⟩
  · rintro ρ ⟨k', c6, c7, qs, h1, _, h2, rfl⟩
    exact ⟨rfl, k', c6, c7, qs, by simpa using h1, h2, rfl⟩
  · rintro t ts ρ ⟨k', c6, c7, qs, h1, hi, h2, rfl⟩
    obtain ⟨i, rfl⟩ := hi t (List.mem_cons_self ..)
    simp only [List.length_cons] at h1
    obtain ⟨d6, d7, q, hq, e⟩ := mx_step c us l7 hu i few f0 f1 (some (.int m)) c6 c7 (qs.map mkR) (by rw [List.length_map]; omega)
    refine ⟨rfl, _, _, rfl, e, ?_⟩
    refine ⟨some (.int i), d6, d7, qs ++ [q], by simp; omega, fun t ht => hi t (List.mem_cons_of_mem _ ht), fun x hx => ?_, by rw [List.map_append]; rfl⟩
    rcases List.mem_append.mp hx with hx | hx
    · exact h2 x hx
    · obtain rfl := List.mem_singleton.mp hx
      exact hq
theorem mixes_eq (c : Int) : ∃ qs : List (List Nat × List (List Nat)), D__law_by_mixes [.int c] = .ok (.lst (qs.map mkR)) ∧ 1 ≤ qs.length ∧ qs.length ≤ 9 ∧ ∀ q ∈ qs, okQ q := by
  have m1 := mix_eq c 1
  have m2 := mix_eq c 2
  generalize mix c 1 = x1 at m1
  generalize mix c 2 = x2 at m2
  obtain ⟨us, nm, l7, hu⟩ := names_eq x1
  have nu : T.nrs us = true := nrs_mem fun t ht => nameT_nr (hu t ht)
  have dr := draws2 x2 9 4 ⟨by decide, by decide⟩ ⟨by decide, by decide⟩
  have a1 := Int.emod_nonneg x2 (b := 9) (by decide)
  have a2 := Int.emod_lt_of_pos x2 (b := 9) (by decide)
  have b1 := Int.emod_nonneg (x2 / 9) (b := 4) (by decide)
  have b2 := Int.emod_lt_of_pos (x2 / 9) (b := 4) (by decide)
  generalize x2 / 9 % 4 = few at *
  generalize x2 % 9 = m at *
  obtain ⟨k, hk⟩ : ∃ k : Nat, (k : Int) = 1 + m := ⟨(1 + m).toNat, by omega⟩
  obtain ⟨k', c6, c7, qs, h1, h2, e⟩ := mx_loop c us l7 hu few m b1 b2 k (by omega)
  refine ⟨qs, ?_, by omega, by omega, h2⟩
  have s1 : fAsg 1 (fCallD D__law_names 1 (fCons (fCallD D__law_mix 2 (fCons (fVar 0) (fCons (fC (.int 1)) fNil))) fNil)) (initE 9 [.int c]) = .ok (.next ⟨[some (.int c), some (.lst us), none, none, none, none, none, none, none], []⟩) := by
    simp -implicitDefEqProofs only [fSeq, fIfS, fRet, fRetN, fNext, fAsg, fAsgG, fPar, fDrop, fOr, fAnd, fNot, fTest, fTruth, fAndV, fOrV, fNotV, fIf, fChain, fCall, fCallN, fCallD, fCons, fNil, fVar, fC, fBin, fTup, fFrz, fOwn, fLstN, fSlice, fNoPart, fPart, fSet, fGTup, fGCons, fGNil, rb_ok, rb_exc, rb_stk, noExc, Env.put, List.getElem?_cons_zero, List.getElem?_cons_succ, List.set_cons_zero, List.set_cons_succ, List.length_cons, List.length_nil, vw_non, vw_bl, vw_int, vw_str, vw_ty, vw_tup, vw_lst, vw_dct, vw_dcN, vw_exo, vw_cl, vw_obj, List.map_cons, List.map_nil, if_true, if_false, reduceIte, nr_non, nr_bl, nr_int, nr_str, nr_ty, nr_tup, nr_lst, nrs_nil, nrs_cons, Bool.and_true, Bool.true_and, Bool.and_false, Bool.false_and, Bool.not_true, Bool.not_false, Bool.or_false, Bool.false_or, Nat.reduceAdd, Nat.reduceLT, Nat.reduceLeDiff, Nat.reduceEqDiff, Nat.zero_add, initE, List.cons_append, List.nil_append, List.replicate, List.replicate_succ, List.replicate_zero, Nat.reduceSub, Bool.false_eq_true, decide_true, decide_false, and_true, true_and, and_self, fz_bl, fz_int, fz_str, fz_non, isU_s, isU_t, m1, nm, nu]
  have s2 : fAsgG (fGTup 2 (fGCons (fSet 4) (fGCons (fSet 5) fGNil))) (fCallD D__law_draws 2 (fCons (fCallD D__law_mix 2 (fCons (fVar 0) (fCons (fC (.int 2)) fNil))) (fCons (fFrz (fLstN (fCons (fC (.int 9)) (fCons (fC (.int 4)) fNil)))) fNil))) ⟨[some (.int c), some (.lst us), none, none, none, none, none, none, none], []⟩ = .ok (.next ⟨[some (.int c), some (.lst us), none, none, some (.int m), some (.int few), none, none, none], []⟩) := by
    simp -implicitDefEqProofs only [fSeq, fIfS, fRet, fRetN, fNext, fAsg, fAsgG, fPar, fDrop, fOr, fAnd, fNot, fTest, fTruth, fAndV, fOrV, fNotV, fIf, fChain, fCall, fCallN, fCallD, fCons, fNil, fVar, fC, fBin, fTup, fFrz, fOwn, fLstN, fSlice, fNoPart, fPart, fSet, fGTup, fGCons, fGNil, rb_ok, rb_exc, rb_stk, noExc, Env.put, List.getElem?_cons_zero, List.getElem?_cons_succ, List.set_cons_zero, List.set_cons_succ, List.length_cons, List.length_nil, vw_non, vw_bl, vw_int, vw_str, vw_ty, vw_tup, vw_lst, vw_dct, vw_dcN, vw_exo, vw_cl, vw_obj, List.map_cons, List.map_nil, if_true, if_false, reduceIte, nr_non, nr_bl, nr_int, nr_str, nr_ty, nr_tup, nr_lst, nrs_nil, nrs_cons, Bool.and_true, Bool.true_and, Bool.and_false, Bool.false_and, Bool.not_true, Bool.not_false, Bool.or_false, Bool.false_or, Nat.reduceAdd, Nat.reduceLT, Nat.reduceLeDiff, Nat.reduceEqDiff, Nat.zero_add, initE, List.cons_append, List.nil_append, List.replicate, List.replicate_succ, List.replicate_zero, Nat.reduceSub, Bool.false_eq_true, decide_true, decide_false, and_true, true_and, and_self, fz_bl, fz_int, fz_str, fz_non, isU_s, isU_t, m2, dr]
  have s3 : fAsg 2 (fOwn (fLstN fNil)) ⟨[some (.int c), some (.lst us), none, none, some (.int m), some (.int few), none, none, none], []⟩ = .ok (.next ⟨[some (.int c), some (.lst us), some (.ref 0), none, some (.int m), some (.int few), none, none, none], [.lst []]⟩) := rfl
  have rg := range1_eq (fBin addT (fC (.int 1)) (fVar 4)) k ⟨[some (.int c), some (.lst us), some (.ref 0), none, some (.int m), some (.int few), none, none, none], [.lst []]⟩ ⟨[some (.int c), some (.lst us), some (.ref 0), none, some (.int m), some (.int few), none, none, none], [.lst []]⟩ (by
      simp -implicitDefEqProofs only [fSeq, fIfS, fRet, fRetN, fNext, fAsg, fAsgG, fPar, fDrop, fOr, fAnd, fNot, fTest, fTruth, fAndV, fOrV, fNotV, fIf, fChain, fCall, fCallN, fCallD, fCons, fNil, fVar, fC, fBin, fTup, fFrz, fOwn, fLstN, fSlice, fNoPart, fPart, fSet, fGTup, fGCons, fGNil, rb_ok, rb_exc, rb_stk, noExc, Env.put, List.getElem?_cons_zero, List.getElem?_cons_succ, List.set_cons_zero, List.set_cons_succ, List.length_cons, List.length_nil, vw_non, vw_bl, vw_int, vw_str, vw_ty, vw_tup, vw_lst, vw_dct, vw_dcN, vw_exo, vw_cl, vw_obj, List.map_cons, List.map_nil, if_true, if_false, reduceIte, nr_non, nr_bl, nr_int, nr_str, nr_ty, nr_tup, nr_lst, nrs_nil, nrs_cons, Bool.and_true, Bool.true_and, Bool.and_false, Bool.false_and, Bool.not_true, Bool.not_false, Bool.or_false, Bool.false_or, Nat.reduceAdd, Nat.reduceLT, Nat.reduceLeDiff, Nat.reduceEqDiff, Nat.zero_add, initE, List.cons_append, List.nil_append, List.replicate, List.replicate_succ, List.replicate_zero, Nat.reduceSub, Bool.false_eq_true, decide_true, decide_false, and_true, true_and, and_self, fz_bl, fz_int, fz_str, fz_non, isU_s, isU_t, add_ii, hk]) (by omega)
  have s4 : fFor (fRange1 (fCons (fBin addT (fC (.int 1)) (fVar 4)) fNil)) (fSet 3) mxR ⟨[some (.int c), some (.lst us), some (.ref 0), none, some (.int m), some (.int few), none, none, none], [.lst []]⟩ = .ok (.next ⟨[some (.int c), some (.lst us), some (.ref 0), k', some (.int m), some (.int few), c6, c7, none], [.lst (qs.map mkR)]⟩) := by
    unfold fFor
    rw [rg]
    simp only [rb_ok]
    exact e
  refine runD_ret (t := .ref 0) (ρ := ⟨[some (.int c), some (.lst us), some (.ref 0), k', some (.int m), some (.int few), c6, c7, none], [.lst (qs.map mkR)]⟩) ?_ (fz_lst rfl (nrs_mkR _))
  change fSeq _ (fSeq _ (fSeq _ (fSeq (fFor _ (fSet 3) mxR) _))) (initE 9 [.int c]) = _
  rw [seq_step s1, seq_step s2, seq_step s3, seq_step s4]
  rfl
end K13
namespace K13
open PySem L2 GxR Gx Tr
theorem putG_once (acc : List T) (t : T) : putG nkOf (acc.map fun x => (x, T.bl true)) t (.bl true) = (onceT acc [t]).map fun x => (x, T.bl true) := by
  unfold putG onceT
  rw [any_map (fun _ => rfl)]
  split
  · unfold onceT
    rw [List.map_map]
    refine List.map_congr_left fun x _ => ?_
    show (if nkOf x = nkOf t then (x, T.bl true) else (x, T.bl true)) = (x, T.bl true)
    split <;> rfl
  · unfold onceT
    rw [List.map_append]
    rfl
theorem dict_once : ∀ (ts : List T), (∀ t ∈ ts, keyN t) → ∃ ps, pairsT (ts.map fun t => T.tup [t, .bl true]) = some ps ∧ ps.length = ts.length ∧ ∀ acc : List T, putAllN (acc.map fun x => (x, T.bl true)) ps = some ((onceT acc ts).map fun x => (x, T.bl true))
  | [], _ => ⟨[], rfl, rfl, fun acc => by unfold onceT; rfl⟩
  | t :: ts, h => by
    obtain ⟨ps, e1, e2, e3⟩ := dict_once ts fun x hx => h x (List.mem_cons_of_mem _ hx)
    obtain ⟨n, key, rfl, e, hd⟩ := h t (List.mem_cons_self ..)
    refine ⟨(n, .bl true) :: ps, ?_, by rw [List.length_cons, List.length_cons, e2], fun acc => ?_⟩
    · rw [List.map_cons]
      show (pairsT _).map _ = _
      rw [e1]
      rfl
    · unfold putAllN
      simp only [e]
      rw [if_pos hd, putG_once, e3, once_step]
theorem once_nd : ∀ (ts acc : List T), acc.Nodup → (onceT acc ts).Nodup
  | [], acc, h => by unfold onceT; exact h
  | t :: ts, acc, h => by
    unfold onceT
    split
    · exact once_nd ts acc h
    · rename_i hn
      refine once_nd ts _ ?_
      rw [List.nodup_append]
      refine ⟨h, by simp, fun a ha b hb e => ?_⟩
      rw [List.mem_singleton] at hb
      subst hb
      subst e
      exact hn (List.any_eq_true.mpr ⟨_, ha, decide_eq_true rfl⟩)
theorem once_ge : ∀ (ts acc : List T), acc.length ≤ (onceT acc ts).length
  | [], acc => by unfold onceT; exact Nat.le_refl _
  | t :: ts, acc => by
    unfold onceT
    split
    · exact once_ge ts acc
    · have := once_ge ts (acc ++ [t])
      simp only [List.length_append, List.length_cons] at this
      omega
theorem once_one (t : T) (ts : List T) : 1 ≤ (onceT [] (t :: ts)).length := by
  unfold onceT
  exact once_ge ts [t]
theorem rules_of : ∀ {us : List T}, (∀ t ∈ us, ∃ q, t = mkR q ∧ okQ q) → ∃ qs : List (List Nat × List (List Nat)), us = qs.map mkR ∧ ∀ q ∈ qs, okQ q
  | [], _ => ⟨[], rfl, fun q h => by cases h⟩
  | t :: us, h => by
    obtain ⟨q, rfl, p⟩ := h t (List.mem_cons_self ..)
    obtain ⟨qs, rfl, r⟩ := rules_of fun t ht => h t (List.mem_cons_of_mem _ ht)
    exact ⟨q :: qs, rfl, fun x hx => (List.mem_cons.mp hx).elim (fun e => by rw [e]; exact p) (r x)⟩
theorem flat_len : ∀ (qs : List (List Nat × List (List Nat))), (∀ q ∈ qs, okQ q) → ((qs.map (·.2)).flatten).length ≤ 4 * qs.length
  | [], _ => Nat.le_refl _
  | q :: qs, h => by
    have h1 := (h q (List.mem_cons_self ..)).2
    have h2 := flat_len qs fun x hx => h x (List.mem_cons_of_mem _ hx)
    simp only [List.map_cons, List.flatten_cons, List.length_append, List.length_cons]
    omega
theorem words_few (qs : List (List Nat × List (List Nat))) (h : ∀ q ∈ qs, okQ q) (h9 : qs.length ≤ 9) : (wordsOf qs).length < 64 := by
  have h1 := wordsF_len (hasK_nums (qs := qs)) (qs.map (·.2)).flatten []
  have h2 := flat_len qs h
  unfold wordsOf
  simp only [List.length_nil] at h1
  omega
/-- rules that make a grammar -/
structure GoodQ (qs : List (List Nat × List (List Nat))) : Prop where
  ne : qs ≠ []
  ok : ∀ q ∈ qs, okQ q
  nd : (qs.map mkR).Nodup
  len : qs.length ≤ 9
theorem rules_tail (c : T) (ps : List (List Nat × List (List Nat))) (h1 : 1 ≤ ps.length) (h9 : ps.length ≤ 9) (hp : ∀ q ∈ ps, okQ q) : ∃ qs, GoodQ qs ∧ fRet (fFrz (fCallN listNX (fCons (fCall dictN (fCons (fFrz (fLc [2] (fItL (fVar 1)) (fSet 2) fYes (fTup (fCons (fVar 2) (fCons (fC (.bl true)) fNil))))) fNil)) fNil))) ⟨[some c, some (.lst (ps.map mkR)), none], []⟩ = .ok (.ret (.lst (qs.map mkR)) ⟨[some c, some (.lst (ps.map mkR)), none], []⟩) := by
  have kn : ∀ t ∈ ps.map mkR, keyN t := fun t ht => by
    obtain ⟨q, hq, rfl⟩ := List.mem_map.mp ht
    exact ruleT_key (hp q hq).1
  obtain ⟨ds, e1, e2, e3⟩ := dict_once (ps.map mkR) kn
  have e3 := e3 []
  obtain ⟨qs, eq, hq⟩ := rules_of (us := onceT [] (ps.map mkR)) fun t ht => by
    rcases once_mem _ _ t ht with h | h
    · cases h
    · obtain ⟨q, hq, rfl⟩ := List.mem_map.mp h
      exact ⟨q, rfl, hp q hq⟩
  have ln : qs.length ≤ 9 := by
    have := onceT_len (ps.map mkR) []
    rw [eq, List.length_map, List.length_map] at this
    simp only [List.length_nil] at this
    omega
  have ne : qs ≠ [] := fun z => by
    subst z
    cases ps with
    | nil => simp at h1
    | cons p ps =>
      have := once_one (mkR p) (ps.map mkR)
      rw [← List.map_cons, eq] at this
      simp at this
  refine ⟨qs, ⟨ne, hq, by rw [← eq]; exact once_nd _ _ List.nodup_nil, ln⟩, ?_⟩
  have il : fItL (fVar 1) ⟨[some c, some (.lst (ps.map mkR)), none], []⟩ = .ok (⟨ps.map mkR, .lst (ps.map mkR), .lst (ps.map mkR)⟩, ⟨[some c, some (.lst (ps.map mkR)), none], []⟩) := rfl
  have lm := fLc_map (vs := [2]) (fi := fItL (fVar 1)) (g := fSet 2) (ft := fYes) (fe := fTup (fCons (fVar 2) (fCons (fC (.bl true)) fNil))) (ρ := ⟨[some c, some (.lst (ps.map mkR)), none], []⟩) (fun _ => true) (fun t => .tup [t, .bl true]) il rfl rfl (by simp; omega) (fun t ht => by
    obtain ⟨q, _, rfl⟩ := List.mem_map.mp ht
    exact ⟨⟨[some c, some (.lst (ps.map mkR)), some (mkR q)], []⟩, rfl, rfl, fun _ => rfl, rfl⟩)
  rw [show (⟨ps.map mkR, .lst (ps.map mkR), .lst (ps.map mkR)⟩ : Wk).ts = ps.map mkR from rfl, List.filter_eq_self.mpr (fun _ _ => rfl)] at lm
  have dn : dictN [.lst ((ps.map mkR).map fun t => T.tup [t, .bl true])] = some (.dcN ((qs.map mkR).map fun x => (x, T.bl true))) := by
    unfold dictN
    simp only [e1]
    rw [if_pos (by rw [e2, List.length_map]; omega), show ([] : List (T × T)) = ([] : List T).map (fun x => (x, T.bl true)) from rfl, e3, eq]
    rfl
  have ls : listNX [.dcN ((qs.map mkR).map fun x => (x, T.bl true))] = some (qs.map mkR) := by
    unfold listNX
    simp only []
    rw [if_pos (by simp; omega), List.map_map]
    exact congrArg some (by rw [show ((fun x : T × T => x.1) ∘ fun x : T => (x, T.bl true)) = id from rfl, List.map_id])
  simp -implicitDefEqProofs only [fSeq, fIfS, fRet, fRetN, fNext, fAsg, fAsgG, fPar, fDrop, fOr, fAnd, fNot, fTest, fTruth, fAndV, fOrV, fNotV, fIf, fChain, fCall, fCallN, fCallD, fCons, fNil, fVar, fC, fBin, fTup, fFrz, fOwn, fLstN, fSlice, fNoPart, fPart, fSet, fGTup, fGCons, fGNil, rb_ok, rb_exc, rb_stk, noExc, Env.put, List.getElem?_cons_zero, List.getElem?_cons_succ, List.set_cons_zero, List.set_cons_succ, List.length_cons, List.length_nil, vw_non, vw_bl, vw_int, vw_str, vw_ty, vw_tup, vw_lst, vw_dct, vw_dcN, vw_exo, vw_cl, vw_obj, List.map_cons, List.map_nil, if_true, if_false, reduceIte, nr_non, nr_bl, nr_int, nr_str, nr_ty, nr_tup, nr_lst, nrs_nil, nrs_cons, Bool.and_true, Bool.true_and, Bool.and_false, Bool.false_and, Bool.not_true, Bool.not_false, Bool.or_false, Bool.false_or, Nat.reduceAdd, Nat.reduceLT, Nat.reduceLeDiff, Nat.reduceEqDiff, Nat.zero_add, initE, List.cons_append, List.nil_append, List.replicate, List.replicate_succ, List.replicate_zero, Nat.reduceSub, Bool.false_eq_true, decide_true, decide_false, and_true, true_and, and_self, fz_bl, fz_int, fz_str, fz_non, isU_s, isU_t, lm, dn, ls]
theorem rules_eq (c : Int) : ∃ qs, GoodQ qs ∧ D__law_rules [.int c] = .ok (.lst (qs.map mkR)) := by
  have ab := abs_i c
  generalize (if c < 0 then -c else c) = n at ab
  have fin : ∀ ps : List (List Nat × List (List Nat)), 1 ≤ ps.length → ps.length ≤ 9 → (∀ q ∈ ps, okQ q) → fAsg 1 (fIf (fTest (fBin geT (fCall absT (fCons (fVar 0) fNil)) (fBin powT (fC (.int 10)) (fC (.int 18))))) (fCallD D__law_by_digits 1 (fCons (fBin subT (fCall absT (fCons (fVar 0) fNil)) (fBin powT (fC (.int 10)) (fC (.int 18)))) fNil)) (fCallD D__law_by_mixes 1 (fCons (fVar 0) fNil))) (initE 3 [.int c]) = .ok (.next ⟨[some (.int c), some (.lst (ps.map mkR)), none], []⟩) → ∃ qs, GoodQ qs ∧ D__law_rules [.int c] = .ok (.lst (qs.map mkR)) := fun ps h1 h9 hp e => by
    obtain ⟨qs, g, t⟩ := rules_tail (.int c) ps h1 h9 hp
    refine ⟨qs, g, runD_ret (t := .lst (qs.map mkR)) (ρ := ⟨[some (.int c), some (.lst (ps.map mkR)), none], []⟩) ?_ (fz_lstF (nrs_mkR _))⟩
    show fSeq _ _ (initE 3 [.int c]) = _
    rw [seq_step e]
    exact t
  by_cases hz : (1000000000000000000 : Int) ≤ n
  · obtain ⟨ps, e, h1, h9, hp⟩ := digits_eq (n - 1000000000000000000)
    refine fin ps h1 h9 hp ?_
    have nr := nrs_mkR ps
    simp -implicitDefEqProofs only [fSeq, fIfS, fRet, fRetN, fNext, fAsg, fAsgG, fPar, fDrop, fOr, fAnd, fNot, fTest, fTruth, fAndV, fOrV, fNotV, fIf, fChain, fCall, fCallN, fCallD, fCons, fNil, fVar, fC, fBin, fTup, fFrz, fOwn, fLstN, fSlice, fNoPart, fPart, fSet, fGTup, fGCons, fGNil, rb_ok, rb_exc, rb_stk, noExc, Env.put, List.getElem?_cons_zero, List.getElem?_cons_succ, List.set_cons_zero, List.set_cons_succ, List.length_cons, List.length_nil, vw_non, vw_bl, vw_int, vw_str, vw_ty, vw_tup, vw_lst, vw_dct, vw_dcN, vw_exo, vw_cl, vw_obj, List.map_cons, List.map_nil, if_true, if_false, reduceIte, nr_non, nr_bl, nr_int, nr_str, nr_ty, nr_tup, nr_lst, nrs_nil, nrs_cons, Bool.and_true, Bool.true_and, Bool.and_false, Bool.false_and, Bool.not_true, Bool.not_false, Bool.or_false, Bool.false_or, Nat.reduceAdd, Nat.reduceLT, Nat.reduceLeDiff, Nat.reduceEqDiff, Nat.zero_add, initE, List.cons_append, List.nil_append, List.replicate, List.replicate_succ, List.replicate_zero, Nat.reduceSub, Bool.false_eq_true, decide_true, decide_false, and_true, true_and, and_self, fz_bl, fz_int, fz_str, fz_non, isU_s, isU_t, ab, pow_18, ge_ii, sub_ii, decide_eq_true hz, e, nr]
  · obtain ⟨ps, e, h1, h9, hp⟩ := mixes_eq c
    refine fin ps h1 h9 hp ?_
    have nr := nrs_mkR ps
    simp -implicitDefEqProofs only [fSeq, fIfS, fRet, fRetN, fNext, fAsg, fAsgG, fPar, fDrop, fOr, fAnd, fNot, fTest, fTruth, fAndV, fOrV, fNotV, fIf, fChain, fCall, fCallN, fCallD, fCons, fNil, fVar, fC, fBin, fTup, fFrz, fOwn, fLstN, fSlice, fNoPart, fPart, fSet, fGTup, fGCons, fGNil, rb_ok, rb_exc, rb_stk, noExc, Env.put, List.getElem?_cons_zero, List.getElem?_cons_succ, List.set_cons_zero, List.set_cons_succ, List.length_cons, List.length_nil, vw_non, vw_bl, vw_int, vw_str, vw_ty, vw_tup, vw_lst, vw_dct, vw_dcN, vw_exo, vw_cl, vw_obj, List.map_cons, List.map_nil, if_true, if_false, reduceIte, nr_non, nr_bl, nr_int, nr_str, nr_ty, nr_tup, nr_lst, nrs_nil, nrs_cons, Bool.and_true, Bool.true_and, Bool.and_false, Bool.false_and, Bool.not_true, Bool.not_false, Bool.or_false, Bool.false_or, Nat.reduceAdd, Nat.reduceLT, Nat.reduceLeDiff, Nat.reduceEqDiff, Nat.zero_add, initE, List.cons_append, List.nil_append, List.replicate, List.replicate_succ, List.replicate_zero, Nat.reduceSub, Bool.false_eq_true, decide_true, decide_false, and_true, true_and, and_self, fz_bl, fz_int, fz_str, fz_non, isU_s, isU_t, ab, pow_18, ge_ii, sub_ii, decide_eq_false hz, e, nr]
end K13
namespace K13
open PySem L2 GxR Gx Tr
def rtT : FS := (fSeq (fAsg 4 (fCall reprT (fCons (fVar 3) fNil))) (fSeq (fIfS (fOr (fTest (fBin neT (fCallD D__law_made 1 (fCons (fVar 3) fNil)) (fC (.str [78, 111, 71, 114, 97, 109, 109, 97, 114])))) (fTest (fBin neT (fCall reprT (fCons (fVar 3) fNil)) (fVar 4)))) (fRet (fC (.bl false))) fNext) (fRet (fOrV (fBin gtT (fVar 5) (fC (.int 0))) (fCallD D__law_many_right 1 (fCons (fVar 6) fNil))))))
theorem rt_tail (c a b g : Option T) (way more : Int) (o : T) (hb : o.base = true) (hn : o.nr = true) (mo : D__law_made [o] = .ok (.str [78, 111, 71, 114, 97, 109, 109, 97, 114])) (rp : ∃ l, reprT [o] = some (.str l)) (k0 : Option T) : ∃ ρ, rtT ⟨[c, a, b, some o, k0, some (.int way), some (.int more), g], []⟩ = .ok (.ret (.bl true) ρ) := by
  obtain ⟨l, rp⟩ := rp
  have vo : vw [] o = o := base_vw hb
  have n1 := ne_str [78, 111, 71, 114, 97, 109, 109, 97, 114]
  have n2 := ne_str l
  have mr := many_right more
  by_cases hw : 0 < way
  · exact ⟨_, by simp -implicitDefEqProofs only [rtT, fSeq, fIfS, fRet, fRetN, fNext, fAsg, fAsgG, fPar, fDrop, fOr, fAnd, fNot, fTest, fTruth, fAndV, fOrV, fNotV, fIf, fChain, fCall, fCallN, fCallD, fCons, fNil, fVar, fC, fBin, fTup, fFrz, fOwn, fLstN, fSlice, fNoPart, fPart, fSet, fGTup, fGCons, fGNil, rb_ok, rb_exc, rb_stk, noExc, Env.put, List.getElem?_cons_zero, List.getElem?_cons_succ, List.set_cons_zero, List.set_cons_succ, List.length_cons, List.length_nil, vw_non, vw_bl, vw_int, vw_str, vw_ty, vw_tup, vw_lst, vw_dct, vw_dcN, vw_exo, vw_cl, vw_obj, List.map_cons, List.map_nil, if_true, if_false, reduceIte, nr_non, nr_bl, nr_int, nr_str, nr_ty, nr_tup, nr_lst, nrs_nil, nrs_cons, Bool.and_true, Bool.true_and, Bool.and_false, Bool.false_and, Bool.not_true, Bool.not_false, Bool.or_false, Bool.false_or, Nat.reduceAdd, Nat.reduceLT, Nat.reduceLeDiff, Nat.reduceEqDiff, Nat.zero_add, initE, List.cons_append, List.nil_append, List.replicate, List.replicate_succ, List.replicate_zero, Nat.reduceSub, Bool.false_eq_true, decide_true, decide_false, and_true, true_and, and_self, fz_bl, fz_int, fz_str, fz_non, isU_s, isU_t, vo, hn, mo, rp, n1, n2, gt_ii, decide_eq_true hw]; rfl⟩
  · exact ⟨_, by simp -implicitDefEqProofs only [rtT, fSeq, fIfS, fRet, fRetN, fNext, fAsg, fAsgG, fPar, fDrop, fOr, fAnd, fNot, fTest, fTruth, fAndV, fOrV, fNotV, fIf, fChain, fCall, fCallN, fCallD, fCons, fNil, fVar, fC, fBin, fTup, fFrz, fOwn, fLstN, fSlice, fNoPart, fPart, fSet, fGTup, fGCons, fGNil, rb_ok, rb_exc, rb_stk, noExc, Env.put, List.getElem?_cons_zero, List.getElem?_cons_succ, List.set_cons_zero, List.set_cons_succ, List.length_cons, List.length_nil, vw_non, vw_bl, vw_int, vw_str, vw_ty, vw_tup, vw_lst, vw_dct, vw_dcN, vw_exo, vw_cl, vw_obj, List.map_cons, List.map_nil, if_true, if_false, reduceIte, nr_non, nr_bl, nr_int, nr_str, nr_ty, nr_tup, nr_lst, nrs_nil, nrs_cons, Bool.and_true, Bool.true_and, Bool.and_false, Bool.false_and, Bool.not_true, Bool.not_false, Bool.or_false, Bool.false_or, Nat.reduceAdd, Nat.reduceLT, Nat.reduceLeDiff, Nat.reduceEqDiff, Nat.zero_add, initE, List.cons_append, List.nil_append, List.replicate, List.replicate_succ, List.replicate_zero, Nat.reduceSub, Bool.false_eq_true, decide_true, decide_false, and_true, true_and, and_self, fz_bl, fz_int, fz_str, fz_non, isU_s, isU_t, vo, hn, mo, rp, n1, n2, gt_ii, decide_eq_false hw, mr]; rfl⟩
theorem put_in {α : Type} (l : List α) (k : Nat) (hk : k ≤ l.length) (x : α) : cutL l none (some (k : Int)) = l.take k ∧ cutL l (some (k : Int)) none = l.drop k := by
  have z : min k l.length = k := by omega
  constructor
  · unfold cutL
    rw [HT.sIx_none, HT.sIx_nat, z]
    simp
  · unfold cutL
    rw [HT.sIx_none, HT.sIx_nat, z]
    exact List.take_of_length_le (by simp)
theorem mem_in {α : Type} {l : List α} {k : Nat} {x y : α} (h : y ∈ l.take k ++ [x] ++ l.drop k) : y = x ∨ y ∈ l := by
  rcases List.mem_append.mp h with h | h
  · rcases List.mem_append.mp h with h | h
    · exact .inr (List.mem_of_mem_take h)
    · exact .inl (List.mem_singleton.mp h)
  · exact .inr (List.mem_of_mem_drop h)
theorem twice_in {α : Type} {l : List α} {k : Nat} {x : α} (hx : x ∈ l) : ¬ (l.take k ++ [x] ++ l.drop k).Nodup := fun nd => by
  rw [← List.take_append_drop k l] at hx
  rw [List.append_assoc, List.nodup_append] at nd
  obtain ⟨_, n2, n3⟩ := nd
  rcases List.mem_append.mp hx with h | h
  · exact n3 x h x (by simp) rfl
  · rw [List.singleton_append, List.nodup_cons] at n2
    exact n2.1 h
theorem right_eq (c : Int) : D__law_right [.int c] = .ok (.bl true) := by
  obtain ⟨qs, gq, rl⟩ := rules_eq c
  have m3 := mix_eq c 3
  generalize mix c 3 = x at m3
  have dr := draws3 x 5 20 1000000 ⟨by decide, by decide⟩ ⟨by decide, by decide⟩ ⟨by decide, by decide⟩
  generalize x % 5 = way at *
  generalize x / 5 % 20 = at0 at *
  generalize x / 5 / 20 % 1000000 = more at *
  have nr : T.nrs (qs.map mkR) = true := nrs_mkR qs
  have ok : ∀ t ∈ qs.map mkR, ruleT t = true := fun t ht => by
    obtain ⟨q, hq, rfl⟩ := List.mem_map.mp ht
    exact (gq.ok q hq).1
  have pd : ∀ t ∈ qs.map mkR, pdB t = true := fun t ht => by
    obtain ⟨q, hq, rfl⟩ := List.mem_map.mp ht
    exact pd_rule (gq.ok q hq).1
  have md := made_good gq.ne (fun q hq => (gq.ok q hq).1) gq.nd (by have := gq.len; omega) (words_few qs gq.ok gq.len)
  obtain ⟨y1, y2⟩ := py_rules qs
  have ns := neT_self y1 y2
  have p6 : powT (.int 10) (.int 6) = some (.int 1000000) := rfl
  have ll := gq.len
  have l1 : 1 ≤ (qs.map mkR).length := by
    rw [List.length_map]
    cases qs with
    | nil => exact (gq.ne rfl).elim
    | cons => simp
  have l9 : (qs.map mkR).length ≤ 9 := by rw [List.length_map]; exact ll
  clear gq
  generalize qs.map mkR = us at *
  have k1 := Int.emod_nonneg at0 (b := (us.length : Int) + 1) (by omega)
  have k2 := Int.emod_lt_of_pos at0 (b := (us.length : Int) + 1) (by omega)
  have mo := mod_ii at0 ((us.length : Int) + 1) (by omega)
  obtain ⟨k, hk⟩ : ∃ k : Nat, at0 % ((us.length : Int) + 1) = (k : Nat) := ⟨(at0 % ((us.length : Int) + 1)).toNat, by omega⟩
  rw [hk] at mo
  have kl : k ≤ us.length := by omega
  have lx : lenX [.lst us] = some (.int us.length) := rfl
  have j1 := Int.emod_nonneg more (b := (us.length : Int)) (by omega)
  have j2 := Int.emod_lt_of_pos more (b := (us.length : Int)) (by omega)
  have mj := mod_ii more (us.length : Int) (by omega)
  obtain ⟨r, hr, ir⟩ := ix_l' us (more % (us.length : Int)) j1 j2
  obtain ⟨o, _, oe, o1, o2, o3⟩ := odd_eq more
  obtain ⟨e, he, ee, e1, e2, e3⟩ := no_eq more
  obtain ⟨c1, c2⟩ := put_in us k kl o
  have t1 := cut_l us none (some (k : Int))
  have t2 := cut_l us (some (k : Int)) none
  rw [c1] at t1
  rw [c2] at t2
  have lt : (us.take k).length ≤ 9 := by rw [List.length_take]; omega
  have ld : (us.drop k).length ≤ 9 := by rw [List.length_drop]; omega
  have a1 := fun z : T => add_ll (us.take k) [z] (by simp only [List.length_cons, List.length_nil]; omega)
  have a2 := fun z : T => add_ll (us.take k ++ [z]) (us.drop k) (by simp only [List.length_append, List.length_cons, List.length_nil]; omega)
  have ln : ∀ z : T, (us.take k ++ [z] ++ us.drop k).length ≤ 300 := fun z => by simp only [List.length_append, List.length_cons, List.length_nil]; omega
  have s1 : fAsg 1 (fCallD D__law_rules 1 (fCons (fVar 0) fNil)) (initE 8 [.int c]) = .ok (.next ⟨[some (.int c), some (.lst us), none, none, none, none, none, none], []⟩) := by
    simp -implicitDefEqProofs only [fSeq, fIfS, fRet, fRetN, fNext, fAsg, fAsgG, fPar, fDrop, fOr, fAnd, fNot, fTest, fTruth, fAndV, fOrV, fNotV, fIf, fChain, fCall, fCallN, fCallD, fCons, fNil, fVar, fC, fBin, fTup, fFrz, fOwn, fLstN, fSlice, fNoPart, fPart, fSet, fGTup, fGCons, fGNil, rb_ok, rb_exc, rb_stk, noExc, Env.put, List.getElem?_cons_zero, List.getElem?_cons_succ, List.set_cons_zero, List.set_cons_succ, List.length_cons, List.length_nil, vw_non, vw_bl, vw_int, vw_str, vw_ty, vw_tup, vw_lst, vw_dct, vw_dcN, vw_exo, vw_cl, vw_obj, List.map_cons, List.map_nil, if_true, if_false, reduceIte, nr_non, nr_bl, nr_int, nr_str, nr_ty, nr_tup, nr_lst, nrs_nil, nrs_cons, Bool.and_true, Bool.true_and, Bool.and_false, Bool.false_and, Bool.not_true, Bool.not_false, Bool.or_false, Bool.false_or, Nat.reduceAdd, Nat.reduceLT, Nat.reduceLeDiff, Nat.reduceEqDiff, Nat.zero_add, initE, List.cons_append, List.nil_append, List.replicate, List.replicate_succ, List.replicate_zero, Nat.reduceSub, Bool.false_eq_true, decide_true, decide_false, and_true, true_and, and_self, fz_bl, fz_int, fz_str, fz_non, isU_s, isU_t, rl, nr]
  have s2 : fAsgG (fGTup 3 (fGCons (fSet 5) (fGCons (fSet 2) (fGCons (fSet 6) fGNil)))) (fCallD D__law_draws 2 (fCons (fCallD D__law_mix 2 (fCons (fVar 0) (fCons (fC (.int 3)) fNil))) (fCons (fFrz (fLstN (fCons (fC (.int 5)) (fCons (fC (.int 20)) (fCons (fBin powT (fC (.int 10)) (fC (.int 6))) fNil))))) fNil))) ⟨[some (.int c), some (.lst us), none, none, none, none, none, none], []⟩ = .ok (.next ⟨[some (.int c), some (.lst us), some (.int at0), none, none, some (.int way), some (.int more), none], []⟩) := by
    simp -implicitDefEqProofs only [fSeq, fIfS, fRet, fRetN, fNext, fAsg, fAsgG, fPar, fDrop, fOr, fAnd, fNot, fTest, fTruth, fAndV, fOrV, fNotV, fIf, fChain, fCall, fCallN, fCallD, fCons, fNil, fVar, fC, fBin, fTup, fFrz, fOwn, fLstN, fSlice, fNoPart, fPart, fSet, fGTup, fGCons, fGNil, rb_ok, rb_exc, rb_stk, noExc, Env.put, List.getElem?_cons_zero, List.getElem?_cons_succ, List.set_cons_zero, List.set_cons_succ, List.length_cons, List.length_nil, vw_non, vw_bl, vw_int, vw_str, vw_ty, vw_tup, vw_lst, vw_dct, vw_dcN, vw_exo, vw_cl, vw_obj, List.map_cons, List.map_nil, if_true, if_false, reduceIte, nr_non, nr_bl, nr_int, nr_str, nr_ty, nr_tup, nr_lst, nrs_nil, nrs_cons, Bool.and_true, Bool.true_and, Bool.and_false, Bool.false_and, Bool.not_true, Bool.not_false, Bool.or_false, Bool.false_or, Nat.reduceAdd, Nat.reduceLT, Nat.reduceLeDiff, Nat.reduceEqDiff, Nat.zero_add, initE, List.cons_append, List.nil_append, List.replicate, List.replicate_succ, List.replicate_zero, Nat.reduceSub, Bool.false_eq_true, decide_true, decide_false, and_true, true_and, and_self, fz_bl, fz_int, fz_str, fz_non, isU_s, isU_t, m3, p6, dr]
  have s3 : fAsg 2 (fBin modT (fVar 2) (fBin addT (fCall lenX (fCons (fVar 1) fNil)) (fC (.int 1)))) ⟨[some (.int c), some (.lst us), some (.int at0), none, none, some (.int way), some (.int more), none], []⟩ = .ok (.next ⟨[some (.int c), some (.lst us), some (.int (k : Nat)), none, none, some (.int way), some (.int more), none], []⟩) := by
    simp -implicitDefEqProofs only [fSeq, fIfS, fRet, fRetN, fNext, fAsg, fAsgG, fPar, fDrop, fOr, fAnd, fNot, fTest, fTruth, fAndV, fOrV, fNotV, fIf, fChain, fCall, fCallN, fCallD, fCons, fNil, fVar, fC, fBin, fTup, fFrz, fOwn, fLstN, fSlice, fNoPart, fPart, fSet, fGTup, fGCons, fGNil, rb_ok, rb_exc, rb_stk, noExc, Env.put, List.getElem?_cons_zero, List.getElem?_cons_succ, List.set_cons_zero, List.set_cons_succ, List.length_cons, List.length_nil, vw_non, vw_bl, vw_int, vw_str, vw_ty, vw_tup, vw_lst, vw_dct, vw_dcN, vw_exo, vw_cl, vw_obj, List.map_cons, List.map_nil, if_true, if_false, reduceIte, nr_non, nr_bl, nr_int, nr_str, nr_ty, nr_tup, nr_lst, nrs_nil, nrs_cons, Bool.and_true, Bool.true_and, Bool.and_false, Bool.false_and, Bool.not_true, Bool.not_false, Bool.or_false, Bool.false_or, Nat.reduceAdd, Nat.reduceLT, Nat.reduceLeDiff, Nat.reduceEqDiff, Nat.zero_add, initE, List.cons_append, List.nil_append, List.replicate, List.replicate_succ, List.replicate_zero, Nat.reduceSub, Bool.false_eq_true, decide_true, decide_false, and_true, true_and, and_self, fz_bl, fz_int, fz_str, fz_non, isU_s, isU_t, lx, add_ii, mo]
  have s4 : fIfS (fTest (fBin neT (fCallD D__law_made 1 (fCons (fVar 1) fNil)) (fCall tupleX (fCons (fVar 1) fNil)))) (fRet (fC (.bl false))) fNext ⟨[some (.int c), some (.lst us), some (.int (k : Nat)), none, none, some (.int way), some (.int more), none], []⟩ = .ok (.next ⟨[some (.int c), some (.lst us), some (.int (k : Nat)), none, none, some (.int way), some (.int more), none], []⟩) := by
    simp -implicitDefEqProofs only [fSeq, fIfS, fRet, fRetN, fNext, fAsg, fAsgG, fPar, fDrop, fOr, fAnd, fNot, fTest, fTruth, fAndV, fOrV, fNotV, fIf, fChain, fCall, fCallN, fCallD, fCons, fNil, fVar, fC, fBin, fTup, fFrz, fOwn, fLstN, fSlice, fNoPart, fPart, fSet, fGTup, fGCons, fGNil, rb_ok, rb_exc, rb_stk, noExc, Env.put, List.getElem?_cons_zero, List.getElem?_cons_succ, List.set_cons_zero, List.set_cons_succ, List.length_cons, List.length_nil, vw_non, vw_bl, vw_int, vw_str, vw_ty, vw_tup, vw_lst, vw_dct, vw_dcN, vw_exo, vw_cl, vw_obj, List.map_cons, List.map_nil, if_true, if_false, reduceIte, nr_non, nr_bl, nr_int, nr_str, nr_ty, nr_tup, nr_lst, nrs_nil, nrs_cons, Bool.and_true, Bool.true_and, Bool.and_false, Bool.false_and, Bool.not_true, Bool.not_false, Bool.or_false, Bool.false_or, Nat.reduceAdd, Nat.reduceLT, Nat.reduceLeDiff, Nat.reduceEqDiff, Nat.zero_add, initE, List.cons_append, List.nil_append, List.replicate, List.replicate_succ, List.replicate_zero, Nat.reduceSub, Bool.false_eq_true, decide_true, decide_false, and_true, true_and, and_self, fz_bl, fz_int, fz_str, fz_non, isU_s, isU_t, nr, md, tupleX_l, ns]
  have s5 : fAsg 3 (fBin addT (fBin addT (fSlice (fVar 1) fNoPart (fPart (fVar 2))) (fFrz (fLstN (fCons (fCallD D__law_odd_rule 1 (fCons (fVar 6) fNil)) fNil)))) (fSlice (fVar 1) (fPart (fVar 2)) fNoPart)) ⟨[some (.int c), some (.lst us), some (.int (k : Nat)), none, none, some (.int way), some (.int more), none], []⟩ = .ok (.next ⟨[some (.int c), some (.lst us), some (.int (k : Nat)), some (.lst (us.take k ++ [o] ++ us.drop k)), none, some (.int way), some (.int more), none], []⟩) := by
    have on := (okN_ok o1).2
    simp -implicitDefEqProofs only [fSeq, fIfS, fRet, fRetN, fNext, fAsg, fAsgG, fPar, fDrop, fOr, fAnd, fNot, fTest, fTruth, fAndV, fOrV, fNotV, fIf, fChain, fCall, fCallN, fCallD, fCons, fNil, fVar, fC, fBin, fTup, fFrz, fOwn, fLstN, fSlice, fNoPart, fPart, fSet, fGTup, fGCons, fGNil, rb_ok, rb_exc, rb_stk, noExc, Env.put, List.getElem?_cons_zero, List.getElem?_cons_succ, List.set_cons_zero, List.set_cons_succ, List.length_cons, List.length_nil, vw_non, vw_bl, vw_int, vw_str, vw_ty, vw_tup, vw_lst, vw_dct, vw_dcN, vw_exo, vw_cl, vw_obj, List.map_cons, List.map_nil, if_true, if_false, reduceIte, nr_non, nr_bl, nr_int, nr_str, nr_ty, nr_tup, nr_lst, nrs_nil, nrs_cons, Bool.and_true, Bool.true_and, Bool.and_false, Bool.false_and, Bool.not_true, Bool.not_false, Bool.or_false, Bool.false_or, Nat.reduceAdd, Nat.reduceLT, Nat.reduceLeDiff, Nat.reduceEqDiff, Nat.zero_add, initE, List.cons_append, List.nil_append, List.replicate, List.replicate_succ, List.replicate_zero, Nat.reduceSub, Bool.false_eq_true, decide_true, decide_false, and_true, true_and, and_self, fz_bl, fz_int, fz_str, fz_non, isU_s, isU_t, oe, on, t1, t2, a1, a2]
  have fin : ∀ (z : T) (g : Option T), z.base = true → z.nr = true → D__law_made [z] = .ok (.str [78, 111, 71, 114, 97, 109, 109, 97, 114]) → (∃ l, reprT [z] = some (.str l)) → (fSeq (fIfS (fTest (fBin eqT (fVar 5) (fC (.int 3)))) (fSeq (fAsg 7 (fBin ixT (fVar 1) (fBin modT (fVar 6) (fCall lenX (fCons (fVar 1) fNil))))) (fAsg 3 (fBin addT (fBin addT (fSlice (fVar 1) fNoPart (fPart (fVar 2))) (fFrz (fLstN (fCons (fVar 7) fNil)))) (fSlice (fVar 1) (fPart (fVar 2)) fNoPart)))) fNext) (fSeq (fIfS (fTest (fBin eqT (fVar 5) (fC (.int 4)))) (fAsg 3 (fCallD D__law_no_list 1 (fCons (fVar 6) fNil))) fNext) rtT)) ⟨[some (.int c), some (.lst us), some (.int (k : Nat)), some (.lst (us.take k ++ [o] ++ us.drop k)), none, some (.int way), some (.int more), none], []⟩ = rtT ⟨[some (.int c), some (.lst us), some (.int (k : Nat)), some z, none, some (.int way), some (.int more), g], []⟩ → D__law_right [.int c] = .ok (.bl true) := fun z g zb zn zm zr h => by
    obtain ⟨ρ, hf⟩ := rt_tail (some (.int c)) (some (.lst us)) (some (.int (k : Nat))) g way more z zb zn zm zr none
    refine runD_ret (t := .bl true) (ρ := ρ) ?_ fz_bl
    show fSeq _ (fSeq _ (fSeq _ (fSeq _ (fSeq _ (fSeq _ (fSeq _ rtT)))))) (initE 8 [.int c]) = _
    rw [seq_step s1, seq_step s2, seq_step s3, seq_step s4, seq_step s5]
    exact h.trans hf
  have mem : ∀ {z y : T}, y ∈ us.take k ++ [z] ++ us.drop k → y = z ∨ y ∈ us := fun h => mem_in h
  have nrL : ∀ z : T, z.nr = true → T.nrs (us.take k ++ [z] ++ us.drop k) = true := fun z hz => nrs_mem fun t ht => by
    rcases mem ht with h | h
    · rw [h]; exact hz
    · exact (okN_ok (rule_ok (ok t h))).2
  by_cases w3 : way = 3
  · subst w3
    have nr2 := (okN_ok (rule_ok (ok r hr))).2
    have okO : ∀ y ∈ us.take k ++ [r] ++ us.drop k, ruleT y = true := fun y hy => by
      rcases mem hy with h | h
      · rw [h]; exact ok r hr
      · exact ok y h
    have pdO : ∀ y ∈ us.take k ++ [r] ++ us.drop k, pdB y = true := fun y hy => by
      rcases mem hy with h | h
      · rw [h]; exact pd r hr
      · exact pd y h
    refine fin (.lst (us.take k ++ [r] ++ us.drop k)) (some r) rfl (by rw [nr_lst]; exact nrL r nr2) (refused_twice (by simp) okO (by have := ln r; omega) (twice_in hr)) (repr_list pdO (ln r)) ?_
    have vr : vw [] r = r := base_vw (by obtain ⟨a, bs, e, _⟩ := ruleT_of (ok r hr); rw [e]; rfl)
    have d4 : decide ((3 : Int) = 4) = false := by decide
    have q6 : fIfS (fTest (fBin eqT (fVar 5) (fC (.int 3)))) (fSeq (fAsg 7 (fBin ixT (fVar 1) (fBin modT (fVar 6) (fCall lenX (fCons (fVar 1) fNil))))) (fAsg 3 (fBin addT (fBin addT (fSlice (fVar 1) fNoPart (fPart (fVar 2))) (fFrz (fLstN (fCons (fVar 7) fNil)))) (fSlice (fVar 1) (fPart (fVar 2)) fNoPart)))) fNext ⟨[some (.int c), some (.lst us), some (.int (k : Nat)), some (.lst (us.take k ++ [o] ++ us.drop k)), none, some (.int 3), some (.int more), none], []⟩ = .ok (.next ⟨[some (.int c), some (.lst us), some (.int (k : Nat)), some (.lst (us.take k ++ [r] ++ us.drop k)), none, some (.int 3), some (.int more), some r], []⟩) := by
      simp -implicitDefEqProofs only [fSeq, fIfS, fRet, fRetN, fNext, fAsg, fAsgG, fPar, fDrop, fOr, fAnd, fNot, fTest, fTruth, fAndV, fOrV, fNotV, fIf, fChain, fCall, fCallN, fCallD, fCons, fNil, fVar, fC, fBin, fTup, fFrz, fOwn, fLstN, fSlice, fNoPart, fPart, fSet, fGTup, fGCons, fGNil, rb_ok, rb_exc, rb_stk, noExc, Env.put, List.getElem?_cons_zero, List.getElem?_cons_succ, List.set_cons_zero, List.set_cons_succ, List.length_cons, List.length_nil, vw_non, vw_bl, vw_int, vw_str, vw_ty, vw_tup, vw_lst, vw_dct, vw_dcN, vw_exo, vw_cl, vw_obj, List.map_cons, List.map_nil, if_true, if_false, reduceIte, nr_non, nr_bl, nr_int, nr_str, nr_ty, nr_tup, nr_lst, nrs_nil, nrs_cons, Bool.and_true, Bool.true_and, Bool.and_false, Bool.false_and, Bool.not_true, Bool.not_false, Bool.or_false, Bool.false_or, Nat.reduceAdd, Nat.reduceLT, Nat.reduceLeDiff, Nat.reduceEqDiff, Nat.zero_add, initE, List.cons_append, List.nil_append, List.replicate, List.replicate_succ, List.replicate_zero, Nat.reduceSub, Bool.false_eq_true, decide_true, decide_false, and_true, true_and, and_self, fz_bl, fz_int, fz_str, fz_non, isU_s, isU_t, eq_ii, lx, mj, ir, vr, nr2, t1, t2, a1, a2]
    have q7 : fIfS (fTest (fBin eqT (fVar 5) (fC (.int 4)))) (fAsg 3 (fCallD D__law_no_list 1 (fCons (fVar 6) fNil))) fNext ⟨[some (.int c), some (.lst us), some (.int (k : Nat)), some (.lst (us.take k ++ [r] ++ us.drop k)), none, some (.int 3), some (.int more), some r], []⟩ = .ok (.next ⟨[some (.int c), some (.lst us), some (.int (k : Nat)), some (.lst (us.take k ++ [r] ++ us.drop k)), none, some (.int 3), some (.int more), some r], []⟩) := by
      simp -implicitDefEqProofs only [fSeq, fIfS, fRet, fRetN, fNext, fAsg, fAsgG, fPar, fDrop, fOr, fAnd, fNot, fTest, fTruth, fAndV, fOrV, fNotV, fIf, fChain, fCall, fCallN, fCallD, fCons, fNil, fVar, fC, fBin, fTup, fFrz, fOwn, fLstN, fSlice, fNoPart, fPart, fSet, fGTup, fGCons, fGNil, rb_ok, rb_exc, rb_stk, noExc, Env.put, List.getElem?_cons_zero, List.getElem?_cons_succ, List.set_cons_zero, List.set_cons_succ, List.length_cons, List.length_nil, vw_non, vw_bl, vw_int, vw_str, vw_ty, vw_tup, vw_lst, vw_dct, vw_dcN, vw_exo, vw_cl, vw_obj, List.map_cons, List.map_nil, if_true, if_false, reduceIte, nr_non, nr_bl, nr_int, nr_str, nr_ty, nr_tup, nr_lst, nrs_nil, nrs_cons, Bool.and_true, Bool.true_and, Bool.and_false, Bool.false_and, Bool.not_true, Bool.not_false, Bool.or_false, Bool.false_or, Nat.reduceAdd, Nat.reduceLT, Nat.reduceLeDiff, Nat.reduceEqDiff, Nat.zero_add, initE, List.cons_append, List.nil_append, List.replicate, List.replicate_succ, List.replicate_zero, Nat.reduceSub, Bool.false_eq_true, decide_true, decide_false, and_true, true_and, and_self, fz_bl, fz_int, fz_str, fz_non, isU_s, isU_t, eq_ii, d4]
    rw [seq_step q6, seq_step q7]
  · have q6 : fIfS (fTest (fBin eqT (fVar 5) (fC (.int 3)))) (fSeq (fAsg 7 (fBin ixT (fVar 1) (fBin modT (fVar 6) (fCall lenX (fCons (fVar 1) fNil))))) (fAsg 3 (fBin addT (fBin addT (fSlice (fVar 1) fNoPart (fPart (fVar 2))) (fFrz (fLstN (fCons (fVar 7) fNil)))) (fSlice (fVar 1) (fPart (fVar 2)) fNoPart)))) fNext ⟨[some (.int c), some (.lst us), some (.int (k : Nat)), some (.lst (us.take k ++ [o] ++ us.drop k)), none, some (.int way), some (.int more), none], []⟩ = .ok (.next ⟨[some (.int c), some (.lst us), some (.int (k : Nat)), some (.lst (us.take k ++ [o] ++ us.drop k)), none, some (.int way), some (.int more), none], []⟩) := by
      simp -implicitDefEqProofs only [fSeq, fIfS, fRet, fRetN, fNext, fAsg, fAsgG, fPar, fDrop, fOr, fAnd, fNot, fTest, fTruth, fAndV, fOrV, fNotV, fIf, fChain, fCall, fCallN, fCallD, fCons, fNil, fVar, fC, fBin, fTup, fFrz, fOwn, fLstN, fSlice, fNoPart, fPart, fSet, fGTup, fGCons, fGNil, rb_ok, rb_exc, rb_stk, noExc, Env.put, List.getElem?_cons_zero, List.getElem?_cons_succ, List.set_cons_zero, List.set_cons_succ, List.length_cons, List.length_nil, vw_non, vw_bl, vw_int, vw_str, vw_ty, vw_tup, vw_lst, vw_dct, vw_dcN, vw_exo, vw_cl, vw_obj, List.map_cons, List.map_nil, if_true, if_false, reduceIte, nr_non, nr_bl, nr_int, nr_str, nr_ty, nr_tup, nr_lst, nrs_nil, nrs_cons, Bool.and_true, Bool.true_and, Bool.and_false, Bool.false_and, Bool.not_true, Bool.not_false, Bool.or_false, Bool.false_or, Nat.reduceAdd, Nat.reduceLT, Nat.reduceLeDiff, Nat.reduceEqDiff, Nat.zero_add, initE, List.cons_append, List.nil_append, List.replicate, List.replicate_succ, List.replicate_zero, Nat.reduceSub, Bool.false_eq_true, decide_true, decide_false, and_true, true_and, and_self, fz_bl, fz_int, fz_str, fz_non, isU_s, isU_t, eq_ii, decide_eq_false w3]
    by_cases w4 : way = 4
    · subst w4
      refine fin e none e1 e2 (no_made he e1 e2) (repr_one e3) ?_
      have q7 : fIfS (fTest (fBin eqT (fVar 5) (fC (.int 4)))) (fAsg 3 (fCallD D__law_no_list 1 (fCons (fVar 6) fNil))) fNext ⟨[some (.int c), some (.lst us), some (.int (k : Nat)), some (.lst (us.take k ++ [o] ++ us.drop k)), none, some (.int 4), some (.int more), none], []⟩ = .ok (.next ⟨[some (.int c), some (.lst us), some (.int (k : Nat)), some e, none, some (.int 4), some (.int more), none], []⟩) := by
        simp -implicitDefEqProofs only [fSeq, fIfS, fRet, fRetN, fNext, fAsg, fAsgG, fPar, fDrop, fOr, fAnd, fNot, fTest, fTruth, fAndV, fOrV, fNotV, fIf, fChain, fCall, fCallN, fCallD, fCons, fNil, fVar, fC, fBin, fTup, fFrz, fOwn, fLstN, fSlice, fNoPart, fPart, fSet, fGTup, fGCons, fGNil, rb_ok, rb_exc, rb_stk, noExc, Env.put, List.getElem?_cons_zero, List.getElem?_cons_succ, List.set_cons_zero, List.set_cons_succ, List.length_cons, List.length_nil, vw_non, vw_bl, vw_int, vw_str, vw_ty, vw_tup, vw_lst, vw_dct, vw_dcN, vw_exo, vw_cl, vw_obj, List.map_cons, List.map_nil, if_true, if_false, reduceIte, nr_non, nr_bl, nr_int, nr_str, nr_ty, nr_tup, nr_lst, nrs_nil, nrs_cons, Bool.and_true, Bool.true_and, Bool.and_false, Bool.false_and, Bool.not_true, Bool.not_false, Bool.or_false, Bool.false_or, Nat.reduceAdd, Nat.reduceLT, Nat.reduceLeDiff, Nat.reduceEqDiff, Nat.zero_add, initE, List.cons_append, List.nil_append, List.replicate, List.replicate_succ, List.replicate_zero, Nat.reduceSub, Bool.false_eq_true, decide_true, decide_false, and_true, true_and, and_self, fz_bl, fz_int, fz_str, fz_non, isU_s, isU_t, eq_ii, ee, e2]
      rw [seq_step q6, seq_step q7]
    · have okO : ∀ y ∈ us.take k ++ [o] ++ us.drop k, okN 2 y = true := fun y hy => by
        rcases mem hy with h | h
        · rw [h]; exact o1
        · exact rule_ok (ok y h)
      have pdO : ∀ y ∈ us.take k ++ [o] ++ us.drop k, pdB y = true := fun y hy => by
        rcases mem hy with h | h
        · rw [h]; exact o3
        · exact pd y h
      refine fin (.lst (us.take k ++ [o] ++ us.drop k)) none rfl (by rw [nr_lst]; exact nrL o (okN_ok o1).2) (refused_odd (x := o) (by simp) okO o2) (repr_list pdO (ln o)) ?_
      have q7 : fIfS (fTest (fBin eqT (fVar 5) (fC (.int 4)))) (fAsg 3 (fCallD D__law_no_list 1 (fCons (fVar 6) fNil))) fNext ⟨[some (.int c), some (.lst us), some (.int (k : Nat)), some (.lst (us.take k ++ [o] ++ us.drop k)), none, some (.int way), some (.int more), none], []⟩ = .ok (.next ⟨[some (.int c), some (.lst us), some (.int (k : Nat)), some (.lst (us.take k ++ [o] ++ us.drop k)), none, some (.int way), some (.int more), none], []⟩) := by
        simp -implicitDefEqProofs only [fSeq, fIfS, fRet, fRetN, fNext, fAsg, fAsgG, fPar, fDrop, fOr, fAnd, fNot, fTest, fTruth, fAndV, fOrV, fNotV, fIf, fChain, fCall, fCallN, fCallD, fCons, fNil, fVar, fC, fBin, fTup, fFrz, fOwn, fLstN, fSlice, fNoPart, fPart, fSet, fGTup, fGCons, fGNil, rb_ok, rb_exc, rb_stk, noExc, Env.put, List.getElem?_cons_zero, List.getElem?_cons_succ, List.set_cons_zero, List.set_cons_succ, List.length_cons, List.length_nil, vw_non, vw_bl, vw_int, vw_str, vw_ty, vw_tup, vw_lst, vw_dct, vw_dcN, vw_exo, vw_cl, vw_obj, List.map_cons, List.map_nil, if_true, if_false, reduceIte, nr_non, nr_bl, nr_int, nr_str, nr_ty, nr_tup, nr_lst, nrs_nil, nrs_cons, Bool.and_true, Bool.true_and, Bool.and_false, Bool.false_and, Bool.not_true, Bool.not_false, Bool.or_false, Bool.false_or, Nat.reduceAdd, Nat.reduceLT, Nat.reduceLeDiff, Nat.reduceEqDiff, Nat.zero_add, initE, List.cons_append, List.nil_append, List.replicate, List.replicate_succ, List.replicate_zero, Nat.reduceSub, Bool.false_eq_true, decide_true, decide_false, and_true, true_and, and_self, fz_bl, fz_int, fz_str, fz_non, isU_s, isU_t, eq_ii, decide_eq_false w4]
      rw [seq_step q6, seq_step q7]
theorem law_true : LawTrue := fun ns hl _ => by
  have ad := add_ll (ns.map T.int) ([0, 1, 2, 3, 4, 5].map T.int) (by simp; omega)
  have il : fItL (fBin addT (fVar 0) (fFrz (fLstN (fCons (fC (.int 0)) (fCons (fC (.int 1)) (fCons (fC (.int 2)) (fCons (fC (.int 3)) (fCons (fC (.int 4)) (fCons (fC (.int 5)) fNil))))))))) ⟨[some (.lst (ns.map .int)), none], []⟩ = .ok (⟨ns.map T.int ++ [0, 1, 2, 3, 4, 5].map T.int, .lst (ns.map T.int ++ [0, 1, 2, 3, 4, 5].map T.int), .lst (ns.map T.int ++ [0, 1, 2, 3, 4, 5].map T.int)⟩, ⟨[some (.lst (ns.map .int)), none], []⟩) := by
    simp only [List.map_cons, List.map_nil] at ad
    simp -implicitDefEqProofs only [fItL, fSeq, fIfS, fRet, fRetN, fNext, fAsg, fAsgG, fPar, fDrop, fOr, fAnd, fNot, fTest, fTruth, fAndV, fOrV, fNotV, fIf, fChain, fCall, fCallN, fCallD, fCons, fNil, fVar, fC, fBin, fTup, fFrz, fOwn, fLstN, fSlice, fNoPart, fPart, fSet, fGTup, fGCons, fGNil, rb_ok, rb_exc, rb_stk, noExc, Env.put, List.getElem?_cons_zero, List.getElem?_cons_succ, List.set_cons_zero, List.set_cons_succ, List.length_cons, List.length_nil, vw_non, vw_bl, vw_int, vw_str, vw_ty, vw_tup, vw_lst, vw_dct, vw_dcN, vw_exo, vw_cl, vw_obj, List.map_cons, List.map_nil, if_true, if_false, reduceIte, nr_non, nr_bl, nr_int, nr_str, nr_ty, nr_tup, nr_lst, nrs_nil, nrs_cons, Bool.and_true, Bool.true_and, Bool.and_false, Bool.false_and, Bool.not_true, Bool.not_false, Bool.or_false, Bool.false_or, Nat.reduceAdd, Nat.reduceLT, Nat.reduceLeDiff, Nat.reduceEqDiff, Nat.zero_add, initE, List.cons_append, List.nil_append, List.replicate, List.replicate_succ, List.replicate_zero, Nat.reduceSub, Bool.false_eq_true, decide_true, decide_false, and_true, true_and, and_self, fz_bl, fz_int, fz_str, fz_non, isU_s, isU_t, ad]
  have lm := fLc_map (vs := [1]) (g := fSet 1) (ft := fYes) (fe := fCallD D__law_right 1 (fCons (fVar 1) fNil)) (fun _ => true) (fun _ => .bl true) il rfl rfl (by simp; omega) (fun t ht => by
    have : ∃ i : Int, t = .int i := by
      rcases List.mem_append.mp ht with h | h
      · obtain ⟨i, _, rfl⟩ := List.mem_map.mp h; exact ⟨i, rfl⟩
      · obtain ⟨i, _, rfl⟩ := List.mem_map.mp h; exact ⟨i, rfl⟩
    obtain ⟨i, rfl⟩ := this
    have re := right_eq i
    exact ⟨⟨[some (.lst (ns.map .int)), some (.int i)], []⟩, rfl, rfl, fun _ => by simp -implicitDefEqProofs only [fSeq, fIfS, fRet, fRetN, fNext, fAsg, fAsgG, fPar, fDrop, fOr, fAnd, fNot, fTest, fTruth, fAndV, fOrV, fNotV, fIf, fChain, fCall, fCallN, fCallD, fCons, fNil, fVar, fC, fBin, fTup, fFrz, fOwn, fLstN, fSlice, fNoPart, fPart, fSet, fGTup, fGCons, fGNil, rb_ok, rb_exc, rb_stk, noExc, Env.put, List.getElem?_cons_zero, List.getElem?_cons_succ, List.set_cons_zero, List.set_cons_succ, List.length_cons, List.length_nil, vw_non, vw_bl, vw_int, vw_str, vw_ty, vw_tup, vw_lst, vw_dct, vw_dcN, vw_exo, vw_cl, vw_obj, List.map_cons, List.map_nil, if_true, if_false, reduceIte, nr_non, nr_bl, nr_int, nr_str, nr_ty, nr_tup, nr_lst, nrs_nil, nrs_cons, Bool.and_true, Bool.true_and, Bool.and_false, Bool.false_and, Bool.not_true, Bool.not_false, Bool.or_false, Bool.false_or, Nat.reduceAdd, Nat.reduceLT, Nat.reduceLeDiff, Nat.reduceEqDiff, Nat.zero_add, initE, List.cons_append, List.nil_append, List.replicate, List.replicate_succ, List.replicate_zero, Nat.reduceSub, Bool.false_eq_true, decide_true, decide_false, and_true, true_and, and_self, fz_bl, fz_int, fz_str, fz_non, isU_s, isU_t, re], rfl⟩)
  have bo : ∀ l : List T, blsOf (l.map fun _ => T.bl true) = some (l.map fun _ => true) := fun l => by
    induction l with
    | nil => rfl
    | cons a r ih => rw [List.map_cons]; show (blsOf _).map _ = _; rw [ih]; rfl
  have at_ : ∀ l : List T, allT [.lst (l.map fun _ => T.bl true)] = some (.bl true) := fun l => by
    show (blsOf _).map _ = _
    rw [bo]
    show some (T.bl _) = _
    rw [List.all_map]
    have : l.all (id ∘ fun _ => true) = true := List.all_eq_true.mpr fun _ _ => rfl
    rw [this]
  refine runD_ret (t := .bl true) (ρ := ⟨[some (.lst (ns.map .int)), none], []⟩) ?_ fz_bl
  rw [List.filter_eq_self.mpr (fun _ _ => rfl)] at lm
  simp -implicitDefEqProofs only [b_law, fSeq, fIfS, fRet, fRetN, fNext, fAsg, fAsgG, fPar, fDrop, fOr, fAnd, fNot, fTest, fTruth, fAndV, fOrV, fNotV, fIf, fChain, fCall, fCallN, fCallD, fCons, fNil, fVar, fC, fBin, fTup, fFrz, fOwn, fLstN, fSlice, fNoPart, fPart, fSet, fGTup, fGCons, fGNil, rb_ok, rb_exc, rb_stk, noExc, Env.put, List.getElem?_cons_zero, List.getElem?_cons_succ, List.set_cons_zero, List.set_cons_succ, List.length_cons, List.length_nil, vw_non, vw_bl, vw_int, vw_str, vw_ty, vw_tup, vw_lst, vw_dct, vw_dcN, vw_exo, vw_cl, vw_obj, List.map_cons, List.map_nil, if_true, if_false, reduceIte, nr_non, nr_bl, nr_int, nr_str, nr_ty, nr_tup, nr_lst, nrs_nil, nrs_cons, Bool.and_true, Bool.true_and, Bool.and_false, Bool.false_and, Bool.not_true, Bool.not_false, Bool.or_false, Bool.false_or, Nat.reduceAdd, Nat.reduceLT, Nat.reduceLeDiff, Nat.reduceEqDiff, Nat.zero_add, initE, List.cons_append, List.nil_append, List.replicate, List.replicate_succ, List.replicate_zero, Nat.reduceSub, Bool.false_eq_true, decide_true, decide_false, and_true, true_and, and_self, fz_bl, fz_int, fz_str, fz_non, isU_s, isU_t, lm, at_]
end K13

open PySem PySem.W PyProof.Rows in
set_option maxRecDepth 100000 in
set_option maxHeartbeats 0 in
theorem PySem.Challenge.cw_paperreader_k13_grammars_refused_holds : PySem.Challenge.rw_paperreader_k13_grammars_refused.Holds := by
  w_on; o_law; k_head; (case hw => w_witness2)
  k_fill
  refine Tr.walk_tabsG (l := PySem.Challenge.rw_paperreader_k13_grammars_refused) (K := _) (n := 63) (k := 14) (x := "script") rfl (by decide) rfl ⟨rfl, by decide, by decide⟩ (by decide +kernel) (fun w h Y => PySem.W.kIn_of Y) ?F
  case F =>
    intro w mg fa h Y KX G hmg tabs
    refine' K13.all_mk K13.law_true KX G hmg tabs (Tr.noTab KX ?nt) ?a0 ?l0 ?c0 ?k0 ?a1 ?l1 ?c1 ?k1 ?a2 ?l2 ?c2 ?k2 ?a3 ?l3 ?c3 ?k3 ?a4 ?l4 ?c4 ?k4 ?a5 ?l5 ?c5 ?k5 ?ac_Grammar ?m2_Grammar ?l6 ?c6 ?k6 ?a7 ?l7 ?c7 ?k7 ?a8 ?l8 ?c8 ?k8 ?a9 ?l9 ?c9 ?k9 ?a10 ?l10 ?c10 ?k10 ?a11 ?l11 ?c11 ?k11 ?a12 ?l12 ?c12 ?k12 ?a13 ?l13 ?c13 ?k13 ?a14 ?l14 ?c14 ?k14 ?a15 ?l15 ?c15 ?k15 ?a16 ?l16 ?c16 ?k16 ?a17 ?l17 ?c17 ?k17 ?a18 ?l18 ?c18 ?k18 ?a19 ?l19 ?c19 ?k19 ?a20 ?l20 ?c20 ?k20 ?m1_Grammar ?m3_Grammar ?m4_Grammar ?p1_Grammar ?p2_Grammar ?p3_Grammar ?p4_Grammar ?na_Grammar_known ?na_Grammar_numbers ?na_Grammar_parts ?na_Grammar_rules ?na_Grammar_start ?na_Grammar_words ?ax_NoChart ?ax_NoDeed ?ax_NoGrammar ?x1_NoGrammar ?x2_NoGrammar ?x3_NoGrammar ?x4_NoGrammar ?y0_NoGrammar ?y1_NoGrammar ?y2_NoGrammar ?y3_NoGrammar ?y4_NoGrammar ?ax_NoMachine ?ax_NoPart ?ax_NoRow ?ax_NoTable ?ax_NoText ?ax_NoTree ?ax_ReadError ?ax_TooMany ?x1_TooMany ?x2_TooMany ?x3_TooMany ?x4_TooMany ?y0_TooMany ?y1_TooMany ?y2_TooMany ?y3_TooMany ?y4_TooMany ?y_n ?y_t ?s0 ?s1 ?s2 ?s3 ?s4 ?s5 ?s6 ?s7 ?s8 ?s9 ?s10 ?s11 ?s12 ?s13 ?s14 ?s15 ?s16 ?s17 ?s18 ?s19 ?s20 ?s21 ?s22 ?s23 ?rb_ReadError ?ri_ReadError ?rt_ReadError ?e_NoGrammar_ReadError ?e_TooMany_ReadError ?z_MOST_LETTERS ?z_MOST_NAMES ?z_MOST_RULES ?z_ValueError ?z_abs ?z_all ?z_dict ?z_enumerate ?z_isinstance ?z_len ?z_list ?z_range ?z_repr ?z_sorted ?z_str ?z_tuple
    (case nt => kernel_rfl)
    (case a0 => k_is)
    (case l0 => k_is)
    (case c0 => k_is)
    (case k0 => k_is)
    (case a1 => k_is)
    (case l1 => k_is)
    (case c1 => k_is)
    (case k1 => k_is)
    (case a2 => k_is)
    (case l2 => k_is)
    (case c2 => k_is)
    (case k2 => k_is)
    (case a3 => k_is)
    (case l3 => k_is)
    (case c3 => k_is)
    (case k3 => k_is)
    (case a4 => k_is)
    (case l4 => k_is)
    (case c4 => k_is)
    (case k4 => k_is)
    (case a5 => k_is)
    (case l5 => k_is)
    (case c5 => k_is)
    (case k5 => k_is)
    (case ac_Grammar => k_is)
    (case m2_Grammar => k_is)
    (case l6 => k_is)
    (case c6 => k_is)
    (case k6 => k_is)
    (case a7 => k_is)
    (case l7 => k_is)
    (case c7 => k_is)
    (case k7 => k_is)
    (case a8 => k_is)
    (case l8 => k_is)
    (case c8 => k_is)
    (case k8 => k_is)
    (case a9 => k_is)
    (case l9 => k_is)
    (case c9 => k_is)
    (case k9 => k_is)
    (case a10 => k_is)
    (case l10 => k_is)
    (case c10 => k_is)
    (case k10 => k_is)
    (case a11 => k_is)
    (case l11 => k_is)
    (case c11 => k_is)
    (case k11 => k_is)
    (case a12 => k_is)
    (case l12 => k_is)
    (case c12 => k_is)
    (case k12 => k_is)
    (case a13 => k_is)
    (case l13 => k_is)
    (case c13 => k_is)
    (case k13 => k_is)
    (case a14 => k_is)
    (case l14 => k_is)
    (case c14 => k_is)
    (case k14 => k_is)
    (case a15 => k_is)
    (case l15 => k_is)
    (case c15 => k_is)
    (case k15 => k_is)
    (case a16 => k_is)
    (case l16 => k_is)
    (case c16 => k_is)
    (case k16 => k_is)
    (case a17 => k_is)
    (case l17 => k_is)
    (case c17 => k_is)
    (case k17 => k_is)
    (case a18 => k_is)
    (case l18 => k_is)
    (case c18 => k_is)
    (case k18 => k_is)
    (case a19 => k_is)
    (case l19 => k_is)
    (case c19 => k_is)
    (case k19 => k_is)
    (case a20 => k_is)
    (case l20 => k_is)
    (case c20 => k_is)
    (case k20 => k_is)
    (case m1_Grammar => k_is)
    (case m3_Grammar => k_is)
    (case m4_Grammar => k_is)
    (case p1_Grammar => k_is)
    (case p2_Grammar => k_is)
    (case p3_Grammar => k_is)
    (case p4_Grammar => k_is)
    (case na_Grammar_known => k_is)
    (case na_Grammar_numbers => k_is)
    (case na_Grammar_parts => k_is)
    (case na_Grammar_rules => k_is)
    (case na_Grammar_start => k_is)
    (case na_Grammar_words => k_is)
    (case ax_NoChart => k_is)
    (case ax_NoDeed => k_is)
    (case ax_NoGrammar => k_is)
    (case x1_NoGrammar => k_exc)
    (case x2_NoGrammar => k_is)
    (case x3_NoGrammar => k_is)
    (case x4_NoGrammar => k_is)
    (case y0_NoGrammar => k_is)
    (case y1_NoGrammar => k_is)
    (case y2_NoGrammar => k_is)
    (case y3_NoGrammar => k_is)
    (case y4_NoGrammar => k_is)
    (case ax_NoMachine => k_is)
    (case ax_NoPart => k_is)
    (case ax_NoRow => k_is)
    (case ax_NoTable => k_is)
    (case ax_NoText => k_is)
    (case ax_NoTree => k_is)
    (case ax_ReadError => k_is)
    (case ax_TooMany => k_is)
    (case x1_TooMany => k_exc)
    (case x2_TooMany => k_is)
    (case x3_TooMany => k_is)
    (case x4_TooMany => k_is)
    (case y0_TooMany => k_is)
    (case y1_TooMany => k_is)
    (case y2_TooMany => k_is)
    (case y3_TooMany => k_is)
    (case y4_TooMany => k_is)
    (case y_n => k_is)
    (case y_t => k_is)
    (case s0 => kit_is)
    (case s1 => kit_is)
    (case s2 => kit_is)
    (case s3 => kit_is)
    (case s4 => kit_is)
    (case s5 => kit_is)
    (case s6 => kit_is)
    (case s7 => kit_is)
    (case s8 => kit_is)
    (case s9 => kit_is)
    (case s10 => kit_is)
    (case s11 => kit_is)
    (case s12 => kit_is)
    (case s13 => kit_is)
    (case s14 => kit_is)
    (case s15 => kit_is)
    (case s16 => kit_is)
    (case s17 => kit_is)
    (case s18 => kit_is)
    (case s19 => kit_is)
    (case s20 => kit_is)
    (case s21 => kit_is)
    (case s22 => kit_is)
    (case s23 => kit_is)
    (case rb_ReadError => k_is)
    (case ri_ReadError => k_is)
    (case rt_ReadError => k_is)
    (case e_NoGrammar_ReadError => k_is)
    (case e_TooMany_ReadError => k_is)
    (case z_MOST_LETTERS => k_is)
    (case z_MOST_NAMES => k_is)
    (case z_MOST_RULES => k_is)
    (case z_ValueError => k_is)
    (case z_abs => k_is)
    (case z_all => k_is)
    (case z_dict => k_is)
    (case z_enumerate => k_is)
    (case z_isinstance => k_is)
    (case z_len => k_is)
    (case z_list => k_is)
    (case z_range => k_is)
    (case z_repr => k_is)
    (case z_sorted => k_is)
    (case z_str => k_is)
    (case z_tuple => k_is)
