import PyProof.Rows.All
import Wide.All
import OpenK.AllK
import Wide.FinOn
import HandS.ForMost
import HandS.AnyAll
import HandS.GenOver
import HandS.GenList
import HandS.TupAny
import HandS.Wide
import HandS.IsInst
import HandS.Deep
import HandS.Conv
import HandS.Codes
import HandS.Style
import HandS.TupLe
import HandS.Dict
import HandS.NoneIn
import KE.DataEq
import HandS.Words
import HandS.EndTab
import HandS.EndOwn
import KE.KNest
import PySem.Challenge.RW_paperreader_k12_names_and_rows
set_option Elab.async false
set_option linter.all false
set_option maxRecDepth 100000
set_option maxHeartbeats 4000000
namespace Gx
open PySem PySem.Spec PyProof.Rows L2 GenW GxR

/-- the around of a generator expression's frame that a builtin in the def wakes -/
abbrev genA (A : Around) (code : Code) : Around := (A.in1.in1).over code []
/-- the context in which the expression's element runs -/
abbrev Xg (X : Cx) (code : Code) (s : Shared) (H : Hp) (cenv : Env) (fp : List Addr) (pn : List (Addr × Obj)) : Cx :=
  { X with A := genA X.A code, s_0 := s, H_0 := H, env := cenv, outer := X.stack, stack := cenv :: X.stack, ex := fp, fn := fun _ => false, pn := pn, xe := fun _ _ => False }
abbrev gobj (g : Nat) (t1 t2 : Value) : Obj := { cls := .type "generator", data := .fields #[.int g 0, t1, t2] }
section
variable {X : Cx} {pins : List (Addr × Obj)} {σ : L2.St} {H : Hp} {s : Shared}

theorem gen_start {code : Code} {scope : Scope} {own : List (Str × Nat)} {fp : List Addr} {cv : Value} {h' : Heap} {m0 : Str → Option Value} {a g tk : Nat} {t1 t2 : Value} {gs : GenState} {elt tg iter : Expr} {ifs : List Expr} {pos : Pos} {I0 : Addr}
    (hcode : code.isFrame = true) (henv : code.env? = some (genEnv scope (cloFrom X.env.cells scope.names []) s.heap.objs.size cv builtinsNs X.env))
    (I : Inv X pins σ H s) (ok : BlkOk X.N X.env.scope scope own) (hN : X.N.Nodup) (hfp : ∀ b ∈ fp, FpOk X pins H b ∧ b < s.heap.objs.size) (hcell : ∀ y ∈ scope.names, y.2 ≠ .cell)
    (hn : h'.Ns s.heap.objs.size m0) (kp : ∀ b o, s.heap.get? b = some o → h'.get? b = some o) (ha : h'.get? a = some (gobj g t1 t2)) (hag : s.heap.objs.size < a) (hgs : gs.bare = true) :
    Inv (Xg X code s H (genEnv scope (cloFrom X.env.cells scope.names []) s.heap.objs.size cv builtinsNs X.env) fp [(a, gobj g t1 t2)]) [] (wipe σ (own.map (·.2))) H { s with heap := h', gens := s.gens.push gs, toks := tk } := by
  have hfree : ∀ y ∈ scope.names, y.2 = .free → ∃ c, X.env.cells.lookup y.1 = some c := fun y hy e => by
    rcases ok.free y hy e with k | k
    · exact I.ok.has _ (.inl k)
    · exact I.ok.has _ (.inr k)
  generalize hcenv : genEnv scope (cloFrom X.env.cells scope.names []) s.heap.objs.size cv builtinsNs X.env = cenv at henv ⊢
  have hL : cenv.locals = s.heap.objs.size := by rw [← hcenv]; rfl
  have hcl : cenv.cells = cloFrom X.env.cells scope.names [] := by rw [← hcenv]; rfl
  have hsc : cenv.scope = scope := by rw [← hcenv]; rfl
  have cm : ∀ {y c}, (y, c) ∈ cloFrom X.env.cells scope.names [] → X.env.cells.lookup y = some c ∧ c < s.heap.objs.size := fun {y c} hm => by
    rcases cloFrom_mem hm with hm | ⟨h1, rfl⟩
    · cases hm
    · obtain ⟨c, hc⟩ := hfree _ h1 rfl
      rw [hc]
      obtain ⟨w, z⟩ := I.cell _ _ hc
      exact ⟨rfl, z.lt⟩
  have mem : ∀ {y c}, cenv.cells.lookup y = some c → (X.env.cells.lookup y = some c ∧ c < s.heap.objs.size) := fun {y c} e => by
    rw [hcl] at e
    exact cm (PySem.mem_of_lookup e)
  have look : ∀ {y}, scope.names.lookup y = some .free → ∃ c, cenv.cells.lookup y = some c ∧ X.env.cells.lookup y = some c := fun {y} hl => by
    have hy : (y, NameKind.free) ∈ scope.names := PySem.mem_of_lookup hl
    obtain ⟨c', e'⟩ := mem_lookup (cloFrom_has (cells := X.env.cells) (acc := []) hy)
    rw [← hcl] at e'
    exact ⟨c', e', (mem e').1⟩
  have key : ∀ y k, cenv.kindOf y = some k → scope.names.lookup y = some k := fun y k e => by
    unfold Env.kindOf at e
    rw [hsc] at e
    exact e
  have hkind : scope.kind = .function := ok.kind
  have fr : (genA X.A code).frames = some (cenv :: X.stack) := by
    show pushEnvs code.envs (pushEnvs [] X.A.frames) = _
    have e1 : code.envs = [cenv] := by unfold Code.envs; rw [if_pos hcode, henv]; rfl
    rw [e1]
    show Option.map _ X.A.frames = _
    rw [I.ok.frames]
    rfl
  have okB : (Xg X code s H cenv fp [(a, gobj g t1 t2)]).Ok := by
    refine ⟨I.ok.mod, by show cenv.scope.kind = _; rw [hsc]; exact hkind, by show cenv.globals = _; rw [← hcenv]; exact I.ok.glob, by show cenv.builtins = _; rw [← hcenv]; rfl, by show s.heap.objs.size ≤ cenv.locals; rw [hL]; exact Nat.le_refl _,
      fun y z c e1 e2 => I.ok.inj y z c (mem e1).1 (mem e2).1, fun y hy => ?_, fun y c z e => ?_, fun hc => I.ok.hd hc, fr, .inr ⟨rfl, ?_⟩, fun b hb => ⟨?_, fun y c e z => ?_⟩, I.bs, Nat.le_trans I.ok.bsz I.sz, fun b o e hb => ?_, fun b hb z => ?_, I.stack, I.stkFree⟩
    · show ∃ c, cenv.cells.lookup y = some c
      rcases hy with hy | hy
      · exact absurd rfl (hcell _ (PySem.mem_of_lookup (key y _ hy)))
      · obtain ⟨c, h1, _⟩ := look (key y _ hy)
        exact ⟨c, h1⟩
    · cases z
    · show cenv.frame = some cenv.locals
      rw [← hcenv]; rfl
    · show b ≠ cenv.locals
      rw [hL]; exact Nat.ne_of_lt (hfp b hb).2
    · exact (hfp b hb).1.2.2.2.2.1 y c (mem e).1 z
    · rcases (hfp b hb).1.2.2.2.1 with z | z
      · exact I.ok.noex b o e z
      · exact absurd (Nat.lt_of_lt_of_le (Heap.lt_size e) (Nat.le_trans I.ok.bsz z)) (Nat.lt_irrefl _)
    · rcases List.mem_cons.mp (I.stkSub b z) with z | z
      · exact (hfp b hb).1.2.1 z
      · exact (hfp b hb).1.2.2.1 z
  refine ⟨okB, rfl, I.bare.push hgs, Un.kept kp, ⟨m0, ?_, fun i y av e1 e2 e3 => ?_⟩, fun y c e => ?_, ?_, fun y c e => ?_, fun p hp => ?_, I.hok.kept kp, by rw [wipe_length]; exact I.len⟩
  · show Heap.Ns _ cenv.locals _
    rw [hL]
    exact hn
  · obtain ⟨e2, hne⟩ := wipe_some e2
    have hfr : scope.names.lookup y = some .free := by
      have kk : ∀ k, cenv.scope.names.lookup y = some k → k = .local ∨ k = .cell ∨ k = .free → scope.names.lookup y = some .free := fun k hk hk' => by
        rw [hsc] at hk
        have no : ¬ (k = .local ∨ k = .cell) := fun hh => by
          rcases ok.own _ (PySem.mem_of_lookup hk) hh with e' | e'
          · obtain ⟨p, hp, hpy⟩ := List.mem_map.mp e'
            have e3 := ok.ix p hp
            have : p.1 = y := hpy
            rw [this] at e3
            exact hne (List.mem_map.mpr ⟨p, hp, nodup_ix hN e3 e1⟩)
          · exact e' (List.mem_of_getElem? e1)
        rcases hk' with rfl | rfl | rfl
        · exact absurd (.inl rfl) no
        · exact absurd (.inr rfl) no
        · exact hk
      have e3 : Vis cenv.scope y := e3
      rcases e3 with e3 | e3 | e3
      · exact kk _ e3 (.inl rfl)
      · exact kk _ e3 (.inr (.inl rfl))
      · exact kk _ e3 (.inr (.inr rfl))
    obtain ⟨m, hn2, hl⟩ := I.loc
    have hvis : Vis X.env.scope y := (ok.free _ (PySem.mem_of_lookup hfr) rfl).elim (fun k => .inr (.inl k)) (fun k => .inr (.inr k))
    obtain ⟨w, r, q⟩ := hl i y av e1 e2 hvis
    have kf : cenv.kindOf y = some .free := by unfold Env.kindOf; rw [hsc]; exact hfr
    refine ⟨w, r, .inr ⟨.inr kf, ?_⟩⟩
    obtain ⟨c, h1, h2⟩ := look hfr
    rcases q with ⟨k, _⟩ | ⟨_, c', e', z⟩
    · have k : X.env.scope.names.lookup y = some .local := k
      rcases ok.free _ (PySem.mem_of_lookup hfr) rfl with k' | k' <;> rw [show X.env.scope.names.lookup y = _ from k'] at k <;> cases k
    · rw [h2] at e'; cases e'
      exact ⟨c, h1, z.keeps kp⟩
  · obtain ⟨w, z⟩ := I.cell y c (mem e).1
    exact ⟨w, z.keeps kp⟩
  · show H cenv.locals = none
    rw [hL]; exact I.hok.fresh (Nat.le_refl _)
  · exact I.freeC y c (mem e).1
  · have hp' : p = (a, gobj g t1 t2) := by
      have hp2 : p ∈ [(a, gobj g t1 t2)] ++ ([] : List (Addr × Obj)) := hp
      simpa using hp2
    subst hp'
    refine ⟨ha, I.hok.fresh (Nat.le_of_lt hag), ?_, ?_, fun v z => by cases z⟩
    · show a ≠ cenv.locals
      rw [hL]; exact Nat.ne_of_gt hag
    · show a ∉ frs X.stack
      intro hm
      rcases List.mem_cons.mp (I.stkSub a hm) with z | z
      · have := I.lt
        rw [← z] at this
        exact absurd (Nat.lt_trans this hag) (Nat.lt_irrefl _)
      · exact I.nofs (Nat.le_of_lt hag) z
end

/-- the expression's loop code -/
abbrev gLoop (elt tg iter : Expr) (ifs : List Expr) (scope : Scope) (pos : Pos) (it : Addr) (cenv : Env) : Code := .compLoop (.GeneratorExp elt [⟨tg, iter, ifs, 0⟩] scope pos) 0 (.ref it) .none cenv
abbrev gStart (elt tg iter : Expr) (ifs : List Expr) (scope : Scope) (pos : Pos) (it : Addr) (cenv : Env) : Code := .compStart (.GeneratorExp elt [⟨tg, iter, ifs, 0⟩] scope pos) 0 (.ref it) .none cenv

/-- the walk's word: by the turn and a measure; stop: the truth at which the consumer ends -/
def GWord (J : It) (g : TG) (tt : TT) (te : TE) (vs : List Nat) (σ : L2.St) (stop : Bool) (Qd Qs : Hp → Prop) (W : Nat → Nat → Hp → Prop) : Prop :=
  ∀ i m H, W i m H → (J.stop i H ∧ Qd H) ∨ (J.go i H ∧ ∃ Nx : Hp → Prop, (∀ H', Nx H' → ∃ m', m' < m ∧ W (i + 1) m' H') ∧ ∀ x H', J.yld i H x H' → g x (wipe σ vs) H' fun σ2 H2 =>
    wipe σ2 vs = wipe σ vs ∧ tt σ2 H2 fun b H3 => if b = true then te σ2 H3 fun y H4 => ∃ c, y = .bl c ∧ (if c = stop then Qs H4 else Nx H4) else Nx H3)

section
variable {X : Cx} {pn : List (Addr × Obj)} {σ : L2.St} {H : Hp} {s4 : Shared} {elt tg iter : Expr} {ifs : List Expr} {scope : Scope} {pos : Pos} {it : Addr} {cenv : Env} {fp : List Addr} {tn : Nat → Heap → Prop} {J : It} {g : TG} {tt : TT} {te : TE} {vs : List Nat} {stop : Bool} {Qd Qs : Hp → Prop} {W : Nat → Nat → Hp → Prop}

/-- what is handed out -/
def GYx (Y : Cx) (σ0 : L2.St) (fp : List Addr) (tn : Nat → Heap → Prop) (stop : Bool) (Qs : Hp → Prop) (W : Nat → Nat → Hp → Prop) : Protocol := fun n s₀ v s kap =>
  ∃ c H i m, v = Value.bool c ∧ Inv Y [] σ0 H s ∧ (if c = stop then Qs H else W i m H ∧ m < n ∧ ∀ G, AllBare G → kap (.send .none) { s with gens := G })
def GEx (Y : Cx) (σ0 : L2.St) (Qd : Hp → Prop) : Nat → Shared → Shared → Prop := fun _ _ s₁ => ∃ H, Inv Y [] σ0 H s₁ ∧ Qd H
abbrev GRx (Y : Cx) (σ0 : L2.St) (Qd : Hp → Prop) : GenEnd := fun n s₀ r s₁ => r = .ok .next ∧ GEx Y σ0 Qd n s₀ s₁

theorem inv_gens {Y : Cx} {pins : List (Addr × Obj)} {σ0 : L2.St} {s : Shared} {H : Hp} {G : Array GenState} (I : Inv Y pins σ0 H s) (hG : AllBare G) : Inv Y pins σ0 H { s with gens := G } := by
  refine I.step (h' := s.heap) (t' := s.toks) (d' := s.drawn) (ch := []) (fun _ z => nomatch z) (fun _ _ _ _ _ e _ => e) (fun b o _ _ _ e _ => ⟨o.slots, e⟩) (fun _ _ _ _ n => n) (fun b o _ e => ⟨o, e⟩) (fun _ _ e => e) (fun _ _ _ e => e) (fun b ps e => ⟨#[], by rw [e]; simp⟩) (fun m hm => hm) I.hok hG

theorem seg_gen (hc : X.calm = true) (hco : scope.isCoroutine = false) (hsc : cenv.scope = scope) (T : Turn X.prog X.w X.K tg J fp it tn)
    (pg : PG (Xg X (gLoop elt tg iter ifs scope pos it cenv) s4 H cenv fp pn) tg g) (pt : PTs (Xg X (gLoop elt tg iter ifs scope pos it cenv) s4 H cenv fp pn) ifs tt) (pe : PE (Xg X (gLoop elt tg iter ifs scope pos it cenv) s4 H cenv fp pn) elt te)
    (hW : GWord J g tt te vs σ stop Qd Qs W) (hpn : ∀ b ∈ fp, ∀ p ∈ pn, p.1 ≠ b) :
    ∀ (m n i : Nat) (s₀ s : Shared) (H5 : Hp), m < n → Inv (Xg X (gLoop elt tg iter ifs scope pos it cenv) s4 H cenv fp pn) [] (wipe σ vs) H5 s → tn i s.heap → (∀ b ∈ fp, H5 b = none) → W i m H5 →
      Seg (model X.prog X.w) X.A.in1.in1 (GRx (Xg X (gLoop elt tg iter ifs scope pos it cenv) s4 H cenv fp pn) (wipe σ vs) Qd) (GYx (Xg X (gLoop elt tg iter ifs scope pos it cenv) s4 H cenv fp pn) (wipe σ vs) fp tn stop Qs W) n s₀
        (gLoop elt tg iter ifs scope pos it cenv) ((model X.prog X.w).den (gLoop elt tg iter ifs scope pos it cenv)) [] s := by
  generalize hY : Xg X (gLoop elt tg iter ifs scope pos it cenv) s4 H cenv fp pn = Y at pg pt pe ⊢
  have yA : Y.A = X.A.in1.in1.over (gLoop elt tg iter ifs scope pos it cenv) [] := by rw [← hY]
  have yE : Y.env = cenv := by rw [← hY]
  have yX : Y.xe = fun _ _ => False := by rw [← hY]
  have yP : Y.prog = X.prog := by rw [← hY]
  have yw : Y.w = X.w := by rw [← hY]
  have yK : Y.K = X.K := by rw [← hY]
  have yc : Y.calm = true := by rw [← hY]; exact hc
  have yx : Y.ex = fp := by rw [← hY]
  have ypn : Y.pn = pn := by rw [← hY]
  have stat : ∀ {σ' : L2.St} {H' : Hp} {s' : Shared}, Inv Y [] σ' H' s' → (∀ b ∈ fp, H' b = none) → ∀ b ∈ fp, FpOk Y [] H' b := fun {σ' H' s'} I' hn b hb =>
    ⟨hn b hb, (I'.ok.exf b (by rw [yx]; exact hb)).1, I'.ok.exfs b (by rw [yx]; exact hb), .inl (by rw [yx]; exact hb), fun x c e => (I'.ok.exf b (by rw [yx]; exact hb)).2 x c e, fun p hp => by
      rw [ypn] at hp
      rcases List.mem_append.mp hp with z | z
      · exact hpn b hb p z
      · exact absurd z (by simp)⟩
  intro m
  induction m using Nat.strongRecOn with
  | ind m ih =>
    intro n i s₀ s H5 hmn I5 st5 n5 w5
    show Seg _ X.A.in1.in1 _ _ n s₀ _ ((compTurn (.GeneratorExp elt [⟨tg, iter, ifs, 0⟩] scope pos) 0 (.ref it) .none cenv).onRaise (leaving cenv)) [] s
    rw [compTurn_gen, Sem.onRaise_eq_wrap]
    refine seg_bind_wrap (wpAny_standAt ?_)
    rcases hW i m H5 w5 with ⟨stp, qq⟩ | ⟨go, Nx, hNx, step⟩
    · have td := T.done Y yP yw yK yc i [] s _ H5 (fun _ _ => False) I5 (stat I5 n5) st5 stp
      rw [yA] at td
      refine seg_bind_wrap (thnF td fun r s6 ⟨hr, I6⟩ => ?_)
      subst hr
      exact seg_end (.ok .next) ⟨rfl, H5, I6, qq⟩
    · have ti := T.item Y yP yw yK yc i [] s _ H5 (fun _ _ => False) I5 (stat I5 n5) st5 go
      rw [yA] at ti
      refine seg_bind_wrap (thnF ti fun r s6 ⟨u, hr, h6⟩ => ?_)
      subst hr
      refine seg_bind_wrap (thnF h6 fun _ s7 ⟨x, H7, I7, r7, y7, st7, n7⟩ => ?_)
      have I7' := I7.pinned (stat I7 n7) (T.obj _ _ st7)
      have hgr := pg.run _ s7 _ H7 x u _ I7' r7 (step x H7 y7)
      rw [yA, yE, yX, yP, yw] at hgr
      refine seg_bind_wrap (thnF hgr fun _ s8 ⟨σ8, H8, I8, hw8, q8⟩ => ?_)
      have htr := pt.run _ s8 σ8 H8 _ I8 q8
      rw [yA, yE, yX, yP, yw] at htr
      refine seg_bind_wrap (thnF htr fun b s9 ⟨H9, I9, q9⟩ => ?_)
      have fin : ∀ {s' : Shared} {H' : Hp}, Inv Y ([] ++ pinsAt fp s7.heap) σ8 H' s' → Inv Y [] (wipe σ vs) H' s' ∧ tn (i + 1) s'.heap ∧ (∀ b ∈ fp, H' b = none) := fun {s' H'} I' => by
        have pin' : ∀ b ∈ fp, ∀ o, s7.heap.get? b = some o → s'.heap.get? b = some o ∧ H' b = none := fun b hb o e =>
          let z := I'.pin (b, o) (List.mem_append_right _ (List.mem_append_right _ (mem_pinsAt hb e)))
          ⟨z.1, z.2.1⟩
        have hl : (wipe σ vs).length = σ8.length := by rw [← hw8, wipe_length]
        refine ⟨(I'.unpinned (pins := [])).weak hl (fun j v e => ?_), T.keep _ _ _ st7 fun b hb o e => (pin' b hb o e).1, fun b hb => ?_⟩
        · rw [← hw8] at e
          exact (wipe_some e).1
        · obtain ⟨o, e, _⟩ := T.obj _ _ st7 b hb
          exact (pin' b hb o e).2
      cases b with
      | false =>
        simp only [Bool.false_eq_true, if_false] at q9 ⊢
        obtain ⟨m', hm, w'⟩ := hNx _ q9
        obtain ⟨f1, f2, f3⟩ := fin I9
        exact seg_again rfl (ih m' hm n (i + 1) s₀ s9 H9 (Nat.lt_trans hm hmn) f1 f2 f3 w')
      | true =>
        simp only [if_true] at q9 ⊢
        have hy : ∀ v, yieldOut cenv v = yieldValue v := fun v => by simp only [yieldOut, hsc, hco, Bool.false_eq_true, if_false]
        simp only [hy]
        rw [Sem.bind_eq_wrap', Sem.bind_eq_wrap', Sem.wrap_wrap, Sem.wrap_wrap]
        have her := pe.run _ s9 σ8 H9 _ I9 q9
        rw [yA, yE, yX, yP, yw] at her
        refine seg_wrap (thnF her fun z s10 ⟨yv, H10, I10, r10, c, hc10, q10⟩ => ?_)
        subst hc10
        have hz : z = Value.bool c := r10
        subst hz
        obtain ⟨f1, f2, f3⟩ := fin I10
        obtain ⟨n, rfl⟩ : ∃ k, n = k + 1 := ⟨n - 1, by omega⟩
        by_cases hcs : c = stop
        · rw [if_pos hcs] at q10
          refine seg_at (seg_yield rfl rfl rfl ⟨c, H10, i + 1, 0, rfl, f1, ?_⟩)
          rw [if_pos hcs]
          exact q10
        · rw [if_neg hcs] at q10
          obtain ⟨m', hm, w'⟩ := hNx _ q10
          refine seg_at (seg_yield rfl rfl rfl ⟨c, H10, i + 1, m', rfl, f1, ?_⟩)
          rw [if_neg hcs]
          refine ⟨w', by omega, fun G hG => ?_⟩
          exact seg_again rfl (ih m' hm n (i + 1) _ _ H10 (by omega) (inv_gens f1 hG) f2 f3 w')
end

section
variable {X : Cx} {pn : List (Addr × Obj)} {σ : L2.St} {H : Hp} {s4 : Shared} {elt tg iter : Expr} {ifs : List Expr} {scope : Scope} {pos : Pos} {it : Addr} {cenv : Env} {fp : List Addr} {tn : Nat → Heap → Prop} {J : It} {g : TG} {tt : TT} {te : TE} {vs : List Nat} {stop : Bool} {Qd Qs : Hp → Prop} {W : Nat → Nat → Hp → Prop}
theorem seg_start (hc : X.calm = true) (hco : scope.isCoroutine = false) (hsc : cenv.scope = scope) (T : Turn X.prog X.w X.K tg J fp it tn)
    (pg : PG (Xg X (gLoop elt tg iter ifs scope pos it cenv) s4 H cenv fp pn) tg g) (pt : PTs (Xg X (gLoop elt tg iter ifs scope pos it cenv) s4 H cenv fp pn) ifs tt) (pe : PE (Xg X (gLoop elt tg iter ifs scope pos it cenv) s4 H cenv fp pn) elt te)
    (hW : GWord J g tt te vs σ stop Qd Qs W) (hpn : ∀ b ∈ fp, ∀ p ∈ pn, p.1 ≠ b)
    (m n : Nat) (s₀ s : Shared) (H5 : Hp) (hmn : m < n) (I5 : Inv (Xg X (gLoop elt tg iter ifs scope pos it cenv) s4 H cenv fp pn) [] (wipe σ vs) H5 s) (st5 : tn 0 s.heap) (n5 : ∀ b ∈ fp, H5 b = none) (w5 : W 0 m H5) :
      Seg (model X.prog X.w) X.A.in1.in1 (GRx (Xg X (gLoop elt tg iter ifs scope pos it cenv) s4 H cenv fp pn) (wipe σ vs) Qd) (GYx (Xg X (gLoop elt tg iter ifs scope pos it cenv) s4 H cenv fp pn) (wipe σ vs) fp tn stop Qs W) n s₀
        (gStart elt tg iter ifs scope pos it cenv) ((model X.prog X.w).den (gStart elt tg iter ifs scope pos it cenv)) [] s := by
  have loop := seg_gen hc hco hsc T pg pt pe hW hpn m n 0 s₀ s H5 hmn I5 st5 n5 w5
  show Seg _ X.A.in1.in1 _ _ n s₀ _ ((compStart (.GeneratorExp elt [⟨tg, iter, ifs, 0⟩] scope pos) 0 (.ref it) .none cenv).onRaise (leaving cenv)) [] s
  unfold compStart
  rw [Sem.onRaise_eq_wrap]
  show Seg _ X.A.in1.in1 _ _ n s₀ _ ((ask >>= _).wrap _ _ _ _) [] s
  refine seg_bind_wrap (wpAny_askSetting ?_)
  split
  · exact seg_again rfl loop
  · first
      | exact seg_bind_wrap (wpAny_rule (seg_bind_wrap (wpAny_standAt (seg_bind_wrap (T.self _ 0 s _ _ st5 (seg_again rfl loop))))))
      | (refine seg_bind_wrap (wpAny_rule ?_); show Seg _ X.A.in1.in1 _ _ n s₀ _ ((standAt iter.pos >>= _).wrap _ _ _ _) [] s; exact seg_bind_wrap (wpAny_standAt (seg_bind_wrap (T.self _ 0 s _ _ st5 (seg_again rfl loop)))))
end

section
variable {Y : Cx} {P : Program} {w : World} {A : Around} {σ0 : L2.St} {fp : List Addr} {tn : Nat → Heap → Prop} {Qd Qs : Hp → Prop} {W : Nat → Nat → Hp → Prop} {a g : Addr} {t1 t2 : Value} {R : Result → Shared → Prop}

theorem loop_all (hA : A.handled = none) (hroom : A.depth < recursionLimit) (hp : Y.prog = P) (hw : Y.w = w) (hpn : (a, gobj g t1 t2) ∈ Y.pn)
    (hd : ∀ s₁ H' h', Inv Y [] σ0 H' s₁ → Qd H' → g < s₁.gens.size → (∀ b o, s₁.heap.get? b = some o → h'.get? b = some o) → R (.ok (.ret (.bool true))) { s₁.setGen g .finished with heap := h' })
    (hs : ∀ s₁ H' gs', Inv Y [] σ0 H' s₁ → Qs H' → g < s₁.gens.size → gs'.bare = true → R (.ok (.ret (.bool false))) (s₁.setGen g gs')) :
    ∀ (n : Nat) (s : Shared) (gs : GenState), s.gens[g]? = some gs → s.heap.IsGen a g → s.heap.NoLimit → AllBare s.gens →
      gs.Goes (model P w) A.in1.in1 (GRx Y σ0 Qd) (GYx Y σ0 fp tn false Qs W) n (.send .none) (s.setGen g .running) → codeAny (model P w) A (.builtin "all.loop" ⟨[.ref a], []⟩) R s := by
  intro n
  induction n with
  | zero =>
    intro s gs hgs hg hl hb hgo
    have hsz : g + 1 ≤ s.gens.size := (Array.getElem?_eq_some_iff.mp hgs).1
    refine codeAny_builtin F.entry_all_loop ?_
    rw [Around.under_plainId F.plain_all_loop _]
    show wpAny _ A.in1 (pyNext (.ref a) >>= _) _ _ s
    refine wpAny_bind (wpAny_gsz (n := g + 1) hsz (wpAny_pyNext_genexpQ (A := A.in1) hA hl hroom hg hgs hgo (fun v s₁ gs' hb' hv => ?_) (fun s₁ hpp h' hk => ?_)))
    · intro hz
      have hz' : g < s₁.gens.size := by
        have hz1 : g + 1 ≤ (s₁.setGen g gs').gens.size := hz
        rw [GenW.setGen_size] at hz1
        exact hz1
      obtain ⟨c, H', i, m, rfl, I', hq⟩ := hv
      by_cases hcs : c = false
      · rw [if_pos hcs] at hq
        refine wpAny_bind (wpAny_holding (wpAny_truthy_bool ?_))
        refine wpAny_bind (wpAny_letGo ?_)
        subst hcs
        simp only [Bool.false_eq_true, if_false]
        exact wpAny_bind (wpAny_rule (wpAny_pure (hs s₁ H' gs' I' hq hz' hb')))
      · rw [if_neg hcs] at hq
        exact absurd hq.2.1 (Nat.not_lt_zero _)
    · intro hz
      have hz' : g < s₁.gens.size := by
        have hz2 : g + 1 ≤ (s₁.setGen g .finished).gens.size := hz
        rw [GenW.setGen_size] at hz2
        exact hz2
      obtain ⟨H', I', hq⟩ := hpp
      exact wpAny_bind (wpAny_rule (wpAny_pure (hd s₁ H' h' I' hq hz' hk)))
  | succ n ih =>
    intro s gs hgs hg hl hb hgo
    have hsz : g + 1 ≤ s.gens.size := (Array.getElem?_eq_some_iff.mp hgs).1
    refine codeAny_builtin F.entry_all_loop ?_
    rw [Around.under_plainId F.plain_all_loop _]
    show wpAny _ A.in1 (pyNext (.ref a) >>= _) _ _ s
    refine wpAny_bind (wpAny_gsz (n := g + 1) hsz (wpAny_pyNext_genexpQ (A := A.in1) hA hl hroom hg hgs hgo (fun v s₁ gs' hb' hv => ?_) (fun s₁ hpp h' hk => ?_)))
    · intro hz
      have hz' : g < s₁.gens.size := by
        have hz1 : g + 1 ≤ (s₁.setGen g gs').gens.size := hz
        rw [GenW.setGen_size] at hz1
        exact hz1
      obtain ⟨c, H', i, m, rfl, I', hq⟩ := hv
      refine wpAny_bind (wpAny_holding (wpAny_truthy_bool ?_))
      refine wpAny_bind (wpAny_letGo ?_)
      by_cases hcs : c = false
      · rw [if_pos hcs] at hq
        subst hcs
        simp only [Bool.false_eq_true, if_false]
        exact wpAny_bind (wpAny_rule (wpAny_pure (hs s₁ H' gs' I' hq hz' hb')))
      · rw [if_neg hcs] at hq
        have hct : c = true := by cases c with | false => exact absurd rfl hcs | true => rfl
        subst hct
        simp only [if_true]
        have hpin := (I'.pin (a, gobj g t1 t2) (List.mem_append_left _ hpn)).1
        have hbare : AllBare (s₁.setGen g gs').gens := allBare_setGen I'.bare hb'
        refine wpAny_pure ⟨plainId_quiet F.plain_all_loop _, ih (s₁.setGen g gs') gs' (setGen_at hz') ⟨_, _, _, hpin, rfl, rfl, rfl⟩ I'.nolimit hbare ?_⟩
        exact hq.2.2 ((s₁.setGen g gs').setGen g .running).gens (allBare_setGen hbare rfl)
    · intro hz
      have hz' : g < s₁.gens.size := by
        have hz2 : g + 1 ≤ (s₁.setGen g .finished).gens.size := hz
        rw [GenW.setGen_size] at hz2
        exact hz2
      obtain ⟨H', I', hq⟩ := hpp
      exact wpAny_bind (wpAny_rule (wpAny_pure (hd s₁ H' h' I' hq hz' hk)))
theorem loop_any (hA : A.handled = none) (hroom : A.depth < recursionLimit) (hp : Y.prog = P) (hw : Y.w = w) (hpn : (a, gobj g t1 t2) ∈ Y.pn)
    (hd : ∀ s₁ H' h', Inv Y [] σ0 H' s₁ → Qd H' → g < s₁.gens.size → (∀ b o, s₁.heap.get? b = some o → h'.get? b = some o) → R (.ok (.ret (.bool false))) { s₁.setGen g .finished with heap := h' })
    (hs : ∀ s₁ H' gs', Inv Y [] σ0 H' s₁ → Qs H' → g < s₁.gens.size → gs'.bare = true → R (.ok (.ret (.bool true))) (s₁.setGen g gs')) :
    ∀ (n : Nat) (s : Shared) (gs : GenState), s.gens[g]? = some gs → s.heap.IsGen a g → s.heap.NoLimit → AllBare s.gens →
      gs.Goes (model P w) A.in1.in1 (GRx Y σ0 Qd) (GYx Y σ0 fp tn true Qs W) n (.send .none) (s.setGen g .running) → codeAny (model P w) A (.builtin "any.loop" ⟨[.ref a], []⟩) R s := by
  intro n
  induction n with
  | zero =>
    intro s gs hgs hg hl hb hgo
    have hsz : g + 1 ≤ s.gens.size := (Array.getElem?_eq_some_iff.mp hgs).1
    refine codeAny_builtin F.entry_any_loop ?_
    rw [Around.under_plainId F.plain_any_loop _]
    show wpAny _ A.in1 (pyNext (.ref a) >>= _) _ _ s
    refine wpAny_bind (wpAny_gsz (n := g + 1) hsz (wpAny_pyNext_genexpQ (A := A.in1) hA hl hroom hg hgs hgo (fun v s₁ gs' hb' hv => ?_) (fun s₁ hpp h' hk => ?_)))
    · intro hz
      have hz' : g < s₁.gens.size := by
        have hz1 : g + 1 ≤ (s₁.setGen g gs').gens.size := hz
        rw [GenW.setGen_size] at hz1
        exact hz1
      obtain ⟨c, H', i, m, rfl, I', hq⟩ := hv
      by_cases hcs : c = true
      · rw [if_pos hcs] at hq
        refine wpAny_bind (wpAny_holding (wpAny_truthy_bool ?_))
        refine wpAny_bind (wpAny_letGo ?_)
        subst hcs
        simp only [if_true]
        exact wpAny_bind (wpAny_rule (wpAny_pure (hs s₁ H' gs' I' hq hz' hb')))
      · rw [if_neg hcs] at hq
        exact absurd hq.2.1 (Nat.not_lt_zero _)
    · intro hz
      have hz' : g < s₁.gens.size := by
        have hz2 : g + 1 ≤ (s₁.setGen g .finished).gens.size := hz
        rw [GenW.setGen_size] at hz2
        exact hz2
      obtain ⟨H', I', hq⟩ := hpp
      exact wpAny_bind (wpAny_rule (wpAny_pure (hd s₁ H' h' I' hq hz' hk)))
  | succ n ih =>
    intro s gs hgs hg hl hb hgo
    have hsz : g + 1 ≤ s.gens.size := (Array.getElem?_eq_some_iff.mp hgs).1
    refine codeAny_builtin F.entry_any_loop ?_
    rw [Around.under_plainId F.plain_any_loop _]
    show wpAny _ A.in1 (pyNext (.ref a) >>= _) _ _ s
    refine wpAny_bind (wpAny_gsz (n := g + 1) hsz (wpAny_pyNext_genexpQ (A := A.in1) hA hl hroom hg hgs hgo (fun v s₁ gs' hb' hv => ?_) (fun s₁ hpp h' hk => ?_)))
    · intro hz
      have hz' : g < s₁.gens.size := by
        have hz1 : g + 1 ≤ (s₁.setGen g gs').gens.size := hz
        rw [GenW.setGen_size] at hz1
        exact hz1
      obtain ⟨c, H', i, m, rfl, I', hq⟩ := hv
      refine wpAny_bind (wpAny_holding (wpAny_truthy_bool ?_))
      refine wpAny_bind (wpAny_letGo ?_)
      by_cases hcs : c = true
      · rw [if_pos hcs] at hq
        subst hcs
        simp only [if_true]
        exact wpAny_bind (wpAny_rule (wpAny_pure (hs s₁ H' gs' I' hq hz' hb')))
      · rw [if_neg hcs] at hq
        have hct : c = false := by cases c with | true => exact absurd rfl hcs | false => rfl
        subst hct
        simp only [Bool.false_eq_true, if_false]
        have hpin := (I'.pin (a, gobj g t1 t2) (List.mem_append_left _ hpn)).1
        have hbare : AllBare (s₁.setGen g gs').gens := allBare_setGen I'.bare hb'
        refine wpAny_pure ⟨plainId_quiet F.plain_any_loop _, ih (s₁.setGen g gs') gs' (setGen_at hz') ⟨_, _, _, hpin, rfl, rfl, rfl⟩ I'.nolimit hbare ?_⟩
        exact hq.2.2 ((s₁.setGen g gs').setGen g .running).gens (allBare_setGen hbare rfl)
    · intro hz
      have hz' : g < s₁.gens.size := by
        have hz2 : g + 1 ≤ (s₁.setGen g .finished).gens.size := hz
        rw [GenW.setGen_size] at hz2
        exact hz2
      obtain ⟨H', I', hq⟩ := hpp
      exact wpAny_bind (wpAny_rule (wpAny_pure (hd s₁ H' h' I' hq hz' hk)))
end

abbrev cenvOf (X : Cx) (scope : Scope) (C : Addr) (cv : Value) : Env := genEnv scope (cloFrom X.env.cells scope.names []) C cv builtinsNs X.env
abbrev Xgen (X : Cx) (elt tg iter : Expr) (ifs : List Expr) (scope : Scope) (pos : Pos) (s : Shared) (H : Hp) (it : Addr) (cv : Value) (fp : List Addr) (pn : List (Addr × Obj)) : Cx :=
  Xg X (gLoop elt tg iter ifs scope pos it (cenvOf X scope s.heap.objs.size cv)) s H (cenvOf X scope s.heap.objs.size cv) fp pn
theorem room_gen {k : Nat} {A : Around} {elt tg iter : Expr} {ifs : List Expr} {scope : Scope} {pos : Pos} {it : Addr} {cenv : Env} (r : Room (k + 1) A) : Room k (genA A (gLoop elt tg iter ifs scope pos it cenv)) :=
  ⟨r.hd, by have := r.dp; show A.depth + 0 + 1 + 3 * k + 5 < _; omega, by have := r.un; show A.units + 1 + 1 + 0 + 3 + 16 * k + 200 < _; omega⟩

/-- stop: all ends at false, any at true -/
def tAA (P : Addr) (stop : Bool) (wi : TI) (g : TG) (tt : TT) (te : TE) (vs : List Nat) : TE := fun σ H Q => wi σ H fun J H0 => TabG H0 P ∧ ∀ H1, Tabbed P H0 H1 →
  ∃ W : Nat → Nat → Hp → Prop, (∃ m, W 0 m H1) ∧ GWord J g tt te vs σ stop (fun H' => Q (.bl (!stop)) H') (fun H' => Q (.bl stop) H') W
def callId (stop : Bool) : String := if stop then "any" else "all"
section
variable {X : Cx}
theorem gen_call {c P : Addr} {elt tg iter : Expr} {ifs : List Expr} {gpos : Pos} {scope : Scope} {own : List (Str × Nat)} {wi : TI} {g : TG} {tt : TT} {te : TE} {stop : Bool} {pins : List (Addr × Obj)} {s : Shared} {σ : L2.St} {H : Hp} {Q : VK}
    (hr : Room 1 X.A) (TB : TabB X.base X.mg c P) (hcode : X.env.code = .ref c) (hc : X.calm = true) (hN : X.N.Nodup) (hi : PI X tg iter wi) (ok : BlkOk X.N X.env.scope scope own)
    (hco : scope.isCoroutine = false) (hcell : ∀ y ∈ scope.names, y.2 ≠ .cell) (h0 : scope.names.lookup (".0" : Str) = some NameKind.local)
    (pg : ∀ s H it cv fp pn, PG (Xgen X elt tg iter ifs scope gpos s H it cv fp pn) tg g) (pt : ∀ s H it cv fp pn, PTs (Xgen X elt tg iter ifs scope gpos s H it cv fp pn) ifs tt) (pe : ∀ s H it cv fp pn, PE (Xgen X elt tg iter ifs scope gpos s H it cv fp pn) elt te)
    (hs : ∀ v, genFold iter X.env v = pure v) (I : Inv X pins σ H s) (h : tAA P stop wi g tt te (own.map (·.2)) σ H Q) :
    wpAny (model X.prog X.w) X.A (eval (.GeneratorExp elt [⟨tg, iter, ifs, 0⟩] scope gpos) X.env) (fun u s5 => wpAny (model X.prog X.w) X.A (call (.builtin (callId stop)) [u]) (EP X pins σ Q) X.xe s5) X.xe s := by
  have hfree : ∀ y ∈ scope.names, y.2 = .free → ∃ c, X.env.cells.lookup y.1 = some c := fun y hy e => by
    rcases ok.free y hy e with k | k
    · exact I.ok.has _ (.inl k)
    · exact I.ok.has _ (.inr k)
  refine wpAny_GeneratorExp_make hco (closure_ok hfree) hcell h0 ok.kind (by have := hr.dp; omega) ?_ hs
  refine thn (hi.run pins s σ H _ I h) fun xv s1 hx => thn hx fun itv s2 h2 => ?_
  obtain ⟨it, fp, tn, J, H', e, I2, T, st2, f2, ⟨ps, hP, ht⟩, q⟩ := h2
  subst e
  have hPs : s2.heap.get? P = some { cls := .none, data := .fields ps } := I2.hok P _ hP
  have cd : PySem.W.CodeHd s2.heap c P := TB.code.keeps fun b u e => I2.bk b u e
  have nPfp : ∀ b ∈ fp, b ≠ P := fun b hb z => by
    have := (f2 b hb).1
    rw [z, hP] at this
    cases this
  have cont : ∀ (code : Value) (h3 : Heap) (tk : Nat) (ps' : Array Value), Heap.ExtBut P s2.heap h3 → h3.get? P = some { cls := .none, data := .fields ps' } → (∃ more, ps' = ps ++ more) → TriplesOk ps'.toList →
      wpAny (model X.prog X.w) X.A (builtinsFor X.env.globals X.env.builtins) (fun bi s₄ =>
        ∀ h', h'.Ns s₄.heap.objs.size (fun y => if y = ".0" then some (.ref it) else none) → Heap.SameBut s₄.heap.objs.size (s₄.heap.push { cls := .type "frame", data := .dict #[] }) h' →
          wpAny (model X.prog X.w) X.A (call (.builtin (callId stop)) [.ref h'.objs.size]) (EP X pins σ Q) X.xe { s₄ with
            gens := s₄.gens.push (.fresh (gStart elt tg iter ifs scope gpos it (genEnv scope (cloFrom X.env.cells scope.names []) s₄.heap.objs.size code bi X.env))),
            toks := s₄.toks + 1 + 1 + 1,
            heap := h'.push { cls := .type "generator", data := .fields #[.int s₄.gens.size 0, .str "<genexpr>" (s₄.toks + 1), .str (X.env.qual ++ "<genexpr>") (s₄.toks + 1 + 1)] } }) X.xe { s2 with heap := h3, toks := tk } := by
    intro code h3 tk ps' hx hP3 hmore ht3
    obtain ⟨bm, ob, e1, e2, e3, e4, e5, e6, e7, e8⟩ := TB.bm
    obtain ⟨more, em⟩ := hmore
    refine wpAny_builtinsFor (m := X.mg) (by rw [I2.ok.glob]; exact (I2.mod.glob.keeps I2.bk).extBut hx TB.gP) e1 e2 (hx _ _ e4 (I2.bk _ _ e5)) e6 e7 e8 ?_
    have I3 := inv_tab (more := more) (h' := h3) (g' := s2.gens) (d' := s2.drawn) (t' := tk) I2 hP (fun b u hb e => hx b u hb e) (by rw [← em]; exact hP3) I2.bare
    rw [← em] at I3
    generalize hs4 : ({ s2 with heap := h3, gens := s2.gens, drawn := s2.drawn, toks := tk } : Shared) = s4 at I3
    have hh4 : s4.heap = h3 := by rw [← hs4]
    have tabd : Tabbed P H' (upd H' P (.tbl ps')) := ⟨⟨ps', upd_same, ht3⟩, fun b hb => upd_ne hb⟩
    obtain ⟨W, ⟨m0, w0⟩, hW⟩ := q _ tabd
    generalize hH3 : upd H' P (.tbl ps') = H3 at I3 w0 tabd
    have nfp : ∀ b ∈ fp, H3 b = none := fun b hb => by rw [tabd.2 b (nPfp b hb)]; exact (f2 b hb).1
    have st4 : tn 0 s4.heap := by
      rw [hh4]
      exact T.keep _ _ _ st2 fun b hb o e => hx b o (nPfp b hb) e
    have f4 : ∀ b ∈ fp, FpOk X pins H3 b ∧ b < s4.heap.objs.size := fun b hb => by
      obtain ⟨o, e, _⟩ := T.obj _ _ st4 b hb
      exact ⟨⟨nfp b hb, (f2 b hb).2⟩, Heap.lt_size e⟩
    intro h' hn' hs'
    have hsz : h'.objs.size = s4.heap.objs.size + 1 := by rw [hs'.1, Heap.size_push]
    have keep' : ∀ b o, s4.heap.get? b = some o → h'.get? b = some o := fun b o e => hs'.extBut b o (Nat.ne_of_lt (Heap.lt_size e)) (Heap.get?_push_of_some _ e)
    generalize hgo : ({ cls := .type "generator", data := .fields #[.int s4.gens.size 0, .str "<genexpr>" (s4.toks + 1), .str (X.env.qual ++ "<genexpr>") (s4.toks + 1 + 1)] } : Obj) = go
    have hgo' : go = gobj s4.gens.size (.str "<genexpr>" (s4.toks + 1)) (.str (X.env.qual ++ "<genexpr>") (s4.toks + 1 + 1)) := hgo.symm
    have I5 := gen_start (X := X) (code := gLoop elt tg iter ifs scope gpos it (cenvOf X scope s4.heap.objs.size code)) (cv := code) (h' := h'.push go) (a := h'.objs.size) (g := s4.gens.size) (t1 := .str "<genexpr>" (s4.toks + 1)) (t2 := .str (X.env.qual ++ "<genexpr>") (s4.toks + 1 + 1)) (tk := s4.toks + 1 + 1 + 1)
      (gs := .fresh (gStart elt tg iter ifs scope gpos it (cenvOf X scope s4.heap.objs.size code))) (elt := elt) (tg := tg) (iter := iter) (ifs := ifs) (pos := gpos) (I0 := it) rfl rfl I3 ok hN f4 hcell (hn'.push _) (fun b o e => Heap.get?_push_of_some _ (keep' b o e))
      (by rw [hgo']; exact Heap.get?_push_size _ rfl) (by omega) rfl
    generalize hs5 : ({ s4 with heap := h'.push go, gens := s4.gens.push (.fresh (gStart elt tg iter ifs scope gpos it (cenvOf X scope s4.heap.objs.size code))), toks := s4.toks + 1 + 1 + 1 } : Shared) = s5 at I5
    have hg5 : s5.gens = s4.gens.push (.fresh (gStart elt tg iter ifs scope gpos it (cenvOf X scope s4.heap.objs.size code))) := by rw [← hs5]
    have hh5 : s5.heap = h'.push go := by rw [← hs5]
    have hgen : s5.heap.IsGen h'.objs.size s4.gens.size := by
      rw [hh5, hgo']
      exact ⟨_, _, _, Heap.get?_push_size _ rfl, rfl, rfl, rfl⟩
    have hgs : s5.gens[s4.gens.size]? = some (.fresh (gStart elt tg iter ifs scope gpos it (cenvOf X scope s4.heap.objs.size code))) := by
      rw [hg5]
      exact Array.getElem?_push_size ..
    have st5 : tn 0 s5.heap := T.keep _ _ _ st4 fun b _ o e => by rw [hh5]; exact Heap.get?_push_of_some _ (keep' b o e)
    have hpnfp : ∀ b ∈ fp, ∀ p ∈ [(h'.objs.size, gobj s4.gens.size (.str "<genexpr>" (s4.toks + 1)) (.str (X.env.qual ++ "<genexpr>") (s4.toks + 1 + 1)))], p.1 ≠ b := fun b hb p hp => by
      have hp' : p = (h'.objs.size, gobj s4.gens.size (.str "<genexpr>" (s4.toks + 1)) (.str (X.env.qual ++ "<genexpr>") (s4.toks + 1 + 1))) := by simpa using hp
      subst hp'
      have h9 : b < s4.heap.objs.size := (f4 b hb).2
      show h'.objs.size ≠ b
      have h10 : b < h'.objs.size := by rw [hsz]; exact Nat.lt_succ_of_lt h9
      exact Nat.ne_of_gt h10
    have bareR : AllBare (s5.setGen s4.gens.size .running).gens := allBare_setGen I5.bare rfl
    have goes : GenState.Goes (model X.prog X.w) X.A.in1.in1 (GRx (Xgen X elt tg iter ifs scope gpos s4 H3 it code fp [(h'.objs.size, gobj s4.gens.size (.str "<genexpr>" (s4.toks + 1)) (.str (X.env.qual ++ "<genexpr>") (s4.toks + 1 + 1)))]) (wipe σ (own.map (·.2))) (fun H' => Q (.bl (!stop)) H'))
        (GYx (Xgen X elt tg iter ifs scope gpos s4 H3 it code fp [(h'.objs.size, gobj s4.gens.size (.str "<genexpr>" (s4.toks + 1)) (.str (X.env.qual ++ "<genexpr>") (s4.toks + 1 + 1)))]) (wipe σ (own.map (·.2))) fp tn stop (fun H' => Q (.bl stop) H') W) (m0 + 1) (.fresh (gStart elt tg iter ifs scope gpos it (cenvOf X scope s4.heap.objs.size code))) (.send .none) (s5.setGen s4.gens.size .running) :=
      ⟨rfl, seg_start (cenv := cenvOf X scope s4.heap.objs.size code) hc hco rfl T (pg s4 H3 it code fp _) (pt s4 H3 it code fp _) (pe s4 H3 it code fp _) hW hpnfp m0 (m0 + 1) _ _ H3 (Nat.lt_succ_self _) (inv_gens I5 bareR) st5 nfp w0⟩
    have back : ∀ {s₁ : Shared} {H9 : Hp}, Inv (Xgen X elt tg iter ifs scope gpos s4 H3 it code fp [(h'.objs.size, gobj s4.gens.size (.str "<genexpr>" (s4.toks + 1)) (.str (X.env.qual ++ "<genexpr>") (s4.toks + 1 + 1)))]) [] (wipe σ (own.map (·.2))) H9 s₁ → Inv X pins σ H9 s₁ := fun {s₁ H9} I' =>
      I3.call' (ch := fp) I'.os I'.base I'.hok I'.bare fun b hb => ⟨(f4 b hb).1.2.2.2.1, (f4 b hb).1.2.1, (f4 b hb).1.2.2.2.2.1, (f4 b hb).1.2.2.2.2.2⟩
    cases stop with
    | false =>
      refine call_function_tree F.kind_all F.plain_all F.entry_all (F.args_all1 _) ?_
      unfold Builtin.«all»
      refine wpAny_bind (m := oneArg "all" _) (wpAny_pure ?_)
      refine wpAny_bind (wpAny_pyIter_gen hgen ?_)
      refine wpAny_pure ⟨plainId_quiet F.plain_all_loop _, ?_⟩
      refine loop_all (Y := Xgen X elt tg iter ifs scope gpos s4 H3 it code fp [(h'.objs.size, gobj s4.gens.size (.str "<genexpr>" (s4.toks + 1)) (.str (X.env.qual ++ "<genexpr>") (s4.toks + 1 + 1)))]) hr.hd (by have := hr.dp; omega) rfl rfl (List.mem_singleton.mpr rfl) (fun s₁ H9 h9 I' qd hz hk => ?_) (fun s₁ H9 gs' I' qs hz hb => ?_) (m0 + 1) s5 _ hgs hgen I5.nolimit I5.bare goes
      · exact ⟨.bl true, H9, (inv_gens (G := (s₁.setGen s4.gens.size .finished).gens) (back I') (allBare_setGen I'.bare rfl)).kept (t' := s₁.toks) hk, rfl, qd⟩
      · exact ⟨.bl false, H9, inv_gens (G := (s₁.setGen s4.gens.size gs').gens) (back I') (allBare_setGen I'.bare hb), rfl, qs⟩
    | true =>
      refine call_function_tree F.kind_any F.plain_any F.entry_any (F.args_any1 _) ?_
      unfold Builtin.«any»
      refine wpAny_bind (m := oneArg "any" _) (wpAny_pure ?_)
      refine wpAny_bind (wpAny_pyIter_gen hgen ?_)
      refine wpAny_pure ⟨plainId_quiet F.plain_any_loop _, ?_⟩
      refine loop_any (Y := Xgen X elt tg iter ifs scope gpos s4 H3 it code fp [(h'.objs.size, gobj s4.gens.size (.str "<genexpr>" (s4.toks + 1)) (.str (X.env.qual ++ "<genexpr>") (s4.toks + 1 + 1)))]) hr.hd (by have := hr.dp; omega) rfl rfl (List.mem_singleton.mpr rfl) (fun s₁ H9 h9 I' qd hz hk => ?_) (fun s₁ H9 gs' I' qs hz hb => ?_) (m0 + 1) s5 _ hgs hgen I5.nolimit I5.bare goes
      · exact ⟨.bl false, H9, (inv_gens (G := (s₁.setGen s4.gens.size .finished).gens) (back I') (allBare_setGen I'.bare rfl)).kept (t' := s₁.toks) hk, rfl, qd⟩
      · exact ⟨.bl true, H9, inv_gens (G := (s₁.setGen s4.gens.size gs').gens) (back I') (allBare_setGen I'.bare hb), rfl, qs⟩
  refine ⟨I2.nolimit, ?_⟩
  cases hf : codeAmong gpos ps.toList with
  | none =>
    refine wpAny_genexprCodeX hcode (cd.code hPs ht) (cd.tab hPs) hf fun c' h' tk hx hge hlt hco' _ htab' _ => ?_
    obtain ⟨o1, vs, f1, tf, fl, tg', inF, tx, tt', op, _, _, _, _, _, _, _, _, _, htr, _⟩ := hco'
    exact cont _ h' tk _ hx htab'.2 ⟨_, rfl⟩ htr
  | some cv =>
    refine wpAny_genexprCode_hit hcode (cd.code hPs ht) hf ?_
    exact cont cv s2.heap s2.toks ps (Heap.ExtBut.refl _ _) hPs ⟨#[], by simp⟩ ht
theorem pe_aa {c P : Addr} {elt tg iter : Expr} {ifs : List Expr} {p pos gpos : Pos} {scope : Scope} {own : List (Str × Nat)} {wi : TI} {g : TG} {tt : TT} {te : TE} {x : Str} (stop : Bool)
    (hx : x = if stop then ("any" : Str) else ("all" : Str)) (hr : Room 1 X.A) (hgl : Gl X x) (hm : X.mg x = none) (TB : TabB X.base X.mg c P) (hcode : X.env.code = .ref c) (hc : X.calm = true) (hN : X.N.Nodup) (hi : PI X tg iter wi) (ok : BlkOk X.N X.env.scope scope own)
    (hco : scope.isCoroutine = false) (hcell : ∀ y ∈ scope.names, y.2 ≠ .cell) (h0 : scope.names.lookup (".0" : Str) = some NameKind.local)
    (pg : ∀ s H it cv fp pn, PG (Xgen X elt tg iter ifs scope gpos s H it cv fp pn) tg g) (pt : ∀ s H it cv fp pn, PTs (Xgen X elt tg iter ifs scope gpos s H it cv fp pn) ifs tt) (pe : ∀ s H it cv fp pn, PE (Xgen X elt tg iter ifs scope gpos s H it cv fp pn) elt te)
    (hs : ∀ v, genFold iter X.env v = pure v)
    (he : starEach [.GeneratorExp elt [⟨tg, iter, ifs, 0⟩] scope gpos] X.env = (false, eval (.GeneratorExp elt [⟨tg, iter, ifs, 0⟩] scope gpos) X.env) :: starEach [] X.env := by rfl) :
    PE X (.Call (.Name x p) [.GeneratorExp elt [⟨tg, iter, ifs, 0⟩] scope gpos] [] pos) (tAA P stop wi g tt te (own.map (·.2))) := by
  refine ⟨fun pins s σ H Q I h => ?_⟩
  have hv : bootBuiltins x = some (.builtin (callId stop)) := by
    subst hx
    cases stop with
    | false => exact (by decide +kernel : bootBuiltins "all" = some (.builtin "all"))
    | true => exact boot_any
  have hne : x ≠ "__name__" := by subst hx; cases stop <;> decide
  have hdb : (x == ("__debug__" : Str)) = false := by subst hx; cases stop <;> decide
  refine wpAny_Call_Name_kw (ld_blt I hgl hm hv ?_ hne hdb)
  refine PyProof.Rows.callWith_builtin1 ?_ he (by rfl)
  rw [he]
  show wpAny _ _ (spliced ((false, eval (.GeneratorExp elt [⟨tg, iter, ifs, 0⟩] scope gpos) X.env) :: backTo pos (starEach [] X.env))) _ _ s
  refine Calls.spliced_cons (thn (gen_call hr TB hcode hc hN hi ok hco hcell h0 pg pt pe hs I h) fun u s5 h5 => ?_)
  exact Calls.spliced_nil h5
end
end Gx
namespace Tr
open PySem L2 GxR

/-! ### values as trees, things that change by their number -/
inductive T where
  | non | bl (b : Bool) | int (i : Int) | str (s : List Nat) | ty (n : String) | tup (xs : List T) | lst (xs : List T) | dct (kvs : List (T × T)) | obj (c : Str) (fs : List (Str × T)) | ref (i : Nat)
inductive Node where
  | dead | lst (ts : List T) | dct (kvs : List (T × T)) | obj (c : Str) (fs : List (Str × T))
@[reducible] def Node.on : Node → Prop
  | .dead => False
  | _ => True
structure Exc where
  cls : Str
  fs : List (Str × T)
/-- the slots; the things that change -/
structure Env where
  sl : List (Option T)
  mu : List Node
inductive R (α : Type) where
  | ok (a : α) | exc (x : Exc) (ρ : Env) | stk
def R.bind {α β : Type} : R α → (α → R β) → R β
  | .ok a, k => k a
  | .exc x ρ, _ => .exc x ρ
  | .stk, _ => .stk
/-- a thing's look -/
def vw (μ : List Node) : T → T
  | .ref i => match μ[i]? with
    | some (.lst ts) => .lst ts
    | some (.dct kvs) => .dct kvs
    | some (.obj c fs) => .obj c fs
    | _ => .ref i
  | t => t

structure GG where
  K : PySem.W.Frag
  cls : Str → Option Addr
  tabs : List Addr
  exr : Exc → Value → Option Addr → Hp → Prop
/-- what is exclusive; the places of the things that change -/
structure Wd where
  E : Addr → Prop
  al : List Addr

def KL (K : PySem.W.Frag) (a : Addr) (xs : List V) : Prop := ∃ (o : Obj) (its : Array Value) (n : Nat), K.lookup a = some o ∧ o.cls = .type "list" ∧ o.dict = none ∧ o.data = .seq its n ∧ its.size ≤ sizeLine ∧ Vals xs its.toList
abbrev S (l : List Nat) : Str := ⟨l.toArray⟩
/-- a key's tree -/
def kT : Key → T
  | .inl i => .int i
  | .inr x => .str x.cps.toList
/-- a dict's entries -/
inductive DictO : HO → List (T × V) → Prop where
  | k (kvs : List (Key × V)) : DictO (.dK kvs) (kvs.map fun p => (kT p.1, p.2))
  | t (kvs : List (List Key × V)) : DictO (.dT kvs) (kvs.map fun p => (.tup (p.1.map kT), p.2))
mutual
inductive Rep (G : GG) (w : Wd) (H : Hp) : V → T → Prop where
  | non : Rep G w H .non .non
  | bl (b : Bool) : Rep G w H (.bl b) (.bl b)
  | int (i : Int) : Rep G w H (.int i) (.int i)
  | str (s : List Nat) : Rep G w H (.str (S s)) (.str s)
  | ty (n : String) : Rep G w H (.ty n) (.ty n)
  | tup {a : Addr} {vs : List V} {ts : List T} : ¬ w.E a → Rd H a (.tup vs) → Reps G w H vs ts → Rep G w H (.ref a) (.tup ts)
  | lst {a : Addr} {vs : List V} {ts : List T} : ¬ w.E a → Rd H a (.lst vs) → Reps G w H vs ts → Rep G w H (.ref a) (.lst ts)
  | lstK {a : Addr} {vs : List V} {ts : List T} : KL G.K a vs → Reps G w H vs ts → Rep G w H (.ref a) (.lst ts)
  | dct {a : Addr} {o : HO} {es : List (T × V)} {kvs : List (T × T)} : ¬ w.E a → H a = some o → DictO o es → RepD G w H es kvs → Rep G w H (.ref a) (.dct kvs)
  | obj {a C dx : Addr} {c : Str} {vs : List (Str × V)} {fs : List (Str × T)} : ¬ w.E a → H a = some (.ins C dx vs) → G.cls c = some C → RepF G w H vs fs → Rep G w H (.ref a) (.obj c fs)
  | ref {a : Addr} {i : Nat} : w.al[i]? = some a → Rep G w H (.ref a) (.ref i)
inductive Reps (G : GG) (w : Wd) (H : Hp) : List V → List T → Prop where
  | nil : Reps G w H [] []
  | cons {v : V} {t : T} {vs : List V} {ts : List T} : Rep G w H v t → Reps G w H vs ts → Reps G w H (v :: vs) (t :: ts)
inductive RepF (G : GG) (w : Wd) (H : Hp) : List (Str × V) → List (Str × T) → Prop where
  | nil : RepF G w H [] []
  | cons {n : Str} {v : V} {t : T} {vs : List (Str × V)} {ts : List (Str × T)} : Rep G w H v t → RepF G w H vs ts → RepF G w H ((n, v) :: vs) ((n, t) :: ts)
inductive RepD (G : GG) (w : Wd) (H : Hp) : List (T × V) → List (T × T) → Prop where
  | nil : RepD G w H [] []
  | cons {n : T} {v : V} {t : T} {vs : List (T × V)} {ts : List (T × T)} : Rep G w H v t → RepD G w H vs ts → RepD G w H ((n, v) :: vs) ((n, t) :: ts)
end
/-- an object that is no table of code objects -/
def Plain : HO → Prop
  | .tbl _ => False
  | _ => True
theorem DictO.plain {o : HO} {es : List (T × V)} (h : DictO o es) : Plain o := by cases h <;> trivial
section
variable {G : GG} {w w' : Wd} {H H' : Hp}
/-- what is kept, and where nothing becomes exclusive that was not -/
structure Keep (w : Wd) (H : Hp) (w' : Wd) (H' : Hp) : Prop where
  hp : ∀ (a : Addr) (u : HO), ¬ w.E a → H a = some u → Plain u → H' a = some u ∧ ¬ w'.E a
  al : ∀ (i : Nat) (a : Addr), w.al[i]? = some a → w'.al[i]? = some a
theorem Keep.rd (k : Keep w H w' H') {a : Addr} {u : HO} (he : ¬ w.E a) (h : Rd H a u) (pu : Plain u) : Rd H' a u ∧ ¬ w'.E a := by
  rcases h with h | ⟨o, h⟩
  · exact ⟨.inl (k.hp a u he h pu).1, (k.hp a u he h pu).2⟩
  · exact ⟨.inr ⟨o, (k.hp a _ he h trivial).1⟩, (k.hp a _ he h trivial).2⟩
mutual
theorem Rep.stab (k : Keep w H w' H') : ∀ {v : V} {t : T}, Rep G w H v t → Rep G w' H' v t
  | _, _, .non => .non
  | _, _, .bl b => .bl b
  | _, _, .int i => .int i
  | _, _, .str s => .str s
  | _, _, .ty n => .ty n
  | _, _, .tup he h r => .tup (k.rd he h trivial).2 (k.rd he h trivial).1 (Reps.stab k r)
  | _, _, .lst he h r => .lst (k.rd he h trivial).2 (k.rd he h trivial).1 (Reps.stab k r)
  | _, _, .lstK h r => .lstK h (Reps.stab k r)
  | _, _, .dct he h d r => .dct (k.hp _ _ he h d.plain).2 (k.hp _ _ he h d.plain).1 d (RepD.stab k r)
  | _, _, .obj he h c r => .obj (k.hp _ _ he h trivial).2 (k.hp _ _ he h trivial).1 c (RepF.stab k r)
  | _, _, .ref h => .ref (k.al _ _ h)
theorem Reps.stab (k : Keep w H w' H') : ∀ {vs : List V} {ts : List T}, Reps G w H vs ts → Reps G w' H' vs ts
  | _, _, .nil => .nil
  | _, _, .cons r rs => .cons (Rep.stab k r) (Reps.stab k rs)
theorem RepF.stab (k : Keep w H w' H') : ∀ {vs : List (Str × V)} {ts : List (Str × T)}, RepF G w H vs ts → RepF G w' H' vs ts
  | _, _, .nil => .nil
  | _, _, .cons r rs => .cons (Rep.stab k r) (RepF.stab k rs)
theorem RepD.stab (k : Keep w H w' H') : ∀ {vs : List (T × V)} {ts : List (T × T)}, RepD G w H vs ts → RepD G w' H' vs ts
  | _, _, .nil => .nil
  | _, _, .cons r rs => .cons (Rep.stab k r) (RepD.stab k rs)
end
theorem Keep.refl : Keep w H w H := ⟨fun _ _ he h _ => ⟨h, he⟩, fun _ _ h => h⟩
theorem Keep.trans {w2 : Wd} {H2 : Hp} (k : Keep w H w' H') (k2 : Keep w' H' w2 H2) : Keep w H w2 H2 :=
  ⟨fun a u he h pu => k2.hp a u (k.hp a u he h pu).2 (k.hp a u he h pu).1 pu, fun i a h => k2.al i a (k.al i a h)⟩
theorem Keep.less (h : ∀ a, w'.E a → w.E a) (ha : ∀ (i : Nat) (a : Addr), w.al[i]? = some a → w'.al[i]? = some a) : Keep w H w' H := ⟨fun a _ he q _ => ⟨q, fun z => he (h a z)⟩, ha⟩
/-- a new object -/
theorem Keep.new0 {p : Addr} {o : HO} (hp : H p = none) : Keep w H w (upd H p o) := ⟨fun a u he q _ => ⟨by rw [upd_ne (ne_of_none q hp)]; exact q, he⟩, fun _ _ h => h⟩
/-- an exclusive object is changed -/
theorem Keep.mut {p : Addr} {o : HO} (hp : w.E p) : Keep w H w (upd H p o) := ⟨fun a u he q _ => ⟨by rw [upd_ne fun z => he (by rw [z]; exact hp)]; exact q, he⟩, fun _ _ h => h⟩

theorem Reps.length : ∀ {vs : List V} {ts : List T}, Reps G w H vs ts → vs.length = ts.length
  | _, _, .nil => rfl
  | _, _, .cons _ r => by rw [List.length_cons, List.length_cons, Reps.length r]
theorem Reps.get : ∀ {vs : List V} {ts : List T} {i : Nat} {t : T}, Reps G w H vs ts → ts[i]? = some t → ∃ v, vs[i]? = some v ∧ Rep G w H v t
  | _, _, _, _, .nil, e => by simp at e
  | _, _, 0, _, .cons r _, e => by simp at e; subst e; exact ⟨_, rfl, r⟩
  | _, _, i + 1, _, .cons _ rs, e => by
    obtain ⟨v, h1, h2⟩ := Reps.get (i := i) rs (by simpa using e)
    exact ⟨v, by simpa using h1, h2⟩
theorem Reps.getV : ∀ {vs : List V} {ts : List T} {i : Nat} {v : V}, Reps G w H vs ts → vs[i]? = some v → ∃ t, ts[i]? = some t ∧ Rep G w H v t
  | _, _, _, _, .nil, e => by simp at e
  | _, _, 0, _, .cons r _, e => by simp at e; subst e; exact ⟨_, rfl, r⟩
  | _, _, i + 1, _, .cons _ rs, e => by
    obtain ⟨v, h1, h2⟩ := Reps.getV (i := i) rs (by simpa using e)
    exact ⟨v, by simpa using h1, h2⟩
theorem Reps.append : ∀ {vs ws : List V} {ts us : List T}, Reps G w H vs ts → Reps G w H ws us → Reps G w H (vs ++ ws) (ts ++ us)
  | _, _, _, _, .nil, s => s
  | _, _, _, _, .cons r rs, s => .cons r (Reps.append rs s)
theorem Reps.take : ∀ (n : Nat) {vs : List V} {ts : List T}, Reps G w H vs ts → Reps G w H (vs.take n) (ts.take n)
  | 0, _, _, _ => .nil
  | n + 1, _, _, .nil => .nil
  | n + 1, _, _, .cons r rs => .cons r (Reps.take n rs)
theorem Reps.drop : ∀ (n : Nat) {vs : List V} {ts : List T}, Reps G w H vs ts → Reps G w H (vs.drop n) (ts.drop n)
  | 0, _, _, r => r
  | n + 1, _, _, .nil => .nil
  | n + 1, _, _, .cons _ rs => Reps.drop n rs
theorem Reps.set : ∀ (n : Nat) {v : V} {t : T} {vs : List V} {ts : List T}, Rep G w H v t → Reps G w H vs ts → Reps G w H (vs.set n v) (ts.set n t)
  | _, _, _, _, _, _, .nil => .nil
  | 0, _, _, _, _, r, .cons _ rs => .cons r rs
  | n + 1, _, _, _, _, r, .cons q rs => .cons q (Reps.set n r rs)
theorem Reps.reverse : ∀ {vs : List V} {ts : List T}, Reps G w H vs ts → Reps G w H vs.reverse ts.reverse
  | _, _, .nil => .nil
  | _, _, .cons r rs => by
    rw [List.reverse_cons, List.reverse_cons]
    exact (Reps.reverse rs).append (.cons r .nil)
theorem Reps.ints : ∀ (ns : List Int), Reps G w H (ns.map V.int) (ns.map T.int)
  | [] => .nil
  | n :: r => .cons (.int n) (Reps.ints r)
theorem Reps.strs : ∀ (ns : List (List Nat)), Reps G w H ((ns.map S).map V.str) (ns.map T.str)
  | [] => .nil
  | n :: r => .cons (.str n) (Reps.strs r)
end
/-- .. what stands there now -/
inductive RV (G : GG) (w : Wd) (H : Hp) : V → T → Prop where
  | of {v : V} {t : T} : Rep G w H v t → RV G w H v t
  | lst {a : Addr} {vs : List V} {ts : List T} : H a = some (.lst vs) → Reps G w H vs ts → RV G w H (.ref a) (.lst ts)
  | dct {a : Addr} {o : HO} {es : List (T × V)} {kvs : List (T × T)} : H a = some o → DictO o es → RepD G w H es kvs → RV G w H (.ref a) (.dct kvs)
  | obj {a C dx : Addr} {c : Str} {vs : List (Str × V)} {fs : List (Str × T)} : H a = some (.ins C dx vs) → G.cls c = some C → RepF G w H vs fs → RV G w H (.ref a) (.obj c fs)
inductive RVs (G : GG) (w : Wd) (H : Hp) : List V → List T → Prop where
  | nil : RVs G w H [] []
  | cons {v : V} {t : T} {vs : List V} {ts : List T} : RV G w H v t → RVs G w H vs ts → RVs G w H (v :: vs) (t :: ts)

/-! ### the frame -/
/-- O: exclusive of those around; H0: the heap at the entry; M0: what of it may change; al0: the things that change, at the entry; tmp: values that are held besides the slots; pin: exclusive objects of those around that are held -/
structure Fr where
  O : Addr → Prop
  H0 : Hp
  M0 : Addr → Prop
  al0 : List Addr
  tmp : List (V × T)
  pin : List (Addr × HO)
def onA (α : List Addr) (μ : List Node) (a : Addr) : Prop := ∃ (i : Nat) (n : Node), μ[i]? = some n ∧ n.on ∧ α[i]? = some a
abbrev wd (F : Fr) (α : List Addr) (μ : List Node) : Wd := ⟨fun a => F.O a ∨ onA α μ a, α⟩
def NodeOk (G : GG) (w : Wd) (H : Hp) (a : Addr) : Node → Prop
  | .dead => True
  | .lst ts => ∃ vs, H a = some (.lst vs) ∧ Reps G w H vs ts
  | .dct kvs => ∃ o es, H a = some o ∧ DictO o es ∧ RepD G w H es kvs
  | .obj c fs => ∃ C dx vs, H a = some (.ins C dx vs) ∧ G.cls c = some C ∧ RepF G w H vs fs
def Grown (u : HO) (r : Option HO) : Prop := (Plain u → r = some u) ∧ ∀ ps, u = .tbl ps → ∃ qs, r = some (.tbl qs)
/-- nothing is changed but tables of code objects, that grow -/
structure HExt (G : GG) (H H' : Hp) : Prop where
  keep : ∀ a u, H a = some u → Grown u (H' a)
  tabs : ∀ P ∈ G.tabs, TabG H' P
theorem Grown.refl {u : HO} : Grown u (some u) := ⟨fun _ => rfl, fun ps e => ⟨ps, by rw [e]⟩⟩
theorem Grown.trans {u : HO} {r : Option HO} {H' : Hp} {a : Addr} (h : Grown u r) (k : ∀ w, r = some w → Grown w (H' a)) : Grown u (H' a) := by
  refine ⟨fun p => ?_, fun ps e => ?_⟩
  · exact (k u (h.1 p)).1 p
  · obtain ⟨more, q⟩ := h.2 ps e
    obtain ⟨m2, q2⟩ := (k _ q).2 _ rfl
    exact ⟨m2, q2⟩
structure Rel (G : GG) (F : Fr) (α : List Addr) (ρ : Env) (σ : St) (H : Hp) : Prop where
  len : σ.length = ρ.sl.length
  slot : ∀ (i : Nat) (t : T), ρ.sl[i]? = some (some t) → ∃ x, σ[i]? = some (some x) ∧ Rep G (wd F α ρ.mu) H x t
  alen : α.length = ρ.mu.length
  node : ∀ (i : Nat) (n : Node) (a : Addr), ρ.mu[i]? = some n → α[i]? = some a → NodeOk G (wd F α ρ.mu) H a n
  apart : ∀ a ∈ α, ¬ F.O a
  inj : α.Nodup
  al : F.al0 <+: α
  frame : ∀ a u, F.H0 a = some u → ¬ F.M0 a → Grown u (H a)
  ownf : ∀ a, onA α ρ.mu a → F.M0 a ∨ F.H0 a = none
  tabs : ∀ P ∈ G.tabs, TabG H P
  there : ∀ a ∈ α, ∃ u, H a = some u
  exs : ∀ a, F.O a → ∃ u, H a = some u
  tmp : ∀ p ∈ F.tmp, Rep G (wd F α ρ.mu) H p.1 p.2
  pinP : ∀ p ∈ F.pin, Plain p.2
  pin : ∀ p ∈ F.pin, H p.1 = some p.2 ∧ F.O p.1 ∧ (F.M0 p.1 ∨ F.H0 p.1 = none)
section
variable {G : GG} {F : Fr} {α : List Addr} {ρ ρ' : Env} {σ σ' : St} {H H' : Hp}
theorem HExt.there (h : HExt G H H') {a : Addr} {u : HO} (e : H a = some u) : ∃ w, H' a = some w := by
  cases u with
  | tbl ps => obtain ⟨more, q⟩ := (h.keep a _ e).2 ps rfl; exact ⟨_, q⟩
  | _ => exact ⟨_, (h.keep a _ e).1 trivial⟩
theorem HExt.keepE {w : Wd} (h : HExt G H H') : Keep w H w H' := ⟨fun a u he e pu => ⟨(h.keep a u e).1 pu, he⟩, fun _ _ h => h⟩
theorem HExt.refl (ht : ∀ P ∈ G.tabs, TabG H P) : HExt G H H := ⟨fun a u e => by rw [e]; exact Grown.refl, ht⟩
theorem HExt.new {p : Addr} {o : HO} (ht : ∀ P ∈ G.tabs, TabG H P) (hp : H p = none) : HExt G H (upd H p o) := by
  have nn : ∀ a u, H a = some u → upd H p o a = some u := fun a u e => by rw [upd_ne (ne_of_none e hp)]; exact e
  exact ⟨fun a u e => by rw [nn a u e]; exact Grown.refl, fun P hP => let ⟨ps, h1, h2⟩ := ht P hP; ⟨ps, nn _ _ h1, h2⟩⟩
theorem HExt.trans {H2 : Hp} (h : HExt G H H') (k : HExt G H' H2) : HExt G H H2 := ⟨fun a u e => (h.keep a u e).trans fun w q => k.keep a w q, k.tabs⟩
theorem NodeOk.stab {w w' : Wd} {a : Addr} {n : Node} (k : Keep w H w' H') (e : ∀ u, H a = some u → Plain u → H' a = some u) (h : NodeOk G w H a n) : NodeOk G w' H' a n := by
  cases n with
  | dead => trivial
  | lst ts => obtain ⟨vs, h1, h2⟩ := h; exact ⟨vs, e _ h1 trivial, h2.stab k⟩
  | dct kvs => obtain ⟨o, es, h1, h2, h3⟩ := h; exact ⟨o, es, e _ h1 h2.plain, h2, h3.stab k⟩
  | obj c fs => obtain ⟨C, dx, vs, h1, h2, h3⟩ := h; exact ⟨C, dx, vs, e _ h1 trivial, h2, h3.stab k⟩
theorem Rel.ext (r : Rel G F α ρ σ H) (h : HExt G H H') : Rel G F α ρ σ H' := by
  have k : Keep (wd F α ρ.mu) H (wd F α ρ.mu) H' := h.keepE
  exact ⟨r.len, fun i t e => let ⟨x, h1, h2⟩ := r.slot i t e; ⟨x, h1, h2.stab k⟩, r.alen, fun i n a e ea => (r.node i n a e ea).stab k fun u q pu => (h.keep a u q).1 pu, r.apart, r.inj, r.al,
    fun a u e m => (r.frame a u e m).trans fun w q => h.keep a w q, r.ownf, h.tabs, fun a ha => let ⟨u, e⟩ := r.there a ha; h.there e, fun a ha => let ⟨u, e⟩ := r.exs a ha; h.there e, fun q hq => (r.tmp q hq).stab k, r.pinP,
    fun q hq => ⟨(h.keep _ _ (r.pin q hq).1).1 (r.pinP q hq), (r.pin q hq).2⟩⟩
/-- what holds of the heap at any time -/
structure Wf (G : GG) (w : Wd) (H : Hp) : Prop where
  tabs : ∀ P ∈ G.tabs, TabG H P
  exs : ∀ a, w.E a → ∃ u, H a = Option.some u
  there : ∀ a ∈ w.al, ∃ u, H a = Option.some u
theorem Rel.wf (r : Rel G F α ρ σ H) : Wf G (wd F α ρ.mu) H := ⟨r.tabs, fun a ha => ha.elim (r.exs a) fun ⟨i, n, h1, h2, h3⟩ => r.there a (List.mem_of_getElem? h3), r.there⟩
theorem Wf.new {w : Wd} (h : Wf G w H) {p : Addr} (hp : H p = none) : ¬ w.E p := fun z => by
  obtain ⟨u, e⟩ := h.exs p z
  rw [hp] at e
  cases e
theorem Wf.ext {w : Wd} (k : Wf G w H) (h : HExt G H H') : Wf G w H' := ⟨h.tabs, fun a ha => let ⟨_, e⟩ := k.exs a ha; h.there e, fun a ha => let ⟨_, e⟩ := k.there a ha; h.there e⟩
theorem Rel.new (r : Rel G F α ρ σ H) {p : Addr} {o : HO} (hp : H p = none) : Rel G F α ρ σ (upd H p o) := r.ext (HExt.new r.tabs hp)
/-- what a thing's look says -/
theorem Rel.vw (r : Rel G F α ρ σ H) {v : V} {t : T} (h : Rep G (wd F α ρ.mu) H v t) : RV G (wd F α ρ.mu) H v (vw ρ.mu t) := by
  cases h with
  | @ref a i h =>
    unfold Tr.vw
    split
    · rename_i j e
      cases e
      split
      · rename_i ts e
        obtain ⟨vs, h1, h2⟩ := r.node _ _ a e h
        exact .lst h1 h2
      · rename_i kvs e
        obtain ⟨o, es, h1, h2, h3⟩ := r.node _ _ a e h
        exact .dct h1 h2 h3
      · rename_i c fs e
        obtain ⟨C, dx, vs, h1, h2, h3⟩ := r.node _ _ a e h
        exact .obj h1 h2 h3
      · exact .of (.ref h)
    · rename_i h2
      exact (h2 i rfl).elim
  | non => exact .of .non
  | bl b => exact .of (.bl b)
  | int i => exact .of (.int i)
  | str s => exact .of (.str s)
  | ty s => exact .of (.ty s)
  | tup a b c => exact .of (.tup a b c)
  | lst a b c => exact .of (.lst a b c)
  | lstK a b => exact .of (.lstK a b)
  | dct a b c d => exact .of (.dct a b c d)
  | obj a b c d => exact .of (.obj a b c d)
theorem Rel.vws (r : Rel G F α ρ σ H) : ∀ {vs : List V} {ts : List T}, Reps G (wd F α ρ.mu) H vs ts → RVs G (wd F α ρ.mu) H vs (ts.map (Tr.vw ρ.mu))
  | _, _, .nil => .nil
  | _, _, .cons h hs => .cons (r.vw h) (Rel.vws r hs)
end

/-! ### what is wanted behind -/
inductive Flow where
  | next (ρ : Env) | ret (t : T) (ρ : Env) | brk (ρ : Env) | cnt (ρ : Env)
section
variable (G : GG) (W : WX) (F : Fr)
def SatX (σ : L2.St) (x : Exc) (ρ' : Env) : Prop := ∀ cls d α H', Rel G F α ρ' σ H' → G.exr x cls d H' → W cls d σ H'
def SatE (σ : L2.St) : R (T × Env) → VK → Prop
  | .ok (p, ρ'), Q => ∀ v α H', Rel G F α ρ' σ H' → Rep G (wd F α ρ'.mu) H' v p → Q v H'
  | .exc x ρ', _ => SatX G W F σ x ρ'
  | .stk, _ => False
def SatA (σ : L2.St) : R (List T × Env) → (List V → Hp → Prop) → Prop
  | .ok (ps, ρ'), Q => ∀ vs α H', Rel G F α ρ' σ H' → Reps G (wd F α ρ'.mu) H' vs ps → Q vs H'
  | .exc x ρ', _ => SatX G W F σ x ρ'
  | .stk, _ => False
def SatB (σ : L2.St) : R (Bool × Env) → (Bool → Hp → Prop) → Prop
  | .ok (b, ρ'), Q => ∀ α H', Rel G F α ρ' σ H' → Q b H'
  | .exc x ρ', _ => SatX G W F σ x ρ'
  | .stk, _ => False
def SatS : R Flow → Ends → Prop
  | .ok (.next ρ'), D => ∀ α σ' H', Rel G F α ρ' σ' H' → D.nx σ' H'
  | .ok (.ret t ρ'), D => ∀ v α σ' H', Rel G F α ρ' σ' H' → Rep G (wd F α ρ'.mu) H' v t → D.rt v H'
  | .ok (.brk ρ'), D => ∀ α σ' H', Rel G F α ρ' σ' H' → D.bk σ' H'
  | .ok (.cnt ρ'), D => ∀ α σ' H', Rel G F α ρ' σ' H' → D.ct σ' H'
  | .exc x ρ', _ => ∀ σ', SatX G W F σ' x ρ'
  | .stk, _ => False
end
abbrev FE := Env → R (T × Env)
abbrev FA := Env → R (List T × Env)
abbrev FB := Env → R (Bool × Env)
abbrev FS := Env → R Flow
section
variable (G : GG) (X : Cx) (W : WX)
def PEf (e : Expr) (f : FE) : Prop := ∃ t, PE X e t ∧ ∀ F α ρ σ H Q, Rel G F α ρ σ H → SatE G W F σ (f ρ) Q → t σ H Q
def PTf (e : Expr) (f : FB) : Prop := ∃ t, PT X e t ∧ ∀ F α ρ σ H Q, Rel G F α ρ σ H → SatB G W F σ (f ρ) Q → t σ H Q
def PAf (es : List Expr) (f : FA) : Prop := ∃ t, PA X es t ∧ ∀ F α ρ σ H Q, Rel G F α ρ σ H → SatA G W F σ (f ρ) Q → t σ H Q
def PSf (st : Stmt) (f : FS) : Prop := ∃ t, PS X st t ∧ ∀ F α ρ σ H D, Rel G F α ρ σ H → SatS G W F (f ρ) D → t D σ H
def PSsf (st : List Stmt) (f : FS) : Prop := ∃ t, PSs X st t ∧ ∀ F α ρ σ H D, Rel G F α ρ σ H → SatS G W F (f ρ) D → t D σ H
end
section
variable {G : GG} {X : Cx} {W : WX} {F : Fr} {α : List Addr} {ρ ρ' : Env} {σ : L2.St} {H : Hp}
abbrev Fr.hold (F : Fr) (v : V) (t : T) : Fr := { F with tmp := (v, t) :: F.tmp }
theorem Rel.hold (r : Rel G F α ρ σ H) {v : V} {t : T} (h : Rep G (wd F α ρ.mu) H v t) : Rel G (F.hold v t) α ρ σ H :=
  { r with tmp := fun p hp => (List.mem_cons.mp hp).elim (fun e => by rw [e]; exact h) (r.tmp p) }
theorem Rel.unhold {v : V} {t : T} (r : Rel G (F.hold v t) α ρ σ H) : Rel G F α ρ σ H :=
  { r with tmp := fun p hp => r.tmp p (List.mem_cons_of_mem _ hp) }
theorem Rel.held {v : V} {t : T} (r : Rel G (F.hold v t) α ρ σ H) : Rep G (wd F α ρ.mu) H v t := r.tmp _ (List.mem_cons_self ..)
/-- what a Sat is: an exception's way -/
structure IsSat (G : GG) (W : WX) (F : Fr) (σ : L2.St) {β : Type} (Sa : R β → Prop) : Prop where
  exc : ∀ x ρ', Sa (.exc x ρ') → SatX G W F σ x ρ'
  stk : ¬ Sa .stk
theorem isE {Q : VK} : IsSat G W F σ (fun r => SatE G W F σ r Q) := ⟨fun _ _ h => h, fun h => h⟩
theorem isA {Q : List V → Hp → Prop} : IsSat G W F σ (fun r => SatA G W F σ r Q) := ⟨fun _ _ h => h, fun h => h⟩
theorem isB {Q : Bool → Hp → Prop} : IsSat G W F σ (fun r => SatB G W F σ r Q) := ⟨fun _ _ h => h, fun h => h⟩
theorem isS {D : Ends} : IsSat G W F σ (fun r => SatS G W F r D) := ⟨fun _ _ h => h σ, fun h => h⟩
theorem satX_hold {v : V} {t : T} {x : Exc} {ρ' : Env} (h : SatX G W F σ x ρ') : SatX G W (F.hold v t) σ x ρ' := fun cls d α H' r q => h cls d α H' r.unhold q
theorem IsSat.hold {β : Type} {Sa : R β → Prop} (s : IsSat G W F σ Sa) {v : V} {t : T} : IsSat G W (F.hold v t) σ Sa := ⟨fun x ρ' h => satX_hold (s.exc x ρ' h), s.stk⟩
theorem satE_bind {β : Type} {f : R (T × Env)} {k : T × Env → R β} {Sa : R β → Prop} {Q : VK} (s : IsSat G W F σ Sa) (h : Sa (f.bind k))
    (hk : ∀ p ρ1 v α1 H1, f = .ok (p, ρ1) → Rel G F α1 ρ1 σ H1 → Rep G (wd F α1 ρ1.mu) H1 v p → Sa (k (p, ρ1)) → Q v H1) : SatE G W F σ f Q := by
  cases f with
  | ok a => obtain ⟨p, ρ1⟩ := a; exact fun v α1 H1 r q => hk p ρ1 v α1 H1 rfl r q h
  | exc x ρ' => exact s.exc x ρ' h
  | stk => exact (s.stk h).elim
theorem satB_bind {β : Type} {f : R (Bool × Env)} {k : Bool × Env → R β} {Sa : R β → Prop} {Q : Bool → Hp → Prop} (s : IsSat G W F σ Sa) (h : Sa (f.bind k))
    (hk : ∀ p ρ1 α1 H1, f = .ok (p, ρ1) → Rel G F α1 ρ1 σ H1 → Sa (k (p, ρ1)) → Q p H1) : SatB G W F σ f Q := by
  cases f with
  | ok a => obtain ⟨p, ρ1⟩ := a; exact fun α1 H1 r => hk p ρ1 α1 H1 rfl r h
  | exc x ρ' => exact s.exc x ρ' h
  | stk => exact (s.stk h).elim
theorem satA_bind {β : Type} {f : R (List T × Env)} {k : List T × Env → R β} {Sa : R β → Prop} {Q : List V → Hp → Prop} (s : IsSat G W F σ Sa) (h : Sa (f.bind k))
    (hk : ∀ ps ρ1 vs α1 H1, f = .ok (ps, ρ1) → Rel G F α1 ρ1 σ H1 → Reps G (wd F α1 ρ1.mu) H1 vs ps → Sa (k (ps, ρ1)) → Q vs H1) : SatA G W F σ f Q := by
  cases f with
  | ok a => obtain ⟨ps, ρ1⟩ := a; exact fun v α1 H1 r q => hk ps ρ1 v α1 H1 rfl r q h
  | exc x ρ' => exact s.exc x ρ' h
  | stk => exact (s.stk h).elim

/-! ### names, constants -/
def fVar (i : Nat) : FE := fun ρ => match ρ.sl[i]? with
  | some (some t) => .ok (t, ρ)
  | _ => .stk
theorem pef_var {e : Expr} {i : Nat} (h : PE X e (tVar i)) : PEf G X W e (fVar i) := by
  refine ⟨_, h, fun F α ρ σ H Q r s => ?_⟩
  unfold fVar at s
  split at s
  · rename_i t hi
    obtain ⟨x, h1, h2⟩ := r.slot i _ hi
    exact ⟨x, h1, s x α H r h2⟩
  · exact s.elim
def fC (t : T) : FE := fun ρ => .ok (t, ρ)
theorem pef_c {e : Expr} {v : V} {t : T} (h : PE X e (tC v)) (hr : ∀ w H, Rep G w H v t) : PEf G X W e (fC t) :=
  ⟨_, h, fun F α ρ σ H Q r s => s v α H r (hr _ _)⟩
theorem pef_int {i : Int} {j pos} : PEf G X W (.Constant (.int i) j pos) (fC (.int i)) := pef_c pe_int fun _ _ => .int i
theorem pef_bl {b : Bool} {j pos} : PEf G X W (.Constant (.bool b) j pos) (fC (.bl b)) := pef_c pe_bl fun _ _ => .bl b
theorem pef_non {j pos} : PEf G X W (.Constant .none j pos) (fC .non) := pef_c pe_non fun _ _ => .non
theorem pef_str {x : Str} {l : List Nat} {j pos} (h : x.cps.toList = l) : PEf G X W (.Constant (.str x) j pos) (fC (.str l)) :=
  pef_c pe_str fun _ _ => by
    have e : x = S l := by cases x; simp only at h; rw [← h]
    rw [e]
    exact .str l
theorem pef_ty {x : Str} {n : String} {pos : Pos} (hg : Gl X x) (hm : X.mg x = none) (hv : bootBuiltins x = some (.type n)) (hn : x ≠ "__name__" := by decide) (hd : (x == ("__debug__" : Str)) = false := by decide) : PEf G X W (.Name x pos) (fC (.ty n)) :=
  pef_c (pe_bltn hg hm hv (show RelV (.ty n) (.type n) from rfl) hn hd) fun _ _ => .ty n

/-! ### operators by values -/
def OpT (G : GG) (X : Cx) (f : Value → Value → Sem Value) (op : T → T → Option T) : Prop :=
  ∃ r, OpR X f r ∧ ∀ (w : Wd) (H : Hp) (Q : VK) (x y : V) (s t c : T), op s t = some c → Wf G w H → RV G w H x s → RV G w H y t →
    (∀ v H', HExt G H H' → Rep G w H' v c → Q v H') → r x y H Q
def fBin (op : T → T → Option T) (fa fb : FE) : FE := fun ρ => (fa ρ).bind fun p => (fb p.2).bind fun q => match op (vw q.2.mu p.1) (vw q.2.mu q.1) with
  | some c => .ok (c, q.2)
  | none => .stk
theorem bin_ok {op : T → T → Option T} {fa fb : FE} {ta tb : TE} {r : R2}
    (ha : ∀ F α ρ σ H Q, Rel G F α ρ σ H → SatE G W F σ (fa ρ) Q → ta σ H Q) (hb : ∀ F α ρ σ H Q, Rel G F α ρ σ H → SatE G W F σ (fb ρ) Q → tb σ H Q)
    (ho : ∀ (w : Wd) (H : Hp) (Q : VK) (x y : V) (s t c : T), op s t = some c → Wf G w H → RV G w H x s → RV G w H y t → (∀ v H', HExt G H H' → Rep G w H' v c → Q v H') → r x y H Q)
    (F α ρ σ H Q) (rl : Rel G F α ρ σ H) (s : SatE G W F σ (fBin op fa fb ρ) Q) : tOp r ta tb σ H Q := by
  refine ha F α ρ σ H _ rl (satE_bind (isE (Q := Q)) s fun p ρ1 v α1 H1 _ r1 q1 s1 => ?_)
  refine hb (F.hold v p) α1 ρ1 σ H1 _ (r1.hold q1) (satE_bind (isE (Q := Q)).hold s1 fun q ρ2 w α2 H2 _ r2 q2 s2 => ?_)
  dsimp only at s2
  split at s2
  · rename_i c hc
    exact ho _ H2 Q v w _ _ c hc r2.unhold.wf (r2.unhold.vw r2.held) (r2.unhold.vw q2) fun z H3 hx hz => s2 z α2 H3 (r2.unhold.ext hx) hz
  · exact s2.elim
theorem pef_bin {op : T → T → Option T} {a b : Expr} {o : Operator} {fa fb : FE} {pos : Pos} (ho : OpT G X (binaryOp o) op) (ha : PEf G X W a fa) (hb : PEf G X W b fb) : PEf G X W (.BinOp a o b pos) (fBin op fa fb) := by
  obtain ⟨ta, pa, ha⟩ := ha
  obtain ⟨tb, pb, hb⟩ := hb
  obtain ⟨r, hr, ho⟩ := ho
  exact ⟨_, pe_op hr pa pb, fun F α ρ σ H Q rl s => bin_ok ha hb ho F α ρ σ H Q rl s⟩
theorem pef_cmp {op : T → T → Option T} {a b : Expr} {o : CmpOp} {fa fb : FE} {pos : Pos} (ho : OpT G X (compareOp o) op) (ha : PEf G X W a fa) (hb : PEf G X W b fb) (hm : behindInMarks o b = false) : PEf G X W (.Compare a [o] [b] pos) (fBin op fa fb) := by
  obtain ⟨ta, pa, ha⟩ := ha
  obtain ⟨tb, pb, hb⟩ := hb
  obtain ⟨r, hr, ho⟩ := ho
  exact ⟨_, pe_cmpR hr pa pb hm, fun F α ρ σ H Q rl s => bin_ok ha hb ho F α ρ σ H Q rl s⟩
end
/-! ### operators -/
def addT : T → T → Option T
  | .int i, .int j => some (.int (i + j))
  | .str a, .str b => if a.length + b.length ≤ 16777216 then some (.str (a ++ b)) else none
  | .lst a, .lst b => if a.length + b.length ≤ 16777216 then some (.lst (a ++ b)) else none
  | .tup a, .tup b => if a.length + b.length ≤ 16777216 then some (.tup (a ++ b)) else none
  | _, _ => none
def subT : T → T → Option T
  | .int i, .int j => some (.int (i - j))
  | _, _ => none
def mulT : T → T → Option T
  | .int i, .int j => if (-(2 ^ 64) < i ∧ i < 2 ^ 64) ∨ (-(2 ^ 64) < j ∧ j < 2 ^ 64) then some (.int (i * j)) else none
  | _, _ => none
def divT : T → T → Option T
  | .int i, .int j => if 0 < j ∧ j.natAbs.log2 < 9000 then some (.int (i / j)) else none
  | _, _ => none
def modT : T → T → Option T
  | .int i, .int j => if 0 < j then some (.int (i % j)) else none
  | _, _ => none
def powT : T → T → Option T
  | .int i, .int j => if 0 ≤ j ∧ j ≤ 1000000 ∧ i.natAbs < 2 ^ 64 then some (.int (i ^ j.toNat)) else none
  | _, _ => none
def ltT : T → T → Option T
  | .int i, .int j => some (.bl (decide (i < j)))
  | .str a, .str b => some (.bl (decide (a < b)))
  | _, _ => none
def leT : T → T → Option T
  | .int i, .int j => some (.bl (decide (i ≤ j)))
  | .str a, .str b => some (.bl (!decide (b < a)))
  | _, _ => none
def gtT : T → T → Option T := fun s t => ltT t s
def geT : T → T → Option T := fun s t => leT t s
mutual
def T.py : T → PyData
  | .non => .none
  | .bl b => .bool b
  | .int i => .int i
  | .str s => .str (S s)
  | .tup xs => .tuple (T.pys xs)
  | .lst xs => .list (T.pys xs)
  | .ty _ => .dict []
  | .dct _ => .dict []
  | .obj _ _ => .dict []
  | .ref _ => .dict []
def T.pys : List T → List PyData
  | [] => []
  | x :: xs => T.py x :: T.pys xs
end
def eqT (s t : T) : Option T := if s.py.plain = true ∧ t.py.plain = true ∧ min s.py.depth t.py.depth ≤ 60 then some (.bl (PyData.eqv s.py t.py)) else none
def neT (s t : T) : Option T := if s.py.plain = true ∧ t.py.plain = true ∧ min s.py.depth t.py.depth ≤ 60 then some (.bl (!PyData.eqv s.py t.py)) else none
/-- a sign in a text, a thing in a list or a tuple -/
def inT : T → T → Option T
  | .str [c], .str z => some (.bl (decide (c ∈ z)))
  | .str _, .str _ => none
  | s, .lst xs => if s.py.plain = true ∧ (PyData.plainAll (T.pys xs)) = true ∧ min (PyData.depthAll (T.pys xs)) s.py.depth ≤ 60 then some (.bl ((T.pys xs).any fun y => PyData.eqv y s.py)) else none
  | s, .tup xs => if s.py.plain = true ∧ (PyData.plainAll (T.pys xs)) = true ∧ min (PyData.depthAll (T.pys xs)) s.py.depth ≤ 60 then some (.bl ((T.pys xs).any fun y => PyData.eqv y s.py)) else none
  | _, _ => none
def notT : Option T → Option T
  | some (.bl b) => some (.bl (!b))
  | _ => none
def notInT (s t : T) : Option T := notT (inT s t)
def isT : T → T → Option T
  | .bl a, .bl b => some (.bl (decide (a = b)))
  | .non, .non => some (.bl true)
  | .bl _, .non => some (.bl false)
  | .int _, .non => some (.bl false)
  | .str _, .non => some (.bl false)
  | .tup _, .non => some (.bl false)
  | .lst _, .non => some (.bl false)
  | .dct _, .non => some (.bl false)
  | .obj _ _, .non => some (.bl false)
  | .ty _, .non => some (.bl false)
  | _, _ => none
def isNotT (s t : T) : Option T := notT (isT s t)
section
variable {G : GG} {w : Wd} {H : Hp}
theorem rep_int {v : V} {i : Int} (r : Rep G w H v (.int i)) : v = .int i := by cases r; rfl
theorem rep_bl {v : V} {i : Bool} (r : Rep G w H v (.bl i)) : v = .bl i := by cases r; rfl
theorem rep_str {v : V} {i : List Nat} (r : Rep G w H v (.str i)) : v = .str (S i) := by cases r; rfl
theorem rep_non {v : V} (r : Rep G w H v .non) : v = .non := by cases r; rfl
theorem rep_lst {v : V} {ts : List T} (r : Rep G w H v (.lst ts)) : ∃ a vs, v = .ref a ∧ SqL G.K H a vs ∧ Reps G w H vs ts := by
  cases r with
  | lst _ h q => exact ⟨_, _, rfl, .inl h, q⟩
  | lstK h q => exact ⟨_, _, rfl, .inr h, q⟩
theorem rep_tup {v : V} {ts : List T} (r : Rep G w H v (.tup ts)) : ∃ a vs, v = .ref a ∧ SqT G.K H a vs ∧ Reps G w H vs ts ∧ ¬ w.E a ∧ Rd H a (.tup vs) := by
  cases r with
  | tup n h q => exact ⟨_, _, rfl, .inl h, q, n, h⟩
theorem S_length (a : List Nat) : (S a).length = a.length := by
  show (S a).cps.size = _
  simp
theorem S_append (a b : List Nat) : S a ++ S b = S (a ++ b) := by
  show (⟨(S a).cps ++ (S b).cps⟩ : Str) = _
  simp
theorem new_lst {p : Addr} {vs : List V} {ts : List T} (hp : H p = none) (hE : ¬ w.E p) (q : Reps G w H vs ts) : Rep G w (upd H p (.lst vs)) (.ref p) (.lst ts) :=
  .lst hE (.inl upd_same) (q.stab (Keep.new0 hp))
theorem new_tup {p : Addr} {vs : List V} {ts : List T} (hp : H p = none) (hE : ¬ w.E p) (q : Reps G w H vs ts) : Rep G w (upd H p (.tup vs)) (.ref p) (.tup ts) :=
  .tup hE (.inl upd_same) (q.stab (Keep.new0 hp))
mutual
theorem rep_dp : ∀ {v : V} {t : T}, Rep G w H v t → t.py.plain = true → Dp G.K H v t.py
  | _, _, .non, _ => .non
  | _, _, .bl b, _ => .bl b
  | _, _, .int i, _ => .int i
  | _, _, .str s, _ => .str _
  | _, _, .ty _, hp => by cases hp
  | _, _, .tup _ h r, hp => .tup (.inl h) (reps_dp r hp)
  | _, _, .lst _ h r, hp => .lst (.inl h) (reps_dp r hp)
  | _, _, .lstK h r, hp => .lst (.inr h) (reps_dp r hp)
  | _, _, .dct _ _ _ _, hp => by cases hp
  | _, _, .obj _ _ _ _, hp => by cases hp
  | _, _, .ref _, hp => by cases hp
theorem reps_dp : ∀ {vs : List V} {ts : List T}, Reps G w H vs ts → PyData.plainAll (T.pys ts) = true → DpAll G.K H vs (T.pys ts)
  | _, _, .nil, _ => .nil
  | _ :: _, t :: ts, .cons r rs, hp => by
    have h : t.py.plain = true ∧ PyData.plainAll (T.pys ts) = true := by
      rw [T.pys] at hp
      simpa [PyData.plainAll] using hp
    exact .cons (rep_dp r h.1) (reps_dp rs h.2)
end
theorem rv_int {v : V} {i : Int} (r : RV G w H v (.int i)) : v = .int i := by cases r with | of r => exact rep_int r
theorem rv_bl {v : V} {i : Bool} (r : RV G w H v (.bl i)) : v = .bl i := by cases r with | of r => exact rep_bl r
theorem rv_str {v : V} {i : List Nat} (r : RV G w H v (.str i)) : v = .str (S i) := by cases r with | of r => exact rep_str r
theorem rv_non {v : V} (r : RV G w H v .non) : v = .non := by cases r with | of r => exact rep_non r
theorem rv_ty {v : V} {n : String} (r : RV G w H v (.ty n)) : v = .ty n := by cases r with | of r => cases r; rfl
theorem rv_lst {v : V} {ts : List T} (r : RV G w H v (.lst ts)) : ∃ a vs, v = .ref a ∧ SqL G.K H a vs ∧ Reps G w H vs ts := by
  cases r with
  | of r => exact rep_lst r
  | lst h q => exact ⟨_, _, rfl, .inl (.inl h), q⟩
theorem rv_tup {v : V} {ts : List T} (r : RV G w H v (.tup ts)) : Rep G w H v (.tup ts) ∧ ∃ a vs, v = .ref a ∧ SqT G.K H a vs ∧ Reps G w H vs ts ∧ ¬ w.E a ∧ Rd H a (.tup vs) := by
  cases r with | of r => exact ⟨r, rep_tup r⟩
theorem rv_dct {v : V} {kvs : List (T × T)} (r : RV G w H v (.dct kvs)) : ∃ a o es, v = .ref a ∧ H a = some o ∧ DictO o es ∧ RepD G w H es kvs := by
  cases r with
  | of r => cases r with | dct _ h d q => exact ⟨_, _, _, rfl, h, d, q⟩
  | dct h d q => exact ⟨_, _, _, rfl, h, d, q⟩
theorem rv_obj {v : V} {c : Str} {fs : List (Str × T)} (r : RV G w H v (.obj c fs)) : ∃ a C dx vs, v = .ref a ∧ H a = some (.ins C dx vs) ∧ G.cls c = some C ∧ RepF G w H vs fs := by
  cases r with
  | of r => cases r with | obj _ h d q => exact ⟨_, _, _, _, rfl, h, d, q⟩
  | obj h d q => exact ⟨_, _, _, _, rfl, h, d, q⟩
theorem rv_dp {v : V} {t : T} (r : RV G w H v t) (hp : t.py.plain = true) : Dp G.K H v t.py := by
  cases r with
  | of r => exact rep_dp r hp
  | lst h q => exact .lst (.inl (.inl h)) (reps_dp q hp)
  | dct h d q => cases hp
  | obj h d q => cases hp
end
section
variable {G : GG} {X : Cx}
theorem op_int {f : Value → Value → Sem Value} {C : Int → Int → Prop} {g : Int → Int → V} (h : OpR X f (rI C g)) {op : T → T → Option T}
    (hop : ∀ s t c, op s t = some c → ∃ i j, s = .int i ∧ t = .int j ∧ C i j ∧ ∀ w H, Rep G w H (g i j) c) : OpT G X f op :=
  ⟨_, h, fun w H Q x y s t c e wf rx ry q => by
    obtain ⟨i, j, rfl, rfl, hc, hr⟩ := hop s t c e
    exact ⟨i, j, rv_int rx, rv_int ry, hc, q _ H (HExt.refl wf.tabs) (hr w H)⟩⟩
theorem op_sub_t : OpT G X (binaryOp .Sub) subT := by
  refine ⟨_, op_sub, fun w H Q x y s t c e wf rx ry q => ?_⟩
  unfold subT at e
  split at e
  · cases e
    exact ⟨_, _, rv_int rx, rv_int ry, q _ H (HExt.refl wf.tabs) (.int _)⟩
  · cases e
theorem op_mul_t : OpT G X (binaryOp .Mult) mulT := op_int (C := CMul) op_mul fun s t c e => by
  unfold mulT at e
  split at e
  · split at e
    · rename_i i j h
      cases e
      exact ⟨i, j, rfl, rfl, h, fun _ _ => .int _⟩
    · cases e
  · cases e
theorem op_div_t : OpT G X (binaryOp .FloorDiv) divT := op_int (C := CDivW) op_fdivW fun s t c e => by
  unfold divT at e
  split at e
  · split at e
    · rename_i i j h
      cases e
      exact ⟨i, j, rfl, rfl, h, fun _ _ => .int _⟩
    · cases e
  · cases e
theorem op_mod_t : OpT G X (binaryOp .Mod) modT := op_int op_mod fun s t c e => by
  unfold modT at e
  split at e
  · split at e
    · rename_i i j h
      cases e
      exact ⟨i, j, rfl, rfl, h, fun _ _ => .int _⟩
    · cases e
  · cases e
theorem op_pow_t : OpT G X (binaryOp .Pow) powT := op_int (C := CPow) op_pow fun s t c e => by
  unfold powT at e
  split at e
  · split at e
    · rename_i i j h
      cases e
      exact ⟨i, j, rfl, rfl, h, fun _ _ => .int _⟩
    · cases e
  · cases e
/-- list + list, whatever stands for them -/
def rCatS (K : PySem.W.Frag) : R2 := fun x y H Q => ∃ l b xs zs, x = .ref l ∧ y = .ref b ∧ SqL K H l xs ∧ SqL K H b zs ∧ xs.length + zs.length ≤ sizeLine ∧ ∀ p, H p = none → Q (.ref p) (upd H p (.lst (xs ++ zs)))
theorem op_catS : OpR X (binaryOp .Add) (rCatS X.K) := by
  intro pins s σ H x y v u Q I rx ry h
  obtain ⟨l, b, xs, zs, rfl, rfl, hH, hB, hz, q⟩ := h
  cases rx
  cases ry
  obtain ⟨its, r, ⟨⟨cls, dd, data, sl⟩, n, ho, hc, _, hd⟩, _⟩ := I.list hH
  obtain ⟨its2, r2, ⟨⟨cls2, dd2, data2, sl2⟩, n2, ho2, hc2, _, hd2⟩, _⟩ := I.list hB
  simp only at hc hd hc2 hd2
  subst hc hd hc2 hd2
  have e : its.toArray ++ its2.toArray = (its ++ its2).toArray := by simp
  have l1 := r.length
  have l2 := r2.length
  refine PySem.concat_meets ⟨_, ho, rfl⟩ ⟨_, ho2, rfl⟩ PySem.noFill_list_add PySem.seq_list_add PySem.F.slot_list_add PySem.F.entry_list_add (PySem.F.args_list_add_2 _ _) (PyProof.Rows.list_addW l b its.toArray its2.toArray n n2 dd dd2 sl sl2 (by rw [List.size_toArray, List.size_toArray]; omega)) ⟨ho, ho2, ?_⟩
  rw [e]
  exact ⟨.ref _, _, I.lnew (t' := s.toks) (r.append r2) (by rw [List.length_append]; omega), rfl, q _ I.fresh⟩
theorem op_add_t (hK : G.K = X.K) : OpT G X (binaryOp .Add) addT := by
  refine ⟨_, OpR.or op_add (OpR.or op_add_str (OpR.or op_catS op_catA)), fun w H Q x y s t c e wf rx ry q => ?_⟩
  unfold addT at e
  split at e
  · cases e
    exact .inl ⟨_, _, rv_int rx, rv_int ry, q _ H (HExt.refl wf.tabs) (.int _)⟩
  · split at e
    · rename_i a b h
      cases e
      refine .inr (.inl ⟨_, _, rv_str rx, rv_str ry, by rw [S_length, S_length]; exact h, ?_⟩)
      rw [S_append]
      exact q _ H (HExt.refl wf.tabs) (.str _)
    · cases e
  · split at e
    · rename_i a b h
      cases e
      obtain ⟨l, vs, rfl, h1, h2⟩ := rv_lst rx
      obtain ⟨m, ws, rfl, h3, h4⟩ := rv_lst ry
      rw [hK] at h1 h3
      refine .inr (.inr (.inl ⟨l, m, vs, ws, rfl, rfl, h1, h3, by rw [h2.length, h4.length]; exact h, fun p hp => ?_⟩))
      exact q _ _ (HExt.new wf.tabs hp) (new_lst hp (wf.new hp) (h2.append h4))
    · cases e
  · split at e
    · rename_i a b h
      cases e
      obtain ⟨tx, l, vs, rfl, h1, h2, h5, h6⟩ := rv_tup rx
      obtain ⟨ty, m, ws, rfl, h3, h4, h7, h8⟩ := rv_tup ry
      have h1' := h1
      have h3' := h3
      rw [hK] at h1' h3'
      refine .inr (.inr (.inr ⟨l, m, vs, ws, rfl, rfl, h1', h3', by rw [h2.length, h4.length]; exact h, fun e => ?_, fun _ e => ?_, fun _ _ p hp => ?_⟩))
      · subst e
        cases h2
        exact q _ H (HExt.refl wf.tabs) ty
      · subst e
        cases h4
        exact q _ H (HExt.refl wf.tabs) (by rw [List.append_nil]; exact tx)
      · exact q _ _ (HExt.new wf.tabs hp) (new_tup hp (wf.new hp) (h2.append h4))
    · cases e
  · cases e

theorem op_lt_t : OpT G X (compareOp .Lt) ltT := by
  refine ⟨_, OpR.or op_lt op_lt_str, fun w H Q x y s t c e wf rx ry q => ?_⟩
  unfold ltT at e
  split at e
  · cases e
    exact .inl ⟨_, _, rv_int rx, rv_int ry, q _ H (HExt.refl wf.tabs) (.bl _)⟩
  · cases e
    exact .inr ⟨_, _, rv_str rx, rv_str ry, by rw [List.toList_toArray, List.toList_toArray]; exact q _ H (HExt.refl wf.tabs) (.bl _)⟩
  · cases e
theorem op_le_t : OpT G X (compareOp .LtE) leT := by
  refine ⟨_, OpR.or op_le op_le_str, fun w H Q x y s t c e wf rx ry q => ?_⟩
  unfold leT at e
  split at e
  · cases e
    exact .inl ⟨_, _, rv_int rx, rv_int ry, q _ H (HExt.refl wf.tabs) (.bl _)⟩
  · cases e
    exact .inr ⟨_, _, rv_str rx, rv_str ry, by rw [List.toList_toArray, List.toList_toArray]; exact q _ H (HExt.refl wf.tabs) (.bl _)⟩
  · cases e
theorem op_gt_t : OpT G X (compareOp .Gt) gtT := by
  refine ⟨_, OpR.or op_gt op_gt_str, fun w H Q x y s t c e wf rx ry q => ?_⟩
  unfold gtT ltT at e
  split at e
  · cases e
    exact .inl ⟨_, _, rv_int rx, rv_int ry, q _ H (HExt.refl wf.tabs) (.bl _)⟩
  · cases e
    exact .inr ⟨_, _, rv_str rx, rv_str ry, by rw [List.toList_toArray, List.toList_toArray]; exact q _ H (HExt.refl wf.tabs) (.bl _)⟩
  · cases e
theorem op_ge_t : OpT G X (compareOp .GtE) geT := by
  refine ⟨_, OpR.or op_ge op_ge_str, fun w H Q x y s t c e wf rx ry q => ?_⟩
  unfold geT leT at e
  split at e
  · cases e
    exact .inl ⟨_, _, rv_int rx, rv_int ry, q _ H (HExt.refl wf.tabs) (.bl _)⟩
  · cases e
    exact .inr ⟨_, _, rv_str rx, rv_str ry, by rw [List.toList_toArray, List.toList_toArray]; exact q _ H (HExt.refl wf.tabs) (.bl _)⟩
  · cases e
def rEqP (K : PySem.W.Frag) (neg : Bool) : R2 := fun x y H Q => ∃ d e, Dp K H x d ∧ Dp K H y e ∧ d.plain = true ∧ e.plain = true ∧ min d.depth e.depth ≤ 60 ∧ Q (.bl (if neg then !PyData.eqv d e else PyData.eqv d e)) H
theorem op_eqP (hu : X.A.units + 64 < cLine) : OpR X (compareOp .Eq) (rEqP X.K false) := by
  intro pins s σ H x y v u Q I rx ry h
  obtain ⟨d, e, hd, he, sd, se, dp, q⟩ := h
  obtain ⟨as, r1⟩ := Dp.reads I d x v hd rx
  obtain ⟨bs, r2⟩ := Dp.reads I e y u he ry
  exact PySem.SeqAt.eq_plain r1 r2 sd se (by omega) ⟨.bl _, H, I, rfl, q⟩
theorem op_neP (hu : X.A.units + 64 < cLine) : OpR X (compareOp .NotEq) (rEqP X.K true) := by
  intro pins s σ H x y v u Q I rx ry h
  obtain ⟨d, e, hd, he, sd, se, dp, q⟩ := h
  obtain ⟨as, r1⟩ := Dp.reads I d x v hd rx
  obtain ⟨bs, r2⟩ := Dp.reads I e y u he ry
  exact PySem.SeqAt.ne_plain r1 r2 sd se (by omega) ⟨.bl _, H, I, rfl, q⟩
theorem op_eq_t (hK : G.K = X.K) (hu : X.A.units + 64 < cLine) : OpT G X (compareOp .Eq) eqT := by
  refine ⟨_, op_eqP hu, fun w H Q x y s t c e wf rx ry q => ?_⟩
  unfold eqT at e
  split at e
  · rename_i h
    cases e
    rw [← hK]
    exact ⟨_, _, rv_dp rx h.1, rv_dp ry h.2.1, h.1, h.2.1, h.2.2, q _ H (HExt.refl wf.tabs) (.bl _)⟩
  · cases e
theorem op_ne_t (hK : G.K = X.K) (hu : X.A.units + 64 < cLine) : OpT G X (compareOp .NotEq) neT := by
  refine ⟨_, op_neP hu, fun w H Q x y s t c e wf rx ry q => ?_⟩
  unfold neT at e
  split at e
  · rename_i h
    cases e
    rw [← hK]
    exact ⟨_, _, rv_dp rx h.1, rv_dp ry h.2.1, h.1, h.2.1, h.2.2, q _ H (HExt.refl wf.tabs) (.bl _)⟩
  · cases e
def rInP (K : PySem.W.Frag) (neg : Bool) : R2 := fun x y H Q => ∃ d ds, Dp K H x d ∧ (Dp K H y (.list ds) ∨ Dp K H y (.tuple ds)) ∧ d.plain = true ∧ PyData.plainAll ds = true ∧ min (PyData.depthAll ds) d.depth ≤ 60 ∧
  Q (.bl (if neg then !ds.any fun z => PyData.eqv z d else ds.any fun z => PyData.eqv z d)) H
theorem op_inP (hu : X.A.units + 65 < cLine) : OpR X (compareOp .In) (rInP X.K false) := by
  intro pins s σ H x y v u Q I rx ry h
  obtain ⟨d, ds, hd, he, sd, se, dp, q⟩ := h
  obtain ⟨as, r1⟩ := Dp.reads I d x v hd rx
  rcases he with he | he
  · obtain ⟨bs, r2⟩ := Dp.reads I _ y u he ry
    exact PySem.SeqAt.in_list_data r2 r1 se sd (by omega) ⟨.bl _, H, I, rfl, q⟩
  · obtain ⟨bs, r2⟩ := Dp.reads I _ y u he ry
    exact PySem.SeqAt.in_tuple_data r2 r1 se sd (by omega) ⟨.bl _, H, I, rfl, q⟩
theorem op_notInP (hu : X.A.units + 65 < cLine) : OpR X (compareOp .NotIn) (rInP X.K true) := by
  intro pins s σ H x y v u Q I rx ry h
  obtain ⟨d, ds, hd, he, sd, se, dp, q⟩ := h
  obtain ⟨as, r1⟩ := Dp.reads I d x v hd rx
  rcases he with he | he
  · obtain ⟨bs, r2⟩ := Dp.reads I _ y u he ry
    exact PySem.SeqAt.notIn_list_data r2 r1 se sd (by omega) ⟨.bl _, H, I, rfl, q⟩
  · obtain ⟨bs, r2⟩ := Dp.reads I _ y u he ry
    exact PySem.SeqAt.notIn_tuple_data r2 r1 se sd (by omega) ⟨.bl _, H, I, rfl, q⟩
theorem op_in_t (hK : G.K = X.K) (hu : X.A.units + 65 < cLine) : OpT G X (compareOp .In) inT := by
  refine ⟨_, OpR.or op_in_sign (op_inP hu), fun w H Q x y s t c e wf rx ry q => ?_⟩
  unfold inT at e
  split at e
  · cases e
    exact .inl ⟨_, _, rv_str rx, rv_str ry, by rw [List.toList_toArray]; exact q _ H (HExt.refl wf.tabs) (.bl _)⟩
  · cases e
  · split at e
    · rename_i h
      cases e
      rw [← hK]
      exact .inr ⟨_, _, rv_dp rx h.1, .inl (rv_dp ry (by rw [T.py]; exact h.2.1)), h.1, h.2.1, h.2.2, q _ H (HExt.refl wf.tabs) (.bl _)⟩
    · cases e
  · split at e
    · rename_i h
      cases e
      rw [← hK]
      exact .inr ⟨_, _, rv_dp rx h.1, .inr (rv_dp ry (by rw [T.py]; exact h.2.1)), h.1, h.2.1, h.2.2, q _ H (HExt.refl wf.tabs) (.bl _)⟩
    · cases e
  · cases e
theorem notT_some {o : Option T} {c : T} (h : notT o = some c) : ∃ b, o = some (.bl b) ∧ c = .bl (!b) := by
  unfold notT at h
  split at h
  · cases h; exact ⟨_, rfl, rfl⟩
  · cases h
theorem op_notIn_t (hK : G.K = X.K) (hu : X.A.units + 65 < cLine) : OpT G X (compareOp .NotIn) notInT := by
  refine ⟨_, OpR.or op_notIn_sign (op_notInP hu), fun w H Q x y s t c e wf rx ry q => ?_⟩
  have e' := notT_some (show notT (inT s t) = some c from e)
  clear e
  obtain ⟨b, e, rfl⟩ := e'
  unfold inT at e
  split at e
  · cases e
    exact .inl ⟨_, _, rv_str rx, rv_str ry, by rw [List.toList_toArray]; exact q _ H (HExt.refl wf.tabs) (.bl _)⟩
  · cases e
  · split at e
    · rename_i h
      cases e
      rw [← hK]
      exact .inr ⟨_, _, rv_dp rx h.1, .inl (rv_dp ry (by rw [T.py]; exact h.2.1)), h.1, h.2.1, h.2.2, q _ H (HExt.refl wf.tabs) (.bl _)⟩
    · cases e
  · split at e
    · rename_i h
      cases e
      rw [← hK]
      exact .inr ⟨_, _, rv_dp rx h.1, .inr (rv_dp ry (by rw [T.py]; exact h.2.1)), h.1, h.2.1, h.2.2, q _ H (HExt.refl wf.tabs) (.bl _)⟩
    · cases e
  · cases e
def T.isNon : T → Bool
  | .non => true
  | _ => false
theorem rep_isnon {w : Wd} {H : Hp} {v : V} {t : T} (r : RV G w H v t) : decide (v = V.non) = t.isNon := by
  cases r with
  | of r => cases r <;> rfl
  | _ => rfl
theorem op_is_t : OpT G X (compareOp .Is) isT := by
  refine ⟨_, OpR.or op_isN op_isBl, fun w H Q x y s t c e wf rx ry q => ?_⟩
  unfold isT at e
  split at e
  · cases e
    exact .inr ⟨_, _, rv_bl rx, rv_bl ry, q _ H (HExt.refl wf.tabs) (.bl _)⟩
  all_goals first
    | (cases e; exact .inl ⟨rv_non ry, by rw [rep_isnon rx]; exact q _ H (HExt.refl wf.tabs) (.bl _)⟩)
    | cases e
theorem op_isNot_t : OpT G X (compareOp .IsNot) isNotT := by
  refine ⟨_, OpR.or op_notN op_isnot_bl, fun w H Q x y s t c e wf rx ry q => ?_⟩
  have e' := notT_some (show notT (isT s t) = some c from e)
  clear e
  obtain ⟨b, e, rfl⟩ := e'
  unfold isT at e
  split at e
  · cases e
    exact .inr ⟨_, _, rv_bl rx, rv_bl ry, q _ H (HExt.refl wf.tabs) (.bl _)⟩
  all_goals first
    | (cases e; exact .inl ⟨rv_non ry, by rw [rep_isnon rx]; exact q _ H (HExt.refl wf.tabs) (.bl _)⟩)
    | cases e
end
end Tr
namespace Tr
open PySem L2 GxR
/-! ### tests -/
def truT : T → Option Bool
  | .non => some false
  | .bl b => some b
  | .int i => some (i != 0)
  | .str s => if s.length ≤ 16777216 then some (!s.isEmpty) else none
  | .tup xs => some (!xs.isEmpty)
  | .lst xs => some (!xs.isEmpty)
  | _ => none
def fTruth (fa : FE) : FB := fun ρ => (fa ρ).bind fun p => match truT (vw p.2.mu p.1) with
  | some b => .ok (b, p.2)
  | none => .stk
def fTest (fa : FE) : FB := fun ρ => (fa ρ).bind fun p => match p.1 with
  | .bl b => .ok (b, p.2)
  | _ => .stk
def fAnd (fa fb : FB) : FB := fun ρ => (fa ρ).bind fun p => if p.1 = true then fb p.2 else .ok (false, p.2)
def fOr (fa fb : FB) : FB := fun ρ => (fa ρ).bind fun p => if p.1 = true then .ok (true, p.2) else fb p.2
def fNot (fa : FB) : FB := fun ρ => (fa ρ).bind fun p => .ok (!p.1, p.2)
/-- .. as values -/
def fAndV (fa fb : FE) : FE := fun ρ => (fa ρ).bind fun p => match p.1 with
  | .bl b => if b = true then fb p.2 else .ok (.bl false, p.2)
  | _ => .stk
def fOrV (fa fb : FE) : FE := fun ρ => (fa ρ).bind fun p => match p.1 with
  | .bl b => if b = true then .ok (.bl true, p.2) else fb p.2
  | _ => .stk
def fNotV (fa : FE) : FE := fun ρ => (fa ρ).bind fun p => match p.1 with
  | .bl b => .ok (.bl (!b), p.2)
  | _ => .stk
def fIf (fc : FB) (fa fb : FE) : FE := fun ρ => (fc ρ).bind fun p => if p.1 = true then fa p.2 else fb p.2
def fChain (op op' : T → T → Option T) (fa fb fc : FE) : FE := fun ρ => (fa ρ).bind fun p => (fb p.2).bind fun q => match op (vw q.2.mu p.1) (vw q.2.mu q.1) with
  | some (.bl k) => if k = true then (fc q.2).bind fun r => (match op' (vw r.2.mu q.1) (vw r.2.mu r.1) with
      | some c => .ok (c, r.2)
      | none => .stk) else .ok (.bl false, q.2)
  | _ => .stk
section
variable {G : GG} {X : Cx} {W : WX}
def PWf (G : GG) (X : Cx) (W : WX) (e : Expr) (f : FB) : Prop := ∃ t, PW X e t ∧ ∀ F α ρ σ H Q, Rel G F α ρ σ H → SatB G W F σ (f ρ) Q → t σ H Q
theorem PWf.pt {e : Expr} {f : FB} (h : PWf G X W e f) : PTf G X W e f := let ⟨t, p, q⟩ := h; ⟨t, p.pt, q⟩
theorem rep_tru {w : Wd} {H : Hp} {v : V} {t : T} {b : Bool} (hK : G.K = X.K) (r : RV G w H v t) (h : truT t = some b) : TruV X.K v H b := by
  cases r with
  | lst h1 h2 =>
    cases h
    refine .inl ⟨_, .inl (.inl h1), ?_⟩
    cases h2 <;> rfl
  | dct h1 h2 h3 => cases h
  | obj _ _ _ => cases h
  | of r =>
  cases r with
  | non => cases h; rfl
  | bl b' => cases h; rfl
  | int i => cases h; rfl
  | str s =>
    have h : (if s.length ≤ 16777216 then some (!s.isEmpty) else none) = some b := h
    split at h
    · rename_i hl
      cases h
      refine ⟨by rw [S_length]; exact hl, ?_⟩
      rw [S_length]
      cases s with
      | nil => rfl
      | cons c r =>
        have : (((c :: r).length : Nat) : Int) ≠ 0 := by simp; omega
        simp [bne]
        omega
    · cases h
  | tup n h1 h2 =>
    cases h
    refine .inr (.inl ⟨_, .inl h1, ?_⟩)
    have := h2.length
    cases h2 <;> rfl
  | lst n h1 h2 =>
    cases h
    refine .inl ⟨_, .inl h1, ?_⟩
    cases h2 <;> rfl
  | lstK h1 h2 =>
    cases h
    refine .inl ⟨_, .inr (by rw [← hK]; exact h1), ?_⟩
    cases h2 <;> rfl
  | dct _ h1 h2 h3 => cases h
  | ty _ => cases h
  | ref _ => cases h
  | obj _ _ _ _ => cases h
theorem ptf_truth {e : Expr} {fa : FE} (hK : G.K = X.K) (ha : PEf G X W e fa) (he : ∀ whole, isTrue e X.env whole = (do let v ← whole; standAt e.pos; holding [v] (truthy v)) := by intro _; rfl) : PTf G X W e (fTruth fa) := by
  obtain ⟨t, p, q⟩ := ha
  refine ⟨_, pt_truth p he, fun F α ρ σ H Q r s => ?_⟩
  refine q F α ρ σ H _ r (satE_bind (isB (Q := Q)) s fun t ρ1 v α1 H1 _ r1 q1 s1 => ?_)
  dsimp only at s1
  split at s1
  · rename_i b hb
    exact ⟨b, rep_tru hK (r1.vw q1) hb, s1 α1 H1 r1⟩
  · exact s1.elim
theorem tb_ok {fa : FE} {ta : TE} (ha : ∀ F α ρ σ H Q, Rel G F α ρ σ H → SatE G W F σ (fa ρ) Q → ta σ H Q) (F α ρ σ H Q) (r : Rel G F α ρ σ H) (s : SatB G W F σ (fTest fa ρ) Q) : (ta σ H fun x H1 => ∃ c, x = .bl c ∧ Q c H1) := by
  refine ha F α ρ σ H _ r (satE_bind (isB (Q := Q)) s fun t ρ1 v α1 H1 _ r1 q1 s1 => ?_)
  dsimp only at s1
  split at s1
  · exact ⟨_, rep_bl q1, s1 α1 H1 r1⟩
  · exact s1.elim
/-- an expression whose value is a bool, as a test -/
theorem ptf_val {e : Expr} {fa : FE} (ha : PEf G X W e fa) (he : ∀ whole, isTrue e X.env whole = (do let v ← whole; standAt e.pos; holding [v] (truthy v)) := by intro _; rfl) : PTf G X W e (fTest fa) := by
  obtain ⟨t, p, q⟩ := ha
  exact ⟨_, pt_val p he, tb_ok q⟩
theorem ptf_cmp {op : T → T → Option T} {a b : Expr} {o : CmpOp} {fa fb : FE} {pos : Pos} (ho : OpT G X (compareOp o) op) (ha : PEf G X W a fa) (hb : PEf G X W b fb) (hm : behindInMarks o b = false) : PTf G X W (.Compare a [o] [b] pos) (fTest (fBin op fa fb)) := by
  obtain ⟨ta, pa, ha⟩ := ha
  obtain ⟨tb, pb, hb⟩ := hb
  obtain ⟨r, hr, ho⟩ := ho
  exact ⟨_, pt_cmpR hr pa pb hm, tb_ok fun F α ρ σ H Q rl s => bin_ok ha hb ho F α ρ σ H Q rl s⟩
theorem chain_ok {op op' : T → T → Option T} {fa fb fc : FE} {ta tb tc : TE} {r r' : R2}
    (ha : ∀ F α ρ σ H Q, Rel G F α ρ σ H → SatE G W F σ (fa ρ) Q → ta σ H Q) (hb : ∀ F α ρ σ H Q, Rel G F α ρ σ H → SatE G W F σ (fb ρ) Q → tb σ H Q) (hc : ∀ F α ρ σ H Q, Rel G F α ρ σ H → SatE G W F σ (fc ρ) Q → tc σ H Q)
    (ho : ∀ (w : Wd) (H : Hp) (Q : VK) (x y : V) (s t c : T), op s t = some c → Wf G w H → RV G w H x s → RV G w H y t → (∀ v H', HExt G H H' → Rep G w H' v c → Q v H') → r x y H Q)
    (ho' : ∀ (w : Wd) (H : Hp) (Q : VK) (x y : V) (s t c : T), op' s t = some c → Wf G w H → RV G w H x s → RV G w H y t → (∀ v H', HExt G H H' → Rep G w H' v c → Q v H') → r' x y H Q)
    (F α ρ σ H Q) (rl : Rel G F α ρ σ H) (s : SatE G W F σ (fChain op op' fa fb fc ρ) Q) : tChain r r' ta tb tc σ H Q := by
  refine ha F α ρ σ H _ rl (satE_bind (isE (Q := Q)) s fun p ρ1 v α1 H1 _ r1 q1 s1 => ?_)
  refine hb (F.hold v p) α1 ρ1 σ H1 _ (r1.hold q1) (satE_bind (isE (Q := Q)).hold s1 fun q ρ2 w α2 H2 _ r2 q2 s2 => ?_)
  dsimp only at s2
  split at s2
  · rename_i k hk
    refine ho _ H2 _ v w _ _ _ hk r2.unhold.wf (r2.unhold.vw r2.held) (r2.unhold.vw q2) fun z H3 hx hz => ⟨k, rep_bl hz, ?_⟩
    cases k with
    | false => exact s2 _ α2 H3 (r2.unhold.ext hx) (.bl _)
    | true =>
      rw [if_pos rfl] at s2 ⊢
      refine hc (F.hold w q) α2 ρ2 σ H3 _ (((r2.unhold).ext hx).hold (q2.stab hx.keepE)) (satE_bind (isE (Q := Q)).hold s2 fun r ρ3 y α3 H4 _ r3 q3 s3 => ?_)
      dsimp only at s3
      split at s3
      · rename_i c hc'
        exact ho' _ H4 Q w y _ _ c hc' r3.unhold.wf (r3.unhold.vw r3.held) (r3.unhold.vw q3) fun z H5 hx hz => s3 z α3 H5 (r3.unhold.ext hx) hz
      · exact s3.elim
  · exact s2.elim
theorem pef_chain {op op' : T → T → Option T} {a b c : Expr} {o o' : CmpOp} {fa fb fc : FE} {pos : Pos} (ho : OpT G X (compareOp o) op) (ho' : OpT G X (compareOp o') op') (ha : PEf G X W a fa) (hb : PEf G X W b fb) (hc : PEf G X W c fc)
    (hm : lastMarks [o, o'] [b, c] = false := by with_unfolding_all rfl) : PEf G X W (.Compare a [o, o'] [b, c] pos) (fChain op op' fa fb fc) := by
  obtain ⟨ta, pa, ha⟩ := ha
  obtain ⟨tb, pb, hb⟩ := hb
  obtain ⟨tc, pc, hc⟩ := hc
  obtain ⟨r, hr, ho⟩ := ho
  obtain ⟨r', hr', ho'⟩ := ho'
  exact ⟨_, pe_chain hr hr' pa pb pc hm, chain_ok ha hb hc ho ho'⟩
theorem ptf_chain {op op' : T → T → Option T} {a b c : Expr} {o o' : CmpOp} {fa fb fc : FE} {pos : Pos} (ho : OpT G X (compareOp o) op) (ho' : OpT G X (compareOp o') op') (ha : PEf G X W a fa) (hb : PEf G X W b fb) (hc : PEf G X W c fc)
    (hm : lastMarks [o, o'] [b, c] = false := by with_unfolding_all rfl) : PTf G X W (.Compare a [o, o'] [b, c] pos) (fTest (fChain op op' fa fb fc)) := by
  obtain ⟨ta, pa, ha⟩ := ha
  obtain ⟨tb, pb, hb⟩ := hb
  obtain ⟨tc, pc, hc⟩ := hc
  obtain ⟨r, hr, ho⟩ := ho
  obtain ⟨r', hr', ho'⟩ := ho'
  exact ⟨_, pt_chain hr hr' pa pb pc hm, tb_ok (chain_ok ha hb hc ho ho')⟩
theorem and_ok {fa fb : FB} {ta tb : TT} (ha : ∀ F α ρ σ H Q, Rel G F α ρ σ H → SatB G W F σ (fa ρ) Q → ta σ H Q) (hb : ∀ F α ρ σ H Q, Rel G F α ρ σ H → SatB G W F σ (fb ρ) Q → tb σ H Q) (F α ρ σ H Q) (r : Rel G F α ρ σ H) (s : SatB G W F σ (fAnd fa fb ρ) Q) : tAnd ta tb σ H Q := by
  refine ha F α ρ σ H _ r (satB_bind (isB (Q := Q)) s fun b ρ1 α1 H1 _ r1 s1 => ?_)
  dsimp only at s1
  split at s1
  · rename_i h
    rw [if_pos h]
    exact hb F α1 ρ1 σ H1 Q r1 s1
  · rename_i h
    rw [if_neg h]
    exact s1 α1 H1 r1
theorem or_ok {fa fb : FB} {ta tb : TT} (ha : ∀ F α ρ σ H Q, Rel G F α ρ σ H → SatB G W F σ (fa ρ) Q → ta σ H Q) (hb : ∀ F α ρ σ H Q, Rel G F α ρ σ H → SatB G W F σ (fb ρ) Q → tb σ H Q) (F α ρ σ H Q) (r : Rel G F α ρ σ H) (s : SatB G W F σ (fOr fa fb ρ) Q) : tOr ta tb σ H Q := by
  refine ha F α ρ σ H _ r (satB_bind (isB (Q := Q)) s fun b ρ1 α1 H1 _ r1 s1 => ?_)
  dsimp only at s1
  split at s1
  · rename_i h
    rw [if_pos h]
    exact s1 α1 H1 r1
  · rename_i h
    rw [if_neg h]
    exact hb F α1 ρ1 σ H1 Q r1 s1
variable {a b : Expr} {rest : List Expr} {fa fb : FB} {va vb : FE} {pos : Pos}
theorem pwf_and1 (ha : PTf G X W a fa) : PWf G X W (.BoolOp .And [a] pos) fa := let ⟨t, p, q⟩ := ha; ⟨t, pw_and1 p, q⟩
theorem pwf_or1 (ha : PTf G X W a fa) : PWf G X W (.BoolOp .Or [a] pos) fa := let ⟨t, p, q⟩ := ha; ⟨t, pw_or1 p, q⟩
theorem pwf_and (ha : PTf G X W a fa) (hb : PWf G X W (.BoolOp .And (b :: rest) pos) fb) : PWf G X W (.BoolOp .And (a :: b :: rest) pos) (fAnd fa fb) :=
  let ⟨_, p, q⟩ := ha; let ⟨_, p2, q2⟩ := hb; ⟨_, pw_and p p2, and_ok q q2⟩
theorem pwf_or (ha : PTf G X W a fa) (hb : PWf G X W (.BoolOp .Or (b :: rest) pos) fb) : PWf G X W (.BoolOp .Or (a :: b :: rest) pos) (fOr fa fb) :=
  let ⟨_, p, q⟩ := ha; let ⟨_, p2, q2⟩ := hb; ⟨_, pw_or p p2, or_ok q q2⟩
theorem ptf_not (ha : PTf G X W a fa) : PTf G X W (.UnaryOp .Not a pos) (fNot fa) := by
  obtain ⟨t, p, q⟩ := ha
  exact ⟨_, pt_not p, fun F α ρ σ H Q r s => q F α ρ σ H _ r (satB_bind (isB (Q := Q)) s fun b ρ1 α1 H1 _ r1 s1 => s1 α1 H1 r1)⟩
theorem pef_one {o : BoolOp} (ha : PEf G X W a va) : PEf G X W (.BoolOp o [a] pos) va := let ⟨t, p, q⟩ := ha; ⟨t, pe_one p, q⟩
theorem pef_and (ha : PEf G X W a va) (hb : PEf G X W (.BoolOp .And (b :: rest) pos) vb) : PEf G X W (.BoolOp .And (a :: b :: rest) pos) (fAndV va vb) := by
  obtain ⟨ta, pa, ha⟩ := ha
  obtain ⟨tb, pb, hb⟩ := hb
  refine ⟨_, pe_and pa pb, fun F α ρ σ H Q r s => ha F α ρ σ H _ r (satE_bind (isE (Q := Q)) s fun t ρ1 v α1 H1 e0 r1 q1 s1 => ?_)⟩
  dsimp only at s1
  split at s1
  · rename_i k
    refine ⟨k, rep_bl q1, ?_⟩
    cases k with
    | true => exact hb F α1 ρ1 σ H1 Q r1 s1
    | false => exact s1 _ α1 H1 r1 (.bl _)
  · exact s1.elim
theorem pef_or (ha : PEf G X W a va) (hb : PEf G X W (.BoolOp .Or (b :: rest) pos) vb) : PEf G X W (.BoolOp .Or (a :: b :: rest) pos) (fOrV va vb) := by
  obtain ⟨ta, pa, ha⟩ := ha
  obtain ⟨tb, pb, hb⟩ := hb
  refine ⟨_, pe_or pa pb, fun F α ρ σ H Q r s => ha F α ρ σ H _ r (satE_bind (isE (Q := Q)) s fun t ρ1 v α1 H1 e0 r1 q1 s1 => ?_)⟩
  dsimp only at s1
  split at s1
  · rename_i k
    refine ⟨k, rep_bl q1, ?_⟩
    cases k with
    | true => exact s1 _ α1 H1 r1 (.bl _)
    | false => exact hb F α1 ρ1 σ H1 Q r1 s1
  · exact s1.elim
theorem pef_not (ha : PEf G X W a va) : PEf G X W (.UnaryOp .Not a pos) (fNotV va) := by
  obtain ⟨ta, pa, ha⟩ := ha
  refine ⟨_, pe_not pa, fun F α ρ σ H Q r s => ha F α ρ σ H _ r (satE_bind (isE (Q := Q)) s fun t ρ1 v α1 H1 e0 r1 q1 s1 => ?_)⟩
  dsimp only at s1
  split at s1
  · exact ⟨_, rep_bl q1, s1 _ α1 H1 r1 (.bl _)⟩
  · exact s1.elim
theorem pef_ifExp {c : Expr} (hc : PTf G X W c fa) (ha : PEf G X W a va) (hb : PEf G X W b vb) : PEf G X W (.IfExp c a b pos) (fIf fa va vb) := by
  obtain ⟨tc, pc, hc⟩ := hc
  obtain ⟨ta, pa, ha⟩ := ha
  obtain ⟨tb, pb, hb⟩ := hb
  refine ⟨_, pe_ifExp pc pa pb, fun F α ρ σ H Q r s => hc F α ρ σ H _ r (satB_bind (isE (Q := Q)) s fun k ρ1 α1 H1 _ r1 s1 => ?_)⟩
  dsimp only at s1
  split at s1
  · rename_i h
    rw [if_pos h]
    exact ha F α1 ρ1 σ H1 Q r1 s1
  · rename_i h
    rw [if_neg h]
    exact hb F α1 ρ1 σ H1 Q r1 s1
end
/-! ### places, slices, displays, calls of built-ins -/
def ixT : T → T → Option T
  | .lst xs, .int i => atI xs i
  | .tup xs, .int i => atI xs i
  | .str s, .int i => if s.length ≤ 16777216 then (atI s i).map fun c => .str [c] else none
  | _, _ => none
def cutL {α : Type} (xs : List α) (lo hi : Option Int) : List α := (xs.drop (HT.sIx xs.length 0 lo)).take (HT.sIx xs.length xs.length hi - HT.sIx xs.length 0 lo)
def cutT (t : T) (lo hi : Option Int) : Option T := match t with
  | .lst xs => some (.lst (cutL xs lo hi))
  | .tup xs => some (.tup (cutL xs lo hi))
  | .str s => if s.length ≤ 16777216 then some (.str (cutL s lo hi)) else none
  | _ => none
abbrev FO := Env → R (Option Int × Env)
def fNoPart : FO := fun ρ => .ok (none, ρ)
def fPart (fa : FE) : FO := fun ρ => (fa ρ).bind fun p => match p.1 with
  | .int i => .ok (some i, p.2)
  | _ => .stk
def fSlice (fa : FE) (fl fh : FO) : FE := fun ρ => (fa ρ).bind fun p => (fl p.2).bind fun l => (fh l.2).bind fun h => match cutT (vw h.2.mu p.1) l.1 h.1 with
  | some c => .ok (c, h.2)
  | none => .stk
def fNil : FA := fun ρ => .ok ([], ρ)
def fCons (fa : FE) (fas : FA) : FA := fun ρ => (fa ρ).bind fun p => (fas p.2).bind fun q => .ok (p.1 :: q.1, q.2)
def fTup (fas : FA) : FE := fun ρ => (fas ρ).bind fun p => if p.1.length ≤ 16777216 then .ok (.tup p.1, p.2) else .stk
def fLst (fas : FA) : FE := fun ρ => (fas ρ).bind fun p => if p.1.length ≤ 16777216 then .ok (.lst p.1, p.2) else .stk
def fCall (op : List T → Option T) (fas : FA) : FE := fun ρ => (fas ρ).bind fun p => match op (p.1.map (vw p.2.mu)) with
  | some c => .ok (c, p.2)
  | none => .stk
section
variable {G : GG} {X : Cx} {W : WX}
theorem atI_reps {w : Wd} {H : Hp} {vs : List V} {ts : List T} {i : Int} {t : T} (r : Reps G w H vs ts) (h : atI ts i = some t) : ∃ v, atI vs i = some v ∧ Rep G w H v t := by
  unfold atI at h ⊢
  rw [r.length]
  cases e : ixN ts.length i with
  | none => rw [e] at h; cases h
  | some j =>
    rw [e] at h
    obtain ⟨v, h1, h2⟩ := r.get (show ts[j]? = some t from h)
    exact ⟨v, h1, h2⟩
theorem pef_ix {a b : Expr} {fa fb : FE} {pos : Pos} (hK : G.K = X.K) (ha : PEf G X W a fa) (hb : PEf G X W b fb) (hs : PlainIx b := by intro _ _; rfl) : PEf G X W (.Subscript a b pos) (fBin ixT fa fb) := by
  obtain ⟨ta, pa, ha⟩ := ha
  obtain ⟨tb, pb, hb⟩ := hb
  refine ⟨_, pe_ix ix_seq pa pb hs, fun F α ρ σ H Q rl s => bin_ok ha hb (fun w H Q x y s t c e wf rx ry q => ?_) F α ρ σ H Q rl s⟩
  unfold ixT at e
  split at e
  · obtain ⟨l, vs, rfl, h1, h2⟩ := rv_lst rx
    obtain ⟨v, h3, h4⟩ := atI_reps h2 e
    rw [hK] at h1
    exact .inl ⟨l, vs, _, v, rfl, rv_int ry, h1, h3, q v H (HExt.refl wf.tabs) h4⟩
  · obtain ⟨l, vs, rfl, h1, h2, _⟩ := (rv_tup rx).2
    obtain ⟨v, h3, h4⟩ := atI_reps h2 e
    rw [hK] at h1
    exact .inr (.inl ⟨l, vs, _, v, rfl, rv_int ry, h1, h3, q v H (HExt.refl wf.tabs) h4⟩)
  · split at e
    · rename_i z i hl
      cases hc : atI z i with
      | none => rw [hc] at e; cases e
      | some k =>
        rw [hc] at e
        cases e
        exact .inr (.inr ⟨_, _, k, rv_str rx, rv_int ry, by rw [S_length]; exact hl, by rw [List.toList_toArray]; exact hc, q _ H (HExt.refl wf.tabs) (.str [k])⟩)
    · cases e
  · cases e
def SatO (G : GG) (W : WX) (F : Fr) (σ : L2.St) : R (Option Int × Env) → (Option Int → Hp → Prop) → Prop
  | .ok (o, ρ'), Q => ∀ α H', Rel G F α ρ' σ H' → Q o H'
  | .exc x ρ', _ => SatX G W F σ x ρ'
  | .stk, _ => False
def POf (G : GG) (X : Cx) (W : WX) (e : Option Expr) (f : FO) : Prop := ∃ t, PO X e t ∧ ∀ F α ρ σ H Q, Rel G F α ρ σ H → SatO G W F σ (f ρ) Q → t σ H Q
theorem isO {F : Fr} {σ : L2.St} {Q : Option Int → Hp → Prop} : IsSat G W F σ (fun r => SatO G W F σ r Q) := ⟨fun _ _ h => h, fun h => h⟩
theorem satO_bind {F : Fr} {σ : L2.St} {β : Type} {f : R (Option Int × Env)} {k : Option Int × Env → R β} {Sa : R β → Prop} {Q : Option Int → Hp → Prop} (s : IsSat G W F σ Sa) (h : Sa (f.bind k))
    (hk : ∀ p ρ1 α1 H1, Rel G F α1 ρ1 σ H1 → Sa (k (p, ρ1)) → Q p H1) : SatO G W F σ f Q := by
  cases f with
  | ok a => obtain ⟨p, ρ1⟩ := a; exact fun α1 H1 r => hk p ρ1 α1 H1 r h
  | exc x ρ' => exact s.exc x ρ' h
  | stk => exact (s.stk h).elim
theorem pof_none : POf G X W none fNoPart := ⟨_, L2.po_none, fun F α ρ σ H Q r s => s α H r⟩
theorem pof_some {e : Expr} {fa : FE} (ha : PEf G X W e fa) : POf G X W (some e) (fPart fa) := by
  obtain ⟨ta, pa, ha⟩ := ha
  refine ⟨_, L2.po_some pa, fun F α ρ σ H Q r s => ha F α ρ σ H _ r (satE_bind (isO (Q := Q)) s fun t ρ1 v α1 H1 _ r1 q1 s1 => ?_)⟩
  dsimp only at s1
  split at s1
  · exact ⟨_, rep_int q1, s1 α1 H1 r1⟩
  · exact s1.elim
theorem cutL_reps {w : Wd} {H : Hp} {vs : List V} {ts : List T} (r : Reps G w H vs ts) (lo hi : Option Int) : Reps G w H (cutV vs lo hi) (cutL ts lo hi) := by
  unfold cutV cutL
  rw [r.length]
  exact (r.drop _).take _
theorem cutV_whole {α : Type} {xs : List α} {lo hi : Option Int} (h : HT.sIx xs.length 0 lo = 0 ∧ HT.sIx xs.length xs.length hi = xs.length) : cutL xs lo hi = xs := by
  unfold cutL
  rw [h.1, h.2]
  simp
theorem pef_slice {a : Expr} {lo hi : Option Expr} {fa : FE} {fl fh : FO} {pos p2 : Pos} (hK : G.K = X.K) (ha : PEf G X W a fa) (hl : POf G X W lo fl) (hh : POf G X W hi fh) : PEf G X W (.Subscript a (.Slice lo hi none p2) pos) (fSlice fa fl fh) := by
  obtain ⟨ta, pa, ha⟩ := ha
  obtain ⟨tl, pl, hl⟩ := hl
  obtain ⟨th, ph, hh⟩ := hh
  refine ⟨_, pe_slice (sl_list.or (sl_tupA.or sl_str)) pa pl ph, fun F α ρ σ H Q r s => ha F α ρ σ H _ r (satE_bind (isE (Q := Q)) s fun t ρ1 v α1 H1 e0 r1 q1 s1 => ?_)⟩
  refine hl (F.hold v t) α1 ρ1 σ H1 _ (r1.hold q1) (satO_bind (isE (Q := Q)).hold s1 fun l ρ2 α2 H2 r2 s2 => ?_)
  refine hh (F.hold v t) α2 ρ2 σ H2 _ r2 (satO_bind (isE (Q := Q)).hold s2 fun h ρ3 α3 H3 r3 s3 => ?_)
  dsimp only at s3
  have w := r3.unhold.wf
  have rv := r3.unhold.vw r3.held
  split at s3
  · rename_i c hc
    unfold cutT at hc
    generalize vw ρ3.mu t = u at hc rv
    split at hc
    · cases hc
      obtain ⟨p, vs, rfl, h1, h2⟩ := rv_lst rv
      rw [hK] at h1
      exact .inl ⟨p, vs, rfl, h1, fun p hp => s3 _ α3 _ (r3.unhold.new hp) (new_lst hp (w.new hp) (cutL_reps h2 l h))⟩
    · cases hc
      obtain ⟨tv, p, vs, rfl, h1, h2, _⟩ := rv_tup rv
      rw [hK] at h1
      refine .inr (.inl ⟨p, vs, rfl, h1, fun e => ?_, fun _ p hp => s3 _ α3 _ (r3.unhold.new hp) (new_tup hp (w.new hp) (cutL_reps h2 l h))⟩)
      rw [h2.length] at e
      exact s3 _ α3 H3 r3.unhold (by rw [cutV_whole e]; exact tv)
    · split at hc
      · rename_i z hz
        cases hc
        refine .inr (.inr ⟨_, rv_str rv, by rw [S_length]; exact hz, ?_⟩)
        have e : cutS (S z) l h = S (cutL z l h) := by
          unfold cutS cutL
          rw [S_length, List.toList_toArray]
        rw [e]
        exact s3 _ α3 H3 r3.unhold (.str _)
      · cases hc
    · cases hc
  · exact s3.elim
theorem paf_nil : PAf G X W [] fNil := ⟨_, pa_nil, fun F α ρ σ H Q r s => s [] α H r .nil⟩
theorem paf_cons {e : Expr} {es : List Expr} {fa : FE} {fas : FA} (ha : PEf G X W e fa) (hs : PAf G X W es fas) (h1 : starEach (e :: es) X.env = (false, eval e X.env) :: starEach es X.env := by rfl) : PAf G X W (e :: es) (fCons fa fas) := by
  obtain ⟨ta, pa, ha⟩ := ha
  obtain ⟨ts, ps, hs⟩ := hs
  refine ⟨_, pa_cons pa ps h1, fun F α ρ σ H Q r s => ha F α ρ σ H _ r (satE_bind (isA (Q := Q)) s fun t ρ1 v α1 H1 _ r1 q1 s1 => ?_)⟩
  refine hs (F.hold v t) α1 ρ1 σ H1 _ (r1.hold q1) (satA_bind (isA (Q := Q)).hold s1 fun us ρ2 vs α2 H2 _ r2 q2 s2 => ?_)
  exact s2 _ α2 H2 r2.unhold (.cons r2.held q2)
theorem pef_tup {es : List Expr} {fas : FA} {k pos} (hs : PAf G X W es fas) : PEf G X W (.Tuple es k pos) (fTup fas) := by
  obtain ⟨ts, ps, hs⟩ := hs
  refine ⟨_, pe_tup ps, fun F α ρ σ H Q r s => hs F α ρ σ H _ r (satA_bind (isE (Q := Q)) s fun us ρ1 vs α1 H1 _ r1 q1 s1 => ?_)⟩
  dsimp only at s1
  split at s1
  · rename_i hl
    exact ⟨by rw [q1.length]; exact hl, fun p hp => s1 _ α1 _ (r1.new hp) (new_tup hp (r1.wf.new hp) q1)⟩
  · exact s1.elim
theorem pef_lst {es : List Expr} {fas : FA} {pos} (hs : PAf G X W es fas) : PEf G X W (.List es pos) (fLst fas) := by
  obtain ⟨ts, ps, hs⟩ := hs
  refine ⟨_, pe_lst ps, fun F α ρ σ H Q r s => hs F α ρ σ H _ r (satA_bind (isE (Q := Q)) s fun us ρ1 vs α1 H1 _ r1 q1 s1 => ?_)⟩
  dsimp only at s1
  split at s1
  · rename_i hl
    exact ⟨by rw [q1.length]; exact hl, fun p hp => s1 _ α1 _ (r1.new hp) (new_lst hp (r1.wf.new hp) q1)⟩
  · exact s1.elim
theorem pef_dct0 {pos} : PEf G X W (.Dict [] [] pos) (fC (.dct [])) :=
  ⟨_, pe_dnewK, fun F α ρ σ H Q r s p hp => s _ α _ (r.new hp) (.dct (r.wf.new hp) upd_same (.k []) .nil)⟩
/-- a call by values -/
def CallT (G : GG) (X : Cx) (f : Value) (op : List T → Option T) : Prop :=
  ∃ r, CallR X f r ∧ ∀ (w : Wd) (H : Hp) (Q : VK) (vs : List V) (ts : List T) (c : T), op ts = some c → Wf G w H → RVs G w H vs ts → (∀ v H', HExt G H H' → Rep G w H' v c → Q v H') → r vs H Q
theorem call_ok {op : List T → Option T} {fas : FA} {ts : TA} {r : List V → Hp → VK → Prop} (hs : ∀ F α ρ σ H Q, Rel G F α ρ σ H → SatA G W F σ (fas ρ) Q → ts σ H Q)
    (hr : ∀ (w : Wd) (H : Hp) (Q : VK) (vs : List V) (ts : List T) (c : T), op ts = some c → Wf G w H → RVs G w H vs ts → (∀ v H', HExt G H H' → Rep G w H' v c → Q v H') → r vs H Q)
    (F α ρ σ H Q) (rl : Rel G F α ρ σ H) (s : SatE G W F σ (fCall op fas ρ) Q) : tCB r ts σ H Q := by
  refine hs F α ρ σ H _ rl (satA_bind (isE (Q := Q)) s fun us ρ1 vs α1 H1 _ r1 q1 s1 => ?_)
  dsimp only at s1
  split at s1
  · rename_i c hc
    exact hr _ H1 Q vs _ c hc r1.wf (r1.vws q1) fun v H2 hx hv => s1 v α1 H2 (r1.ext hx) hv
  · exact s1.elim
theorem pef_callB {op : List T → Option T} {id : String} {x : Str} {e : Expr} {es : List Expr} {fas : FA} {p pos : Pos} (hc : CallT G X (.builtin id) op) (hg : Gl X x) (hm : X.mg x = none) (hv : bootBuiltins x = some (.builtin id)) (hs : PAf G X W (e :: es) fas)
    (hn : x ≠ "__name__" := by decide) (hdb : (x == ("__debug__" : Str)) = false := by decide)
    (he : starEach (e :: es) X.env = (false, eval e X.env) :: starEach es X.env := by rfl) (hpl : (backTo pos (starEach es X.env)).any (·.1) = false := by rfl) : PEf G X W (.Call (.Name x p) (e :: es) [] pos) (fCall op fas) := by
  obtain ⟨r, hr, ho⟩ := hc
  obtain ⟨ts, ps, hs⟩ := hs
  exact ⟨_, pe_callB hr hg hm hv ps hn hdb he hpl, call_ok hs ho⟩
theorem pef_callTy {op : List T → Option T} {id : String} {x : Str} {e : Expr} {es : List Expr} {fas : FA} {p pos : Pos} (hc : CallT G X (.type id) op) (hg : Gl X x) (hm : X.mg x = none) (hv : bootBuiltins x = some (.type id)) (hs : PAf G X W (e :: es) fas)
    (hn : x ≠ "__name__" := by decide) (hdb : (x == ("__debug__" : Str)) = false := by decide)
    (he : starEach (e :: es) X.env = (false, eval e X.env) :: starEach es X.env := by rfl) (hpl : (backTo pos (starEach es X.env)).any (·.1) = false := by rfl) : PEf G X W (.Call (.Name x p) (e :: es) [] pos) (fCall op fas) := by
  obtain ⟨r, hr, ho⟩ := hc
  obtain ⟨ts, ps, hs⟩ := hs
  exact ⟨_, pe_callTy hr hg hm hv ps hn hdb he hpl, call_ok hs ho⟩
def lenT : List T → Option T
  | [.str s] => if s.length ≤ 16777216 then some (.int s.length) else none
  | [.lst xs] => some (.int xs.length)
  | [.tup xs] => some (.int xs.length)
  | _ => none
def absT : List T → Option T
  | [.int i] => some (.int (if i < 0 then -i else i))
  | _ => none
def listT : List T → Option T
  | [.lst xs] => some (.lst xs)
  | [.tup xs] => some (.lst xs)
  | _ => none
def tupleT : List T → Option T
  | [.lst xs] => some (.tup xs)
  | [.tup xs] => some (.tup xs)
  | _ => none
theorem reps1 {w : Wd} {H : Hp} {vs : List V} {t : T} (r : Reps G w H vs [t]) : ∃ v, vs = [v] ∧ Rep G w H v t := by
  cases r with
  | cons r rs => cases rs; exact ⟨_, rfl, r⟩
theorem rvs1 {w : Wd} {H : Hp} {vs : List V} {t : T} (r : RVs G w H vs [t]) : ∃ v, vs = [v] ∧ RV G w H v t := by
  cases r with
  | cons r rs => cases rs; exact ⟨_, rfl, r⟩
theorem rvs2 {w : Wd} {H : Hp} {vs : List V} {t u : T} (r : RVs G w H vs [t, u]) : ∃ v v', vs = [v, v'] ∧ RV G w H v t ∧ RV G w H v' u := by
  cases r with
  | cons r rs => obtain ⟨v', rfl, h⟩ := rvs1 rs; exact ⟨_, _, rfl, r, h⟩
theorem call_len_t (hK : G.K = X.K) : CallT G X (.builtin "len") lenT := by
  refine ⟨_, CallR.or call_len_str call_len_seq, fun w H Q vs ts c e wf rs q => ?_⟩
  unfold lenT at e
  split at e
  · obtain ⟨v, rfl, r⟩ := rvs1 rs
    split at e
    · rename_i hl
      cases e
      exact .inl ⟨_, by rw [rv_str r], by rw [S_length]; exact hl, by rw [S_length]; exact q _ H (HExt.refl wf.tabs) (.int _)⟩
    · cases e
  · obtain ⟨v, rfl, r⟩ := rvs1 rs
    cases e
    obtain ⟨p, vs, rfl, h1, h2⟩ := rv_lst r
    rw [hK] at h1
    exact .inr ⟨p, vs, rfl, .inl h1, by rw [h2.length]; exact q _ H (HExt.refl wf.tabs) (.int _)⟩
  · obtain ⟨v, rfl, r⟩ := rvs1 rs
    cases e
    obtain ⟨p, vs, rfl, h1, h2, _⟩ := (rv_tup r).2
    rw [hK] at h1
    exact .inr ⟨p, vs, rfl, .inr h1, by rw [h2.length]; exact q _ H (HExt.refl wf.tabs) (.int _)⟩
  · cases e
theorem call_abs_t : CallT G X (.builtin "abs") absT := by
  refine ⟨_, call_abs, fun w H Q vs ts c e wf rs q => ?_⟩
  unfold absT at e
  split at e
  · obtain ⟨v, rfl, r⟩ := rvs1 rs
    cases e
    exact ⟨_, by rw [rv_int r], q _ H (HExt.refl wf.tabs) (.int _)⟩
  · cases e
theorem call_list_t (hK : G.K = X.K) : CallT G X (.type "list") listT := by
  refine ⟨_, call_list_of, fun w H Q vs ts c e wf rs q => ?_⟩
  unfold listT at e
  split at e
  · obtain ⟨v, rfl, r⟩ := rvs1 rs
    cases e
    obtain ⟨p, vs, rfl, h1, h2⟩ := rv_lst r
    rw [hK] at h1
    exact ⟨p, vs, rfl, .inl h1, fun p hp => q _ _ (HExt.new wf.tabs hp) (new_lst hp (wf.new hp) h2)⟩
  · obtain ⟨v, rfl, r⟩ := rvs1 rs
    cases e
    obtain ⟨p, vs, rfl, h1, h2, _⟩ := (rv_tup r).2
    rw [hK] at h1
    exact ⟨p, vs, rfl, .inr h1, fun p hp => q _ _ (HExt.new wf.tabs hp) (new_lst hp (wf.new hp) h2)⟩
  · cases e
theorem call_tuple_t (hK : G.K = X.K) : CallT G X (.type "tuple") tupleT := by
  refine ⟨_, call_tuple_of, fun w H Q vs ts c e wf rs q => ?_⟩
  unfold tupleT at e
  split at e
  · obtain ⟨v, rfl, r⟩ := rvs1 rs
    cases e
    obtain ⟨p, vs, rfl, h1, h2⟩ := rv_lst r
    rw [hK] at h1
    exact ⟨p, vs, rfl, .inl ⟨h1, fun p hp => q _ _ (HExt.new wf.tabs hp) (new_tup hp (wf.new hp) h2)⟩⟩
  · obtain ⟨v, rfl, r⟩ := rvs1 rs
    cases e
    obtain ⟨p, vs, rfl, h1, h2, _⟩ := (rv_tup r).2
    rw [hK] at h1
    exact ⟨p, vs, rfl, .inr ⟨h1, q _ H (HExt.refl wf.tabs) (rv_tup r).1⟩⟩
  · cases e
end
end Tr
namespace Tr
open PySem L2 GxR Gx

/-! ### the same tree -/
mutual
def T.beq : T → T → Bool
  | .non, .non => true
  | .bl a, .bl b => a == b
  | .int a, .int b => a == b
  | .str a, .str b => a == b
  | .ty a, .ty b => a == b
  | .tup a, .tup b => T.beqs a b
  | .lst a, .lst b => T.beqs a b
  | .dct a, .dct b => T.beqd a b
  | .obj c a, .obj d b => decide (c = d) && T.beqf a b
  | .ref a, .ref b => a == b
  | _, _ => false
def T.beqs : List T → List T → Bool
  | [], [] => true
  | x :: xs, y :: ys => T.beq x y && T.beqs xs ys
  | _, _ => false
def T.beqd : List (T × T) → List (T × T) → Bool
  | [], [] => true
  | (a, x) :: xs, (b, y) :: ys => T.beq a b && (T.beq x y && T.beqd xs ys)
  | _, _ => false
def T.beqf : List (Str × T) → List (Str × T) → Bool
  | [], [] => true
  | (a, x) :: xs, (b, y) :: ys => decide (a = b) && (T.beq x y && T.beqf xs ys)
  | _, _ => false
end
mutual
theorem T.beq_eq : ∀ {a b : T}, T.beq a b = true → a = b
  | .non, b, h => by cases b <;> simp [T.beq] at h ⊢
  | .bl _, b, h => by cases b <;> simp_all [T.beq]
  | .int _, b, h => by cases b <;> simp_all [T.beq]
  | .str _, b, h => by cases b <;> simp_all [T.beq]
  | .ty _, b, h => by cases b <;> simp_all [T.beq]
  | .tup xs, b, h => by cases b <;> first | (simp only [T.beq] at h; rw [T.beqs_eq h]) | (simp [T.beq] at h)
  | .lst xs, b, h => by cases b <;> first | (simp only [T.beq] at h; rw [T.beqs_eq h]) | (simp [T.beq] at h)
  | .dct xs, b, h => by cases b <;> first | (simp only [T.beq] at h; rw [T.beqd_eq h]) | (simp [T.beq] at h)
  | .obj c xs, b, h => by
    cases b <;> first
      | (simp only [T.beq, Bool.and_eq_true, decide_eq_true_eq] at h; rw [h.1, T.beqf_eq h.2])
      | (simp [T.beq] at h)
  | .ref _, b, h => by cases b <;> simp_all [T.beq]
theorem T.beqs_eq : ∀ {a b : List T}, T.beqs a b = true → a = b
  | [], b, h => by cases b <;> simp [T.beqs] at h ⊢
  | x :: xs, b, h => by
    cases b with
    | nil => simp [T.beqs] at h
    | cons y ys =>
      simp only [T.beqs, Bool.and_eq_true] at h
      rw [T.beq_eq h.1, T.beqs_eq h.2]
theorem T.beqd_eq : ∀ {a b : List (T × T)}, T.beqd a b = true → a = b
  | [], b, h => by cases b <;> simp [T.beqd] at h ⊢
  | (n, x) :: xs, b, h => by
    cases b with
    | nil => simp [T.beqd] at h
    | cons y ys =>
      obtain ⟨m, y⟩ := y
      simp only [T.beqd, Bool.and_eq_true] at h
      rw [T.beq_eq h.1, T.beq_eq h.2.1, T.beqd_eq h.2.2]
theorem T.beqf_eq : ∀ {a b : List (Str × T)}, T.beqf a b = true → a = b
  | [], b, h => by cases b <;> simp [T.beqf] at h ⊢
  | (n, x) :: xs, b, h => by
    cases b with
    | nil => simp [T.beqf] at h
    | cons y ys =>
      obtain ⟨m, y⟩ := y
      simp only [T.beqf, Bool.and_eq_true, decide_eq_true_eq] at h
      rw [h.1, T.beq_eq h.2.1, T.beqf_eq h.2.2]
end
mutual
theorem T.beq_refl : ∀ a : T, T.beq a a = true
  | .non => by simp [T.beq]
  | .bl _ => by simp [T.beq]
  | .int _ => by simp [T.beq]
  | .str _ => by simp [T.beq]
  | .ty _ => by simp [T.beq]
  | .tup xs => by simp only [T.beq]; exact T.beqs_refl xs
  | .lst xs => by simp only [T.beq]; exact T.beqs_refl xs
  | .dct xs => by simp only [T.beq]; exact T.beqd_refl xs
  | .obj c xs => by simp only [T.beq, Bool.and_eq_true, decide_eq_true_eq, true_and]; exact T.beqf_refl xs
  | .ref _ => by simp [T.beq]
theorem T.beqs_refl : ∀ a : List T, T.beqs a a = true
  | [] => by simp [T.beqs]
  | x :: xs => by simp only [T.beqs, Bool.and_eq_true]; exact ⟨T.beq_refl x, T.beqs_refl xs⟩
theorem T.beqd_refl : ∀ a : List (T × T), T.beqd a a = true
  | [] => by simp [T.beqd]
  | (n, x) :: xs => by simp only [T.beqd, Bool.and_eq_true]; exact ⟨T.beq_refl n, T.beq_refl x, T.beqd_refl xs⟩
theorem T.beqf_refl : ∀ a : List (Str × T), T.beqf a a = true
  | [] => by simp [T.beqf]
  | (n, x) :: xs => by simp only [T.beqf, Bool.and_eq_true, decide_eq_true_eq, true_and]; exact ⟨T.beq_refl x, T.beqf_refl xs⟩
end
/-- what is walked is what it was -/
def stays (μ : List Node) (t u : T) : Bool := match t with
  | .ref i => T.beq (vw μ (.ref i)) u
  | _ => true
theorem vw_same {μ : List Node} {t : T} (h : ∀ i, t ≠ .ref i) : vw μ t = t := by
  cases t <;> first | rfl | exact (h _ rfl).elim
theorem stays_eq {μ ν : List Node} {t u : T} (hu : vw μ t = u) (h : stays ν t u = true) : vw ν t = u := by
  cases t with
  | ref i => exact T.beq_eq h
  | _ => exact hu

/-! ### exclusive objects of those around -/
abbrev Fr.add (F : Fr) (D : Addr) : Fr := { F with O := fun a => F.O a ∨ a = D }
section
variable {G : GG} {F : Fr} {α : List Addr} {ρ ρ' : Env} {σ σ' : L2.St} {H H' : Hp} {D : Addr}
/-- a smaller frame's word -/
theorem Rel.less {F' : Fr} (r : Rel G F' α ρ σ H) (hO : ∀ a, F.O a → F'.O a) (h0 : F.H0 = F'.H0) (hM : F.M0 = F'.M0) (hal : F.al0 = F'.al0) (ht : ∀ p ∈ F.tmp, p ∈ F'.tmp) (hp : ∀ p ∈ F.pin, p ∈ F'.pin ∧ F.O p.1) : Rel G F α ρ σ H := by
  have k : Keep (wd F' α ρ.mu) H (wd F α ρ.mu) H := Keep.less (fun a ha => ha.elim (fun z => .inl (hO a z)) .inr) fun _ _ h => h
  exact ⟨r.len, fun i t e => let ⟨x, h1, h2⟩ := r.slot i t e; ⟨x, h1, h2.stab k⟩, r.alen, fun i n a e ea => (r.node i n a e ea).stab k fun u q _ => q, fun a ha z => r.apart a ha (hO a z), r.inj, by rw [hal]; exact r.al,
    fun a u e m => r.frame a u (by rw [← h0]; exact e) (by rw [← hM]; exact m), fun a ha => by rw [h0, hM]; exact r.ownf a ha, r.tabs, r.there, fun a ha => r.exs a (hO a ha), fun p q => (r.tmp p (ht p q)).stab k, fun p q => r.pinP p (hp p q).1,
    fun p q => ⟨(r.pin p (hp p q).1).1, (hp p q).2, by rw [h0, hM]; exact (r.pin p (hp p q).1).2.2⟩⟩
theorem Rel.unadd (r : Rel G (F.add D) α ρ σ H) (hp : ∀ p ∈ F.pin, F.O p.1) : Rel G F α ρ σ H := r.less (fun a h => .inl h) rfl rfl rfl (fun p h => h) fun p h => ⟨h, hp p h⟩
/-- a new object is laid that is exclusive to those around -/
theorem Rel.addNew (r : Rel G F α ρ σ H) {o : HO} (hD : H D = none) : Rel G (F.add D) α ρ σ (upd H D o) := by
  have k : Keep (wd F α ρ.mu) H (wd (F.add D) α ρ.mu) (upd H D o) := ⟨fun a u he e _ => ⟨by rw [upd_ne (ne_of_none e hD)]; exact e, fun z => by
    rcases z with z | z
    · rcases z with z | z
      · exact he (.inl z)
      · exact ne_of_none e hD z
    · exact he (.inr z)⟩, fun _ _ h => h⟩
  have nn : ∀ a u, H a = some u → upd H D o a = some u := fun a u e => by rw [upd_ne (ne_of_none e hD)]; exact e
  refine ⟨r.len, fun i t e => let ⟨x, h1, h2⟩ := r.slot i t e; ⟨x, h1, h2.stab k⟩, r.alen, fun i n a e ea => (r.node i n a e ea).stab k fun u q _ => nn _ _ q, fun a ha z => ?_, r.inj, r.al,
    fun a u e m => (r.frame a u e m).trans fun w q => by rw [nn a w q]; exact Grown.refl, r.ownf, fun P hP => let ⟨ps, h1, h2⟩ := r.tabs P hP; ⟨ps, nn _ _ h1, h2⟩, fun a ha => let ⟨u, e⟩ := r.there a ha; ⟨u, nn _ _ e⟩, fun a ha => ?_, fun p hp => (r.tmp p hp).stab k, r.pinP, fun p hp => ⟨nn _ _ (r.pin p hp).1, .inl (r.pin p hp).2.1, (r.pin p hp).2.2⟩⟩
  · rcases z with z | z
    · exact r.apart a ha z
    · obtain ⟨u, q⟩ := r.there a ha
      exact ne_of_none q hD z
  · rcases ha with ha | ha
    · obtain ⟨u, e⟩ := r.exs a ha
      exact ⟨u, nn _ _ e⟩
    · rw [ha]; exact ⟨o, upd_same⟩
theorem Rel.fresh0 (r : Rel G F α ρ σ H) (hD : H D = none) : F.M0 D ∨ F.H0 D = none := by
  by_cases m : F.M0 D
  · exact .inl m
  · refine .inr ?_
    cases e : F.H0 D with
    | none => rfl
    | some u =>
      have g := r.frame D u e m
      cases u with
      | tbl ps => obtain ⟨qs, q⟩ := g.2 ps rfl; rw [hD] at q; cases q
      | _ => have q := g.1 trivial; rw [hD] at q; cases q
theorem Rel.ntab (r : Rel G F α ρ σ H) {u : HO} (hu : H D = some u) (pu : Plain u) : ∀ P ∈ G.tabs, P ≠ D := fun P hP z => by
  obtain ⟨ps, h1, _⟩ := r.tabs P hP
  rw [z, hu] at h1
  cases h1
  exact pu
/-- an exclusive object of those around is changed -/
theorem Rel.mutO (r : Rel G F α ρ σ H) {u o : HO} (hO : F.O D) (hu : H D = some u) (pu : Plain u) (hf : F.M0 D ∨ F.H0 D = none) (hpin : ∀ p ∈ F.pin, p.1 ≠ D) : Rel G F α ρ σ (upd H D o) := by
  have k : Keep (wd F α ρ.mu) H (wd F α ρ.mu) (upd H D o) := Keep.mut (.inl hO)
  have nt := r.ntab hu pu
  refine ⟨r.len, fun i t e => let ⟨x, h1, h2⟩ := r.slot i t e; ⟨x, h1, h2.stab k⟩, r.alen, fun i n a e ea => ?_, r.apart, r.inj, r.al, fun a w e m => ?_, r.ownf, fun P hP => let ⟨ps, h1, h2⟩ := r.tabs P hP; ⟨ps, by rw [upd_ne (nt P hP)]; exact h1, h2⟩, fun a ha => ?_, fun a ha => ?_, fun p hp => (r.tmp p hp).stab k, r.pinP, fun p hp => ⟨by rw [upd_ne (hpin p hp)]; exact (r.pin p hp).1, (r.pin p hp).2⟩⟩
  · have h := r.node i n a e ea
    cases n with
    | dead => trivial
    | _ => exact h.stab k fun u q _ => by rw [upd_ne fun z => r.apart a (List.mem_of_getElem? ea) (by rw [z]; exact hO)]; exact q
  · have nD : a ≠ D := fun z => by
      rcases hf with q | q
      · exact m (by rw [z]; exact q)
      · rw [z, q] at e; cases e
    rw [upd_ne nD]
    exact r.frame a w e m
  · by_cases z : a = D
    · rw [z]; exact ⟨o, upd_same⟩
    · rw [upd_ne z]; exact r.there a ha
  · by_cases z : a = D
    · rw [z]; exact ⟨o, upd_same⟩
    · rw [upd_ne z]; exact r.exs a ha

/-! ### things that change -/
/-- a new object becomes a thing that changes -/
theorem Rel.own (r : Rel G (F.add D) α ρ σ H) {n : Node} (hD : NodeOk G (wd (F.add D) α ρ.mu) H D n) (hO : ¬ F.O D) (hA : D ∉ α) (on : n.on) (hf : F.M0 D ∨ F.H0 D = none) (hp : ∀ p ∈ F.pin, F.O p.1) (hx : ∃ u, H D = some u) :
    Rel G F (α ++ [D]) ⟨ρ.sl, ρ.mu ++ [n]⟩ σ H ∧ Rep G (wd F (α ++ [D]) (ρ.mu ++ [n])) H (.ref D) (.ref ρ.mu.length) := by
  have al : α.length = ρ.mu.length := r.alen
  have split : ∀ (i : Nat) (m : Node) (a : Addr), (ρ.mu ++ [n])[i]? = some m → (α ++ [D])[i]? = some a → (ρ.mu[i]? = some m ∧ α[i]? = some a) ∨ (i = ρ.mu.length ∧ m = n ∧ a = D) := fun i m a e ea => by
    by_cases h : i < ρ.mu.length
    · rw [List.getElem?_append_left h] at e
      rw [List.getElem?_append_left (by omega)] at ea
      exact .inl ⟨e, ea⟩
    · rw [List.getElem?_append_right (by omega)] at e
      rw [List.getElem?_append_right (by omega)] at ea
      have h1 : i - ρ.mu.length = 0 := by
        cases q : i - ρ.mu.length with
        | zero => rfl
        | succ j => rw [q] at e; simp at e
      rw [h1] at e
      rw [show i - α.length = 0 by omega] at ea
      cases e; cases ea
      exact .inr ⟨by omega, rfl, rfl⟩
  have on2 : ∀ a, onA (α ++ [D]) (ρ.mu ++ [n]) a → onA α ρ.mu a ∨ a = D := fun a ⟨i, m, h1, h2, h3⟩ => by
    rcases split i m a h1 h3 with ⟨q1, q2⟩ | ⟨_, _, q⟩
    · exact .inl ⟨i, m, q1, h2, q2⟩
    · exact .inr q
  have k : Keep (wd (F.add D) α ρ.mu) H (wd F (α ++ [D]) (ρ.mu ++ [n])) H := Keep.less (fun a ha => by
    rcases ha with ha | ha
    · exact .inl (.inl ha)
    · rcases on2 a ha with q | q
      · exact .inr q
      · exact .inl (.inr q)) fun i a h => by
        show (α ++ [D])[i]? = some a
        have : i < α.length := (List.getElem?_eq_some_iff.mp h).1
        rw [List.getElem?_append_left this]
        exact h
  refine ⟨⟨r.len, fun i t e => let ⟨x, h1, h2⟩ := r.slot i t e; ⟨x, h1, h2.stab k⟩, by simp [al], fun i m a e ea => ?_, fun a ha z => ?_, ?_, ?_, r.frame, fun a ha => ?_, r.tabs, fun a ha => ?_, fun a ha => r.exs a (.inl ha), fun p q => (r.tmp p q).stab k, r.pinP, fun p q => ⟨(r.pin p q).1, hp p q, (r.pin p q).2.2⟩⟩, .ref ?_⟩
  · rcases split i m a e ea with ⟨q1, q2⟩ | ⟨_, q1, q2⟩
    · exact (r.node i m a q1 q2).stab k fun u q _ => q
    · rw [q1, q2]; exact hD.stab k fun u q _ => q
  · rcases List.mem_append.mp ha with q | q
    · exact r.apart a q (.inl z)
    · rw [List.mem_singleton] at q; exact hO (by rw [← q]; exact z)
  · rw [List.nodup_append]
    exact ⟨r.inj, by simp, fun a ha b hb => fun z => hA (by rw [List.mem_singleton] at hb; rw [← hb, ← z]; exact ha)⟩
  · exact r.al.trans (List.prefix_append ..)
  · rcases on2 a ha with q | q
    · exact r.ownf a q
    · rw [q]; exact hf
  · rcases List.mem_append.mp ha with q | q
    · exact r.there a q
    · rw [List.mem_singleton] at q; rw [q]; exact hx
  · show (α ++ [D])[ρ.mu.length]? = some D
    rw [← al, List.getElem?_append_right (Nat.le_refl _)]
    simp
/-- a thing is changed -/
theorem Rel.put (r : Rel G F α ρ σ H) {i : Nat} {n m : Node} {o u : HO} (hi : ρ.mu[i]? = some n) (hD : α[i]? = some D) (on : n.on) (hu : H D = some u) (pu : Plain u) (hok : NodeOk G (wd F α ρ.mu) (upd H D o) D m) : Rel G F α ⟨ρ.sl, ρ.mu.set i m⟩ σ (upd H D o) := by
  have ex : (wd F α ρ.mu).E D := .inr ⟨i, n, hi, on, hD⟩
  have k1 : Keep (wd F α ρ.mu) H (wd F α ρ.mu) (upd H D o) := Keep.mut ex
  have lt : i < ρ.mu.length := (List.getElem?_eq_some_iff.mp hi).1
  have at' : ∀ (j : Nat) (x : Node), (ρ.mu.set i m)[j]? = some x → (j = i ∧ x = m) ∨ (j ≠ i ∧ ρ.mu[j]? = some x) := fun j x e => by
    by_cases z : i = j
    · subst z; rw [List.getElem?_set_self lt] at e; cases e; exact .inl ⟨rfl, rfl⟩
    · rw [List.getElem?_set_ne z] at e; exact .inr ⟨fun y => z y.symm, e⟩
  have ona : ∀ a, onA α (ρ.mu.set i m) a → onA α ρ.mu a := fun a ⟨j, x, h1, h2, h3⟩ => by
    rcases at' j x h1 with ⟨q1, q2⟩ | ⟨q1, q2⟩
    · rw [q1] at h3; exact ⟨i, n, hi, on, h3⟩
    · exact ⟨j, x, q2, h2, h3⟩
  have k2 : Keep (wd F α ρ.mu) (upd H D o) (wd F α (ρ.mu.set i m)) (upd H D o) := Keep.less (fun a ha => ha.imp id (ona a)) fun _ _ h => h
  have k := k1.trans k2
  have nt := r.ntab hu pu
  have here : ∀ a, (∃ w, H a = some w) → ∃ w, upd H D o a = some w := fun a h => by
    by_cases z : a = D
    · rw [z]; exact ⟨o, upd_same⟩
    · rw [upd_ne z]; exact h
  refine ⟨r.len, fun i t e => let ⟨x, h1, h2⟩ := r.slot i t e; ⟨x, h1, h2.stab k⟩, by rw [List.length_set]; exact r.alen, fun j x a e ea => ?_, r.apart, r.inj, r.al, fun a w e mm => ?_, fun a ha => r.ownf a (ona a ha), fun P hP => let ⟨ps, h1, h2⟩ := r.tabs P hP; ⟨ps, by rw [upd_ne (nt P hP)]; exact h1, h2⟩, fun a ha => here a (r.there a ha), fun a ha => here a (r.exs a ha), fun p q => (r.tmp p q).stab k, r.pinP, fun p q => ⟨?_, (r.pin p q).2⟩⟩
  · rcases at' j x e with ⟨q1, q2⟩ | ⟨q1, q2⟩
    · rw [q1, hD] at ea
      cases ea
      rw [q2]
      exact hok.stab k2 fun u q _ => q
    · have na : a ≠ D := fun z => by
        exact q1 ((List.getElem?_inj (List.getElem?_eq_some_iff.mp ea).1 r.inj).mp (by rw [ea, hD, z]))
      exact (r.node j x a q2 ea).stab k fun u q _ => by rw [upd_ne na]; exact q
  · have nD : a ≠ D := fun z => by
      rcases r.ownf D ⟨i, n, hi, on, hD⟩ with q | q
      · exact mm (by rw [z]; exact q)
      · rw [z, q] at e; cases e
    rw [upd_ne nD]
    exact r.frame a w e mm
  · have : p.1 ≠ D := fun z => r.apart D (List.mem_of_getElem? hD) (by rw [← z]; exact (r.pin p q).2.1)
    rw [upd_ne this]
    exact (r.pin p q).1
end
end Tr
namespace Tr
open PySem L2 GxR Gx
section
variable {G : GG} {F : Fr} {α : List Addr} {ρ ρ' : Env} {σ σ' : L2.St} {H H' : Hp} {D : Addr}
/-! ### slots forgotten and set -/
def wipeL (l : List (Option T)) : List Nat → List (Option T)
  | [] => l
  | v :: vs => (wipeL l vs).set v none
def wipeE (ρ : Env) (vs : List Nat) : Env := ⟨wipeL ρ.sl vs, ρ.mu⟩
theorem wipeL_length (l : List (Option T)) : ∀ vs : List Nat, (wipeL l vs).length = l.length
  | [] => rfl
  | v :: vs => by unfold wipeL; rw [List.length_set, wipeL_length l vs]
theorem wipeL_get {l : List (Option T)} {i : Nat} {t : T} : ∀ {vs : List Nat}, (wipeL l vs)[i]? = some (some t) → l[i]? = some (some t) ∧ i ∉ vs
  | [], h => ⟨h, by simp⟩
  | v :: vs, h => by
    unfold wipeL at h
    by_cases hi : v = i
    · subst hi
      by_cases hv : v < (wipeL l vs).length
      · rw [List.getElem?_set_self hv] at h; cases h
      · rw [List.getElem?_eq_none (by simpa using hv)] at h; cases h
    · rw [List.getElem?_set_ne hi] at h
      obtain ⟨h1, h2⟩ := wipeL_get h
      exact ⟨h1, by simp only [List.mem_cons, not_or]; exact ⟨fun e => hi e.symm, h2⟩⟩
theorem wipe_keep {σ : L2.St} {i : Nat} : ∀ {vs : List Nat}, i ∉ vs → (wipe σ vs)[i]? = σ[i]?
  | [], _ => rfl
  | v :: vs, h => by
    unfold wipe
    rw [List.getElem?_set_ne (fun e => h (by rw [e]; exact List.mem_cons_self ..)), wipe_keep fun m => h (List.mem_cons_of_mem _ m)]
/-- other slots, other values: what matters is kept -/
theorem Rel.slots (r : Rel G F α ρ σ H) {sl' : List (Option T)} (hl : σ'.length = sl'.length) (hs : ∀ (i : Nat) (t : T), sl'[i]? = some (some t) → ρ.sl[i]? = some (some t) ∧ σ'[i]? = σ[i]?) : Rel G F α ⟨sl', ρ.mu⟩ σ' H :=
  ⟨hl, fun i t e => let ⟨h1, h2⟩ := hs i t e; let ⟨x, h3, h4⟩ := r.slot i t h1; ⟨x, by rw [h2]; exact h3, h4⟩, r.alen, r.node, r.apart, r.inj, r.al, r.frame, r.ownf, r.tabs, r.there, r.exs, r.tmp, r.pinP, r.pin⟩
theorem Rel.wiped (r : Rel G F α ρ σ H) (vs : List Nat) : Rel G F α (wipeE ρ vs) (wipe σ vs) H := r.slots (by rw [wipe_length, wipeL_length]; exact r.len) fun i t e => let ⟨h1, h2⟩ := wipeL_get e; ⟨h1, wipe_keep h2⟩
/-- back from a block -/
theorem Rel.unwiped {vs : List Nat} (r : Rel G F α ρ (wipe σ vs) H) : Rel G F α (wipeE ρ vs) σ H :=
  r.slots (by rw [wipeL_length, ← r.len, wipe_length]) fun i t e => let ⟨h1, h2⟩ := wipeL_get e; ⟨h1, (wipe_keep h2).symm⟩
theorem Rel.rewiped {vs : List Nat} (r : Rel G F α ρ σ' H) (hw : wipe σ' vs = wipe σ vs) : Rel G F α (wipeE ρ vs) (wipe σ vs) H := by
  rw [← hw]; exact r.wiped vs
theorem Rel.toOuter {σ2 : L2.St} {vs : List Nat} (r : Rel G F α ρ σ2 H) (hout : ∀ i, i ∉ vs → σ2[i]? = (wipe σ vs)[i]?) (hl : σ2.length = (wipe σ vs).length) : Rel G F α (wipeE ρ vs) σ H :=
  r.slots (by rw [wipeL_length, ← r.len, hl, wipe_length]) fun i t e => let ⟨h1, h2⟩ := wipeL_get e; ⟨h1, by rw [hout i h2, wipe_keep h2]⟩
def Env.put (ρ : Env) (i : Nat) (t : T) : Env := ⟨ρ.sl.set i (some t), ρ.mu⟩
theorem Rel.set (r : Rel G F α ρ σ H) {i : Nat} {v : V} {t : T} (hi : i < ρ.sl.length) (hv : Rep G (wd F α ρ.mu) H v t) : Rel G F α (ρ.put i t) (σ.set i (some v)) H := by
  have hiσ : i < σ.length := by rw [r.len]; exact hi
  refine ⟨by rw [List.length_set]; exact r.len.trans (List.length_set ..).symm, fun j s e => ?_, r.alen, r.node, r.apart, r.inj, r.al, r.frame, r.ownf, r.tabs, r.there, r.exs, r.tmp, r.pinP, r.pin⟩
  have e : (ρ.sl.set i (some t))[j]? = some (some s) := e
  by_cases e0 : i = j
  · subst e0
    rw [List.getElem?_set_self hi] at e
    cases e
    exact ⟨v, List.getElem?_set_self hiσ, hv⟩
  · rw [List.getElem?_set_ne e0] at e ⊢
    exact r.slot j s e
/-- values that are held together -/
theorem Rel.holds (r : Rel G F α ρ σ H) {ps : List (V × T)} (h : ∀ p ∈ ps, Rep G (wd F α ρ.mu) H p.1 p.2) : Rel G { F with tmp := ps ++ F.tmp } α ρ σ H :=
  { r with tmp := fun p hp => (List.mem_append.mp hp).elim (h p) (r.tmp p) }
theorem Rel.unholds {ps : List (V × T)} (r : Rel G { F with tmp := ps ++ F.tmp } α ρ σ H) : Rel G F α ρ σ H := { r with tmp := fun p hp => r.tmp p (List.mem_append_right _ hp) }
theorem zip_reps {w : Wd} {H : Hp} : ∀ {vs : List V} {ts : List T}, Reps G w H vs ts → ∀ p ∈ vs.zip ts, Rep G w H p.1 p.2
  | _, _, .nil, p, hp => by simp at hp
  | _, _, .cons r rs, p, hp => by
    rw [List.zip_cons_cons] at hp
    rcases List.mem_cons.mp hp with e | hp
    · rw [e]; exact r
    · exact zip_reps rs p hp
theorem reps_zip {w w' : Wd} {H H' : Hp} : ∀ {vs : List V} {ts : List T}, Reps G w H vs ts → (∀ p ∈ vs.zip ts, Rep G w' H' p.1 p.2) → Reps G w' H' vs ts
  | _, _, .nil, _ => .nil
  | _, _, .cons r rs, h => .cons (h _ (by rw [List.zip_cons_cons]; exact List.mem_cons_self ..)) (reps_zip rs fun p hp => h p (by rw [List.zip_cons_cons]; exact List.mem_cons_of_mem _ hp))
end

/-! ### targets -/
abbrev FG := T → Env → R Env
abbrev FGs := List T → Env → R Env
def SatG (G : GG) (W : WX) (F : Fr) (σ : L2.St) : R Env → (L2.St → Hp → Prop) → Prop
  | .ok ρ', Q => ∀ α σ' H', Rel G F α ρ' σ' H' → Q σ' H'
  | .exc x ρ', _ => False
  | .stk, _ => False
/-- no exception leaves -/
def W0 : WX := fun _ _ _ _ => False
abbrev Only (σ : L2.St) (vs : List Nat) (Q : L2.St → Hp → Prop) : L2.St → Hp → Prop := fun σ' H' => (∀ i, i ∉ vs → σ'[i]? = σ[i]?) → σ'.length = σ.length → Q σ' H'
/-- vs: the slots that are set -/
def PGf (G : GG) (X : Cx) (W : WX) (tg : Expr) (vs : List Nat) (f : FG) : Prop := ∃ t, PG X tg t ∧ ∀ F α ρ σ H v p (Q : L2.St → Hp → Prop), Rel G F α ρ σ H → Rep G (wd F α ρ.mu) H v p →
  SatG G W F σ (f p ρ) (Only σ vs Q) → t v σ H Q
def PGsf (G : GG) (X : Cx) (W : WX) (tgs : List Expr) (vs : List Nat) (f : FGs) : Prop := ∃ t, PGs X tgs t ∧ ∀ F α ρ σ H xs ps (Q : L2.St → Hp → Prop), Rel G F α ρ σ H → Reps G (wd F α ρ.mu) H xs ps →
  SatG G W F σ (f ps ρ) (Only σ vs Q) → t xs σ H Q
def fSet (i : Nat) : FG := fun p ρ => if i < ρ.sl.length then .ok (ρ.put i p) else .stk
def fGNil : FGs := fun ps ρ => match ps with
  | [] => .ok ρ
  | _ => .stk
def fGCons (g : FG) (gs : FGs) : FGs := fun ps ρ => match ps with
  | p :: ps => (g p ρ).bind fun ρ1 => gs ps ρ1
  | [] => .stk
def fGTup (n : Nat) (gs : FGs) : FG := fun p ρ => match vw ρ.mu p with
  | .tup ts => if ts.length = n then gs ts ρ else .stk
  | .lst ts => if ts.length = n then gs ts ρ else .stk
  | _ => .stk
theorem pg_or {X : Cx} {e : Expr} {t t' : TG} (h : PG X e t) (h' : PG X e t') : PG X e (fun v σ H Q => t v σ H Q ∨ t' v σ H Q) := ⟨fun pins s σ H v u Q I r hw => hw.elim (h.run pins s σ H v u Q I r) (h'.run pins s σ H v u Q I r)⟩
theorem satG_bind {G : GG} {β : Type} {F : Fr} {W : WX} {σ : L2.St} {f : R Env} {k : Env → R β} {Sa : R β → Prop} {Q' : L2.St → Hp → Prop} (hx : ∀ x ρ, ¬ Sa (.exc x ρ)) (hs : ¬ Sa .stk) (h : Sa (f.bind k)) (hk : ∀ ρ1, f = .ok ρ1 → ∀ α σ' H', Rel G F α ρ1 σ' H' → Sa (k ρ1) → Q' σ' H') : SatG G W F σ f Q' := by
  cases f with
  | ok ρ1 => exact fun α σ' H' r => hk ρ1 rfl α σ' H' r h
  | exc x ρ => exact (hx x ρ h).elim
  | stk => exact (hs h).elim
section
variable {G : GG} {X : Cx} {W : WX}
theorem pgf_name {i : Nat} {tg : Expr} (h : PG X tg (gName i)) : PGf G X W tg [i] (fSet i) := by
  refine ⟨_, h, fun F α ρ σ H v p Q r rv s => ?_⟩
  unfold fSet at s
  split at s
  · rename_i hi
    exact s α _ H (r.set hi rv) (fun j hj => List.getElem?_set_ne fun e => hj (by rw [e]; simp)) (List.length_set ..)
  · exact s.elim
theorem pgsf_nil : PGsf G X W [] [] fGNil := ⟨_, pgs_nil, fun F α ρ σ H xs ps Q r rv s => by
  unfold fGNil at s
  cases rv with
  | nil => exact ⟨rfl, s α σ H r (fun _ _ => rfl) rfl⟩
  | cons _ _ => exact s.elim⟩
theorem pgsf_cons {e : Expr} {es : List Expr} {g : FG} {gs : FGs} {vs us : List Nat} (h : PGf G X W e vs g) (hs : PGsf G X W es us gs) (hl : (assignEach (e :: es) X.env).map (·.2) = assign e X.env :: (assignEach es X.env).map (·.2) := by rfl) : PGsf G X W (e :: es) (vs ++ us) (fGCons g gs) := by
  obtain ⟨t, p, q⟩ := h
  obtain ⟨u, ps', qs⟩ := hs
  refine ⟨_, pgs_cons p ps' hl, fun F α ρ σ H xs ps Q r rv s => ?_⟩
  cases rv with
  | nil => exact s.elim
  | @cons v t vs' ts r1 r2 =>
    refine ⟨v, vs', rfl, q { F with tmp := vs'.zip ts ++ F.tmp } α ρ σ H v t _ (r.holds (zip_reps r2)) r1 (satG_bind (Sa := fun x => SatG G W F σ x _) (fun _ _ h => h) (fun h => h) s fun ρ1 e1 α1 σ1 H1 rl s1 h1 h2 => ?_)⟩
    have q2 : Reps G (wd F α1 ρ1.mu) H1 vs' ts := reps_zip r2 fun p hp => rl.tmp p (List.mem_append_left _ hp)
    refine qs F α1 ρ1 σ1 H1 vs' ts Q rl.unholds q2 ?_
    have s1 : SatG G W F σ (gs ts ρ1) (Only σ (vs ++ us) Q) := s1
    cases hg : gs ts ρ1 with
    | ok ρ2 =>
      rw [hg] at s1
      exact fun α2 σ2 H2 r2 h3 h4 => s1 α2 σ2 H2 r2 (fun i hi => by rw [h3 i fun m => hi (List.mem_append_right _ m), h1 i fun m => hi (List.mem_append_left _ m)]) (h4.trans h2)
    | exc x ρ2 => rw [hg] at s1; exact s1.elim
    | stk => rw [hg] at s1; exact s1.elim
theorem pgf_tup {es : List Expr} {k n : Nat} {pos : Pos} {gs : FGs} {vs : List Nat} (hK : G.K = X.K) (hc : X.calm = true) (h : PGsf G X W es vs gs)
    (hn : (assignEach es X.env).length = n := by rfl) (hst : (assignEach es X.env).findIdx? (·.1) = none := by rfl) : PGf G X W (.Tuple es k pos) vs (fGTup n gs) := by
  obtain ⟨t, p, q⟩ := h
  refine ⟨_, pg_or (pg_tup hc p hn hst) (pg_unl hc p hn hst), fun F α ρ σ H v p Q r rv s => ?_⟩
  unfold fGTup at s
  have rw' := r.vw rv
  generalize vw ρ.mu p = u at s rw'
  split at s
  · split at s
    · rename_i ts hl
      obtain ⟨_, a, xs, rfl, h1, h2, _⟩ := rv_tup rw'
      exact .inl ⟨a, xs, rfl, by rw [← hK]; exact h1, by rw [h2.length]; exact hl, q F α ρ σ H xs ts Q r h2 s⟩
    · exact s.elim
  · split at s
    · rename_i ts hl
      obtain ⟨a, xs, rfl, h1, h2⟩ := rv_lst rw'
      exact .inr ⟨a, xs, rfl, by rw [← hK]; exact h1, by rw [h2.length]; exact hl, q F α ρ σ H xs ts Q r h2 s⟩
    · exact s.elim
  · exact s.elim

/-! ### what is walked: the things, what is walked, its look -/
structure Wk where
  ts : List T
  t0 : T
  u : T
abbrev FI := Env → R (Wk × Env)
def JOk (G : GG) (J : It) (ts : List T) (v0 : V) (u : T) : Prop := ∀ (w : Wd) (H : Hp), Wf G w H → RV G w H v0 u → ∀ i : Nat,
  (ts.length ≤ i → J.stop i H) ∧ ∀ t, ts[i]? = some t → J.go i H ∧ ∀ x H2, J.yld i H x H2 → HExt G H H2 ∧ Rep G w H2 x t
def SatI (G : GG) (W : WX) (F : Fr) (σ : L2.St) : R (Wk × Env) → (It → Hp → Prop) → Prop
  | .ok (k, ρ'), Rr => ∀ J α H' v0, Rel G F α ρ' σ H' → Rep G (wd F α ρ'.mu) H' v0 k.t0 → vw ρ'.mu k.t0 = k.u → JOk G J k.ts v0 k.u → Rr J H'
  | .exc x ρ', _ => SatX G W F σ x ρ'
  | .stk, _ => False
def PIf (G : GG) (X : Cx) (W : WX) (tg iter : Expr) (f : FI) : Prop := ∃ wi, PI X tg iter wi ∧ ∀ F α ρ σ H Rr, Rel G F α ρ σ H → SatI G W F σ (f ρ) Rr → wi σ H Rr
theorem isI {F : Fr} {σ : L2.St} {Rr : It → Hp → Prop} : IsSat G W F σ (fun r => SatI G W F σ r Rr) := ⟨fun _ _ h => h, fun h => h⟩
def fItL (fa : FE) : FI := fun ρ => (fa ρ).bind fun p => match vw p.2.mu p.1 with
  | .lst ts => .ok (⟨ts, p.1, .lst ts⟩, p.2)
  | _ => .stk
def fItT (fa : FE) : FI := fun ρ => (fa ρ).bind fun p => match vw p.2.mu p.1 with
  | .tup ts => .ok (⟨ts, p.1, .tup ts⟩, p.2)
  | _ => .stk
def fItS (fa : FE) : FI := fun ρ => (fa ρ).bind fun p => match p.1 with
  | .str s => .ok (⟨s.map fun c => T.str [c], .non, .non⟩, p.2)
  | _ => .stk
def fRange1 (fas : FA) : FI := fun ρ => (fas ρ).bind fun p => match p.1 with
  | [.int j] => if -(2 ^ 62) ≤ j ∧ j < 2 ^ 62 then .ok (⟨(List.range j.toNat).map fun (k : Nat) => T.int ((0 : Int) + (k : Int)), .non, .non⟩, p.2) else .stk
  | _ => .stk
def fRange2 (fas : FA) : FI := fun ρ => (fas ρ).bind fun p => match p.1 with
  | [.int i, .int j] => if -(2 ^ 62) ≤ i ∧ i < 2 ^ 62 ∧ -(2 ^ 62) ≤ j ∧ j < 2 ^ 62 then .ok (⟨(List.range (j - i).toNat).map fun (k : Nat) => T.int (i + (k : Int)), .non, .non⟩, p.2) else .stk
  | _ => .stk
theorem jok_list {a : Addr} {ts : List T} (hK : G.K = X.K) : JOk G (Itl X.K a) ts (.ref a) (.lst ts) := fun w H wf r i => by
  obtain ⟨b, vs, e, h1, h2⟩ := rv_lst r
  cases e
  rw [hK] at h1
  refine ⟨fun hi => ⟨vs, h1, by rw [h2.length]; exact hi⟩, fun t ht => ?_⟩
  obtain ⟨v, h3, h4⟩ := h2.get ht
  refine ⟨⟨vs, v, h1, h3⟩, fun x H2 ⟨e1, e2⟩ => ?_⟩
  subst e1
  have h5 := e2 vs h1
  rw [h3] at h5
  cases h5
  exact ⟨HExt.refl wf.tabs, h4⟩
theorem jok_tup {a : Addr} {ts : List T} (hK : G.K = X.K) : JOk G (Itt X.K a) ts (.ref a) (.tup ts) := fun w H wf r i => by
  obtain ⟨_, b, vs, e, h1, h2, _⟩ := rv_tup r
  cases e
  rw [hK] at h1
  refine ⟨fun hi => ⟨vs, h1, by rw [h2.length]; exact hi⟩, fun t ht => ?_⟩
  obtain ⟨v, h3, h4⟩ := h2.get ht
  refine ⟨⟨vs, v, h1, h3⟩, fun x H2 ⟨e1, e2⟩ => ?_⟩
  subst e1
  have h5 := e2 vs h1
  rw [h3] at h5
  cases h5
  exact ⟨HExt.refl wf.tabs, h4⟩
theorem jok_str {s : List Nat} {v0 : V} {t0 : T} : JOk G (Its (S s)) (s.map fun c => T.str [c]) v0 t0 := fun w H wf r i => by
  refine ⟨fun hi => ?_, fun t ht => ?_⟩
  · show (s.toArray).size ≤ i
    simpa using hi
  · rw [List.getElem?_map] at ht
    cases e : s[i]? with
    | none => rw [e] at ht; cases ht
    | some c =>
      rw [e] at ht
      cases ht
      refine ⟨?_, fun x H2 ⟨e1, c', e2, e3⟩ => ?_⟩
      · show i < (s.toArray).size
        simpa using (List.getElem?_eq_some_iff.mp e).1
      · subst e1 e3
        have e2 : s.toArray[i]? = some c' := e2
        rw [List.getElem?_toArray, e] at e2
        cases e2
        exact ⟨HExt.refl wf.tabs, .str [c]⟩
theorem jok_range {lo : Int} {n : Nat} {v0 : V} {t0 : T} : JOk G (Itr lo n) ((List.range n).map fun (k : Nat) => T.int (lo + (k : Int))) v0 t0 := fun w H wf r i => by
  refine ⟨fun hi => ?_, fun t ht => ?_⟩
  · show n ≤ i
    simpa using hi
  · rw [List.getElem?_map] at ht
    cases e : (List.range n)[i]? with
    | none => rw [e] at ht; cases ht
    | some c =>
      rw [e] at ht
      cases ht
      obtain ⟨h1, h2⟩ := List.getElem?_eq_some_iff.mp e
      rw [List.getElem_range] at h2
      subst h2
      refine ⟨by show i < n; simpa using h1, fun x H2 ⟨e1, e2⟩ => ?_⟩
      subst e1 e2
      exact ⟨HExt.refl wf.tabs, .int _⟩
variable {tg : Expr}
theorem pif_list {e : Expr} {fa : FE} (hK : G.K = X.K) (ha : PEf G X W e fa) : PIf G X W tg e (fItL fa) := by
  obtain ⟨ta, pa, ha⟩ := ha
  refine ⟨_, pi_list pa, fun F α ρ σ H Rr r s => ha F α ρ σ H _ r (satE_bind (isI (Rr := Rr)) s fun t ρ1 v α1 H1 e0 r1 q1 s1 => ?_)⟩
  dsimp only at s1
  split at s1
  · rename_i ts hu
    have q2 := r1.vw q1
    rw [hu] at q2
    obtain ⟨a, vs, rfl, h1, h2⟩ := rv_lst q2
    exact ⟨a, rfl, ⟨vs, by rw [← hK]; exact h1⟩, s1 _ α1 H1 _ r1 q1 hu (jok_list hK)⟩
  · exact s1.elim
theorem pif_tup {e : Expr} {fa : FE} (hK : G.K = X.K) (ha : PEf G X W e fa) : PIf G X W tg e (fItT fa) := by
  obtain ⟨ta, pa, ha⟩ := ha
  refine ⟨_, pi_tup pa, fun F α ρ σ H Rr r s => ha F α ρ σ H _ r (satE_bind (isI (Rr := Rr)) s fun t ρ1 v α1 H1 e0 r1 q1 s1 => ?_)⟩
  dsimp only at s1
  split at s1
  · rename_i ts hu
    have q2 := r1.vw q1
    rw [hu] at q2
    obtain ⟨_, a, vs, rfl, h1, h2, _⟩ := rv_tup q2
    exact ⟨a, rfl, ⟨vs, by rw [← hK]; exact h1⟩, s1 _ α1 H1 _ r1 q1 hu (jok_tup hK)⟩
  · exact s1.elim
theorem pif_str {e : Expr} {fa : FE} (ha : PEf G X W e fa) : PIf G X W tg e (fItS fa) := by
  obtain ⟨ta, pa, ha⟩ := ha
  refine ⟨_, pi_str pa, fun F α ρ σ H Rr r s => ha F α ρ σ H _ r (satE_bind (isI (Rr := Rr)) s fun t ρ1 v α1 H1 e0 r1 q1 s1 => ?_)⟩
  dsimp only at s1
  split at s1
  · exact ⟨_, rep_str q1, s1 _ α1 H1 .non r1 .non rfl jok_str⟩
  · exact s1.elim
theorem pif_range1 {a : Expr} {fas : FA} {p pos : Pos} (hg : Gl X "range") (hm : X.mg "range" = none) (ha : PAf G X W [a] fas) (hs : starEach [a] X.env = [(false, eval a X.env)] := by rfl) : PIf G X W tg (.Call (.Name "range" p) [a] [] pos) (fRange1 fas) := by
  obtain ⟨ta, pa, ha⟩ := ha
  refine ⟨_, pi_range1 hg hm pa hs, fun F α ρ σ H Rr r s => ha F α ρ σ H _ r (satA_bind (isI (Rr := Rr)) s fun us ρ1 vs α1 H1 e0 r1 q1 s1 => ?_)⟩
  dsimp only at s1
  split at s1
  · split at s1
    · rename_i hj
      obtain ⟨v, rfl, rv⟩ := reps1 q1
      rw [rep_int rv]
      exact ⟨_, rfl, hj.1, hj.2, s1 _ α1 H1 .non r1 .non rfl jok_range⟩
    · exact s1.elim
  · exact s1.elim
theorem pif_range2 {a b : Expr} {fas : FA} {p pos : Pos} (hg : Gl X "range") (hm : X.mg "range" = none) (ha : PAf G X W [a, b] fas) (hs : starEach [a, b] X.env = [(false, eval a X.env), (false, eval b X.env)] := by rfl) (hs2 : starEach [b] X.env = [(false, eval b X.env)] := by rfl) : PIf G X W tg (.Call (.Name "range" p) [a, b] [] pos) (fRange2 fas) := by
  obtain ⟨ta, pa, ha⟩ := ha
  refine ⟨_, pi_range2 hg hm pa hs hs2, fun F α ρ σ H Rr r s => ha F α ρ σ H _ r (satA_bind (isI (Rr := Rr)) s fun us ρ1 vs α1 H1 e0 r1 q1 s1 => ?_)⟩
  dsimp only at s1
  split at s1
  · split at s1
    · rename_i hj
      cases q1 with
      | cons r1' q1 =>
        obtain ⟨v, rfl, rv⟩ := reps1 q1
        rw [rep_int rv, rep_int r1']
        exact ⟨_, _, rfl, hj, s1 _ α1 H1 .non r1 .non rfl jok_range⟩
    · exact s1.elim
  · exact s1.elim
end

/-! ### new lists -/
abbrev FN := Env → R (List T × Env)
/-- a list that nothing else has yet -/
def SatN (G : GG) (W : WX) (F : Fr) (σ : L2.St) : R (List T × Env) → VK → Prop
  | .ok (ts, ρ'), Q => ∀ D vs α H', Rel G (F.add D) α ρ' σ H' → H' D = some (.lst vs) → Reps G (wd (F.add D) α ρ'.mu) H' vs ts → ¬ F.O D → D ∉ α → (F.M0 D ∨ F.H0 D = none) → Q (.ref D) H'
  | .exc x ρ', _ => SatX G W F σ x ρ'
  | .stk, _ => False
def PNf (G : GG) (X : Cx) (W : WX) (e : Expr) (f : FN) : Prop := ∃ t, PE X e t ∧ ∀ F α ρ σ H Q, Rel G F α ρ σ H → (∀ p ∈ F.pin, F.O p.1) → SatN G W F σ (f ρ) Q → t σ H Q
/-- it is never changed -/
def fFrz (f : FN) : FE := fun ρ => (f ρ).bind fun p => .ok (.lst p.1, p.2)
/-- it will be changed -/
def fOwn (f : FN) : FE := fun ρ => (f ρ).bind fun p => .ok (.ref p.2.mu.length, ⟨p.2.sl, p.2.mu ++ [.lst p.1]⟩)
section
variable {G : GG} {X : Cx} {W : WX}
theorem satN_frz {F : Fr} {σ : L2.St} {r : R (List T × Env)} {Q : VK} (hp : ∀ p ∈ F.pin, F.O p.1) (s : SatE G W F σ (r.bind fun p => .ok (.lst p.1, p.2)) Q) : SatN G W F σ r Q := by
  cases r with
  | exc x ρ => exact s
  | stk => exact s
  | ok p =>
    obtain ⟨ts, ρ⟩ := p
    intro D vs α H rl hD hs hO hA hf
    have k : Keep (wd (F.add D) α ρ.mu) H (wd F α ρ.mu) H := Keep.less (fun a ha => ha.imp .inl id) fun _ _ h => h
    refine s _ α H (rl.unadd hp) (.lst (fun z => ?_) (.inl hD) (hs.stab k))
    rcases z with z | ⟨i, n, _, _, h3⟩
    · exact hO z
    · exact hA (List.mem_of_getElem? h3)
theorem satN_own {F : Fr} {σ : L2.St} {r : R (List T × Env)} {Q : VK} (hp : ∀ p ∈ F.pin, F.O p.1) (s : SatE G W F σ (r.bind fun p => .ok (.ref p.2.mu.length, ⟨p.2.sl, p.2.mu ++ [.lst p.1]⟩)) Q) : SatN G W F σ r Q := by
  cases r with
  | exc x ρ => exact s
  | stk => exact s
  | ok p =>
    obtain ⟨ts, ρ⟩ := p
    intro D vs α H rl hD hs hO hA hf
    obtain ⟨r2, q2⟩ := rl.own (n := .lst ts) ⟨vs, hD, hs⟩ hO hA trivial hf hp ⟨_, hD⟩
    exact s _ _ H r2 q2
theorem PNf.frz {e : Expr} {f : FN} (h : PNf G X W e f) : PEf G X W e (fFrz f) := by
  obtain ⟨t, p, q⟩ := h
  exact ⟨t, p, fun F α ρ σ H Q r s => q F α ρ σ H Q r (fun p hp => (r.pin p hp).2.1) (satN_frz (fun p hp => (r.pin p hp).2.1) s)⟩
theorem PNf.own {e : Expr} {f : FN} (h : PNf G X W e f) : PEf G X W e (fOwn f) := by
  obtain ⟨t, p, q⟩ := h
  exact ⟨t, p, fun F α ρ σ H Q r s => q F α ρ σ H Q r (fun p hp => (r.pin p hp).2.1) (satN_own (fun p hp => (r.pin p hp).2.1) s)⟩
theorem isN {F : Fr} {σ : L2.St} {Q : VK} : IsSat G W F σ (fun r => SatN G W F σ r Q) := ⟨fun _ _ h => h, fun h => h⟩
/-- a list that was just laid -/
theorem new_n {F : Fr} {α : List Addr} {ρ : Env} {σ : L2.St} {H : Hp} {ts : List T} {vs : List V} {Q : VK} {D : Addr} (r : Rel G F α ρ σ H) (q : Reps G (wd F α ρ.mu) H vs ts) (s : SatN G W F σ (.ok (ts, ρ)) Q) (hD : H D = none) : Q (.ref D) (upd H D (.lst vs)) := by
  have k : Keep (wd F α ρ.mu) H (wd (F.add D) α ρ.mu) (upd H D (.lst vs)) := ⟨fun a u he e _ => ⟨by rw [upd_ne (ne_of_none e hD)]; exact e, fun z => by
    rcases z with (z | z) | z
    · exact he (.inl z)
    · exact ne_of_none e hD z
    · exact he (.inr z)⟩, fun _ _ h => h⟩
  refine s D vs α _ (r.addNew hD) upd_same (q.stab k) (fun z => ?_) (fun z => ?_) (r.fresh0 hD)
  · obtain ⟨u, e⟩ := r.exs D z; rw [hD] at e; cases e
  · obtain ⟨u, e⟩ := r.there D z; rw [hD] at e; cases e
def fLstN (fas : FA) : FN := fun ρ => (fas ρ).bind fun p => if p.1.length ≤ 16777216 then .ok (p.1, p.2) else .stk
theorem pnf_lst {es : List Expr} {fas : FA} {pos} (hs : PAf G X W es fas) : PNf G X W (.List es pos) (fLstN fas) := by
  obtain ⟨ts, ps, hs⟩ := hs
  refine ⟨_, pe_lst ps, fun F α ρ σ H Q r hp s => hs F α ρ σ H _ r (satA_bind (isN (Q := Q)) s fun us ρ1 vs α1 H1 e0 r1 q1 s1 => ?_)⟩
  dsimp only at s1
  split at s1
  · rename_i hl
    exact ⟨by rw [q1.length]; exact hl, fun p hp => new_n r1 q1 s1 hp⟩
  · exact s1.elim
/-- a call of a built-in whose value is a new list -/
def CallN (G : GG) (X : Cx) (f : Value) (op : List T → Option (List T)) : Prop :=
  ∃ r, CallR X f r ∧ ∀ (w : Wd) (H : Hp) (Q : VK) (vs : List V) (ts c : List T), op ts = some c → Wf G w H → RVs G w H vs ts → (∀ p xs H', HExt G H H' → H' p = none → Reps G w H' xs c → Q (.ref p) (upd H' p (.lst xs))) → r vs H Q
def fCallN (op : List T → Option (List T)) (fas : FA) : FN := fun ρ => (fas ρ).bind fun p => match op (p.1.map (vw p.2.mu)) with
  | some c => .ok (c, p.2)
  | none => .stk
theorem callN_ok {op : List T → Option (List T)} {fas : FA} {ts : TA} {r : List V → Hp → VK → Prop} (hs : ∀ F α ρ σ H Q, Rel G F α ρ σ H → SatA G W F σ (fas ρ) Q → ts σ H Q)
    (hr : ∀ (w : Wd) (H : Hp) (Q : VK) (vs : List V) (ts c : List T), op ts = some c → Wf G w H → RVs G w H vs ts → (∀ p xs H', HExt G H H' → H' p = none → Reps G w H' xs c → Q (.ref p) (upd H' p (.lst xs))) → r vs H Q)
    (F α ρ σ H Q) (rl : Rel G F α ρ σ H) (hp : ∀ p ∈ F.pin, F.O p.1) (s : SatN G W F σ (fCallN op fas ρ) Q) : tCB r ts σ H Q := by
  refine hs F α ρ σ H _ rl (satA_bind (isN (Q := Q)) s fun us ρ1 vs α1 H1 _ r1 q1 s1 => ?_)
  dsimp only at s1
  split at s1
  · rename_i c hc
    exact hr _ H1 Q vs _ c hc r1.wf (r1.vws q1) fun p xs H2 hx hp2 hv => new_n (r1.ext hx) hv s1 hp2
  · exact s1.elim
theorem pnf_callB {op : List T → Option (List T)} {id : String} {x : Str} {e : Expr} {es : List Expr} {fas : FA} {p pos : Pos} (hc : CallN G X (.builtin id) op) (hg : Gl X x) (hm : X.mg x = none) (hv : bootBuiltins x = some (.builtin id)) (hs : PAf G X W (e :: es) fas)
    (hn : x ≠ "__name__" := by decide) (hdb : (x == ("__debug__" : Str)) = false := by decide)
    (he : starEach (e :: es) X.env = (false, eval e X.env) :: starEach es X.env := by rfl) (hpl : (backTo pos (starEach es X.env)).any (·.1) = false := by rfl) : PNf G X W (.Call (.Name x p) (e :: es) [] pos) (fCallN op fas) := by
  obtain ⟨r, hr, ho⟩ := hc
  obtain ⟨ts, ps, hs⟩ := hs
  exact ⟨_, pe_callB hr hg hm hv ps hn hdb he hpl, callN_ok hs ho⟩
theorem pnf_callTy {op : List T → Option (List T)} {id : String} {x : Str} {e : Expr} {es : List Expr} {fas : FA} {p pos : Pos} (hc : CallN G X (.type id) op) (hg : Gl X x) (hm : X.mg x = none) (hv : bootBuiltins x = some (.type id)) (hs : PAf G X W (e :: es) fas)
    (hn : x ≠ "__name__" := by decide) (hdb : (x == ("__debug__" : Str)) = false := by decide)
    (he : starEach (e :: es) X.env = (false, eval e X.env) :: starEach es X.env := by rfl) (hpl : (backTo pos (starEach es X.env)).any (·.1) = false := by rfl) : PNf G X W (.Call (.Name x p) (e :: es) [] pos) (fCallN op fas) := by
  obtain ⟨r, hr, ho⟩ := hc
  obtain ⟨ts, ps, hs⟩ := hs
  exact ⟨_, pe_callTy hr hg hm hv ps hn hdb he hpl, callN_ok hs ho⟩
def listN : List T → Option (List T)
  | [.lst xs] => some xs
  | [.tup xs] => some xs
  | _ => none
theorem calln_list (hK : G.K = X.K) : CallN G X (.type "list") listN := by
  refine ⟨_, call_list_of, fun w H Q vs ts c e wf rs q => ?_⟩
  unfold listN at e
  split at e
  · obtain ⟨v, rfl, r⟩ := rvs1 rs
    cases e
    obtain ⟨p, vs, rfl, h1, h2⟩ := rv_lst r
    rw [hK] at h1
    exact ⟨p, vs, rfl, .inl h1, fun p hp => q p vs H (HExt.refl wf.tabs) hp h2⟩
  · obtain ⟨v, rfl, r⟩ := rvs1 rs
    cases e
    obtain ⟨_, p, vs, rfl, h1, h2, _⟩ := rv_tup r
    rw [hK] at h1
    exact ⟨p, vs, rfl, .inr h1, fun p hp => q p vs H (HExt.refl wf.tabs) hp h2⟩
  · cases e
end
end Tr
namespace Tr
open PySem L2 GxR Gx
/-! ### comprehensions -/
/-- a clause's tests -/
def PTsf (G : GG) (X : Cx) (W : WX) (ifs : List Expr) (f : FB) : Prop := ∃ t, PTs X ifs t ∧ ∀ F α ρ σ H Q, Rel G F α ρ σ H → SatB G W F σ (f ρ) Q → t σ H Q
def fYes : FB := fun ρ => .ok (true, ρ)
def lcLoop (vs : List Nat) (g : FG) (ft : FB) (fe : FE) (t0 u : T) : List T → Env → List T → R (List T × Env)
  | [], ρ, acc => if stays ρ.mu t0 u = true then .ok (acc, ρ) else .stk
  | t :: ts, ρ, acc => if stays ρ.mu t0 u = true then (g t ρ).bind fun ρ1 => (ft ρ1).bind fun b => if b.1 = true then (fe b.2).bind fun p => if acc.length < 16777216 then lcLoop vs g ft fe t0 u ts (wipeE p.2 vs) (acc ++ [p.1]) else .stk
    else lcLoop vs g ft fe t0 u ts (wipeE b.2 vs) acc
    else .stk
def noExc {α : Type} : R α → R α
  | .exc _ _ => .stk
  | r => r
def fLc (vs : List Nat) (fi : FI) (g : FG) (ft : FB) (fe : FE) : FN := fun ρ => (fi ρ).bind fun p => (noExc (lcLoop vs g ft fe p.1.t0 p.1.u p.1.ts (wipeE p.2 vs) [])).bind fun q => .ok (q.1, wipeE q.2 vs)
section
variable {G : GG} {X : Cx} {W : WX}
theorem ptsf_nil : PTsf G X W [] fYes := ⟨_, pts_nil, fun F α ρ σ H Q r s => s α H r⟩
theorem ptsf_one {c : Expr} {f : FB} (h : PTf G X W c f) : PTsf G X W [c] f := let ⟨_, p, q⟩ := h; ⟨_, pts_one p, q⟩
/-- what the loop still has to do -/
def SatL (G : GG) (F : Fr) (σ : L2.St) (D : Addr) (Q : VK) : R (List T × Env) → Prop
  | .ok (ats, ρ') => ∀ α H' acc, H' D = some (.lst acc) → Rel G (F.add D) α ρ' σ H' → Reps G (wd (F.add D) α ρ'.mu) H' acc ats → Q (.ref D) H'
  | .exc _ _ => False
  | .stk => False
/-- the frame within a turn: the new list D stands, what it has is held -/
abbrev FT (F : Fr) (D : Addr) (acc : List V) (ats : List T) (v0 : V) (t0 : T) : Fr :=
  { (F.add D) with tmp := acc.zip ats ++ ((v0, t0) :: F.tmp), pin := (D, .lst acc) :: F.pin }
theorem ft_in {F : Fr} {α : List Addr} {ρ : Env} {σ : L2.St} {H : Hp} {D : Addr} {acc : List V} {ats : List T} {v0 : V} {t0 : T} (r : Rel G ((F.add D).hold v0 t0) α ρ σ H) (hD : H D = some (.lst acc)) (ha : Reps G (wd (F.add D) α ρ.mu) H acc ats)
    (hf : F.M0 D ∨ F.H0 D = none) : Rel G (FT F D acc ats v0 t0) α ρ σ H := by
  have r2 := r.holds (ps := acc.zip ats) (zip_reps ha)
  exact { r2 with
    pinP := fun p hp => (List.mem_cons.mp hp).elim (fun e => by rw [e]; trivial) (r.pinP p)
    pin := fun p hp => (List.mem_cons.mp hp).elim (fun e => by rw [e]; exact ⟨hD, .inr rfl, hf⟩) (r.pin p) }
theorem ft_out {F : Fr} {α : List Addr} {ρ : Env} {σ : L2.St} {H : Hp} {D : Addr} {acc : List V} {ats : List T} {v0 : V} {t0 : T} (r : Rel G (FT F D acc ats v0 t0) α ρ σ H) (hpin : ∀ p ∈ F.pin, F.O p.1) :
    Rel G ((F.add D).hold v0 t0) α ρ σ H ∧ H D = some (.lst acc) ∧ ∀ p ∈ acc.zip ats, Rep G (wd (F.add D) α ρ.mu) H p.1 p.2 := by
  refine ⟨r.less (fun _ h => h) rfl rfl rfl (fun p hp => List.mem_append_right _ hp) (fun p hp => ⟨List.mem_cons_of_mem _ hp, .inl (hpin p hp)⟩), (r.pin _ (List.mem_cons_self ..)).1, fun p hp => r.tmp p (List.mem_append_left _ hp)⟩
theorem isL {F F' : Fr} {σ σL : L2.St} {D : Addr} {Q : VK} : IsSat G W0 F σ (fun r => SatL G F' σL D Q r) := ⟨fun _ _ h => h.elim, fun h => h⟩
theorem wipe_at {σ : L2.St} {i : Nat} : ∀ {vs : List Nat}, (wipe σ vs)[i]? = if i ∈ vs then (if i < σ.length then some none else none) else σ[i]?
  | [] => by simp [wipe]
  | v :: vs => by
    unfold wipe
    by_cases e : v = i
    · subst e
      rw [if_pos (List.mem_cons_self ..)]
      by_cases h : v < σ.length
      · rw [if_pos h, List.getElem?_set_self (by rw [wipe_length]; exact h)]
      · rw [if_neg h, List.getElem?_eq_none]
        rw [List.length_set, wipe_length]
        exact Nat.le_of_not_lt h
    · rw [List.getElem?_set_ne e, wipe_at]
      by_cases h : i ∈ vs
      · rw [if_pos h, if_pos (List.mem_cons_of_mem _ h)]
      · rw [if_neg h, if_neg (fun m => (List.mem_cons.mp m).elim (fun z => e z.symm) h)]
theorem wipe_eq {σ σ2 : L2.St} {vs : List Nat} (h : ∀ i, i ∉ vs → σ2[i]? = (wipe σ vs)[i]?) (hl : σ2.length = (wipe σ vs).length) : wipe σ2 vs = wipe σ vs := by
  refine List.ext_getElem? fun i => ?_
  rw [wipe_length] at hl
  rw [wipe_at, wipe_at, hl]
  by_cases m : i ∈ vs
  · rw [if_pos m, if_pos m]
  · rw [if_neg m, if_neg m, h i m, wipe_keep m]
theorem lc_ok {vs : List Nat} {wi : TI} {g : TG} {tt : TT} {te : TE} {fi : FI} {fg : FG} {ft : FB} {fe : FE}
    (hi : ∀ F α ρ σ H Rr, Rel G F α ρ σ H → SatI G W F σ (fi ρ) Rr → wi σ H Rr)
    (hg : ∀ F α ρ σ H v p (Q : L2.St → Hp → Prop), Rel G F α ρ σ H → Rep G (wd F α ρ.mu) H v p → SatG G W0 F σ (fg p ρ) (Only σ vs Q) → g v σ H Q)
    (ht : ∀ F α ρ σ H Q, Rel G F α ρ σ H → SatB G W0 F σ (ft ρ) Q → tt σ H Q) (he : ∀ F α ρ σ H Q, Rel G F α ρ σ H → SatE G W0 F σ (fe ρ) Q → te σ H Q)
    (F α ρ σ H Q) (r : Rel G F α ρ σ H) (hpinO : ∀ p ∈ F.pin, F.O p.1) (s : SatN G W F σ (fLc vs fi fg ft fe ρ) Q) : tLc wi g tt te vs σ H Q := by
  refine hi F α ρ σ H _ r ?_
  unfold fLc at s
  cases hfi : fi ρ with
  | exc x ρ' => rw [hfi] at s; exact s
  | stk => rw [hfi] at s; exact s
  | ok p =>
    obtain ⟨⟨ts, t0, u⟩, ρ1⟩ := p
    rw [hfi] at s
    intro J α1 H1 v0 r1 q1 hu jok D hD
    have hpinD : ∀ p ∈ F.pin, p.1 ≠ D := fun p hp z => by
      have := (r1.pin p hp).1
      rw [z, hD] at this
      cases this
    have hfD := r1.fresh0 hD
    have sL : SatL G F (wipe σ vs) D Q (lcLoop vs fg ft fe t0 u ts (wipeE ρ1 vs) []) := by
      have s : SatN G W F σ ((noExc (lcLoop vs fg ft fe t0 u ts (wipeE ρ1 vs) [])).bind fun q => .ok (q.1, wipeE q.2 vs)) Q := s
      cases hl : lcLoop vs fg ft fe t0 u ts (wipeE ρ1 vs) [] with
      | exc x ρ' => rw [hl] at s; exact s
      | stk => rw [hl] at s; exact s
      | ok q =>
        obtain ⟨ats, ρ2⟩ := q
        rw [hl] at s
        intro α2 H' acc hD' r2 q2
        refine s D acc α2 H' r2.unwiped hD' q2 (fun z => ?_) (fun z => r2.apart D z (.inr rfl)) hfD
        obtain ⟨x, e⟩ := r1.exs D z
        rw [hD] at e
        cases e
    have start : Rel G ((F.add D).hold v0 t0) α1 (wipeE ρ1 vs) (wipe σ vs) (upd H1 D (.lst [])) := ((r1.hold q1).addNew hD).wiped vs
    refine ⟨fun i m H => i ≤ ts.length ∧ m = ts.length - i ∧ ∃ αc ρc ats acc, H D = some (.lst acc) ∧ Rel G ((F.add D).hold v0 t0) αc ρc (wipe σ vs) H ∧ Reps G (wd (F.add D) αc ρc.mu) H acc ats ∧ SatL G F (wipe σ vs) D Q (lcLoop vs fg ft fe t0 u (ts.drop i) ρc ats),
      ⟨ts.length, Nat.zero_le _, rfl, _, _, [], [], upd_same, start, .nil, by rw [List.drop_zero]; exact sL⟩, ?_⟩
    rintro i m H ⟨hile, rfl, αc, ρc, ats, acc, hDacc, rc, qa, sl⟩
    have st : stays ρc.mu t0 u = true := by
      cases e : stays ρc.mu t0 u with
      | true => rfl
      | false =>
        exfalso
        cases hd : ts.drop i with
        | nil => rw [hd] at sl; unfold lcLoop at sl; rw [e] at sl; exact sl
        | cons x xs => rw [hd] at sl; unfold lcLoop at sl; rw [e] at sl; exact sl
    have jk := jok _ H rc.unhold.wf (by rw [← stays_eq hu st]; exact rc.unhold.vw rc.held) i
    by_cases hlt : i < ts.length
    · have ed : ts.drop i = ts[i] :: ts.drop (i + 1) := List.drop_eq_getElem_cons hlt
      rw [ed] at sl
      unfold lcLoop at sl
      rw [if_pos st] at sl
      have hti : ts[i]? = some ts[i] := List.getElem?_eq_getElem hlt
      obtain ⟨go, yl⟩ := jk.2 _ hti
      refine .inr ⟨go, fun H' => ∃ αc ρc ats acc, H' D = some (.lst acc) ∧ Rel G ((F.add D).hold v0 t0) αc ρc (wipe σ vs) H' ∧ Reps G (wd (F.add D) αc ρc.mu) H' acc ats ∧ SatL G F (wipe σ vs) D Q (lcLoop vs fg ft fe t0 u (ts.drop (i + 1)) ρc ats),
        fun H' h => ⟨ts.length - (i + 1), by omega, hlt, rfl, h⟩, fun x H' hy => ?_⟩
      obtain ⟨hx, rx⟩ := yl x H' hy
      have rc2 := rc.ext hx
      have hD2 : H' D = some (.lst acc) := (hx.keep _ _ hDacc).1 trivial
      have qa2 : Reps G (wd (F.add D) αc ρc.mu) H' acc ats := qa.stab hx.keepE
      have rT := ft_in rc2 hD2 qa2 hfD
      refine hg (FT F D acc ats v0 t0) αc ρc (wipe σ vs) H' x ts[i] _ rT rx (satG_bind (Sa := fun r => SatL G F (wipe σ vs) D Q r) (fun _ _ h => h) (fun h => h) sl fun ρd ed αd σ2 H2 rd sd hout hlen => ?_)
      have hw := wipe_eq hout hlen
      refine ⟨hw, ht (FT F D acc ats v0 t0) αd ρd σ2 H2 _ rd (satB_bind (Sa := fun r => SatL G F (wipe σ vs) D Q r) isL sd fun b ρe αe H3 eb rb sb => ?_)⟩
      dsimp only at sb
      split at sb
      · rename_i hb
        rw [if_pos hb]
        refine he (FT F D acc ats v0 t0) αe ρe σ2 H3 _ rb (satE_bind (Sa := fun r => SatL G F (wipe σ vs) D Q r) isL sb fun p ρf y αf H4 ep rp qp sp => ?_)
        dsimp only at sp
        split at sp
        · rename_i hacc
          obtain ⟨o1, o2, o3⟩ := ft_out rp hpinO
          have qacc : Reps G (wd (F.add D) αf ρf.mu) H4 acc ats := reps_zip qa2 o3
          have qy : Reps G (wd (F.add D) αf ρf.mu) H4 (acc ++ [y]) (ats ++ [p]) := qacc.append (.cons qp .nil)
          refine ⟨acc, o2, by rw [qa2.length]; exact hacc, αf, wipeE ρf vs, ats ++ [p], acc ++ [y], upd_same, ?_, ?_, sp⟩
          · exact (o1.rewiped hw).mutO (.inr rfl) o2 trivial hfD hpinD
          · have ex : (wd (F.add D) αf ρf.mu).E D := .inl (.inr rfl)
            exact qy.stab (Keep.mut ex)
        · exact sp.elim
      · rename_i hb
        rw [if_neg hb]
        obtain ⟨o1, o2, o3⟩ := ft_out rb hpinO
        have qacc : Reps G (wd (F.add D) αe ρe.mu) H3 acc ats := reps_zip qa2 o3
        exact ⟨αe, wipeE ρe vs, ats, acc, o2, o1.rewiped hw, qacc, sb⟩
    · have e : i = ts.length := by omega
      subst e
      rw [List.drop_length] at sl
      unfold lcLoop at sl
      rw [if_pos st] at sl
      exact .inl ⟨jk.1 (Nat.le_refl _), sl αc H acc hDacc rc.unhold qa⟩

/-! ### the readings that stand for such functions, whatever the context -/
def tE (G : GG) (W : WX) (f : FE) : TE := fun σ H Q => ∃ F α ρ, Rel G F α ρ σ H ∧ SatE G W F σ (f ρ) Q
def tB' (G : GG) (W : WX) (f : FB) : TT := fun σ H Q => ∃ F α ρ, Rel G F α ρ σ H ∧ SatB G W F σ (f ρ) Q
def tG' (G : GG) (W : WX) (vs : List Nat) (f : FG) : TG := fun v σ H Q => ∃ F α ρ p, Rel G F α ρ σ H ∧ Rep G (wd F α ρ.mu) H v p ∧ SatG G W F σ (f p ρ) (Only σ vs Q)
theorem PEf.pe {e : Expr} {f : FE} (h : PEf G X W e f) : PE X e (tE G W f) := let ⟨_, p, q⟩ := h; ⟨fun pins s σ H Q I ⟨F, α, ρ, r, sa⟩ => p.run pins s σ H Q I (q F α ρ σ H Q r sa)⟩
theorem PTf.pt {e : Expr} {f : FB} (h : PTf G X W e f) : PT X e (tB' G W f) := let ⟨_, p, q⟩ := h; ⟨fun pins s σ H Q I ⟨F, α, ρ, r, sa⟩ => p.run pins s σ H Q I (q F α ρ σ H Q r sa)⟩
theorem PTsf.pts {ifs : List Expr} {f : FB} (h : PTsf G X W ifs f) : PTs X ifs (tB' G W f) := let ⟨_, p, q⟩ := h; ⟨fun pins s σ H Q I ⟨F, α, ρ, r, sa⟩ => p.run pins s σ H Q I (q F α ρ σ H Q r sa)⟩
theorem PGf.pg {tg : Expr} {vs : List Nat} {f : FG} (h : PGf G X W tg vs f) : PG X tg (tG' G W vs f) := let ⟨_, p, q⟩ := h; ⟨fun pins s σ H v u Q I rv ⟨F, α, ρ, t, r, rp, sa⟩ => p.run pins s σ H v u Q I rv (q F α ρ σ H v t Q r rp sa)⟩
theorem pnf_lc {elt tg iter : Expr} {ifs : List Expr} {scope : Scope} {own : List (Str × Nat)} {pos : Pos} {fi : FI} {fg : FG} {ft : FB} {fe : FE} (hc : X.calm = true) (hN : X.N.Nodup) (hi : PIf G X W tg iter fi) (ok : BlkOk X.N X.env.scope scope own)
    (hg : ∀ (s : Shared) (H : Hp) (C : Addr) (cl : List (Str × Addr)) (fp : List Addr), PGf G (X.blk s H scope (compEnvC scope cl C X.env) fp) W0 tg (own.map (·.2)) fg)
    (ht : ∀ (s : Shared) (H : Hp) (C : Addr) (cl : List (Str × Addr)) (fp : List Addr), PTsf G (X.blk s H scope (compEnvC scope cl C X.env) fp) W0 ifs ft)
    (he : ∀ (s : Shared) (H : Hp) (C : Addr) (cl : List (Str × Addr)) (fp : List Addr), PEf G (X.blk s H scope (compEnvC scope cl C X.env) fp) W0 elt fe)
    (hs : ∀ x, foldedSetIterable iter X.env x = pure x := by intro _; rfl) : PNf G X W (.ListComp elt [⟨tg, iter, ifs, 0⟩] scope pos) (fLc (own.map (·.2)) fi fg ft fe) := by
  obtain ⟨wi, pi, hi⟩ := hi
  exact ⟨_, pe_lc hc hN pi ok (fun s H C cl fp => (hg s H C cl fp).pg) (fun s H C cl fp => (ht s H C cl fp).pts) (fun s H C cl fp => (he s H C cl fp).pe) hs,
    lc_ok hi (fun F α ρ σ H v p Q r rp sa => ⟨F, α, ρ, p, r, rp, sa⟩) (fun F α ρ σ H Q r sa => ⟨F, α, ρ, r, sa⟩) (fun F α ρ σ H Q r sa => ⟨F, α, ρ, r, sa⟩)⟩

/-! ### all, any of a generator expression -/
def aaLoop (stop : Bool) (vs : List Nat) (g : FG) (ft : FB) (fe : FE) (t0 u : T) : List T → Env → R (Bool × Env)
  | [], ρ => if stays ρ.mu t0 u = true then .ok (!stop, ρ) else .stk
  | t :: ts, ρ => if stays ρ.mu t0 u = true then (g t ρ).bind fun ρ1 => (ft ρ1).bind fun b => if b.1 = true then (fe b.2).bind fun p => (match p.1 with
      | .bl c => if c = stop then .ok (stop, p.2) else aaLoop stop vs g ft fe t0 u ts (wipeE p.2 vs)
      | _ => .stk)
    else aaLoop stop vs g ft fe t0 u ts (wipeE b.2 vs)
    else .stk
def fAA (stop : Bool) (vs : List Nat) (fi : FI) (g : FG) (ft : FB) (fe : FE) : FE := fun ρ => (fi ρ).bind fun p => (noExc (aaLoop stop vs g ft fe p.1.t0 p.1.u p.1.ts (wipeE p.2 vs))).bind fun q => .ok (.bl q.1, wipeE q.2 vs)
def SatAA (G : GG) (F : Fr) (σ : L2.St) (vs : List Nat) (Q : VK) : R (Bool × Env) → Prop
  | .ok (b, ρ') => ∀ α H', Rel G F α (wipeE ρ' vs) σ H' → Q (.bl b) H'
  | .exc _ _ => False
  | .stk => False
theorem isAA {F F' : Fr} {σ σL : L2.St} {vs : List Nat} {Q : VK} : IsSat G W0 F σ (fun r => SatAA G F' σL vs Q r) := ⟨fun _ _ h => h.elim, fun h => h⟩
theorem tabbed_ext {P : Addr} {w : Wd} {H0 H1 : Hp} (wf : Wf G w H0) (h : Tabbed P H0 H1) (h0 : TabG H0 P) : HExt G H0 H1 := by
  obtain ⟨h1, h2⟩ := h
  obtain ⟨ps, e0, _⟩ := h0
  obtain ⟨qs, e1, t1⟩ := h1
  refine ⟨fun a u e => ?_, fun P' hP' => ?_⟩
  · by_cases z : a = P
    · subst z
      rw [e0] at e
      cases e
      exact ⟨fun p => p.elim, fun _ _ => ⟨qs, e1⟩⟩
    · rw [h2 a z, e]
      exact Grown.refl
  · by_cases z : P' = P
    · rw [z]; exact ⟨qs, e1, t1⟩
    · obtain ⟨rs, e, t⟩ := wf.tabs P' hP'
      exact ⟨rs, by rw [h2 P' z]; exact e, t⟩
theorem aa_ok {stop : Bool} {P : Addr} {vs : List Nat} {wi : TI} {g : TG} {tt : TT} {te : TE} {fi : FI} {fg : FG} {ft : FB} {fe : FE} (hP : P ∈ G.tabs)
    (hi : ∀ F α ρ σ H Rr, Rel G F α ρ σ H → SatI G W F σ (fi ρ) Rr → wi σ H Rr)
    (hg : ∀ F α ρ σ H v p (Q : L2.St → Hp → Prop), Rel G F α ρ σ H → Rep G (wd F α ρ.mu) H v p → SatG G W0 F σ (fg p ρ) (Only σ vs Q) → g v σ H Q)
    (ht : ∀ F α ρ σ H Q, Rel G F α ρ σ H → SatB G W0 F σ (ft ρ) Q → tt σ H Q) (he : ∀ F α ρ σ H Q, Rel G F α ρ σ H → SatE G W0 F σ (fe ρ) Q → te σ H Q)
    (F α ρ σ H Q) (r : Rel G F α ρ σ H) (s : SatE G W F σ (fAA stop vs fi fg ft fe ρ) Q) : tAA P stop wi g tt te vs σ H Q := by
  refine hi F α ρ σ H _ r ?_
  unfold fAA at s
  cases hfi : fi ρ with
  | exc x ρ' => rw [hfi] at s; exact s
  | stk => rw [hfi] at s; exact s
  | ok p =>
    obtain ⟨⟨ts, t0, u⟩, ρ1⟩ := p
    rw [hfi] at s
    intro J α0 H0 v0 r0 q0 hu jok
    refine ⟨r0.tabs P hP, fun H1 htab => ?_⟩
    have hx0 := tabbed_ext r0.wf htab (r0.tabs P hP)
    have r1 := r0.ext hx0
    have q1 := q0.stab hx0.keepE
    have sL : SatAA G F σ vs Q (aaLoop stop vs fg ft fe t0 u ts (wipeE ρ1 vs)) := by
      have s : SatE G W F σ ((noExc (aaLoop stop vs fg ft fe t0 u ts (wipeE ρ1 vs))).bind fun q => .ok (.bl q.1, wipeE q.2 vs)) Q := s
      cases hl : aaLoop stop vs fg ft fe t0 u ts (wipeE ρ1 vs) with
      | exc x ρ' => rw [hl] at s; exact s
      | stk => rw [hl] at s; exact s
      | ok q =>
        obtain ⟨b, ρ2⟩ := q
        rw [hl] at s
        exact fun α' H' r2 => s _ α' H' r2 (.bl _)
    have start : Rel G (F.hold v0 t0) α0 (wipeE ρ1 vs) (wipe σ vs) H1 := (r1.hold q1).wiped vs
    refine ⟨fun i m H => i ≤ ts.length ∧ m = ts.length - i ∧ ∃ αc ρc, Rel G (F.hold v0 t0) αc ρc (wipe σ vs) H ∧ SatAA G F σ vs Q (aaLoop stop vs fg ft fe t0 u (ts.drop i) ρc),
      ⟨ts.length, Nat.zero_le _, rfl, _, _, start, by rw [List.drop_zero]; exact sL⟩, ?_⟩
    rintro i m H ⟨hile, rfl, αc, ρc, rc, sl⟩
    have st : stays ρc.mu t0 u = true := by
      cases e : stays ρc.mu t0 u with
      | true => rfl
      | false =>
        exfalso
        cases hd : ts.drop i with
        | nil => rw [hd] at sl; unfold aaLoop at sl; rw [e] at sl; exact sl
        | cons x xs => rw [hd] at sl; unfold aaLoop at sl; rw [e] at sl; exact sl
    have jk := jok _ H rc.unhold.wf (by rw [← stays_eq hu st]; exact rc.unhold.vw rc.held) i
    by_cases hlt : i < ts.length
    · have ed : ts.drop i = ts[i] :: ts.drop (i + 1) := List.drop_eq_getElem_cons hlt
      rw [ed] at sl
      unfold aaLoop at sl
      rw [if_pos st] at sl
      have hti : ts[i]? = some ts[i] := List.getElem?_eq_getElem hlt
      obtain ⟨go, yl⟩ := jk.2 _ hti
      refine .inr ⟨go, fun H' => ∃ αc ρc, Rel G (F.hold v0 t0) αc ρc (wipe σ vs) H' ∧ SatAA G F σ vs Q (aaLoop stop vs fg ft fe t0 u (ts.drop (i + 1)) ρc), fun H' h => ⟨ts.length - (i + 1), by omega, hlt, rfl, h⟩, fun x H' hy => ?_⟩
      obtain ⟨hx, rx⟩ := yl x H' hy
      have rc2 := rc.ext hx
      refine hg (F.hold v0 t0) αc ρc (wipe σ vs) H' x ts[i] _ rc2 rx (satG_bind (Sa := fun r => SatAA G F σ vs Q r) (fun _ _ h => h) (fun h => h) sl fun ρd ed αd σ2 H2 rd sd hout hlen => ?_)
      have hw := wipe_eq hout hlen
      refine ⟨hw, ht (F.hold v0 t0) αd ρd σ2 H2 _ rd (satB_bind (Sa := fun r => SatAA G F σ vs Q r) isAA sd fun b ρe αe H3 eb rb sb => ?_)⟩
      dsimp only at sb
      split at sb
      · rename_i hb
        rw [if_pos hb]
        refine he (F.hold v0 t0) αe ρe σ2 H3 _ rb (satE_bind (Sa := fun r => SatAA G F σ vs Q r) isAA sb fun p ρf y αf H4 ep rp qp sp => ?_)
        dsimp only at sp
        split at sp
        · rename_i ec
          refine ⟨ec, rep_bl qp, ?_⟩
          split at sp
          · rename_i hcs
            rw [if_pos hcs]
            exact sp αf H4 (rp.unhold.toOuter hout hlen)
          · rename_i hcs
            rw [if_neg hcs]
            exact ⟨_, _, rp.rewiped hw, sp⟩
        · exact sp.elim
      · rename_i hb
        rw [if_neg hb]
        exact ⟨_, _, rb.rewiped hw, sb⟩
    · have e : i = ts.length := by omega
      subst e
      rw [List.drop_length] at sl
      unfold aaLoop at sl
      rw [if_pos st] at sl
      exact .inl ⟨jk.1 (Nat.le_refl _), sl αc H rc.unhold.unwiped⟩
theorem pef_aa {c P : Addr} {elt tg iter : Expr} {ifs : List Expr} {p pos gpos : Pos} {scope : Scope} {own : List (Str × Nat)} {fi : FI} {fg : FG} {ft : FB} {fe : FE} {x : Str} (stop : Bool)
    (hx : x = if stop then ("any" : Str) else ("all" : Str)) (hP : P ∈ G.tabs) (hr : Room 1 X.A) (hgl : Gl X x) (hm : X.mg x = none) (TB : TabB X.base X.mg c P) (hcode : X.env.code = .ref c) (hc : X.calm = true) (hN : X.N.Nodup) (hi : PIf G X W tg iter fi) (ok : BlkOk X.N X.env.scope scope own)
    (hco : scope.isCoroutine = false) (hcell : ∀ y ∈ scope.names, y.2 ≠ .cell) (h0 : scope.names.lookup (".0" : Str) = some NameKind.local)
    (hg : ∀ s H it cv fp pn, PGf G (Xgen X elt tg iter ifs scope gpos s H it cv fp pn) W0 tg (own.map (·.2)) fg) (ht : ∀ s H it cv fp pn, PTsf G (Xgen X elt tg iter ifs scope gpos s H it cv fp pn) W0 ifs ft) (he : ∀ s H it cv fp pn, PEf G (Xgen X elt tg iter ifs scope gpos s H it cv fp pn) W0 elt fe)
    (hs : ∀ v, genFold iter X.env v = pure v := by intro _; rfl)
    (hst : starEach [.GeneratorExp elt [⟨tg, iter, ifs, 0⟩] scope gpos] X.env = (false, eval (.GeneratorExp elt [⟨tg, iter, ifs, 0⟩] scope gpos) X.env) :: starEach [] X.env := by rfl) :
    PEf G X W (.Call (.Name x p) [.GeneratorExp elt [⟨tg, iter, ifs, 0⟩] scope gpos] [] pos) (fAA stop (own.map (·.2)) fi fg ft fe) := by
  obtain ⟨wi, pi, hi⟩ := hi
  exact ⟨_, pe_aa stop hx hr hgl hm TB hcode hc hN pi ok hco hcell h0 (fun s H it cv fp pn => (hg s H it cv fp pn).pg) (fun s H it cv fp pn => (ht s H it cv fp pn).pts) (fun s H it cv fp pn => (he s H it cv fp pn).pe) hs hst,
    aa_ok hP hi (fun F α ρ σ H v p Q r rp sa => ⟨F, α, ρ, p, r, rp, sa⟩) (fun F α ρ σ H Q r sa => ⟨F, α, ρ, r, sa⟩) (fun F α ρ σ H Q r sa => ⟨F, α, ρ, r, sa⟩)⟩
end
end Tr
namespace Tr
open PySem L2 GxR Gx
/-! ### statements -/
section
variable {G : GG} {X : Cx} {W : WX}
theorem satS_hold {F : Fr} {v : V} {t : T} {r : R Flow} {D : Ends} (s : SatS G W F r D) : SatS G W (F.hold v t) r D := by
  cases r with
  | exc x ρ => exact fun σ => satX_hold (s σ)
  | stk => exact s
  | ok f =>
    cases f with
    | next ρ => exact fun α σ H r => s α σ H r.unhold
    | ret t ρ => exact fun v α σ H r q => s v α σ H r.unhold q
    | brk ρ => exact fun α σ H r => s α σ H r.unhold
    | cnt ρ => exact fun α σ H r => s α σ H r.unhold
def fNext : FS := fun ρ => .ok (.next ρ)
def fSeq (f g : FS) : FS := fun ρ => (f ρ).bind fun fl => match fl with
  | .next ρ' => g ρ'
  | fl => .ok fl
def fIfS (c : FB) (f g : FS) : FS := fun ρ => (c ρ).bind fun b => if b.1 = true then f b.2 else g b.2
def fRet (fa : FE) : FS := fun ρ => (fa ρ).bind fun p => .ok (.ret p.1 p.2)
def fRetN : FS := fun ρ => .ok (.ret .non ρ)
def fBrk : FS := fun ρ => .ok (.brk ρ)
def fCnt : FS := fun ρ => .ok (.cnt ρ)
def fDrop (fa : FE) : FS := fun ρ => (fa ρ).bind fun p => .ok (.next p.2)
def fAsg (i : Nat) (fa : FE) : FS := fun ρ => (fa ρ).bind fun p => if i < p.2.sl.length then .ok (.next (p.2.put i p.1)) else .stk
def fAsgG (g : FG) (fa : FE) : FS := fun ρ => (fa ρ).bind fun p => (noExc (g p.1 p.2)).bind fun ρ1 => .ok (.next ρ1)
def fPar (i j : Nat) (fas : FA) : FS := fun ρ => (fas ρ).bind fun p => match p.1 with
  | [a, b] => if i < p.2.sl.length ∧ j < p.2.sl.length then .ok (.next ((p.2.put i a).put j b)) else .stk
  | _ => .stk
def fAugI (op : Int → Int → Int) (i : Nat) (fa : FE) : FS := fun ρ => match ρ.sl[i]? with
  | some (some (.int a)) => (fa ρ).bind fun p => (match p.1 with
      | .int b => .ok (.next (p.2.put i (.int (op a b))))
      | _ => .stk)
  | _ => .stk
def forLoop (g : FG) (fb : FS) (t0 u : T) : List T → Env → R Flow
  | [], ρ => if stays ρ.mu t0 u = true then .ok (.next ρ) else .stk
  | t :: ts, ρ => if stays ρ.mu t0 u = true then (noExc (g t ρ)).bind fun ρ1 => (fb ρ1).bind fun fl => (match fl with
      | .next ρ2 => forLoop g fb t0 u ts ρ2
      | .cnt ρ2 => forLoop g fb t0 u ts ρ2
      | .brk ρ2 => .ok (.next ρ2)
      | .ret t ρ2 => .ok (.ret t ρ2))
    else .stk
def fFor (fi : FI) (g : FG) (fb : FS) : FS := fun ρ => (fi ρ).bind fun p => forLoop g fb p.1.t0 p.1.u p.1.ts p.2
theorem pss_nilf : PSsf G X W [] fNext := ⟨_, pss_nil, fun F α ρ σ H D r s => s α σ H r⟩
theorem seq_ok {f g : FS} {t u : TS} (hf : ∀ F α ρ σ H D, Rel G F α ρ σ H → SatS G W F (f ρ) D → t D σ H) (hg : ∀ F α ρ σ H D, Rel G F α ρ σ H → SatS G W F (g ρ) D → u D σ H)
    (F α ρ σ H D) (r : Rel G F α ρ σ H) (s : SatS G W F (fSeq f g ρ) D) : tSeq t u D σ H := by
  unfold fSeq at s
  refine hf F α ρ σ H _ r ?_
  cases hfr : f ρ with
  | exc x ρ' => rw [hfr] at s; exact s
  | stk => rw [hfr] at s; exact s
  | ok fl =>
    rw [hfr] at s
    cases fl with
    | next ρ' => exact fun α' σ' H' r' => hg F α' ρ' σ' H' D r' s
    | ret t ρ' => exact s
    | brk ρ' => exact s
    | cnt ρ' => exact s
theorem pss_consf {st : Stmt} {rest : List Stmt} {f g : FS} (h : PSf G X W st f) (hs : PSsf G X W rest g) : PSsf G X W (st :: rest) (fSeq f g) := by
  obtain ⟨t, p, q⟩ := h
  obtain ⟨u, p2, q2⟩ := hs
  exact ⟨_, pss_cons p p2, seq_ok q q2⟩
theorem pss_onef {st : Stmt} {f : FS} (h : PSf G X W st f) : PSsf G X W [st] f := let ⟨t, p, q⟩ := h; ⟨t, pss_one p, q⟩
theorem ps_passf {pos : Pos} : PSf G X W (.Pass pos) fNext := ⟨_, ps_pass, fun F α ρ σ H D r s => s α σ H r⟩
theorem ps_breakf {pos : Pos} : PSf G X W (.Break pos) fBrk := ⟨_, ps_break, fun F α ρ σ H D r s => s α σ H r⟩
theorem ps_contf {pos : Pos} : PSf G X W (.Continue pos) fCnt := ⟨_, ps_continue, fun F α ρ σ H D r s => s α σ H r⟩
theorem ps_docf {x j pos pos'} : PSf G X W (.Expr (.Constant (.str x) j pos) pos') fNext := ⟨_, ps_doc, fun F α ρ σ H D r s => s α σ H r⟩
theorem ps_iff {c : Expr} {a b : List Stmt} {pos : Pos} {fc : FB} {f g : FS} (hc : PTf G X W c fc) (ha : PSsf G X W a f) (hb : PSsf G X W b g) : PSf G X W (.If c a b pos) (fIfS fc f g) := by
  obtain ⟨tc, pc, qc⟩ := hc
  obtain ⟨t, p, q⟩ := ha
  obtain ⟨u, p2, q2⟩ := hb
  refine ⟨_, ps_if pc p p2, fun F α ρ σ H D r s => qc F α ρ σ H _ r (satB_bind (isS (σ := σ) (D := D)) s fun b ρ1 α1 H1 _ r1 s1 => ?_)⟩
  dsimp only at s1
  split at s1
  · rename_i h; rw [if_pos h]; exact q F α1 ρ1 σ H1 D r1 s1
  · rename_i h; rw [if_neg h]; exact q2 F α1 ρ1 σ H1 D r1 s1
theorem ps_retf {e : Expr} {pos : Pos} {fa : FE} (h : PEf G X W e fa) : PSf G X W (.Return (some e) pos) (fRet fa) := by
  obtain ⟨t, p, q⟩ := h
  exact ⟨_, ps_ret p, fun F α ρ σ H D r s => q F α ρ σ H _ r (satE_bind (isS (σ := σ) (D := D)) s fun b ρ1 v α1 H1 _ r1 q1 s1 => s1 v α1 σ H1 r1 q1)⟩
theorem ps_retNf {pos : Pos} : PSf G X W (.Return none pos) fRetN := ⟨_, ps_retN, fun F α ρ σ H D r s => s .non α σ H r .non⟩
theorem ps_exprf {e : Expr} {pos : Pos} {fa : FE} (h : PEf G X W e fa) (hs : swapsWith e none pos.line X.env = pure false := by rfl) : PSf G X W (.Expr e pos) (fDrop fa) := by
  obtain ⟨t, p, q⟩ := h
  exact ⟨_, ps_expr p hs, fun F α ρ σ H D r s => q F α ρ σ H _ r (satE_bind (isS (σ := σ) (D := D)) s fun b ρ1 v α1 H1 _ r1 q1 s1 => s1 α1 σ H1 r1)⟩
theorem satG_noExc {β : Type} {F : Fr} {σ : L2.St} {f : R Env} {k : Env → R β} {Sa : R β → Prop} {Q' : L2.St → Hp → Prop} (hs : ¬ Sa .stk) (h : Sa ((noExc f).bind k)) (hk : ∀ ρ1, f = .ok ρ1 → ∀ α σ' H', Rel G F α ρ1 σ' H' → Sa (k ρ1) → Q' σ' H') : SatG G W F σ f Q' := by
  cases f with
  | ok ρ1 => exact fun α σ' H' r => hk ρ1 rfl α σ' H' r h
  | exc x ρ => exact (hs h).elim
  | stk => exact (hs h).elim
/-- what an assignment to a name asks of the expression -/
theorem asg_sat {F : Fr} {σ : L2.St} {ρ : Env} {i : Nat} {fa : FE} {D : Ends} (s : SatS G W F (fAsg i fa ρ) D) : SatE G W F σ (fa ρ) (fun x H1 => D.nx (σ.set i (some x)) H1) := by
  refine satE_bind (isS (σ := σ) (D := D)) s fun b ρ1 v α1 H1 _ r1 q1 s1 => ?_
  dsimp only at s1
  split at s1
  · rename_i hi; exact s1 α1 _ H1 (r1.set hi q1)
  · exact s1.elim
theorem ps_setf {i : Nat} {x : Str} {e : Expr} {fa : FE} {pos' pos : Pos} (hN : X.N.Nodup) (hi : X.N[i]? = some x) (hx : Loc X.env.scope x) (h : PEf G X W e fa) (hs : swapsWith e (some (.Name x pos')) pos.line X.env = pure false := by rfl) (hf : X.fn x = true ∨ X.env.scope.names.lookup x = some .local := by first | exact .inl rfl | exact .inr rfl | assumption) :
    PSf G X W (.Assign [.Name x pos'] e pos) (fAsg i fa) := by
  obtain ⟨t, p, q⟩ := h
  exact ⟨_, ps_set hN hi hx p hs hf, fun F α ρ σ H D r s => q F α ρ σ H _ r (asg_sat s)⟩
theorem ps_asgf {tg e : Expr} {pos : Pos} {fa : FE} {g : FG} {vs : List Nat} (h : PEf G X W e fa) (hg : PGf G X W tg vs g) (hs : swapsWithSole [tg] e pos.line X.env = pure false := by rfl) (hw : swappedStores [tg] e X.env = pure none := by rfl)
    (h1 : (assignEach [tg] X.env).map (·.2) = [assign tg X.env] := by rfl) : PSf G X W (.Assign [tg] e pos) (fAsgG g fa) := by
  obtain ⟨t, p, q⟩ := h
  obtain ⟨tg', pg, qg⟩ := hg
  refine ⟨_, ps_asg p pg hs hw h1, fun F α ρ σ H D r s => q F α ρ σ H _ r (satE_bind (isS (σ := σ) (D := D)) s fun b ρ1 v α1 H1 _ r1 q1 s1 => ?_)⟩
  exact qg F α1 ρ1 σ H1 v b _ r1 q1 (satG_noExc (Sa := fun r => SatS G W F r D) (fun h => h) s1 fun ρ2 _ α2 σ2 H2 r2 s2 _ _ => s2 α2 σ2 H2 r2)
theorem sw_used {elt tg iter : Expr} {ifs : List Expr} {scope : Scope} {pos py : Pos} {y : Str} {line : Nat} (h : swapsWith (.ListComp elt [⟨tg, iter, ifs, 0⟩] scope pos) (some (.Name y py)) line X.env = pure true) : True := trivial
theorem ps_setLcf {i : Nat} {y : Str} {py : Pos} {elt tg iter : Expr} {ifs : List Expr} {scope : Scope} {own : List (Str × Nat)} {pos spos : Pos} {fi : FI} {fg : FG} {ft : FB} {fe : FE} (own' : Bool) (hc : X.calm = true) (hN : X.N.Nodup) (hy : X.N[i]? = some y) (hyl : X.env.scope.names.lookup y = some .local)
    (hsw : swapsWith (.ListComp elt [⟨tg, iter, ifs, 0⟩] scope pos) (some (.Name y py)) spos.line X.env = pure true) (hi : PIf G X W tg iter fi) (ok : BlkOk X.N X.env.scope scope own)
    (hg : ∀ (s : Shared) (H : Hp) (C : Addr) (cl : List (Str × Addr)) (fp : List Addr), PGf G (X.blk s H scope (compEnvC scope cl C X.env) fp) W0 tg (own.map (·.2)) fg)
    (ht : ∀ (s : Shared) (H : Hp) (C : Addr) (cl : List (Str × Addr)) (fp : List Addr), PTsf G (X.blk s H scope (compEnvC scope cl C X.env) fp) W0 ifs ft)
    (he : ∀ (s : Shared) (H : Hp) (C : Addr) (cl : List (Str × Addr)) (fp : List Addr), PEf G (X.blk s H scope (compEnvC scope cl C X.env) fp) W0 elt fe)
    (hs : ∀ x, foldedSetIterable iter X.env x = pure x := by intro _; rfl) :
    PSf G X W (.Assign [.Name y py] (.ListComp elt [⟨tg, iter, ifs, 0⟩] scope pos) spos) (fAsg i (if own' then fOwn (fLc (own.map (·.2)) fi fg ft fe) else fFrz (fLc (own.map (·.2)) fi fg ft fe))) := by
  obtain ⟨wi, pi, hi⟩ := hi
  refine ⟨_, ps_setLc hc hN hy hyl hsw pi ok (fun s H C cl fp => (hg s H C cl fp).pg) (fun s H C cl fp => (ht s H C cl fp).pts) (fun s H C cl fp => (he s H C cl fp).pe) hs, fun F α ρ σ H D r s => ?_⟩
  refine lc_ok hi (fun F α ρ σ H v p Q r rp sa => ⟨F, α, ρ, p, r, rp, sa⟩) (fun F α ρ σ H Q r sa => ⟨F, α, ρ, r, sa⟩) (fun F α ρ σ H Q r sa => ⟨F, α, ρ, r, sa⟩) F α ρ σ H _ r (fun p hp => (r.pin p hp).2.1) ?_
  have s1 := asg_sat (σ := σ) s
  cases own' with
  | true => exact satN_own (fun p hp => (r.pin p hp).2.1) s1
  | false => exact satN_frz (fun p hp => (r.pin p hp).2.1) s1
theorem ps_parf {i j : Nat} {x y : Str} {a b : Expr} {fas : FA} {px py pt pos : Pos} {kt k2 pt2} (hc : X.calm = true) (hN : X.N.Nodup) (hi : X.N[i]? = some x) (hj : X.N[j]? = some y) (hij : i ≠ j)
    (hx : X.env.scope.names.lookup x = some .local) (hy : X.env.scope.names.lookup y = some .local) (ha : PAf G X W [a, b] fas)
    (hw : swappedStores [.Tuple [.Name x px, .Name y py] kt pt] (.Tuple [a, b] k2 pt2) X.env = pure (some [x, y]))
    (hs : swapsWithSole [.Tuple [.Name x px, .Name y py] kt pt] (.Tuple [a, b] k2 pt2) pos.line X.env = pure false := by rfl) :
    PSf G X W (.Assign [.Tuple [.Name x px, .Name y py] kt pt] (.Tuple [a, b] k2 pt2) pos) (fPar i j fas) := by
  obtain ⟨t, p, q⟩ := ha
  refine ⟨_, ps_par hc hN hi hj hij hx hy p hw hs, fun F α ρ σ H D r s => q F α ρ σ H _ r (satA_bind (isS (σ := σ) (D := D)) s fun us ρ1 vs α1 H1 _ r1 q1 s1 => ?_)⟩
  dsimp only at s1
  split at s1
  · split at s1
    · rename_i h
      cases q1 with
      | cons qa q1 =>
        obtain ⟨w, rfl, qb⟩ := reps1 q1
        exact ⟨_, w, rfl, s1 α1 _ H1 ((r1.set h.1 qa).set (by show j < (List.set _ _ _).length; rw [List.length_set]; exact h.2) qb)⟩
    · exact s1.elim
  · exact s1.elim
theorem ps_augf {i : Nat} {x : Str} {e : Expr} {fa : FE} {op : Operator} {pos' pos : Pos} {f : Int → Int → Int} (ho : PIp X op (ipI f)) (hN : X.N.Nodup) (hi : X.N[i]? = some x) (hx : Loc X.env.scope x) (h : PEf G X W e fa) (hf : X.fn x = true ∨ X.env.scope.names.lookup x = some .local := by first | exact .inl rfl | exact .inr rfl | assumption) :
    PSf G X W (.AugAssign (.Name x pos') op e pos) (fAugI f i fa) := by
  obtain ⟨t, p, q⟩ := h
  refine ⟨_, ps_aug hN hi hx p ho hf, fun F α ρ σ H D r s => ?_⟩
  unfold fAugI at s
  split at s
  · rename_i a ha
    obtain ⟨v, h1, h2⟩ := r.slot i _ ha
    refine ⟨v, h1, q F α ρ σ H _ r (satE_bind (isS (σ := σ) (D := D)) s fun b ρ1 v1 α1 H1 _ r1 q1 s1 => ?_)⟩
    dsimp only at s1
    split at s1
    · have hl : i < ρ1.sl.length := by rw [← r1.len, r.len]; exact (List.getElem?_eq_some_iff.mp ha).1
      exact ⟨a, _, rep_int h2, rep_int q1, s1 α1 _ H1 (r1.set hl (.int _))⟩
    · exact s1.elim
  · exact s.elim
theorem for_ok {wi : TI} {g : TG} {tb : TS} {fi : FI} {fg : FG} {fb : FS} {vs : List Nat}
    (hi : ∀ F α ρ σ H Rr, Rel G F α ρ σ H → SatI G W F σ (fi ρ) Rr → wi σ H Rr)
    (hg : ∀ F α ρ σ H v p (Q : L2.St → Hp → Prop), Rel G F α ρ σ H → Rep G (wd F α ρ.mu) H v p → SatG G W F σ (fg p ρ) (Only σ vs Q) → g v σ H Q)
    (hb : ∀ F α ρ σ H D, Rel G F α ρ σ H → SatS G W F (fb ρ) D → tb D σ H)
    (F α ρ σ H D) (r : Rel G F α ρ σ H) (s : SatS G W F (fFor fi fg fb ρ) D) : tFor wi g tb D σ H := by
  refine hi F α ρ σ H _ r ?_
  unfold fFor at s
  cases hfi : fi ρ with
  | exc x ρ' => rw [hfi] at s; exact s σ
  | stk => rw [hfi] at s; exact s
  | ok p =>
    obtain ⟨⟨ts, t0, u⟩, ρ1⟩ := p
    rw [hfi] at s
    intro J α1 H1 v0 r1 q1 hu jok
    refine ⟨fun i m σ H => i ≤ ts.length ∧ m = ts.length - i ∧ ∃ αc ρc, Rel G (F.hold v0 t0) αc ρc σ H ∧ SatS G W F (forLoop fg fb t0 u (ts.drop i) ρc) D,
      ⟨ts.length, Nat.zero_le _, rfl, _, _, r1.hold q1, by rw [List.drop_zero]; exact s⟩, ?_⟩
    rintro i m σ H ⟨hile, rfl, αc, ρc, rc, sl⟩
    have st : stays ρc.mu t0 u = true := by
      cases e : stays ρc.mu t0 u with
      | true => rfl
      | false =>
        exfalso
        cases hd : ts.drop i with
        | nil => rw [hd] at sl; unfold forLoop at sl; rw [e] at sl; exact sl
        | cons x xs => rw [hd] at sl; unfold forLoop at sl; rw [e] at sl; exact sl
    have jk := jok _ H rc.unhold.wf (by rw [← stays_eq hu st]; exact rc.unhold.vw rc.held) i
    by_cases hlt : i < ts.length
    · have ed : ts.drop i = ts[i] :: ts.drop (i + 1) := List.drop_eq_getElem_cons hlt
      rw [ed] at sl
      unfold forLoop at sl
      rw [if_pos st] at sl
      have hti : ts[i]? = some ts[i] := List.getElem?_eq_getElem hlt
      obtain ⟨go, yl⟩ := jk.2 _ hti
      refine .inr ⟨go, fun σ' H' => ∃ αc ρc, Rel G (F.hold v0 t0) αc ρc σ' H' ∧ SatS G W F (forLoop fg fb t0 u (ts.drop (i + 1)) ρc) D,
        fun σ' H' h => ⟨ts.length - (i + 1), by omega, hlt, rfl, h⟩, fun x H' hy => ?_⟩
      obtain ⟨hx, rx⟩ := yl x H' hy
      have rc2 := rc.ext hx
      refine hg (F.hold v0 t0) αc ρc σ H' x ts[i] _ rc2 rx (satG_noExc (Sa := fun r => SatS G W F r D) (fun h => h) sl fun ρd _ αd σ2 H2 rd sd _ _ => ?_)
      refine hb (F.hold v0 t0) αd ρd σ2 H2 _ rd ?_
      cases hfb : fb ρd with
      | exc x ρ' => rw [hfb] at sd; exact fun σ' => satX_hold (sd σ')
      | stk => rw [hfb] at sd; exact sd
      | ok fl =>
        rw [hfb] at sd
        cases fl with
        | next ρ2 => exact fun α' σ' H' r' => ⟨α', ρ2, r', sd⟩
        | cnt ρ2 => exact fun α' σ' H' r' => ⟨α', ρ2, r', sd⟩
        | brk ρ2 => exact fun α' σ' H' r' => sd α' σ' H' r'.unhold
        | ret t ρ2 => exact fun v α' σ' H' r' q => sd v α' σ' H' r'.unhold q
    · have e : i = ts.length := by omega
      subst e
      rw [List.drop_length] at sl
      unfold forLoop at sl
      rw [if_pos st] at sl
      exact .inl ⟨jk.1 (Nat.le_refl _), sl αc σ H rc.unhold⟩
theorem ps_forf {tg iter : Expr} {body : List Stmt} {pos : Pos} {fi : FI} {fg : FG} {fb : FS} {vs : List Nat} (hp : PassesOwn (model X.prog X.w) X.A X.env X.xe) (hc : X.calm = true) (hi : PIf G X W tg iter fi) (hg : PGf G X W tg vs fg) (hb : PSsf G X W body fb)
    (hs : ∀ x, foldedSetIterable iter X.env x = pure x := by intro _; rfl) : PSf G X W (.For tg iter body [] pos) (fFor fi fg fb) := by
  obtain ⟨wi, pi, hi⟩ := hi
  obtain ⟨g, pg, hg⟩ := hg
  obtain ⟨t, pb, hb⟩ := hb
  exact ⟨_, ps_for hp hc pi pg pb hs, for_ok hi hg hb⟩

/-! ### while -/
def whileR (c : FB) (fb : FS) : Nat → Env → Option (R Flow)
  | 0, _ => none
  | n + 1, ρ => match c ρ with
    | .ok (true, ρ1) => (match fb ρ1 with
      | .ok (.next ρ2) => whileR c fb n ρ2
      | .ok (.cnt ρ2) => whileR c fb n ρ2
      | .ok (.brk ρ2) => some (.ok (.next ρ2))
      | .ok (.ret t ρ2) => some (.ok (.ret t ρ2))
      | .exc x ρ2 => some (.exc x ρ2)
      | .stk => some .stk)
    | .ok (false, ρ1) => some (.ok (.next ρ1))
    | .exc x ρ1 => some (.exc x ρ1)
    | .stk => some .stk
open Classical in
noncomputable def fWhile (c : FB) (fb : FS) : FS := fun ρ => if h : ∃ n r, whileR c fb n ρ = some r then h.choose_spec.choose else .stk
theorem whileR_mono {c : FB} {fb : FS} : ∀ {n : Nat} {ρ : Env} {r : R Flow} (k : Nat), whileR c fb n ρ = some r → whileR c fb (n + k) ρ = some r
  | 0, _, _, _, h => by cases h
  | n + 1, ρ, r, k, h => by
    rw [show n + 1 + k = n + k + 1 by omega]
    unfold whileR at h ⊢
    split <;> rename_i e <;> rw [e] at h
    · dsimp only at h ⊢
      split <;> rename_i e2 <;> rw [e2] at h
      · exact whileR_mono k h
      · exact whileR_mono k h
      all_goals exact h
    all_goals exact h
theorem fWhile_of {c : FB} {fb : FS} {n : Nat} {ρ : Env} {r : R Flow} (h : whileR c fb n ρ = some r) : fWhile c fb ρ = r := by
  have h1 : ∃ n r, whileR c fb n ρ = some r := ⟨n, r, h⟩
  unfold fWhile
  rw [dif_pos h1]
  have h2 := h1.choose_spec.choose_spec
  have a := whileR_mono n h2
  have b := whileR_mono h1.choose h
  rw [Nat.add_comm] at a
  rw [a] at b
  exact Option.some.inj b
theorem fWhile_run {c : FB} {fb : FS} {ρ : Env} (h : fWhile c fb ρ ≠ .stk) : ∃ n, whileR c fb n ρ = some (fWhile c fb ρ) := by
  unfold fWhile at h ⊢
  split at h
  · rename_i h1
    rw [dif_pos h1]
    exact ⟨_, h1.choose_spec.choose_spec⟩
  · exact (h rfl).elim
theorem while_ok {tc : TT} {tb : TS} {c : FB} {fb : FS} (hc : ∀ F α ρ σ H Q, Rel G F α ρ σ H → SatB G W F σ (c ρ) Q → tc σ H Q) (hb : ∀ F α ρ σ H D, Rel G F α ρ σ H → SatS G W F (fb ρ) D → tb D σ H)
    (F α ρ σ H D) (r : Rel G F α ρ σ H) (s : SatS G W F (fWhile c fb ρ) D) : tWhile tc tb D σ H := by
  have hn : fWhile c fb ρ ≠ .stk := fun z => by rw [z] at s; exact s
  obtain ⟨n, hn⟩ := fWhile_run hn
  generalize fWhile c fb ρ = R at s hn
  refine ⟨fun m σ H => ∃ αc ρc, Rel G F αc ρc σ H ∧ whileR c fb m ρc = some R, ⟨n, α, ρ, r, hn⟩, ?_⟩
  rintro m σ H ⟨αc, ρc, rc, hm⟩
  cases m with
  | zero => cases hm
  | succ m =>
    unfold whileR at hm
    refine hc F αc ρc σ H _ rc ?_
    split at hm
    · rename_i ρ1 e
      rw [e]
      intro α1 H1 r1
      rw [if_pos rfl]
      refine ⟨fun σ' H' => ∃ αc ρc, Rel G F αc ρc σ' H' ∧ whileR c fb m ρc = some R, fun σ' H' h => ⟨m, Nat.lt_succ_self m, h⟩, hb F α1 ρ1 σ H1 _ r1 ?_⟩
      split at hm
      · rename_i ρ2 e2; rw [e2]; exact fun α' σ' H' r' => ⟨α', ρ2, r', hm⟩
      · rename_i ρ2 e2; rw [e2]; exact fun α' σ' H' r' => ⟨α', ρ2, r', hm⟩
      · rename_i ρ2 e2; rw [e2]; cases hm; exact fun α' σ' H' r' => s α' σ' H' r'
      · rename_i t ρ2 e2; rw [e2]; cases hm; exact fun v α' σ' H' r' q => s v α' σ' H' r' q
      · rename_i x ρ2 e2; rw [e2]; cases hm; exact fun σ' => s σ'
      · cases hm; exact s.elim
    · rename_i ρ1 e
      rw [e]
      cases hm
      intro α1 H1 r1
      rw [if_neg (by simp)]
      exact s α1 σ H1 r1
    · rename_i x ρ1 e; rw [e]; cases hm; exact s σ
    · cases hm; exact s.elim
theorem ps_whilef {c : Expr} {body : List Stmt} {pos : Pos} {fc : FB} {fb : FS} (hp : PassesOwn (model X.prog X.w) X.A X.env X.xe) (hc : PTf G X W c fc) (hb : PSsf G X W body fb) : PSf G X W (.While c body [] pos) (fWhile fc fb) := by
  obtain ⟨tc, pc, hc⟩ := hc
  obtain ⟨t, pb, hb⟩ := hb
  exact ⟨_, ps_while hp pc pb, while_ok hc hb⟩
end
end Tr
namespace Tr
open PySem L2 GxR Gx
/-! ### trees without things that change -/
mutual
def T.nr : T → Bool
  | .tup xs => T.nrs xs
  | .lst xs => T.nrs xs
  | .dct kvs => T.nrd kvs
  | .obj _ fs => T.nrf fs
  | .ref _ => false
  | _ => true
def T.nrs : List T → Bool
  | [] => true
  | x :: xs => T.nr x && T.nrs xs
def T.nrd : List (T × T) → Bool
  | [] => true
  | (_, x) :: xs => T.nr x && T.nrd xs
def T.nrf : List (Str × T) → Bool
  | [] => true
  | (_, x) :: xs => T.nr x && T.nrf xs
end
section
variable {G : GG} {w w' : Wd} {H H' : Hp}
/-- .. their places don't matter -/
structure KeepN (w : Wd) (H : Hp) (w' : Wd) (H' : Hp) : Prop where
  hp : ∀ (a : Addr) (u : HO), ¬ w.E a → H a = some u → Plain u → H' a = some u ∧ ¬ w'.E a
theorem KeepN.rd (k : KeepN w H w' H') {a : Addr} {u : HO} (he : ¬ w.E a) (h : Rd H a u) (pu : Plain u) : Rd H' a u ∧ ¬ w'.E a := by
  rcases h with h | ⟨o, h⟩
  · exact ⟨.inl (k.hp a u he h pu).1, (k.hp a u he h pu).2⟩
  · exact ⟨.inr ⟨o, (k.hp a _ he h trivial).1⟩, (k.hp a _ he h trivial).2⟩
mutual
theorem Rep.nr (k : KeepN w H w' H') : ∀ {v : V} {t : T}, t.nr = true → Rep G w H v t → Rep G w' H' v t
  | _, _, _, .non => .non
  | _, _, _, .bl b => .bl b
  | _, _, _, .int i => .int i
  | _, _, _, .str s => .str s
  | _, _, _, .ty n => .ty n
  | _, _, n, .tup he h r => .tup (k.rd he h trivial).2 (k.rd he h trivial).1 (Reps.nr k (by rw [T.nr] at n; exact n) r)
  | _, _, n, .lst he h r => .lst (k.rd he h trivial).2 (k.rd he h trivial).1 (Reps.nr k (by rw [T.nr] at n; exact n) r)
  | _, _, n, .lstK h r => .lstK h (Reps.nr k (by rw [T.nr] at n; exact n) r)
  | _, _, n, .dct he h d r => .dct (k.hp _ _ he h d.plain).2 (k.hp _ _ he h d.plain).1 d (RepD.nr k (by rw [T.nr] at n; exact n) r)
  | _, _, n, .obj he h c r => .obj (k.hp _ _ he h trivial).2 (k.hp _ _ he h trivial).1 c (RepF.nr k (by rw [T.nr] at n; exact n) r)
  | _, _, n, .ref h => by rw [T.nr] at n; cases n
theorem Reps.nr (k : KeepN w H w' H') : ∀ {vs : List V} {ts : List T}, T.nrs ts = true → Reps G w H vs ts → Reps G w' H' vs ts
  | _, _, _, .nil => .nil
  | _, _, n, .cons r rs => by
    rw [T.nrs, Bool.and_eq_true] at n
    exact .cons (Rep.nr k n.1 r) (Reps.nr k n.2 rs)
theorem RepF.nr (k : KeepN w H w' H') : ∀ {vs : List (Str × V)} {ts : List (Str × T)}, T.nrf ts = true → RepF G w H vs ts → RepF G w' H' vs ts
  | _, _, _, .nil => .nil
  | _, _, n, .cons r rs => by
    rw [T.nrf, Bool.and_eq_true] at n
    exact .cons (Rep.nr k n.1 r) (RepF.nr k n.2 rs)
theorem RepD.nr (k : KeepN w H w' H') : ∀ {vs : List (T × V)} {ts : List (T × T)}, T.nrd ts = true → RepD G w H vs ts → RepD G w' H' vs ts
  | _, _, _, .nil => .nil
  | _, _, n, .cons r rs => by
    rw [T.nrd, Bool.and_eq_true] at n
    exact .cons (Rep.nr k n.1 r) (RepD.nr k n.2 rs)
end
theorem KeepN.refl (h : ∀ a, w'.E a → w.E a) : KeepN w H w' H := ⟨fun a u he q _ => ⟨q, fun z => he (h a z)⟩⟩
end
/-- what changed is given away for good -/
def mapO {α β : Type} (f : α → Option β) : List α → Option (List β)
  | [] => some []
  | x :: xs => match f x, mapO f xs with
    | some y, some ys => some (y :: ys)
    | _, _ => none
def fz (μ : List Node) : Nat → T → Option T
  | 0, t => if t.nr = true then some t else none
  | k + 1, t => if t.nr = true then some t else match t with
    | .tup ts => (mapO (fz μ k) ts).map .tup
    | .ref i => (match μ[i]? with
      | some (.lst ts) => (mapO (fz μ k) ts).map .lst
      | some (.dct kvs) => (mapO (fun p => (fz μ k p.2).map fun y => (p.1, y)) kvs).map .dct
      | some (.obj c fs) => (mapO (fun p => (fz μ k p.2).map fun y => (p.1, y)) fs).map (.obj c)
      | _ => none)
    | _ => none
section
variable {G : GG} {F : Fr} {α : List Addr} {ρ : Env} {σ : L2.St} {H : Hp}
theorem Rep.out (al : List Addr) {v : V} {t : T} (h : Rep G (wd F α ρ.mu) H v t) (n : t.nr = true) : Rep G ⟨F.O, al⟩ H v t := Rep.nr (KeepN.refl fun a (ha : F.O a) => Or.inl ha) n h
theorem mapO_reps {w w' : Wd} {f : T → Option T} (hf : ∀ {v : V} {t u : T}, Rep G w H v t → f t = some u → Rep G w' H v u) : ∀ {vs : List V} {ts us : List T}, Reps G w H vs ts → mapO f ts = some us → Reps G w' H vs us
  | _, _, _, .nil, h => by simp only [mapO] at h; cases h; exact .nil
  | _, _, _, .cons r rs, h => by
    simp only [mapO] at h
    split at h
    · rename_i y ys e1 e2
      cases h
      exact .cons (hf r e1) (mapO_reps hf rs e2)
    · cases h
theorem mapO_repD {w w' : Wd} {f : T → Option T} (hf : ∀ {v : V} {t u : T}, Rep G w H v t → f t = some u → Rep G w' H v u) : ∀ {vs : List (T × V)} {ts us : List (T × T)}, RepD G w H vs ts → mapO (fun p => (f p.2).map fun y => (p.1, y)) ts = some us → RepD G w' H vs us
  | _, _, _, .nil, h => by simp only [mapO] at h; cases h; exact .nil
  | _, _, _, .cons (t := t) r rs, h => by
    simp only [mapO] at h
    split at h
    · rename_i y ys e1 e2
      cases h
      cases q : f t with
      | none => rw [q] at e1; cases e1
      | some z => rw [q] at e1; cases e1; exact .cons (hf r q) (mapO_repD hf rs e2)
    · cases h
theorem mapO_repF {w w' : Wd} {f : T → Option T} (hf : ∀ {v : V} {t u : T}, Rep G w H v t → f t = some u → Rep G w' H v u) : ∀ {vs : List (Str × V)} {ts us : List (Str × T)}, RepF G w H vs ts → mapO (fun p => (f p.2).map fun y => (p.1, y)) ts = some us → RepF G w' H vs us
  | _, _, _, .nil, h => by simp only [mapO] at h; cases h; exact .nil
  | _, _, _, .cons (t := t) r rs, h => by
    simp only [mapO] at h
    split at h
    · rename_i y ys e1 e2
      cases h
      cases q : f t with
      | none => rw [q] at e1; cases e1
      | some z => rw [q] at e1; cases e1; exact .cons (hf r q) (mapO_repF hf rs e2)
    · cases h
theorem fz_rep (r : Rel G F α ρ σ H) (al : List Addr) : ∀ (k : Nat) {v : V} {t t' : T}, Rep G (wd F α ρ.mu) H v t → fz ρ.mu k t = some t' → Rep G ⟨F.O, al⟩ H v t'
  | 0, v, t, t', h, e => by
    unfold fz at e
    split at e
    · rename_i n; cases e; exact h.out al n
    · cases e
  | k + 1, v, t, t', h, e => by
    unfold fz at e
    split at e
    · rename_i n; cases e; exact h.out al n
    · split at e
      · rename_i ts _
        cases q : mapO (fz ρ.mu k) ts with
        | none => rw [q] at e; cases e
        | some us =>
          rw [q] at e
          cases e
          cases h with
          | tup n h1 h2 => exact .tup (fun z => n (.inl z)) h1 (mapO_reps (fun a b => fz_rep r al k a b) h2 q)
      · rename_i i _
        cases h with
        | @ref a _ ha =>
          have na := r.apart a (List.mem_of_getElem? ha)
          split at e
          · rename_i ts en
            cases q : mapO (fz ρ.mu k) ts with
            | none => rw [q] at e; cases e
            | some us =>
              rw [q] at e
              cases e
              obtain ⟨vs, h1, h2⟩ := r.node _ _ a en ha
              exact .lst na (.inl h1) (mapO_reps (fun a b => fz_rep r al k a b) h2 q)
          · rename_i kvs en
            cases q : mapO (fun p => (fz ρ.mu k p.2).map fun y => (p.1, y)) kvs with
            | none => rw [q] at e; cases e
            | some us =>
              rw [q] at e
              cases e
              obtain ⟨o, es, h1, h2, h3⟩ := r.node _ _ a en ha
              exact .dct na h1 h2 (mapO_repD (fun a b => fz_rep r al k a b) h3 q)
          · rename_i c fs en
            cases q : mapO (fun p => (fz ρ.mu k p.2).map fun y => (p.1, y)) fs with
            | none => rw [q] at e; cases e
            | some us =>
              rw [q] at e
              cases e
              obtain ⟨C, dx, vs, h1, h2, h3⟩ := r.node _ _ a en ha
              exact .obj na h1 h2 (mapO_repF (fun a b => fz_rep r al k a b) h3 q)
          · cases e
      · cases e
end

/-! ### defs -/
inductive RD where
  | ok (t : T) | exc (x : Exc) | stk
def initE (n : Nat) (ts : List T) : Env := ⟨ts.map some ++ List.replicate (n - ts.length) none, []⟩
/-- a def's own function: from its arguments' trees to its value's -/
def runD (n : Nat) (fb : FS) (ts : List T) : RD := match fb (initE n ts) with
  | .ok (.next _) => .ok .non
  | .ok (.ret t ρ) => (match fz ρ.mu 8 t with
    | some t' => .ok t'
    | none => .stk)
  | .exc x _ => if T.nrf x.fs = true then .exc x else .stk
  | _ => .stk
def RD.noX : RD → RD
  | .exc _ => .stk
  | r => r
/-- what a def promises -/
def SpT (G : GG) (n : Nat) (D : List T → RD) : Sp := fun vs H Q E => ∃ (ts : List T) (O : Addr → Prop), Reps G ⟨O, []⟩ H vs ts ∧ ts.length = n ∧ (∀ P ∈ G.tabs, TabG H P) ∧ (∀ a, O a → ∃ u, H a = some u) ∧
  match D ts with
  | .ok c => ∀ v H', HExt G H H' → Rep G ⟨O, []⟩ H' v c → Q v H'
  | .exc x => ∀ cls d H', HExt G H H' → G.exr x cls d H' → E cls d H'
  | .stk => False
theorem SpT.len {G : GG} {n : Nat} {D : List T → RD} {vs : List V} {H : Hp} {Q : VK} {E : XK} (h : SpT G n D vs H Q E) : vs.length = n := by
  obtain ⟨ts, O, r, e, _⟩ := h
  rw [r.length, e]
theorem start_get {vs : List V} {N : List Str} {i : Nat} {v : V} (h : vs[i]? = some v) : (L2.start N vs)[i]? = some (some v) := by
  unfold L2.start
  rw [List.getElem?_append_left (by rw [List.length_map]; exact (List.getElem?_eq_some_iff.mp h).1), List.getElem?_map, h]
  rfl
/-- the state at a def's entry -/
theorem rel_start {G : GG} {O : Addr → Prop} {H : Hp} {vs : List V} {ts : List T} {N : List Str} (r : Reps G ⟨O, []⟩ H vs ts) (tb : ∀ P ∈ G.tabs, TabG H P) (ex : ∀ a, O a → ∃ u, H a = some u) :
    Rel G ⟨O, H, fun _ => False, [], [], []⟩ [] (initE N.length ts) (L2.start N vs) H := by
  have k0 : Keep (⟨O, []⟩ : Wd) H (wd ⟨O, H, fun _ => False, [], [], []⟩ [] []) H := by
    refine Keep.less (fun a ha => ?_) fun _ _ h => h
    rcases ha with ha | ⟨i, n, h1, _⟩
    · exact ha
    · simp at h1
  have hw : ∀ {v : V} {t : T}, Rep G ⟨O, []⟩ H v t → Rep G (wd ⟨O, H, fun _ => False, [], [], []⟩ [] []) H v t := fun h => h.stab k0
  refine ⟨?_, fun i t e => ?_, rfl, fun i n a e => ?_, fun a ha => ?_, List.nodup_nil, List.prefix_refl _, fun a u e _ => (by have e : H a = some u := e; rw [e]; exact Grown.refl), fun a ⟨i, n, h1, _⟩ => ?_, tb, fun a ha => ?_, ex, fun p hp => ?_, fun p hp => ?_, fun p hp => ?_⟩
  · show (L2.start N vs).length = (ts.map some ++ List.replicate (N.length - ts.length) none).length
    unfold L2.start
    rw [List.length_append, List.length_append, List.length_map, List.length_map, List.length_replicate, List.length_replicate, r.length]
  · have e : (ts.map some ++ List.replicate (N.length - ts.length) none)[i]? = some (some t) := e
    by_cases hi : i < ts.length
    · rw [List.getElem?_append_left (by rw [List.length_map]; exact hi), List.getElem?_map] at e
      cases q : ts[i]? with
      | none => rw [q] at e; cases e
      | some y =>
        rw [q] at e
        cases e
        obtain ⟨v, h1, h2⟩ := r.get q
        exact ⟨v, start_get h1, hw h2⟩
    · rw [List.getElem?_append_right (by rw [List.length_map]; omega), List.getElem?_replicate] at e
      split at e <;> cases e
  · have e : ([] : List Node)[i]? = some n := e
    simp at e
  · exact absurd ha (by simp)
  · have h1 : ([] : List Node)[i]? = some n := h1
    simp at h1
  · exact absurd ha (by simp)
  · exact absurd hp (by simp)
  · exact absurd hp (by simp)
  · exact absurd hp (by simp)
/-- a def that raises nothing -/
theorem fn_pure {P : Program} {w : World} {K : PySem.W.Frag} {mg : Str → Option Value} {base : Heap} {G : GG} {x qual : Str} {st : Stmt} {f : Addr} {fd : FuncData} {N ps : List Str} {k : Nat} {fb : FS} (F : Fun K x qual st f fd) (S : FnScope N ps (defScope st))
    (hb : ∀ (cdv : Value) (A : Around) (outer : List PySem.Env) (s : Shared) (H : Hp) (E : XK), fd.code = cdv → Room k (A.deeper (PyProof.Rows.envOfC qual (defScope st) s.heap.objs.size f cdv)) →
      PSsf G (cxOf CX0 P w K mg base N qual (defScope st) f cdv A outer s H E).nox W0 (defBody st) fb) : FnOk P w K mg base CX0 (k + 1) f fd ps (SpT G ps.length fun ts => (runD N.length fb ts).noX) := by
  obtain ⟨oc, od, kV, doc, pm, an, cdv, ct, osl, rfl, lk, hcd⟩ := F.ex
  refine fn_of lk hcd S (fun vs H Q E h => h.len) fun A outer s H vs Q E hr hsp => ?_
  obtain ⟨ts, O, r, hl, tb, ex, hD⟩ := hsp
  obtain ⟨t, p, q⟩ := hb cdv A outer s H E rfl hr
  refine ⟨t, p.nox, q ⟨O, H, fun _ => False, [], [], []⟩ [] (initE N.length ts) _ H _ (rel_start r tb ex) ?_⟩
  dsimp only at hD
  unfold runD at hD
  have hx : ∀ {α : List Addr} {ρ : Env} {σ : L2.St} {H' : Hp}, Rel G ⟨O, H, fun _ => False, [], [], []⟩ α ρ σ H' → HExt G H H' := fun rl => ⟨fun a u e => rl.frame a u e fun z => z, rl.tabs⟩
  cases hf : fb (initE N.length ts) with
  | exc x ρ =>
    rw [hf] at hD
    dsimp only at hD
    by_cases hn : T.nrf x.fs = true
    · rw [if_pos hn] at hD; exact hD.elim
    · rw [if_neg hn] at hD; exact hD.elim
  | stk => rw [hf] at hD; exact hD
  | ok fl =>
    rw [hf] at hD
    cases fl with
    | next ρ => exact fun α σ H' rl => hD .non H' (hx rl) .non
    | ret t ρ =>
      intro v α σ H' rl hv
      dsimp only at hD
      cases et : fz ρ.mu 8 t with
      | none => rw [et] at hD; exact hD.elim
      | some t' =>
        rw [et] at hD
        exact hD v H' (hx rl) (fz_rep rl [] 8 hv et)
    | brk ρ => exact hD.elim
    | cnt ρ => exact hD.elim
end Tr
namespace Tr
open PySem L2 GxR Gx
/-! ### calls of defs -/
def fCallD (D : List T → RD) (n : Nat) (fas : FA) : FE := fun ρ => (fas ρ).bind fun p => if p.1.length = n ∧ T.nrs p.1 = true then (match D p.1 with
    | .ok c => if c.nr = true then .ok (c, p.2) else .stk
    | _ => .stk) else .stk
section
variable {G : GG} {X : Cx} {W : WX}
theorem reps_in {w : Wd} {H : Hp} {vs : List V} {ts : List T} (al : List Addr) (n : T.nrs ts = true) (h : Reps G w H vs ts) : Reps G ⟨w.E, al⟩ H vs ts :=
  have k : KeepN w H ⟨w.E, al⟩ H := ⟨fun a u he q _ => ⟨q, he⟩⟩
  Reps.nr k n h
theorem rep_back {w : Wd} {H : Hp} {v : V} {t : T} {al : List Addr} (n : t.nr = true) (h : Rep G ⟨w.E, al⟩ H v t) : Rep G w H v t :=
  have k : KeepN ⟨w.E, al⟩ H w H := ⟨fun a u he q _ => ⟨q, he⟩⟩
  Rep.nr k n h
theorem callD_ok {D : List T → RD} {n : Nat} {fas : FA} {ts : TA} {E : XK} (hs : ∀ F α ρ σ H Q, Rel G F α ρ σ H → SatA G W F σ (fas ρ) Q → ts σ H Q)
    (F α ρ σ H Q) (rl : Rel G F α ρ σ H) (s : SatE G W F σ (fCallD D n fas ρ) Q) : tCall (SpT G n D) [] E ts σ H Q := by
  refine hs F α ρ σ H _ rl (satA_bind (isE (Q := Q)) s fun us ρ1 vs α1 H1 _ r1 q1 s1 => ?_)
  dsimp only at s1
  split at s1
  · rename_i hn
    rw [List.append_nil]
    refine ⟨us, (wd F α1 ρ1.mu).E, reps_in [] hn.2 q1, hn.1, r1.tabs, r1.wf.exs, ?_⟩
    cases hD : D us with
    | ok c =>
      rw [hD] at s1
      dsimp only at s1
      split at s1
      · rename_i hc
        exact fun v H' hx hv => s1 v α1 H' (r1.ext hx) (rep_back hc hv)
      · exact s1.elim
    | exc x => rw [hD] at s1; exact s1.elim
    | stk => rw [hD] at s1; exact s1.elim
  · exact s1.elim
theorem pef_callD {D : List T → RD} {n k : Nat} {f : Addr} {fd : FuncData} {ps : List Str} {x : Str} {e : Expr} {es : List Expr} {fas : FA} {p pos : Pos} (F : FnOk X.prog X.w X.K X.mg X.base CX0 k f fd ps (SpT G n D)) (hr : Room k X.A) (hg : Gl X x) (hm : X.mg x = some (.ref f)) (hk : PySem.W.keepIn X.K (.ref f) = true) (hb : Binds X.K fd ps [])
    (hs : PAf G X W (e :: es) fas) (hdb : (x == ("__debug__" : Str)) = false := by decide) (he : starEach (e :: es) X.env = (false, eval e X.env) :: starEach es X.env := by rfl) (hpl : (backTo pos (starEach es X.env)).any (·.1) = false := by rfl) :
    PEf G X W (.Call (.Name x p) (e :: es) [] pos) (fCallD D n fas) := by
  obtain ⟨ts, ps', hs⟩ := hs
  exact ⟨_, pe_call (E := L2.E0) F hr hg hm hk hb .nil pass0 ps' hdb he hpl, callD_ok hs⟩

/-! ### isinstance -/
def tyN : T → Option String
  | .non => some "NoneType"
  | .bl _ => some "bool"
  | .int _ => some "int"
  | .str _ => some "str"
  | .tup _ => some "tuple"
  | .lst _ => some "list"
  | .dct _ => some "dict"
  | _ => none
theorem rv_tyx {w : Wd} {H : Hp} {v : V} {t : T} {n : String} (hK : G.K = X.K) (r : RV G w H v t) (h : tyN t = some n) : TyX X.K H v (.type n) := by
  cases t with
  | non => cases h; rw [rv_non r]; exact .base .non
  | bl b => cases h; rw [rv_bl r]; exact .base (.bl b)
  | int i => cases h; rw [rv_int r]; exact .base (.int i)
  | str s => cases h; rw [rv_str r]; exact .base (.str _)
  | tup xs =>
    cases h
    obtain ⟨_, a, vs, rfl, _, _, _, h⟩ := rv_tup r
    rcases h with h | ⟨o, h⟩
    · exact .base (.tup h)
    · exact .fTuple h
  | lst xs =>
    cases h
    obtain ⟨a, vs, rfl, h, _⟩ := rv_lst r
    rcases h with (h | ⟨o, h⟩) | ⟨o, its, m, h, hc, _⟩
    · exact .base (.lst h)
    · exact .base (.frz h)
    · rw [hK] at h; exact .kList h hc
  | dct kvs =>
    cases h
    obtain ⟨a, o, es, rfl, h, d, _⟩ := rv_dct r
    cases d with
    | k => exact .base (.dK h)
    | t => exact .base (.dT h)
  | ty _ => cases h
  | obj _ _ => cases h
  | ref _ => cases h
def isiT : List T → Option T
  | [t, .ty n] => match tyN t with
    | some a => (kitB a n).map .bl
    | none => none
  | _ => none
theorem call_isi_t (hK : G.K = X.K) : CallT G X (.builtin "isinstance") isiT := by
  refine ⟨_, call_isi, fun w H Q vs ts c e wf rs q => ?_⟩
  unfold isiT at e
  split at e
  · rename_i t n
    obtain ⟨v, u, rfl, r1, r2⟩ := rvs2 rs
    split at e
    · rename_i a ha
      cases hb : kitB a n with
      | none => rw [hb] at e; cases e
      | some b =>
        rw [hb] at e
        cases e
        rw [rv_ty r2]
        exact ⟨v, .ty n, .type a, .type n, b, rfl, .ty n, rv_tyx hK r1 ha, kit_ty hb, q _ H (HExt.refl wf.tabs) (.bl b)⟩
    · cases e
  · cases e
/-! ### texts -/
def strsOf : List T → Option (List (List Nat))
  | [] => some []
  | .str s :: r => (strsOf r).map (s :: ·)
  | _ => none
theorem strsOf_reps {w : Wd} {H : Hp} : ∀ {vs : List V} {ts : List T} {ss : List (List Nat)}, Reps G w H vs ts → strsOf ts = some ss → vs = (ss.map S).map V.str
  | _, [], _, r, h => by cases r; cases h; rfl
  | _, .str s :: r', ss, r, h => by
    cases r with
    | cons r1 r2 =>
      unfold strsOf at h
      cases q : strsOf r' with
      | none => rw [q] at h; cases h
      | some zs =>
        rw [q] at h
        cases h
        rw [rep_str r1, strsOf_reps r2 q]
        rfl
  | _, .non :: _, _, _, h => by cases h
  | _, .bl _ :: _, _, _, h => by cases h
  | _, .int _ :: _, _, _, h => by cases h
  | _, .ty _ :: _, _, _, h => by cases h
  | _, .tup _ :: _, _, _, h => by cases h
  | _, .lst _ :: _, _, _, h => by cases h
  | _, .dct _ :: _, _, _, h => by cases h
  | _, .obj _ _ :: _, _, _, h => by cases h
  | _, .ref _ :: _, _, _, h => by cases h
def joinT (a : List Nat) (t : T) : Option T := match t with
  | .lst ts => (match strsOf ts with
    | some ss => if (ss.map List.length).sum + ss.length * a.length ≤ 16777216 then some (.str (TL.joinL a ss)) else none
    | none => none)
  | .tup ts => (match strsOf ts with
    | some ss => if (ss.map List.length).sum + ss.length * a.length ≤ 16777216 then some (.str (TL.joinL a ss)) else none
    | none => none)
  | _ => none
def fJoin (fo fa : FE) : FE := fun ρ => (fo ρ).bind fun p => match p.1 with
  | .str a => (fa p.2).bind fun q => (match joinT a (vw q.2.mu q.1) with
    | some c => .ok (c, q.2)
    | none => .stk)
  | _ => .stk
theorem joinS (a : List Nat) (ss : List (List Nat)) : Txt.join (S a) (ss.map S) = S (TL.joinL a ss) := SX.join_S a ss
theorem lens (ss : List (List Nat)) : (ss.map S).map (·.length) = ss.map List.length := by
  induction ss with
  | nil => rfl
  | cons s r ih => rw [List.map_cons, List.map_cons, List.map_cons, ih, S_length]
theorem pef_join {o e : Expr} {fo fa : FE} {apos pos : Pos} (hK : G.K = X.K) (ho : PEf G X W o fo) (ha : PEf G X W e fa) (hs : starEach [e] X.env = [(false, eval e X.env)] := by rfl) (hbase : attributeBase o "join" X.env (eval o X.env) = eval o X.env := by rfl) (hline : (apos.endLine == pos.line) = true := by rfl) :
    PEf G X W (.Call (.Attribute o "join" apos) [e] [] pos) (fJoin fo fa) := by
  obtain ⟨to, po, qo⟩ := ho
  obtain ⟨ta, pa, qa⟩ := ha
  refine ⟨_, pe_join po pa hs hbase hline, fun F α ρ σ H Q r s => qo F α ρ σ H _ r (satE_bind (isE (Q := Q)) s fun t ρ1 v α1 H1 _ r1 q1 s1 => ?_)⟩
  dsimp only at s1
  split at s1
  · rename_i a e0
    have ev := rep_str q1
    refine ⟨⟨_, ev⟩, qa F α1 ρ1 σ H1 _ r1 (satE_bind (isE (Q := Q)) s1 fun t2 ρ2 v2 α2 H2 _ r2 q2 s2 => ?_)⟩
    dsimp only at s2
    have rv := r2.vw q2
    generalize vw ρ2.mu t2 = u at s2 rv
    split at s2
    · rename_i c hc
      unfold joinT at hc
      split at hc
      · obtain ⟨l, vs, rfl, h1, h2⟩ := rv_lst rv
        split at hc
        · rename_i ss hss
          split at hc
          · rename_i hl
            cases hc
            refine ⟨_, l, ss.map S, ev, rfl, .inl ?_, by rw [lens, S_length, List.length_map]; exact hl, ?_⟩
            · rw [← strsOf_reps h2 hss, ← hK]; exact h1
            · rw [joinS]; exact s2 _ α2 H2 r2 (.str _)
          · cases hc
        · cases hc
      · obtain ⟨_, l, vs, rfl, h1, h2, _⟩ := rv_tup rv
        split at hc
        · rename_i ss hss
          split at hc
          · rename_i hl
            cases hc
            refine ⟨_, l, ss.map S, ev, rfl, .inr ?_, by rw [lens, S_length, List.length_map]; exact hl, ?_⟩
            · rw [← strsOf_reps h2 hss, ← hK]; exact h1
            · rw [joinS]; exact s2 _ α2 H2 r2 (.str _)
          · cases hc
        · cases hc
      · cases hc
    · exact s2.elim
  · exact s1.elim
/-! ### all, any of a list of bools -/
def blsOf : List T → Option (List Bool)
  | [] => some []
  | .bl s :: r => (blsOf r).map (s :: ·)
  | _ => none
theorem blsOf_reps {w : Wd} {H : Hp} : ∀ {vs : List V} {ts : List T} {ss : List Bool}, Reps G w H vs ts → blsOf ts = some ss → vs = ss.map V.bl
  | _, [], _, r, h => by cases r; cases h; rfl
  | _, .bl s :: r', ss, r, h => by
    cases r with
    | cons r1 r2 =>
      unfold blsOf at h
      cases q : blsOf r' with
      | none => rw [q] at h; cases h
      | some zs =>
        rw [q] at h
        cases h
        rw [rep_bl r1, blsOf_reps r2 q]
        rfl
  | _, .non :: _, _, _, h => by cases h
  | _, .str _ :: _, _, _, h => by cases h
  | _, .int _ :: _, _, _, h => by cases h
  | _, .ty _ :: _, _, _, h => by cases h
  | _, .tup _ :: _, _, _, h => by cases h
  | _, .lst _ :: _, _, _, h => by cases h
  | _, .dct _ :: _, _, _, h => by cases h
  | _, .obj _ _ :: _, _, _, h => by cases h
  | _, .ref _ :: _, _, _, h => by cases h
def allT : List T → Option T
  | [.lst ts] => (blsOf ts).map fun bs => .bl (bs.all id)
  | _ => none
def anyT : List T → Option T
  | [.lst ts] => (blsOf ts).map fun bs => .bl (bs.any id)
  | _ => none
theorem call_all_t (hK : G.K = X.K) (hc : X.calm = true) : CallT G X (.builtin "all") allT := by
  refine ⟨_, cr_all hc, fun w H Q vs ts c e wf rs q => ?_⟩
  unfold allT at e
  split at e
  · rename_i ts
    obtain ⟨v, rfl, r⟩ := rvs1 rs
    cases hb : blsOf ts with
    | none => rw [hb] at e; cases e
    | some bs =>
      rw [hb] at e
      cases e
      obtain ⟨l, vs, rfl, h1, h2⟩ := rv_lst r
      rw [blsOf_reps h2 hb, hK] at h1
      exact ⟨l, bs, rfl, h1, q _ H (HExt.refl wf.tabs) (.bl _)⟩
  · cases e
theorem call_any_t (hK : G.K = X.K) (hc : X.calm = true) : CallT G X (.builtin "any") anyT := by
  refine ⟨_, cr_any hc, fun w H Q vs ts c e wf rs q => ?_⟩
  unfold anyT at e
  split at e
  · rename_i ts
    obtain ⟨v, rfl, r⟩ := rvs1 rs
    cases hb : blsOf ts with
    | none => rw [hb] at e; cases e
    | some bs =>
      rw [hb] at e
      cases e
      obtain ⟨l, vs, rfl, h1, h2⟩ := rv_lst r
      rw [blsOf_reps h2 hb, hK] at h1
      exact ⟨l, bs, rfl, h1, q _ H (HExt.refl wf.tabs) (.bl _)⟩
  · cases e

/-! ### lists that change -/
def mulist (μ : List Node) (t : T) : Option (Nat × List T) := match t with
  | .ref i => (match μ[i]? with
    | some (.lst ts) => some (i, ts)
    | _ => none)
  | _ => none
theorem mulist_at {F : Fr} {α : List Addr} {ρ : Env} {σ : L2.St} {H : Hp} {v : V} {t : T} {i : Nat} {ts : List T} (r : Rel G F α ρ σ H) (h : Rep G (wd F α ρ.mu) H v t) (e : mulist ρ.mu t = some (i, ts)) :
    ∃ a vs, v = .ref a ∧ t = .ref i ∧ α[i]? = some a ∧ ρ.mu[i]? = some (.lst ts) ∧ H a = some (.lst vs) ∧ Reps G (wd F α ρ.mu) H vs ts := by
  unfold mulist at e
  split at e
  · split at e
    · rename_i j us hm
      cases e
      cases h with
      | ref ha =>
        obtain ⟨vs, h1, h2⟩ := r.node _ _ _ hm ha
        exact ⟨_, vs, rfl, rfl, ha, hm, h1, h2⟩
    · cases e
  · cases e
/-- xs.append(e) -/
def fAppend (fo fa : FE) : FE := fun ρ => (fo ρ).bind fun p => match mulist p.2.mu p.1 with
  | some _ => (fa p.2).bind fun q => (match mulist q.2.mu p.1 with
    | some (i, ts) => if ts.length < 16777216 then .ok (.non, ⟨q.2.sl, q.2.mu.set i (.lst (ts ++ [q.1]))⟩) else .stk
    | none => .stk)
  | none => .stk
theorem Rel.setLst {F : Fr} {α : List Addr} {ρ : Env} {σ : L2.St} {H : Hp} {a : Addr} {i : Nat} {ts us : List T} {vs ws : List V} (r : Rel G F α ρ σ H) (ha : α[i]? = some a) (hm : ρ.mu[i]? = some (.lst ts)) (h1 : H a = some (.lst vs)) (h2 : Reps G (wd F α ρ.mu) H ws us) :
    Rel G F α ⟨ρ.sl, ρ.mu.set i (.lst us)⟩ σ (upd H a (.lst ws)) := by
  have ex : (wd F α ρ.mu).E a := .inr ⟨i, .lst ts, hm, trivial, ha⟩
  exact r.put hm ha trivial h1 trivial ⟨ws, upd_same, h2.stab (Keep.mut ex)⟩
theorem pef_append {o e : Expr} {fo fa : FE} {apos cpos : Pos} (ho : PEf G X W o fo) (ha : PEf G X W e fa)
    (hbase : attributeBase o "append" X.env (eval o X.env) = eval o X.env := by rfl)
    (hfew : ((backTo cpos (starEach [e] X.env)).all (fun x => !x.1) && (backToKw cpos (keywordEach [] X.env)).all (fun x => x.1.isSome)
      && decide ([e].length + ([] : List Keyword).length + (if ([] : List Keyword).isEmpty then 0 else 1) < 30)) = true := by rfl)
    (hline : (apos.endLine == cpos.line) = true := by rfl) (hs : starEach [e] X.env = (false, eval e X.env) :: starEach [] X.env := by rfl) (hplain : (backTo cpos (starEach [] X.env)).any (·.1) = false := by rfl) :
    PEf G X W (.Call (.Attribute o "append" apos) [e] [] cpos) (fAppend fo fa) := by
  obtain ⟨to, po, qo⟩ := ho
  obtain ⟨ta, pa, qa⟩ := ha
  refine ⟨_, pe_bm PySem.F.plainAttrs_list PySem.F.slot_list_append PySem.F.type_list_append mt_append po (pa_cons pa pa_nil hs) hbase hfew hline hs hplain, fun F α ρ σ H Q r s => qo F α ρ σ H _ r (satE_bind (isE (Q := Q)) s fun t ρ1 v α1 H1 _ r1 q1 s1 => ?_)⟩
  dsimp only at s1
  split at s1
  · rename_i p0 hp0
    obtain ⟨i0, ts0⟩ := p0
    obtain ⟨a0, vs0, rfl, rfl, h1, h2, h3, h4⟩ := mulist_at r1 q1 hp0
    refine ⟨.inl ⟨rfl, _, SqL.of h3⟩, qa (F.hold _ _) α1 ρ1 σ H1 _ (r1.hold q1) (satE_bind (isE (Q := Q)).hold s1 fun t2 ρ2 v2 α2 H2 _ r2 q2 s2 => ?_)⟩
    dsimp only at s2
    split at s2
    · rename_i i ts hm
      obtain ⟨a, vs, e1, e2, g1, g2, g3, g4⟩ := mulist_at r2.unhold r2.held hm
      cases e1
      split at s2
      · rename_i hl
        exact ⟨a0, vs, v2, rfl, rfl, g3, by rw [g4.length]; exact hl, s2 _ α2 _ (r2.unhold.setLst g1 g2 g3 (g4.append (.cons q2 .nil))) .non⟩
      · exact s2.elim
    · exact s2.elim
  · exact s1.elim
/-- xs[i] = v -/
def fSubL (fo fi : FE) : FG := fun v ρ => noExc ((fo ρ).bind fun o => (fi o.2).bind fun i => match mulist i.2.mu o.1, i.1 with
  | some (n, ts), .int k => (match ixN ts.length k with
    | some j => .ok ⟨i.2.sl, i.2.mu.set n (.lst (ts.set j v))⟩
    | none => .stk)
  | _, _ => .stk)
theorem pgf_subL {o i : Expr} {fo fi : FE} {pos : Pos} (ho : PEf G X W0 o fo) (hi : PEf G X W0 i fi)
    (ha : ∀ v, assign (.Subscript o i pos) X.env v = (do
      let ov ← holding [v] (eval o X.env)
      let iv ← holding [v, ov] (eval i X.env)
      standAt pos
      holding [v, ov, iv] (setItem ov iv v)
      release [v, ov, iv] []) := by intro _; rfl) : PGf G X W0 (.Subscript o i pos) [] (fSubL fo fi) := by
  obtain ⟨to, po, qo⟩ := ho
  obtain ⟨ti, pi, qi⟩ := hi
  refine ⟨_, pg_sub po pi set_list ha, fun F α ρ σ H v p Q r rv s => ?_⟩
  unfold fSubL at s
  have nx : ∀ {f : R Env}, SatG G W0 F σ (noExc f) (Only σ [] Q) → SatG G W0 F σ f (Only σ [] Q) := fun {f} h => by cases f <;> exact h
  have s := nx s
  refine qo (F.hold v p) α ρ σ H _ (r.hold rv) (satE_bind (Sa := fun r => SatG G W0 F σ r (Only σ [] Q)) ⟨fun _ _ h => h.elim, fun h => h⟩ s fun t ρ1 v1 α1 H1 _ r1 q1 s1 => ?_)
  refine qi ((F.hold v p).hold v1 t) α1 ρ1 σ H1 _ (r1.hold q1) (satE_bind (Sa := fun r => SatG G W0 F σ r (Only σ [] Q)) ⟨fun _ _ h => h.elim, fun h => h⟩ s1 fun t2 ρ2 v2 α2 H2 _ r2 q2 s2 => ?_)
  dsimp only at s2
  split at s2
  · rename_i n ts k hm _
    obtain ⟨a, vs, rfl, rfl, g1, g2, g3, g4⟩ := mulist_at r2.unhold r2.held hm
    split at s2
    · rename_i j hj
      refine ⟨a, vs, k, j, rfl, rep_int q2, g3, by rw [g4.length]; exact hj, ?_⟩
      exact s2 α2 σ _ (r2.unhold.unhold.setLst g1 g2 g3 (g4.set j r2.unhold.held)) (fun _ _ => rfl) rfl
    · exact s2.elim
  · exact s2.elim
end
end Tr
namespace Tr
open PySem L2 GxR Gx
/-! ### what a text tells of its names -/
section
variable {G : GG} {X : Cx} {W : WX}
theorem pef_gint {x : Str} {n : Int} {pos : Pos} (hg : Gl X x) (h : ∃ t, X.mg x = some (.int n t)) (hd : (x == ("__debug__" : Str)) = false := by decide) : PEf G X W (.Name x pos) (fC (.int n)) := by
  obtain ⟨t, h⟩ := h
  exact pef_c (pe_glob hg h (show RelV (.int n) (.int n t) from ⟨t, rfl⟩) hd) fun _ _ => .int n
theorem pef_gstr {x : Str} {l : List Nat} {pos : Pos} (hg : Gl X x) (h : ∃ t, X.mg x = some (.str (S l) t)) (hd : (x == ("__debug__" : Str)) = false := by decide) : PEf G X W (.Name x pos) (fC (.str l)) := by
  obtain ⟨t, h⟩ := h
  exact pef_c (pe_glob hg h (show RelV (.str (S l)) (.str (S l) t) from ⟨t, rfl⟩) hd) fun _ _ => .str l
end
/-- a def that may be called -/
structure CalD (P : Program) (w : World) (K : PySem.W.Frag) (mg : Str → Option Value) (base : Heap) (G : GG) (k : Nat) (x : Str) (n : Nat) (D : List T → RD) : Prop where
  ex : ∃ (f : Addr) (fd : FuncData) (ps : List Str), FnOk P w K mg base CX0 k f fd ps (SpT G n D) ∧ mg x = some (.ref f) ∧ PySem.W.keepIn K (.ref f) = true ∧ Binds K fd ps []
section
variable {G : GG} {X : Cx} {W : WX}
theorem pef_calld {D : List T → RD} {n k : Nat} {x : Str} {e : Expr} {es : List Expr} {fas : FA} {p pos : Pos} (c : CalD X.prog X.w X.K X.mg X.base G k x n D) (hr : Room k X.A) (hg : Gl X x)
    (hs : PAf G X W (e :: es) fas) (hdb : (x == ("__debug__" : Str)) = false := by decide) (he : starEach (e :: es) X.env = (false, eval e X.env) :: starEach es X.env := by rfl) (hpl : (backTo pos (starEach es X.env)).any (·.1) = false := by rfl) :
    PEf G X W (.Call (.Name x p) (e :: es) [] pos) (fCallD D n fas) := by
  obtain ⟨f, fd, ps, F, hm, hk, hb⟩ := c.ex
  exact pef_callD F hr hg hm hk hb hs hdb he hpl
end
theorem hu64 {k : Nat} {A : Around} (r : Room k A) : A.units + 64 < cLine := r.units
theorem hu65 {k : Nat} {A : Around} (r : Room k A) : A.units + 65 < cLine := by have := r.un; omega
end Tr
namespace Tr
open PySem PySem.Spec PyProof.Rows L2
/-- the tables of the defs that have them -/
def TabsOf (q : Program) (mg : Str → Option Value) (h : Heap) : Prop := ∀ e ∈ recsOf q, ∃ (a : Addr) (o : Obj) (fd : FuncData) (c P : Addr), mg e.name = some (.ref a) ∧ h.get? a = some o ∧ o.data = .func fd ∧ fd.code = .ref c ∧ PySem.W.CodeHd h c P ∧ h.get? P = some { cls := .none, data := .fields #[] }
theorem walk_tabs {l : PySem.W.OpenLaw} {n k : Nat} {q : Program} {loose : List Str} {XP : (Str → Option Value) → Heap → Prop} {YP : World → Heap → Prop} {d : DefRec} {K : Params → PySem.W.Frag} {CX : World → CXT} {x : Str}
    (hn : l.most = some n) (hn2 : n ≤ sizeLine) (hdf : d.params.defaults = []) (hr : Room k callerA) (hY : ∀ (w : World) (h : Heap), YP w h → (K w.params).In h)
    (F : ∀ (w : World) (mg : Str → Option Value) (fa : Addr) (h : Heap), YP w h → (K w.params).In h → h.Ns mainGlobals mg → mg d.name = some (.ref fa) → TabsOf q mg h → LamX.LawAtS l w (K w.params) (CX w) k n x mg fa h)
    (hCX : ∀ (w : World) (H : Hp) (s : Shared) (e : Value) (s' : Shared), CX w [] H s (fun _ _ _ => False) e s' → False) :
    PySem.W.WalkO q loose XP YP l.row.toRowW d [] (fun f vs => PySem.call f vs) := by
  refine Att.attach_callB hn hdf fun w s₀ s₁ mg mb fa o pm cd doc a vs ns G Y ho hd hcd hmg hobj hints hlen hbits hg => ?_
  have KX := hY w _ Y
  have tabs : TabsOf q mg s₁.heap := fun e he => by
    obtain ⟨a', o', fd', c', P', h1, h2, h3, h4, h5, h6⟩ := G.T.tab e he
    exact ⟨a', o', fd', c', P', h1, h2, h3, h4, PySem.W.CodeHd.of h5 h6, h6.2⟩
  obtain ⟨fd, cs, sp, hT, nT, C, hb, hsp, hF⟩ := F w mg fa _ Y KX G.T.g hmg tabs
  exact LamX.law_callTs KX G.T.g G.T.b G.T.builtins G.T.nolimit hg hT nT C G.T.bmain hobj hints (Nat.le_trans hlen hn2) hr hF hb (fun H hH hS => hsp H a ns hlen hbits hH hS) fun H e s' => hCX w H s₁ e s'
theorem tab_at {q : Program} {K : PySem.W.Frag} {h : Heap} {mg : Str → Option Value} {x : Str} {f : Addr} {oc : Value} {od : Option Addr} {fd : FuncData} {sl : Array (Option Value)} (X : K.In h) (tabs : TabsOf q mg h) (hx : ((recsOf q).any fun e => e.name == x) = true) (hm : mg x = some (.ref f)) (l : K.lookup f = some ⟨oc, od, .func fd, sl⟩) :
    ∃ c P, fd.code = .ref c ∧ PySem.W.CodeHd h c P ∧ h.get? P = some { cls := .none, data := .fields #[] } := by
  obtain ⟨d, hd, hn⟩ := List.any_eq_true.mp hx
  have hn : d.name = x := beq_iff_eq.mp hn
  obtain ⟨a, o, fd', c, P, h1, h2, h3, h4, h5, h6⟩ := tabs d hd
  rw [hn, hm] at h1
  cases h1
  have e := X _ _ l
  rw [e] at h2
  cases h2
  cases h3
  exact ⟨c, P, h4, h5, h6⟩
theorem mem_look {a : Addr} {o : Obj} : ∀ {l : List (Addr × Obj)}, l.lookup a = some o → (a, o) ∈ l
  | [], h => by cases h
  | (b, u) :: r, h => by
    by_cases e : a = b
    · subst e
      rw [List.lookup_cons_self] at h
      cases h
      exact List.mem_cons_self ..
    · rw [List.lookup_cons, show (a == b) = false from by simpa using e] at h
      exact List.mem_cons_of_mem _ (mem_look h)
theorem tabB_of {base : Heap} {mg : Str → Option Value} {c P : Addr} (h : LamX.TabB base mg c P) : GxR.TabB base mg c P := ⟨h.code, h.bm, h.gP⟩
def noTabK (K : PySem.W.Frag) : Bool := K.all fun p => match p.2.data with
  | .fields vs => vs.size != 0
  | _ => true
theorem noTab {K : PySem.W.Frag} {h : Heap} (X : K.In h) (n : noTabK K = true) (a : Addr) (e : h.get? a = some { cls := .none, data := .fields #[] }) : K.lookup a = none := by
  cases q : K.lookup a with
  | none => rfl
  | some o =>
    have g := X _ _ q
    rw [e] at g
    cases g
    have m := List.all_eq_true.mp n _ (mem_look q)
    simp at m
abbrev GG0 (K : PySem.W.Frag) (tabs : List Addr) : GG := ⟨K, fun _ => none, tabs, fun _ _ _ _ => False⟩
theorem spT_law {K : PySem.W.Frag} {D : List T → RD} {cs : List (Addr × Addr)} {H : Hp} {a : Addr} {ns : List Int} (hS : SqL K H a (ns.map V.int)) (hT : ∀ p ∈ cs, H p.2 = some (.tbl #[])) (hD : D [.lst (ns.map .int)] = .ok (.bl true)) :
    SpT (GG0 K (cs.map (·.2))) 1 D [.ref a] H (fun v _ => v = .bl true) fun _ _ _ => False := by
  have hr : Rep (GG0 K (cs.map (·.2))) ⟨fun _ => False, []⟩ H (.ref a) (.lst (ns.map .int)) := by
    rcases hS with h | h
    · exact .lst (fun z => z) h (Reps.ints ns)
    · exact .lstK h (Reps.ints ns)
  refine ⟨[.lst (ns.map .int)], fun _ => False, .cons hr .nil, rfl, fun P hP => ?_, fun a z => z.elim, ?_⟩
  · obtain ⟨p, hp, e⟩ := List.mem_map.mp hP
    refine ⟨#[], by rw [← e]; exact hT p hp, ?_⟩
    first | exact .nil | trivial | simp [TriplesOk]
  · rw [hD]
    exact fun v H' _ r => rep_bl r
end Tr
namespace Tr
open PySem L2 GxR Gx
theorem lcLoop_eq {g : FG} {ft : FB} {fe : FE} {vs : List Nat} {t0 u : T} {ρ : Env} (p : T → Bool) (h : T → T) (st : stays ρ.mu t0 u = true) : ∀ (ts acc : List T), (∀ t ∈ ts, ∃ ρ1, g t ρ = .ok ρ1 ∧ ft ρ1 = .ok (p t, ρ1) ∧ (p t = true → fe ρ1 = .ok (h t, ρ1)) ∧ wipeE ρ1 vs = ρ) →
    acc.length + ts.length ≤ 16777216 → lcLoop vs g ft fe t0 u ts ρ acc = .ok (acc ++ (ts.filter p).map h, ρ)
  | [], acc, _, _ => by unfold lcLoop; rw [if_pos st]; simp
  | t :: ts, acc, hs, hl => by
    obtain ⟨ρ1, e1, e2, e3, e4⟩ := hs t (List.mem_cons_self ..)
    have hl' : acc.length + (ts.length + 1) ≤ 16777216 := hl
    unfold lcLoop
    rw [if_pos st, e1]
    simp only [R.bind]
    rw [e2]
    simp only []
    cases hp : p t with
    | true =>
      rw [if_pos rfl, e3 hp]
      simp only []
      rw [if_pos (by omega), e4, lcLoop_eq p h st ts _ (fun x hx => hs x (List.mem_cons_of_mem _ hx)) (by rw [List.length_append, List.length_singleton]; omega)]
      rw [List.filter_cons, if_pos hp]
      simp
    | false =>
      rw [if_neg (by simp), e4, lcLoop_eq p h st ts _ (fun x hx => hs x (List.mem_cons_of_mem _ hx)) (by omega)]
      rw [List.filter_cons, if_neg (by simp [hp])]
theorem aaLoop_all {g : FG} {ft : FB} {fe : FE} {vs : List Nat} {t0 u : T} {ρ : Env} (h : T → Bool) (st : stays ρ.mu t0 u = true) (hw : wipeE ρ vs = ρ) : ∀ (ts : List T), (∀ t ∈ ts, ∃ ρ1, g t ρ = .ok ρ1 ∧ ft ρ1 = .ok (true, ρ1) ∧ fe ρ1 = .ok (.bl (h t), ρ1) ∧ wipeE ρ1 vs = ρ) →
    ∃ ρ', aaLoop false vs g ft fe t0 u ts ρ = .ok (ts.all h, ρ') ∧ wipeE ρ' vs = ρ
  | [], _ => ⟨ρ, by unfold aaLoop; rw [if_pos st]; rfl, hw⟩
  | t :: ts, hs => by
    obtain ⟨ρ1, e1, e2, e3, e4⟩ := hs t (List.mem_cons_self ..)
    unfold aaLoop
    rw [if_pos st, e1]
    simp only [R.bind]
    rw [e2]
    simp only [if_true]
    rw [e3]
    simp only []
    cases hh : h t with
    | true =>
      obtain ⟨ρ', q1, q2⟩ := aaLoop_all h st hw ts (fun x hx => hs x (List.mem_cons_of_mem _ hx))
      exact ⟨ρ', by rw [if_neg (by simp), e4, q1]; simp [hh], q2⟩
    | false => exact ⟨ρ1, by rw [if_pos rfl]; simp [hh], e4⟩
theorem aaLoop_any {g : FG} {ft : FB} {fe : FE} {vs : List Nat} {t0 u : T} {ρ : Env} (h : T → Bool) (st : stays ρ.mu t0 u = true) (hw : wipeE ρ vs = ρ) : ∀ (ts : List T), (∀ t ∈ ts, ∃ ρ1, g t ρ = .ok ρ1 ∧ ft ρ1 = .ok (true, ρ1) ∧ fe ρ1 = .ok (.bl (h t), ρ1) ∧ wipeE ρ1 vs = ρ) →
    ∃ ρ', aaLoop true vs g ft fe t0 u ts ρ = .ok (ts.any h, ρ') ∧ wipeE ρ' vs = ρ
  | [], _ => ⟨ρ, by unfold aaLoop; rw [if_pos st]; rfl, hw⟩
  | t :: ts, hs => by
    obtain ⟨ρ1, e1, e2, e3, e4⟩ := hs t (List.mem_cons_self ..)
    unfold aaLoop
    rw [if_pos st, e1]
    simp only [R.bind]
    rw [e2]
    simp only [if_true]
    rw [e3]
    simp only []
    cases hh : h t with
    | false =>
      obtain ⟨ρ', q1, q2⟩ := aaLoop_any h st hw ts (fun x hx => hs x (List.mem_cons_of_mem _ hx))
      exact ⟨ρ', by rw [if_neg (by simp), e4, q1]; simp [hh], q2⟩
    | true => exact ⟨ρ1, by rw [if_pos rfl]; simp [hh], e4⟩
theorem k_ss : kitB "str" "str" = some true := by decide +kernel
theorem k_ns : kitB "NoneType" "str" = some false := by decide +kernel
theorem k_bs : kitB "bool" "str" = some false := by decide +kernel
theorem k_is' : kitB "int" "str" = some false := by decide +kernel
theorem k_ts : kitB "tuple" "str" = some false := by decide +kernel
theorem k_ls : kitB "list" "str" = some false := by decide +kernel
theorem k_ds : kitB "dict" "str" = some false := by decide +kernel
theorem k_st : kitB "str" "tuple" = some false := by decide +kernel
theorem k_nt : kitB "NoneType" "tuple" = some false := by decide +kernel
theorem k_bt : kitB "bool" "tuple" = some false := by decide +kernel
theorem k_it : kitB "int" "tuple" = some false := by decide +kernel
theorem k_tt : kitB "tuple" "tuple" = some true := by decide +kernel
theorem k_lt : kitB "list" "tuple" = some false := by decide +kernel
theorem k_dt : kitB "dict" "tuple" = some false := by decide +kernel
theorem k_bb : kitB "bool" "bool" = some true := by decide +kernel
/-- the kinds of things that the tests of a kind tell -/
def T.base : T → Bool
  | .ty _ => false
  | .obj _ _ => false
  | .ref _ => false
  | _ => true
def isStr : T → Bool
  | .str _ => true
  | _ => false
def isTup : T → Bool
  | .tup _ => true
  | _ => false
theorem isi_str {t : T} (h : t.base = true) : isiT [t, .ty "str"] = some (.bl (isStr t)) := by
  cases t <;> first | (cases h; done) | (simp [isiT, tyN, isStr, k_ss, k_ns, k_bs, k_is', k_ts, k_ls, k_ds])
theorem isi_tup {t : T} (h : t.base = true) : isiT [t, .ty "tuple"] = some (.bl (isTup t)) := by
  cases t <;> first | (cases h; done) | (simp [isiT, tyN, isTup, k_st, k_nt, k_bt, k_it, k_tt, k_lt, k_dt])
theorem isi_bool {b : Bool} : isiT [.bl b, .ty "bool"] = some (.bl true) := by simp [isiT, tyN, k_bb]
theorem rb_ok {α β : Type} (a : α) (k : α → R β) : R.bind (.ok a) k = k a := rfl
theorem rb_exc {α β : Type} (x : Exc) (ρ : Env) (k : α → R β) : R.bind (.exc x ρ) k = .exc x ρ := rfl
theorem rb_stk {α β : Type} (k : α → R β) : R.bind (.stk) k = .stk := rfl
theorem fz_nr {μ : List Node} {k : Nat} {t : T} (h : t.nr = true) : fz μ k t = some t := by
  cases k <;> unfold fz <;> exact if_pos h
theorem mapO_nr {μ : List Node} {k : Nat} : ∀ {ts : List T}, T.nrs ts = true → mapO (fz μ k) ts = some ts
  | [], _ => rfl
  | t :: ts, h => by
    rw [T.nrs, Bool.and_eq_true] at h
    unfold mapO
    rw [fz_nr h.1, mapO_nr h.2]
theorem fz_lst {μ : List Node} {k i : Nat} {ts : List T} (h : μ[i]? = some (.lst ts)) (n : T.nrs ts = true) : fz μ (k + 1) (.ref i) = some (.lst ts) := by
  unfold fz
  rw [if_neg (by simp [T.nr])]
  simp only [h]
  rw [mapO_nr n]
  rfl
theorem nrs_append : ∀ {a b : List T}, T.nrs (a ++ b) = (T.nrs a && T.nrs b)
  | [], b => by simp [T.nrs]
  | x :: a, b => by rw [List.cons_append, T.nrs, T.nrs, nrs_append, Bool.and_assoc]
theorem nrs_mem : ∀ {a : List T}, (∀ t ∈ a, t.nr = true) → T.nrs a = true
  | [], _ => by simp [T.nrs]
  | x :: a, h => by rw [T.nrs, h x (List.mem_cons_self ..), nrs_mem fun t ht => h t (List.mem_cons_of_mem _ ht)]; rfl
theorem mem_nrs : ∀ {a : List T}, T.nrs a = true → ∀ t ∈ a, t.nr = true
  | [], _, t, h => by cases h
  | x :: a, n, t, h => by
    rw [T.nrs, Bool.and_eq_true] at n
    rcases List.mem_cons.mp h with e | h
    · rw [e]; exact n.1
    · exact mem_nrs n.2 t h
end Tr
namespace Tr
open PySem L2 GxR Gx
/-! ### symbolic runs -/
theorem nr_non : T.nr .non = true := by simp [T.nr]
theorem nr_bl (b : Bool) : T.nr (.bl b) = true := by simp [T.nr]
theorem nr_int (i : Int) : T.nr (.int i) = true := by simp [T.nr]
theorem nr_str (s : List Nat) : T.nr (.str s) = true := by simp [T.nr]
theorem nr_ty (s : String) : T.nr (.ty s) = true := by simp [T.nr]
theorem nr_tup (s : List T) : T.nr (.tup s) = T.nrs s := by simp [T.nr]
theorem nr_lst (s : List T) : T.nr (.lst s) = T.nrs s := by simp [T.nr]
theorem nrs_nil : T.nrs [] = true := by simp [T.nrs]
theorem nrs_cons (x : T) (s : List T) : T.nrs (x :: s) = (T.nr x && T.nrs s) := by simp [T.nrs]
theorem fz_bl {μ k b} : fz μ k (.bl b) = some (.bl b) := fz_nr (nr_bl b)
theorem fz_int {μ k b} : fz μ k (.int b) = some (.int b) := fz_nr (nr_int b)
theorem fz_str {μ k b} : fz μ k (.str b) = some (.str b) := fz_nr (nr_str b)
theorem fz_non {μ k} : fz μ k .non = some .non := fz_nr nr_non
theorem fz_tup {μ k ts} (h : T.nrs ts = true) : fz μ k (.tup ts) = some (.tup ts) := fz_nr (by rw [nr_tup]; exact h)
theorem fz_lstF {μ k ts} (h : T.nrs ts = true) : fz μ k (.lst ts) = some (.lst ts) := fz_nr (by rw [nr_lst]; exact h)
theorem vw_non {μ} : vw μ .non = .non := rfl
theorem vw_bl {μ b} : vw μ (.bl b) = .bl b := rfl
theorem vw_int {μ b} : vw μ (.int b) = .int b := rfl
theorem vw_str {μ b} : vw μ (.str b) = .str b := rfl
theorem vw_ty {μ b} : vw μ (.ty b) = .ty b := rfl
theorem vw_tup {μ b} : vw μ (.tup b) = .tup b := rfl
theorem vw_lst {μ b} : vw μ (.lst b) = .lst b := rfl
theorem vw_dct {μ b} : vw μ (.dct b) = .dct b := rfl
/-- a text's evaluation -/
theorem runD_ret {n : Nat} {fb : FS} {ts : List T} {t t' : T} {ρ : Env} (h : fb (initE n ts) = .ok (.ret t ρ)) (hz : fz ρ.mu 8 t = some t') : (runD n fb ts).noX = .ok t' := by
  unfold runD
  rw [h]
  simp only [hz]
  rfl
theorem isi_s (s : List Nat) : isiT [.str s, .ty "str"] = some (.bl true) := isi_str rfl
theorem fCallD_eq {D : List T → RD} {n : Nat} {fas : FA} {ρ ρ' : Env} {ts : List T} {c : T} (h : fas ρ = .ok (ts, ρ')) (hl : ts.length = n) (hn : T.nrs ts = true) (hD : D ts = .ok c) (hc : c.nr = true) : fCallD D n fas ρ = .ok (c, ρ') := by
  unfold fCallD
  rw [h]
  simp only [R.bind]
  rw [if_pos ⟨hl, hn⟩, hD]
  simp only []
  rw [if_pos hc]
end Tr
namespace Tr
open PySem L2 GxR Gx
theorem fLc_map {vs : List Nat} {fi : FI} {g : FG} {ft : FB} {fe : FE} {ρ : Env} {k : Wk} (p : T → Bool) (h : T → T) (hi : fi ρ = .ok (k, ρ)) (st : stays ρ.mu k.t0 k.u = true) (hw : wipeE ρ vs = ρ) (hl : k.ts.length ≤ 16777216)
    (hs : ∀ t ∈ k.ts, ∃ ρ1, g t ρ = .ok ρ1 ∧ ft ρ1 = .ok (p t, ρ1) ∧ (p t = true → fe ρ1 = .ok (h t, ρ1)) ∧ wipeE ρ1 vs = ρ) : fLc vs fi g ft fe ρ = .ok ((k.ts.filter p).map h, ρ) := by
  unfold fLc
  rw [hi]
  simp only [R.bind]
  rw [hw, lcLoop_eq p h st k.ts [] hs (by simpa using hl)]
  simp only [noExc, List.nil_append]
  rw [hw]
/-- .. and what is told of each -/
theorem lcLoop_rel {g : FG} {ft : FB} {fe : FE} {vs : List Nat} {t0 u : T} {ρ : Env} (P : T → Prop) (st : stays ρ.mu t0 u = true) : ∀ (ts acc : List T), (∀ t ∈ ts, ∃ ρ1, g t ρ = .ok ρ1 ∧ ft ρ1 = .ok (true, ρ1) ∧ (∃ c, fe ρ1 = .ok (c, ρ1) ∧ P c) ∧ wipeE ρ1 vs = ρ) →
    acc.length + ts.length ≤ 16777216 → ∃ us, lcLoop vs g ft fe t0 u ts ρ acc = .ok (acc ++ us, ρ) ∧ us.length = ts.length ∧ ∀ c ∈ us, P c
  | [], acc, _, _ => ⟨[], by unfold lcLoop; rw [if_pos st]; simp, rfl, fun c h => by cases h⟩
  | t :: ts, acc, hs, hl => by
    obtain ⟨ρ1, e1, e2, ⟨c, e3, hc⟩, e4⟩ := hs t (List.mem_cons_self ..)
    have hl' : acc.length + (ts.length + 1) ≤ 16777216 := hl
    obtain ⟨us, q1, q2, q3⟩ := lcLoop_rel P st ts (acc ++ [c]) (fun x hx => hs x (List.mem_cons_of_mem _ hx)) (by rw [List.length_append, List.length_singleton]; omega)
    refine ⟨c :: us, ?_, by simp [q2], fun x hx => ?_⟩
    · unfold lcLoop
      rw [if_pos st, e1]
      simp only [R.bind]
      rw [e2]
      simp only [if_true]
      rw [e3]
      simp only []
      rw [if_pos (by omega), e4, q1]
      simp
    · rcases List.mem_cons.mp hx with e | e
      · rw [e]; exact hc
      · exact q3 x e
theorem fLc_rel {vs : List Nat} {fi : FI} {g : FG} {ft : FB} {fe : FE} {ρ : Env} {k : Wk} (P : T → Prop) (hi : fi ρ = .ok (k, ρ)) (st : stays ρ.mu k.t0 k.u = true) (hw : wipeE ρ vs = ρ) (hl : k.ts.length ≤ 16777216)
    (hs : ∀ t ∈ k.ts, ∃ ρ1, g t ρ = .ok ρ1 ∧ ft ρ1 = .ok (true, ρ1) ∧ (∃ c, fe ρ1 = .ok (c, ρ1) ∧ P c) ∧ wipeE ρ1 vs = ρ) : ∃ us, fLc vs fi g ft fe ρ = .ok (us, ρ) ∧ us.length = k.ts.length ∧ ∀ c ∈ us, P c := by
  obtain ⟨us, q1, q2, q3⟩ := lcLoop_rel P st k.ts [] hs (by simpa using hl)
  refine ⟨us, ?_, q2, q3⟩
  unfold fLc
  rw [hi]
  simp only [R.bind]
  rw [hw, q1]
  simp only [noExc, List.nil_append]
  rw [hw]
theorem forLoop_post {g : FG} {fb : FS} {t0 u : T} {P : Flow → Prop} (I : List T → Env → Prop) (h0 : ∀ ρ, I [] ρ → stays ρ.mu t0 u = true ∧ P (.next ρ))
    (h1 : ∀ t ts ρ, I (t :: ts) ρ → stays ρ.mu t0 u = true ∧ ∃ ρ1 fl, g t ρ = .ok ρ1 ∧ fb ρ1 = .ok fl ∧ match fl with
      | .next ρ2 => I ts ρ2
      | .cnt ρ2 => I ts ρ2
      | .brk ρ2 => P (.next ρ2)
      | .ret t ρ2 => P (.ret t ρ2)) : ∀ (ts : List T) (ρ : Env), I ts ρ → ∃ fl, forLoop g fb t0 u ts ρ = .ok fl ∧ P fl
  | [], ρ, h => by
    obtain ⟨st, p⟩ := h0 ρ h
    exact ⟨_, by unfold forLoop; rw [if_pos st], p⟩
  | t :: ts, ρ, h => by
    obtain ⟨st, ρ1, fl, e1, e2, q⟩ := h1 t ts ρ h
    unfold forLoop
    rw [if_pos st, e1]
    simp only [noExc, R.bind]
    rw [e2]
    cases fl with
    | next ρ2 => exact forLoop_post I h0 h1 ts ρ2 q
    | cnt ρ2 => exact forLoop_post I h0 h1 ts ρ2 q
    | brk ρ2 => exact ⟨_, rfl, q⟩
    | ret t ρ2 => exact ⟨_, rfl, q⟩
end Tr
namespace Tr
open PySem L2 GxR Gx
theorem add_ii (i j : Int) : addT (.int i) (.int j) = some (.int (i + j)) := rfl
theorem sub_ii (i j : Int) : subT (.int i) (.int j) = some (.int (i - j)) := rfl
theorem mul_r (i j : Int) (h1 : -(2 ^ 64) < j) (h2 : j < 2 ^ 64) : mulT (.int i) (.int j) = some (.int (i * j)) := if_pos (.inr ⟨h1, h2⟩)
theorem mul_l (i j : Int) (h1 : -(2 ^ 64) < i) (h2 : i < 2 ^ 64) : mulT (.int i) (.int j) = some (.int (i * j)) := if_pos (.inl ⟨h1, h2⟩)
theorem mod_ii (i j : Int) (h : 0 < j) : modT (.int i) (.int j) = some (.int (i % j)) := if_pos h
theorem log_lt {j : Int} (h0 : 0 < j) (h : j < 2 ^ 64) : j.natAbs.log2 < 9000 := by
  have h1 : j.natAbs < 2 ^ 64 := by omega
  have h3 : j.natAbs ≠ 0 := by omega
  have : j.natAbs.log2 < 64 := (Nat.log2_lt h3).mpr h1
  omega
theorem div_ii (i j : Int) (h : 0 < j) (h2 : j < 2 ^ 64) : divT (.int i) (.int j) = some (.int (i / j)) := if_pos ⟨h, log_lt h h2⟩
theorem add_ss (a b : List Nat) (h : a.length + b.length ≤ 16777216) : addT (.str a) (.str b) = some (.str (a ++ b)) := if_pos h
theorem add_ll (a b : List T) (h : a.length + b.length ≤ 16777216) : addT (.lst a) (.lst b) = some (.lst (a ++ b)) := if_pos h
theorem add_tt (a b : List T) (h : a.length + b.length ≤ 16777216) : addT (.tup a) (.tup b) = some (.tup (a ++ b)) := if_pos h
theorem lt_ii (i j : Int) : ltT (.int i) (.int j) = some (.bl (decide (i < j))) := rfl
theorem le_ii (i j : Int) : leT (.int i) (.int j) = some (.bl (decide (i ≤ j))) := rfl
theorem gt_ii (i j : Int) : gtT (.int i) (.int j) = some (.bl (decide (j < i))) := rfl
theorem ge_ii (i j : Int) : geT (.int i) (.int j) = some (.bl (decide (j ≤ i))) := rfl
theorem lt_ss (i j : List Nat) : ltT (.str i) (.str j) = some (.bl (decide (i < j))) := rfl
theorem le_ss (i j : List Nat) : leT (.str i) (.str j) = some (.bl (!decide (j < i))) := rfl
theorem len_s (s : List Nat) (h : s.length ≤ 16777216) : lenT [.str s] = some (.int s.length) := if_pos h
theorem len_l (s : List T) : lenT [.lst s] = some (.int s.length) := rfl
theorem len_t (s : List T) : lenT [.tup s] = some (.int s.length) := rfl
theorem abs_i (i : Int) : absT [.int i] = some (.int (if i < 0 then -i else i)) := rfl
theorem pow_18 : powT (.int 10) (.int 18) = some (.int 1000000000000000000) := rfl
theorem tuple_l (s : List T) : tupleT [.lst s] = some (.tup s) := rfl
theorem tuple_t (s : List T) : tupleT [.tup s] = some (.tup s) := rfl
theorem list_l (s : List T) : listN [.lst s] = some s := rfl
theorem list_t (s : List T) : listN [.tup s] = some s := rfl
/-- bools and numbers are told apart by themselves -/
theorem eq_ii (i j : Int) : eqT (.int i) (.int j) = some (.bl (decide (i = j))) := by
  unfold eqT
  rw [if_pos ⟨rfl, rfl, by simp [T.py, PyData.depth]⟩]
  simp [T.py, PyData.eqv]
  rfl
theorem eq_bb (i j : Bool) : eqT (.bl i) (.bl j) = some (.bl (decide (i = j))) := by
  unfold eqT
  rw [if_pos ⟨rfl, rfl, by simp [T.py, PyData.depth]⟩]
  cases i <;> cases j <;> rfl
theorem ne_bb (i j : Bool) : neT (.bl i) (.bl j) = some (.bl (!decide (i = j))) := by
  unfold neT
  rw [if_pos ⟨rfl, rfl, by simp [T.py, PyData.depth]⟩]
  cases i <;> cases j <;> rfl
theorem plain_nr : ∀ {t : T}, t.py.plain = true → True := fun _ => trivial
theorem eq_l0 (xs : List T) (h : PyData.plainAll (T.pys xs) = true) : eqT (.lst xs) (.lst []) = some (.bl xs.isEmpty) := by
  unfold eqT
  rw [if_pos ⟨by simpa [T.py, PyData.plain] using h, rfl, by
    simp [T.py, T.pys, PyData.depth, PyData.depthAll]⟩]
  cases xs <;> simp [T.py, T.pys, PyData.eqv, PyData.eqvAll]
theorem in_sign (c : Nat) (z : List Nat) : inT (.str [c]) (.str z) = some (.bl (decide (c ∈ z))) := rfl
theorem notIn_sign (c : Nat) (z : List Nat) : notInT (.str [c]) (.str z) = some (.bl (!decide (c ∈ z))) := rfl
theorem plain_strs (zs : List (List Nat)) : PyData.plainAll (T.pys (zs.map T.str)) = true := by
  induction zs with
  | nil => rfl
  | cons a r ih => simp only [List.map_cons, T.pys, T.py, PyData.plainAll, PyData.plain, ih, Bool.and_self]
theorem plain_all : ∀ {xs : List T}, (∀ t ∈ xs, t.py.plain = true) → PyData.plainAll (T.pys xs) = true
  | [], _ => rfl
  | x :: xs, h => by simp only [T.pys, PyData.plainAll, h x (List.mem_cons_self ..), plain_all fun t ht => h t (List.mem_cons_of_mem _ ht), Bool.and_self]
theorem range_ok (n : Nat) (h : n ≤ 16777216) : -(2 ^ 62) ≤ (n : Int) ∧ (n : Int) < 2 ^ 62 := by
  have e : (2 : Int) ^ 62 = 4611686018427387904 := by decide
  rw [e]
  omega
theorem range1_eq (fa : FE) (n : Nat) (ρ ρ' : Env) (ha : fa ρ = .ok (.int n, ρ')) (h : n ≤ 16777216) : fRange1 (fCons fa fNil) ρ = .ok (⟨(List.range n).map fun (k : Nat) => T.int (0 + (k : Int)), .non, .non⟩, ρ') := by
  have hA : ∃ p, (fCons fa fNil) ρ = .ok p ∧ p.1 = [.int n] ∧ p.2 = ρ' := ⟨_, by unfold fCons fNil; rw [ha]; rfl, rfl, rfl⟩
  obtain ⟨p, hA, e1, e2⟩ := hA
  unfold fRange1
  rw [hA, rb_ok]
  split
  · rename_i j e
    rw [e1] at e
    injection e with e _
    injection e with e
    rw [← e]
    rw [if_pos (range_ok n h), e2, Int.toNat_natCast]
  · rename_i e
    exact (e _ e1).elim
theorem strs_of {P : List Nat → Prop} : ∀ {us : List T}, (∀ t ∈ us, ∃ s, t = .str s ∧ P s) → ∃ ss : List (List Nat), us = ss.map T.str ∧ ∀ s ∈ ss, P s
  | [], _ => ⟨[], rfl, fun s h => by cases h⟩
  | t :: us, h => by
    obtain ⟨s, rfl, p⟩ := h t (List.mem_cons_self ..)
    obtain ⟨ss, rfl, q⟩ := strs_of fun t ht => h t (List.mem_cons_of_mem _ ht)
    exact ⟨s :: ss, rfl, fun x hx => (List.mem_cons.mp hx).elim (fun e => by rw [e]; exact p) (q x)⟩
theorem strsOf_map (ss : List (List Nat)) : strsOf (ss.map T.str) = some ss := by
  induction ss with
  | nil => rfl
  | cons a r ih => rw [List.map_cons]; unfold strsOf; rw [ih]; rfl
theorem joinL_len : ∀ (ss : List (List Nat)), (TL.joinL [] ss).length = (ss.map List.length).sum
  | [] => rfl
  | [p] => by simp [TL.joinL]
  | p :: q :: r => by
    show (p ++ ([] ++ TL.joinL [] (q :: r))).length = _
    rw [List.length_append, List.nil_append, joinL_len (q :: r)]
    simp
theorem sum_len {ss : List (List Nat)} {b : Nat} (h : ∀ s ∈ ss, s.length ≤ b) : (ss.map List.length).sum ≤ ss.length * b := by
  induction ss with
  | nil => simp
  | cons a r ih =>
    have h1 := h a (List.mem_cons_self ..)
    have h2 := ih fun s hs => h s (List.mem_cons_of_mem _ hs)
    simp only [List.map_cons, List.sum_cons, List.length_cons, Nat.add_mul, Nat.one_mul]
    omega
theorem join_l (ss : List (List Nat)) (b : Nat) (h : ∀ s ∈ ss, s.length ≤ b) (hb : ss.length * b ≤ 16777216) : joinT [] (.lst (ss.map .str)) = some (.str (TL.joinL [] ss)) := by
  unfold joinT
  simp only [strsOf_map, List.length_nil, Nat.mul_zero, Nat.add_zero]
  rw [if_pos (Nat.le_trans (sum_len h) hb)]
theorem ix_s (s : List Nat) (i : Int) (c : Nat) (hl : s.length ≤ 16777216) (h0 : 0 ≤ i) (h : s[i.toNat]? = some c) : ixT (.str s) (.int i) = some (.str [c]) := by
  show (if s.length ≤ 16777216 then (atI s i).map fun c => T.str [c] else none) = _
  rw [if_pos hl]
  have lt := (List.getElem?_eq_some_iff.mp h).1
  unfold atI ixN
  rw [if_pos h0, if_pos (by omega)]
  show Option.map _ (s[i.toNat]?) = _
  rw [h]
  rfl
theorem ix_s' (s : List Nat) (i : Int) (hl : s.length ≤ 16777216) (h0 : 0 ≤ i) (h1 : i < s.length) : ∃ c, c ∈ s ∧ ixT (.str s) (.int i) = some (.str [c]) := by
  have lt : i.toNat < s.length := by omega
  exact ⟨s[i.toNat], List.getElem_mem _, ix_s s i _ hl h0 (List.getElem?_eq_getElem lt)⟩
theorem ix_l' (s : List T) (i : Int) (h0 : 0 ≤ i) (h1 : i < s.length) : ∃ c, c ∈ s ∧ ixT (.lst s) (.int i) = some c := by
  have lt : i.toNat < s.length := by omega
  refine ⟨s[i.toNat], List.getElem_mem _, ?_⟩
  show atI s i = _
  unfold atI ixN
  rw [if_pos h0, if_pos h1]
  show s[i.toNat]? = _
  rw [List.getElem?_eq_getElem lt]
theorem cutL_len {α : Type} (xs : List α) (lo hi : Option Int) : (cutL xs lo hi).length ≤ xs.length := by
  unfold cutL
  rw [List.length_take, List.length_drop]
  omega
theorem cutL_mem {α : Type} {xs : List α} {lo hi : Option Int} {x : α} (h : x ∈ cutL xs lo hi) : x ∈ xs := List.mem_of_mem_drop (List.mem_of_mem_take h)
theorem cut_s (s : List Nat) (lo hi : Option Int) (h : s.length ≤ 16777216) : cutT (.str s) lo hi = some (.str (cutL s lo hi)) := if_pos h
theorem cut_l (s : List T) (lo hi : Option Int) : cutT (.lst s) lo hi = some (.lst (cutL s lo hi)) := rfl
theorem cut_t (s : List T) (lo hi : Option Int) : cutT (.tup s) lo hi = some (.tup (cutL s lo hi)) := rfl
theorem mod_in (n m : Int) (h : 0 < m) : 0 ≤ n % m ∧ n % m < m := ⟨Int.emod_nonneg _ (by omega), Int.emod_lt_of_pos _ h⟩
end Tr
namespace K12
open PySem L2 GxR Gx Tr
structure Txt (K : PySem.W.Frag) (mg : Str → Option Value) : Prop where
  c_MOST_LETTERS : ∃ t, mg "MOST_LETTERS" = some (.int 8 t)
  c_MOST_WORDS : ∃ t, mg "MOST_WORDS" = some (.int 24 t)
  b_abs : mg "abs" = none
  b_all : mg "all" = none
  b_bool : mg "bool" = none
  b_isinstance : mg "isinstance" = none
  b_len : mg "len" = none
  b_list : mg "list" = none
  b_range : mg "range" = none
  b_str : mg "str" = none
  b_tuple : mg "tuple" = none
def st_is_name : Stmt := PySem.Challenge.pw_paperreader_k12_names_and_rows.main.body.getD 3 (.Pass ⟨0, 0, 0, 0⟩)
abbrev N_is_name : List Str := ["thing", "sign"]
theorem sc_is_name : FnScope N_is_name ["thing"] (defScope st_is_name) := ⟨rfl, rfl, rfl, by decide +kernel, rfl, by decide +kernel, by decide +kernel⟩
def b_is_name : FS := (fSeq (fIfS (fOr (fNot (fTest (fCall isiT (fCons (fVar 0) (fCons (fC (.ty "str")) fNil))))) (fNot (fTest (fChain leT leT (fC (.int 1)) (fCall lenT (fCons (fVar 0) fNil)) (fC (.int 8)))))) (fRet (fC (.bl false))) fNext) (fRet (fAA false [1] (fItS (fVar 0)) (fSet 1) fYes (fChain leT leT (fC (.str [97])) (fVar 1) (fC (.str [122]))))))
def D_is_name : List T → RD := fun ts => (runD N_is_name.length b_is_name ts).noX
theorem fn_is_name {P : Program} {w : World} {K : PySem.W.Frag} {mg : Str → Option Value} {base : Heap} {G : GG} {f : Addr} {fd : FuncData} (hK : G.K = K) (F : Fun K "is_name" "is_name" st_is_name f fd) (T : Txt K mg) {c P' : Addr} (hcd : fd.code = .ref c) (TB : TabB base mg c P') (hP : P' ∈ G.tabs) : FnOk P w K mg base CX0 3 f fd ["thing"] (SpT G 1 D_is_name) := by
  subst hK
  refine fn_pure (k := 2) F sc_is_name (fb := b_is_name) fun cdv A outer s H E hc hr => ?_
  have hcode : cdv = .ref c := hc.symm.trans hcd
  subst hcode
  have hcode : (cxOf CX0 P w G.K mg base N_is_name "is_name" (defScope st_is_name) f (.ref c) A outer s H E).nox.env.code = .ref c := rfl
  unfold b_is_name
  exact (pss_consf (ps_iff (PWf.pt (pwf_or (ptf_not (ptf_val (pef_callB (call_isi_t rfl) (by rfl) T.b_isinstance (by first | rfl | decide +kernel) (paf_cons (pef_var (pv 0)) (paf_cons (pef_ty (by rfl) T.b_str (by first | rfl | decide +kernel)) paf_nil))))) (pwf_or1 (ptf_not (ptf_chain (op_le_t) (op_le_t) pef_int (pef_callB (call_len_t rfl) (by rfl) T.b_len (by first | rfl | decide +kernel) (paf_cons (pef_var (pv 0)) paf_nil)) (pef_gint (by rfl) T.c_MOST_LETTERS)))))) (pss_onef (ps_retf pef_bl)) pss_nilf) (pss_onef (ps_retf (pef_aa (own := [("sign", 1)]) false rfl hP (hr.mono (by decide)) (by rfl) T.b_all TB hcode rfl sc_is_name.nd (pif_str (pef_var (pv 0))) (blkOk_by (N := N_is_name) (sc := defScope st_is_name) (by decide +kernel)) rfl (by decide +kernel) rfl (fun _ _ _ _ _ _ => (pgf_name (pg_name (i := 1) sc_is_name.nd rfl (Or.inl rfl)))) (fun _ _ _ _ _ _ => ptsf_nil) (fun _ _ _ _ _ _ => (pef_chain (op_le_t) (op_le_t) (pef_str (l := [97]) rfl) (pef_var (pv 1)) (pef_str (l := [122]) rfl)))))))

def st_are_names : Stmt := PySem.Challenge.pw_paperreader_k12_names_and_rows.main.body.getD 4 (.Pass ⟨0, 0, 0, 0⟩)
abbrev N_are_names : List Str := ["thing", "most", "name"]
theorem sc_are_names : FnScope N_are_names ["thing", "most"] (defScope st_are_names) := ⟨rfl, rfl, rfl, by decide +kernel, rfl, by decide +kernel, by decide +kernel⟩
def b_are_names : FS := (fSeq (fIfS (fOr (fNot (fTest (fCall isiT (fCons (fVar 0) (fCons (fC (.ty "tuple")) fNil))))) (fTest (fBin gtT (fCall lenT (fCons (fVar 0) fNil)) (fVar 1)))) (fRet (fC (.bl false))) fNext) (fRet (fAA false [2] (fItT (fVar 0)) (fSet 2) fYes (fCallD D_is_name 1 (fCons (fVar 2) fNil)))))
def D_are_names : List T → RD := fun ts => (runD N_are_names.length b_are_names ts).noX
theorem fn_are_names {P : Program} {w : World} {K : PySem.W.Frag} {mg : Str → Option Value} {base : Heap} {G : GG} {f : Addr} {fd : FuncData} (hK : G.K = K) (F : Fun K "are_names" "are_names" st_are_names f fd) (T : Txt K mg) {c P' : Addr} (hcd : fd.code = .ref c) (TB : TabB base mg c P') (hP : P' ∈ G.tabs) (c_is_name : CalD P w K mg base G 3 "is_name" 1 D_is_name) : FnOk P w K mg base CX0 5 f fd ["thing", "most"] (SpT G 2 D_are_names) := by
  subst hK
  refine fn_pure (k := 4) F sc_are_names (fb := b_are_names) fun cdv A outer s H E hc hr => ?_
  have hcode : cdv = .ref c := hc.symm.trans hcd
  subst hcode
  have hcode : (cxOf CX0 P w G.K mg base N_are_names "are_names" (defScope st_are_names) f (.ref c) A outer s H E).nox.env.code = .ref c := rfl
  unfold b_are_names
  exact (pss_consf (ps_iff (PWf.pt (pwf_or (ptf_not (ptf_val (pef_callB (call_isi_t rfl) (by rfl) T.b_isinstance (by first | rfl | decide +kernel) (paf_cons (pef_var (pv 0)) (paf_cons (pef_ty (by rfl) T.b_tuple (by first | rfl | decide +kernel)) paf_nil))))) (pwf_or1 (ptf_cmp (op_gt_t) (pef_callB (call_len_t rfl) (by rfl) T.b_len (by first | rfl | decide +kernel) (paf_cons (pef_var (pv 0)) paf_nil)) (pef_var (pv 1)) (by first | rfl | with_unfolding_all rfl))))) (pss_onef (ps_retf pef_bl)) pss_nilf) (pss_onef (ps_retf (pef_aa (own := [("name", 2)]) false rfl hP (hr.mono (by decide)) (by rfl) T.b_all TB hcode rfl sc_are_names.nd (pif_tup rfl (pef_var (pv 0))) (blkOk_by (N := N_are_names) (sc := defScope st_are_names) (by decide +kernel)) rfl (by decide +kernel) rfl (fun _ _ _ _ _ _ => (pgf_name (pg_name (i := 2) sc_are_names.nd rfl (Or.inl rfl)))) (fun _ _ _ _ _ _ => ptsf_nil) (fun _ _ _ _ _ _ => (pef_calld c_is_name ((room_gen hr).mono (by decide)) (by rfl) (paf_cons (pef_var (pv 2)) paf_nil)))))))

def st_is_row : Stmt := PySem.Challenge.pw_paperreader_k12_names_and_rows.main.body.getD 5 (.Pass ⟨0, 0, 0, 0⟩)
abbrev N_is_row : List Str := ["thing"]
theorem sc_is_row : FnScope N_is_row ["thing"] (defScope st_is_row) := ⟨rfl, rfl, rfl, by decide +kernel, rfl, by decide +kernel, by decide +kernel⟩
def b_is_row : FS := (fRet (fCallD D_are_names 2 (fCons (fVar 0) (fCons (fC (.int 24)) fNil))))
def D_is_row : List T → RD := fun ts => (runD N_is_row.length b_is_row ts).noX
theorem fn_is_row {P : Program} {w : World} {K : PySem.W.Frag} {mg : Str → Option Value} {base : Heap} {G : GG} {f : Addr} {fd : FuncData} (hK : G.K = K) (F : Fun K "is_row" "is_row" st_is_row f fd) (T : Txt K mg) (c_are_names : CalD P w K mg base G 5 "are_names" 2 D_are_names) : FnOk P w K mg base CX0 6 f fd ["thing"] (SpT G 1 D_is_row) := by
  subst hK
  refine fn_pure (k := 5) F sc_is_row (fb := b_is_row) fun cdv A outer s H E hc hr => ?_
  unfold b_is_row
  exact (pss_onef (ps_retf (pef_calld c_are_names (hr.mono (by decide)) (by rfl) (paf_cons (pef_var (pv 0)) (paf_cons (pef_gint (by rfl) T.c_MOST_WORDS) paf_nil)))))

def st__law_draws : Stmt := PySem.Challenge.pw_paperreader_k12_names_and_rows.main.body.getD 7 (.Pass ⟨0, 0, 0, 0⟩)
abbrev N__law_draws : List Str := ["number", "sizes", "found", "size"]
theorem sc__law_draws : FnScope N__law_draws ["number", "sizes"] (defScope st__law_draws) := ⟨rfl, rfl, rfl, by decide +kernel, rfl, by decide +kernel, by decide +kernel⟩
def b__law_draws : FS := (fSeq (fAsg 2 (fOwn (fLstN fNil))) (fSeq (fFor (fItL (fVar 1)) (fSet 3) (fSeq (fDrop (fAppend (fVar 2) (fBin modT (fVar 0) (fVar 3)))) (fAsg 0 (fBin divT (fVar 0) (fVar 3))))) (fRet (fVar 2))))
def D__law_draws : List T → RD := fun ts => (runD N__law_draws.length b__law_draws ts).noX
theorem fn__law_draws {P : Program} {w : World} {K : PySem.W.Frag} {mg : Str → Option Value} {base : Heap} {G : GG} {f : Addr} {fd : FuncData} (hK : G.K = K) (F : Fun K "_law_draws" "_law_draws" st__law_draws f fd) (T : Txt K mg) : FnOk P w K mg base CX0 1 f fd ["number", "sizes"] (SpT G 2 D__law_draws) := by
  subst hK
  refine fn_pure (k := 0) F sc__law_draws (fb := b__law_draws) fun cdv A outer s H E hc hr => ?_
  unfold b__law_draws
  exact (pss_consf (ps_setf (i := 2) sc__law_draws.nd rfl (Or.inl rfl) (PNf.own (pnf_lst paf_nil))) (pss_consf (ps_forf PassesOwn.never rfl (pif_list rfl (pef_var (pv 1))) (pgf_name (pg_name (i := 3) sc__law_draws.nd rfl (Or.inl rfl))) (pss_consf (ps_exprf (pef_append (pef_var (pv 2)) (pef_bin (op_mod_t) (pef_var (pv 0)) (pef_var (pv 3))))) (pss_onef (ps_setf (i := 0) sc__law_draws.nd rfl (Or.inl rfl) (pef_bin (op_div_t) (pef_var (pv 0)) (pef_var (pv 3))))))) (pss_onef (ps_retf (pef_var (pv 2))))))

def st__law_mix : Stmt := PySem.Challenge.pw_paperreader_k12_names_and_rows.main.body.getD 8 (.Pass ⟨0, 0, 0, 0⟩)
abbrev N__law_mix : List Str := ["number", "k", "mixed"]
theorem sc__law_mix : FnScope N__law_mix ["number", "k"] (defScope st__law_mix) := ⟨rfl, rfl, rfl, by decide +kernel, rfl, by decide +kernel, by decide +kernel⟩
def b__law_mix : FS := (fSeq (fAsg 2 (fBin modT (fBin addT (fBin addT (fBin mulT (fVar 0) (fC (.int 48271))) (fBin mulT (fVar 1) (fC (.int 104729)))) (fC (.int 11))) (fC (.int 2147483647)))) (fRet (fBin modT (fBin addT (fBin addT (fBin mulT (fVar 2) (fVar 2)) (fBin mulT (fC (.int 48271)) (fVar 2))) (fVar 1)) (fC (.int 2147483629)))))
def D__law_mix : List T → RD := fun ts => (runD N__law_mix.length b__law_mix ts).noX
theorem fn__law_mix {P : Program} {w : World} {K : PySem.W.Frag} {mg : Str → Option Value} {base : Heap} {G : GG} {f : Addr} {fd : FuncData} (hK : G.K = K) (F : Fun K "_law_mix" "_law_mix" st__law_mix f fd) (T : Txt K mg) : FnOk P w K mg base CX0 1 f fd ["number", "k"] (SpT G 2 D__law_mix) := by
  subst hK
  refine fn_pure (k := 0) F sc__law_mix (fb := b__law_mix) fun cdv A outer s H E hc hr => ?_
  unfold b__law_mix
  exact (pss_consf (ps_setf (i := 2) sc__law_mix.nd rfl (Or.inl rfl) (pef_bin (op_mod_t) (pef_bin (op_add_t rfl) (pef_bin (op_add_t rfl) (pef_bin (op_mul_t) (pef_var (pv 0)) pef_int) (pef_bin (op_mul_t) (pef_var (pv 1)) pef_int)) pef_int) pef_int)) (pss_onef (ps_retf (pef_bin (op_mod_t) (pef_bin (op_add_t rfl) (pef_bin (op_add_t rfl) (pef_bin (op_mul_t) (pef_var (pv 2)) (pef_var (pv 2))) (pef_bin (op_mul_t) pef_int (pef_var (pv 2)))) (pef_var (pv 1))) pef_int))))

def st__law_digits : Stmt := PySem.Challenge.pw_paperreader_k12_names_and_rows.main.body.getD 9 (.Pass ⟨0, 0, 0, 0⟩)
abbrev N__law_digits : List Str := ["cell", "some", "most", "number", "found", "k", "many"]
theorem sc__law_digits : FnScope N__law_digits ["cell", "some", "most"] (defScope st__law_digits) := ⟨rfl, rfl, rfl, by decide +kernel, rfl, by decide +kernel, by decide +kernel⟩
def b__law_digits : FS := (fSeq (fAsg 3 (fBin subT (fCall absT (fCons (fVar 0) fNil)) (fBin powT (fC (.int 10)) (fC (.int 18))))) (fSeq (fPar 6 3 (fCons (fBin modT (fVar 3) (fBin addT (fVar 2) (fC (.int 1)))) (fCons (fBin divT (fVar 3) (fBin addT (fVar 2) (fC (.int 1)))) fNil))) (fSeq (fAsg 4 (fOwn (fLstN fNil))) (fSeq (fFor (fRange1 (fCons (fVar 6) fNil)) (fSet 5) (fSeq (fDrop (fAppend (fVar 4) (fBin ixT (fVar 1) (fBin modT (fVar 3) (fCall lenT (fCons (fVar 1) fNil)))))) (fAsg 3 (fBin divT (fVar 3) (fCall lenT (fCons (fVar 1) fNil)))))) (fRet (fVar 4))))))
def D__law_digits : List T → RD := fun ts => (runD N__law_digits.length b__law_digits ts).noX
theorem fn__law_digits {P : Program} {w : World} {K : PySem.W.Frag} {mg : Str → Option Value} {base : Heap} {G : GG} {f : Addr} {fd : FuncData} (hK : G.K = K) (F : Fun K "_law_digits" "_law_digits" st__law_digits f fd) (T : Txt K mg) : FnOk P w K mg base CX0 1 f fd ["cell", "some", "most"] (SpT G 3 D__law_digits) := by
  subst hK
  refine fn_pure (k := 0) F sc__law_digits (fb := b__law_digits) fun cdv A outer s H E hc hr => ?_
  unfold b__law_digits
  exact (pss_consf (ps_setf (i := 3) sc__law_digits.nd rfl (Or.inl rfl) (pef_bin (op_sub_t) (pef_callB (call_abs_t) (by rfl) T.b_abs (by first | rfl | decide +kernel) (paf_cons (pef_var (pv 0)) paf_nil)) (pef_bin (op_pow_t) pef_int pef_int))) (pss_consf (ps_parf (i := 6) (j := 3) rfl sc__law_digits.nd rfl rfl (by decide) rfl rfl (paf_cons (pef_bin (op_mod_t) (pef_var (pv 3)) (pef_bin (op_add_t rfl) (pef_var (pv 2)) pef_int)) (paf_cons (pef_bin (op_div_t) (pef_var (pv 3)) (pef_bin (op_add_t rfl) (pef_var (pv 2)) pef_int)) paf_nil)) (by first | rfl | with_unfolding_all rfl)) (pss_consf (ps_setf (i := 4) sc__law_digits.nd rfl (Or.inl rfl) (PNf.own (pnf_lst paf_nil))) (pss_consf (ps_forf PassesOwn.never rfl (pif_range1 (by rfl) T.b_range (paf_cons (pef_var (pv 6)) paf_nil)) (pgf_name (pg_name (i := 5) sc__law_digits.nd rfl (Or.inl rfl))) (pss_consf (ps_exprf (pef_append (pef_var (pv 4)) (pef_ix rfl (pef_var (pv 1)) (pef_bin (op_mod_t) (pef_var (pv 3)) (pef_callB (call_len_t rfl) (by rfl) T.b_len (by first | rfl | decide +kernel) (paf_cons (pef_var (pv 1)) paf_nil)))))) (pss_onef (ps_setf (i := 3) sc__law_digits.nd rfl (Or.inl rfl) (pef_bin (op_div_t) (pef_var (pv 3)) (pef_callB (call_len_t rfl) (by rfl) T.b_len (by first | rfl | decide +kernel) (paf_cons (pef_var (pv 1)) paf_nil))))))) (pss_onef (ps_retf (pef_var (pv 4))))))))

def st__law_text : Stmt := PySem.Challenge.pw_paperreader_k12_names_and_rows.main.body.getD 10 (.Pass ⟨0, 0, 0, 0⟩)
abbrev N__law_text : List Str := ["cell", "text", "odd", "size", "way", "at", "sign", "k"]
theorem sc__law_text : FnScope N__law_text ["cell"] (defScope st__law_text) := ⟨rfl, rfl, rfl, by decide +kernel, rfl, by decide +kernel, by decide +kernel⟩
def b__law_text : FS := (fSeq (fIfS (fTest (fBin geT (fCall absT (fCons (fVar 0) fNil)) (fBin powT (fC (.int 10)) (fC (.int 18))))) (fRet (fJoin (fC (.str [])) (fCallD D__law_digits 3 (fCons (fVar 0) (fCons (fFrz (fLstN (fCons (fC (.str [97])) (fCons (fC (.str [122])) (fCons (fC (.str [65])) (fCons (fC (.str [48])) (fCons (fC (.str [32])) fNil))))))) (fCons (fC (.int 9)) fNil)))))) fNext) (fSeq (fAsgG (fGTup 4 (fGCons (fSet 3) (fGCons (fSet 4) (fGCons (fSet 5) (fGCons (fSet 6) fGNil))))) (fCallD D__law_draws 2 (fCons (fCallD D__law_mix 2 (fCons (fVar 0) (fCons (fC (.int 1)) fNil))) (fCons (fFrz (fLstN (fCons (fC (.int 11)) (fCons (fC (.int 3)) (fCons (fC (.int 10)) (fCons (fC (.int 40)) fNil)))))) fNil)))) (fSeq (fAsg 1 (fJoin (fC (.str [])) (fFrz (fLc [7] (fRange1 (fCons (fVar 3) fNil)) (fSet 7) fYes (fBin ixT (fC (.str [97, 98, 99, 100, 101, 102, 103, 104, 105, 106, 107, 108, 109, 110, 111, 112, 113, 114, 115, 116, 117, 118, 119, 120, 121, 122])) (fBin modT (fCallD D__law_mix 2 (fCons (fVar 0) (fCons (fBin addT (fC (.int 20)) (fVar 7)) fNil))) (fC (.int 26)))))))) (fSeq (fAsg 2 (fC (.str [65, 66, 90, 48, 49, 57, 95, 32, 45, 46, 44, 58, 59, 39, 47, 35, 33, 63, 40, 41, 91, 93, 123, 125, 60, 62, 61, 43, 42, 38, 94, 124, 126, 10, 64, 65, 97, 122]))) (fRet (fIf (fAnd (fTest (fBin eqT (fVar 4) (fC (.int 1)))) (fTest (fBin gtT (fVar 3) (fC (.int 0))))) (fBin addT (fBin addT (fSlice (fVar 1) fNoPart (fPart (fVar 5))) (fBin ixT (fVar 2) (fBin modT (fVar 6) (fC (.int 38))))) (fSlice (fVar 1) (fPart (fBin addT (fVar 5) (fC (.int 1)))) fNoPart)) (fVar 1)))))))
def D__law_text : List T → RD := fun ts => (runD N__law_text.length b__law_text ts).noX
theorem fn__law_text {P : Program} {w : World} {K : PySem.W.Frag} {mg : Str → Option Value} {base : Heap} {G : GG} {f : Addr} {fd : FuncData} (hK : G.K = K) (F : Fun K "_law_text" "_law_text" st__law_text f fd) (T : Txt K mg) (c__law_digits : CalD P w K mg base G 1 "_law_digits" 3 D__law_digits) (c__law_draws : CalD P w K mg base G 1 "_law_draws" 2 D__law_draws) (c__law_mix : CalD P w K mg base G 1 "_law_mix" 2 D__law_mix) : FnOk P w K mg base CX0 2 f fd ["cell"] (SpT G 1 D__law_text) := by
  subst hK
  refine fn_pure (k := 1) F sc__law_text (fb := b__law_text) fun cdv A outer s H E hc hr => ?_
  unfold b__law_text
  exact (pss_consf (ps_iff (ptf_cmp (op_ge_t) (pef_callB (call_abs_t) (by rfl) T.b_abs (by first | rfl | decide +kernel) (paf_cons (pef_var (pv 0)) paf_nil)) (pef_bin (op_pow_t) pef_int pef_int) (by first | rfl | with_unfolding_all rfl)) (pss_onef (ps_retf (pef_join rfl (pef_str (l := []) rfl) (pef_calld c__law_digits (hr.mono (by decide)) (by rfl) (paf_cons (pef_var (pv 0)) (paf_cons (PNf.frz (pnf_lst (paf_cons (pef_str (l := [97]) rfl) (paf_cons (pef_str (l := [122]) rfl) (paf_cons (pef_str (l := [65]) rfl) (paf_cons (pef_str (l := [48]) rfl) (paf_cons (pef_str (l := [32]) rfl) paf_nil))))))) (paf_cons pef_int paf_nil))))))) pss_nilf) (pss_consf (ps_asgf (pef_calld c__law_draws (hr.mono (by decide)) (by rfl) (paf_cons (pef_calld c__law_mix (hr.mono (by decide)) (by rfl) (paf_cons (pef_var (pv 0)) (paf_cons pef_int paf_nil))) (paf_cons (PNf.frz (pnf_lst (paf_cons pef_int (paf_cons pef_int (paf_cons pef_int (paf_cons pef_int paf_nil)))))) paf_nil))) (pgf_tup rfl rfl (pgsf_cons (pgf_name (pg_name (i := 3) sc__law_text.nd rfl (Or.inl rfl))) (pgsf_cons (pgf_name (pg_name (i := 4) sc__law_text.nd rfl (Or.inl rfl))) (pgsf_cons (pgf_name (pg_name (i := 5) sc__law_text.nd rfl (Or.inl rfl))) (pgsf_cons (pgf_name (pg_name (i := 6) sc__law_text.nd rfl (Or.inl rfl))) pgsf_nil)))))) (pss_consf (ps_setf (i := 1) sc__law_text.nd rfl (Or.inl rfl) (pef_join rfl (pef_str (l := []) rfl) (PNf.frz (pnf_lc (own := [("k", 7)]) rfl sc__law_text.nd (pif_range1 (by rfl) T.b_range (paf_cons (pef_var (pv 3)) paf_nil)) (blkOk_by (N := N__law_text) (sc := defScope st__law_text) (by decide +kernel)) (fun _ _ _ _ _ => (pgf_name (pg_name (i := 7) sc__law_text.nd rfl (Or.inl rfl)))) (fun _ _ _ _ _ => ptsf_nil) (fun _ _ _ _ _ => (pef_ix rfl (pef_str (l := [97, 98, 99, 100, 101, 102, 103, 104, 105, 106, 107, 108, 109, 110, 111, 112, 113, 114, 115, 116, 117, 118, 119, 120, 121, 122]) rfl) (pef_bin (op_mod_t) (pef_calld c__law_mix (hr.mono (by decide)) (by rfl) (paf_cons (pef_var (pv 0)) (paf_cons (pef_bin (op_add_t rfl) pef_int (pef_var (pv 7))) paf_nil))) pef_int))))))) (pss_consf (ps_setf (i := 2) sc__law_text.nd rfl (Or.inl rfl) (pef_str (l := [65, 66, 90, 48, 49, 57, 95, 32, 45, 46, 44, 58, 59, 39, 47, 35, 33, 63, 40, 41, 91, 93, 123, 125, 60, 62, 61, 43, 42, 38, 94, 124, 126, 10, 64, 65, 97, 122]) rfl)) (pss_onef (ps_retf (pef_ifExp (PWf.pt (pwf_and (ptf_cmp (op_eq_t rfl (hu64 hr)) (pef_var (pv 4)) pef_int (by first | rfl | with_unfolding_all rfl)) (pwf_and1 (ptf_cmp (op_gt_t) (pef_var (pv 3)) pef_int (by first | rfl | with_unfolding_all rfl))))) (pef_bin (op_add_t rfl) (pef_bin (op_add_t rfl) (pef_slice rfl (pef_var (pv 1)) pof_none (pof_some (pef_var (pv 5)))) (pef_ix rfl (pef_var (pv 2)) (pef_bin (op_mod_t) (pef_var (pv 6)) pef_int))) (pef_slice rfl (pef_var (pv 1)) (pof_some (pef_bin (op_add_t rfl) (pef_var (pv 5)) pef_int)) pof_none)) (pef_var (pv 1)))))))))

def st__law_thing : Stmt := PySem.Challenge.pw_paperreader_k12_names_and_rows.main.body.getD 11 (.Pass ⟨0, 0, 0, 0⟩)
abbrev N__law_thing : List Str := ["cell"]
theorem sc__law_thing : FnScope N__law_thing ["cell"] (defScope st__law_thing) := ⟨rfl, rfl, rfl, by decide +kernel, rfl, by decide +kernel, by decide +kernel⟩
def b__law_thing : FS := (fRet (fBin ixT (fFrz (fLstN (fCons (fC .non) (fCons (fC (.int 5)) (fCons (fC (.bl true)) (fCons (fFrz (fLstN (fCons (fC (.str [97])) fNil))) (fCons (fTup (fCons (fC (.str [97])) (fCons (fC (.int 5)) fNil))) (fCons (fC (.dct [])) (fCons (fTup (fCons (fC .non) fNil)) (fCons (fC (.int 0)) (fCons (fTup (fCons (fC (.str [97])) (fCons (fTup (fCons (fC (.str [97])) fNil)) fNil))) (fCons (fC (.str [97, 32, 98])) (fCons (fTup (fCons (fTup (fCons (fC (.str [97])) fNil)) fNil)) (fCons (fFrz (fLstN (fCons (fC (.str [97])) (fCons (fC (.str [98])) fNil)))) fNil)))))))))))))) (fBin modT (fVar 0) (fC (.int 12)))))
def D__law_thing : List T → RD := fun ts => (runD N__law_thing.length b__law_thing ts).noX
theorem fn__law_thing {P : Program} {w : World} {K : PySem.W.Frag} {mg : Str → Option Value} {base : Heap} {G : GG} {f : Addr} {fd : FuncData} (hK : G.K = K) (F : Fun K "_law_thing" "_law_thing" st__law_thing f fd) (T : Txt K mg) : FnOk P w K mg base CX0 1 f fd ["cell"] (SpT G 1 D__law_thing) := by
  subst hK
  refine fn_pure (k := 0) F sc__law_thing (fb := b__law_thing) fun cdv A outer s H E hc hr => ?_
  unfold b__law_thing
  exact (pss_onef (ps_retf (pef_ix rfl (PNf.frz (pnf_lst (paf_cons pef_non (paf_cons pef_int (paf_cons pef_bl (paf_cons (PNf.frz (pnf_lst (paf_cons (pef_str (l := [97]) rfl) paf_nil))) (paf_cons (pef_tup (paf_cons (pef_str (l := [97]) rfl) (paf_cons pef_int paf_nil))) (paf_cons pef_dct0 (paf_cons (pef_tup (paf_cons pef_non paf_nil)) (paf_cons pef_int (paf_cons (pef_tup (paf_cons (pef_str (l := [97]) rfl) (paf_cons (pef_tup (paf_cons (pef_str (l := [97]) rfl) paf_nil)) paf_nil))) (paf_cons (pef_str (l := [97, 32, 98]) rfl) (paf_cons (pef_tup (paf_cons (pef_tup (paf_cons (pef_str (l := [97]) rfl) paf_nil)) paf_nil)) (paf_cons (PNf.frz (pnf_lst (paf_cons (pef_str (l := [97]) rfl) (paf_cons (pef_str (l := [98]) rfl) paf_nil)))) paf_nil)))))))))))))) (pef_bin (op_mod_t) (pef_var (pv 0)) pef_int))))

def st__law_is_name : Stmt := PySem.Challenge.pw_paperreader_k12_names_and_rows.main.body.getD 12 (.Pass ⟨0, 0, 0, 0⟩)
abbrev N__law_is_name : List Str := ["thing", "sign"]
theorem sc__law_is_name : FnScope N__law_is_name ["thing"] (defScope st__law_is_name) := ⟨rfl, rfl, rfl, by decide +kernel, rfl, by decide +kernel, by decide +kernel⟩
def b__law_is_name : FS := (fSeq (fIfS (fOr (fNot (fTest (fCall isiT (fCons (fVar 0) (fCons (fC (.ty "str")) fNil))))) (fNot (fTest (fChain leT leT (fC (.int 1)) (fCall lenT (fCons (fVar 0) fNil)) (fC (.int 8)))))) (fRet (fC (.bl false))) fNext) (fRet (fBin eqT (fFrz (fLc [1] (fItS (fVar 0)) (fSet 1) (fTest (fBin notInT (fVar 1) (fC (.str [97, 98, 99, 100, 101, 102, 103, 104, 105, 106, 107, 108, 109, 110, 111, 112, 113, 114, 115, 116, 117, 118, 119, 120, 121, 122])))) (fVar 1))) (fFrz (fLstN fNil)))))
def D__law_is_name : List T → RD := fun ts => (runD N__law_is_name.length b__law_is_name ts).noX
theorem fn__law_is_name {P : Program} {w : World} {K : PySem.W.Frag} {mg : Str → Option Value} {base : Heap} {G : GG} {f : Addr} {fd : FuncData} (hK : G.K = K) (F : Fun K "_law_is_name" "_law_is_name" st__law_is_name f fd) (T : Txt K mg) : FnOk P w K mg base CX0 1 f fd ["thing"] (SpT G 1 D__law_is_name) := by
  subst hK
  refine fn_pure (k := 0) F sc__law_is_name (fb := b__law_is_name) fun cdv A outer s H E hc hr => ?_
  unfold b__law_is_name
  exact (pss_consf (ps_iff (PWf.pt (pwf_or (ptf_not (ptf_val (pef_callB (call_isi_t rfl) (by rfl) T.b_isinstance (by first | rfl | decide +kernel) (paf_cons (pef_var (pv 0)) (paf_cons (pef_ty (by rfl) T.b_str (by first | rfl | decide +kernel)) paf_nil))))) (pwf_or1 (ptf_not (ptf_chain (op_le_t) (op_le_t) pef_int (pef_callB (call_len_t rfl) (by rfl) T.b_len (by first | rfl | decide +kernel) (paf_cons (pef_var (pv 0)) paf_nil)) pef_int))))) (pss_onef (ps_retf pef_bl)) pss_nilf) (pss_onef (ps_retf (pef_cmp (op_eq_t rfl (hu64 hr)) (PNf.frz (pnf_lc (own := [("sign", 1)]) rfl sc__law_is_name.nd (pif_str (pef_var (pv 0))) (blkOk_by (N := N__law_is_name) (sc := defScope st__law_is_name) (by decide +kernel)) (fun _ _ _ _ _ => (pgf_name (pg_name (i := 1) sc__law_is_name.nd rfl (Or.inl rfl)))) (fun _ _ _ _ _ => (ptsf_one (ptf_cmp (op_notIn_t rfl (hu65 hr)) (pef_var (pv 1)) (pef_str (l := [97, 98, 99, 100, 101, 102, 103, 104, 105, 106, 107, 108, 109, 110, 111, 112, 113, 114, 115, 116, 117, 118, 119, 120, 121, 122]) rfl) (by first | rfl | with_unfolding_all rfl)))) (fun _ _ _ _ _ => (pef_var (pv 1))))) (PNf.frz (pnf_lst paf_nil)) (by first | rfl | with_unfolding_all rfl)))))

def st__law_row : Stmt := PySem.Challenge.pw_paperreader_k12_names_and_rows.main.body.getD 13 (.Pass ⟨0, 0, 0, 0⟩)
abbrev N__law_row : List Str := ["cell", "row", "size", "at", "way", "k"]
theorem sc__law_row : FnScope N__law_row ["cell"] (defScope st__law_row) := ⟨rfl, rfl, rfl, by decide +kernel, rfl, by decide +kernel, by decide +kernel⟩
def b__law_row : FS := (fSeq (fIfS (fTest (fBin geT (fCall absT (fCons (fVar 0) fNil)) (fBin powT (fC (.int 10)) (fC (.int 18))))) (fRet (fCall tupleT (fCons (fCallD D__law_digits 3 (fCons (fVar 0) (fCons (fFrz (fLstN (fCons (fC (.str [97])) (fCons (fC (.str [98])) (fCons (fC (.str [65, 98])) fNil))))) (fCons (fC (.int 25)) fNil)))) fNil))) fNext) (fSeq (fAsgG (fGTup 3 (fGCons (fSet 2) (fGCons (fSet 3) (fGCons (fSet 4) fGNil)))) (fCallD D__law_draws 2 (fCons (fCallD D__law_mix 2 (fCons (fVar 0) (fCons (fC (.int 2)) fNil))) (fCons (fFrz (fLstN (fCons (fC (.int 27)) (fCons (fC (.int 26)) (fCons (fC (.int 3)) fNil))))) fNil)))) (fSeq (fAsg 1 (fOwn (fLc [5] (fRange1 (fCons (fVar 2) fNil)) (fSet 5) fYes (fSlice (fC (.str [97, 98, 99, 100, 101, 102, 103, 104])) fNoPart (fPart (fBin addT (fC (.int 1)) (fBin modT (fCallD D__law_mix 2 (fCons (fVar 0) (fCons (fBin addT (fC (.int 60)) (fVar 5)) fNil))) (fC (.int 8))))))))) (fSeq (fIfS (fAnd (fTest (fBin eqT (fVar 4) (fC (.int 0)))) (fTest (fBin gtT (fVar 2) (fC (.int 0))))) (fAsgG (fSubL (fVar 1) (fBin modT (fVar 3) (fVar 2))) (fBin ixT (fFrz (fLstN (fCons (fC (.str [65])) (fCons (fC (.str [])) (fCons (fC (.str [97, 98, 99, 100, 101, 102, 103, 104, 105])) (fCons (fC .non) (fCons (fC (.int 5)) (fCons (fC (.str [97, 49])) fNil)))))))) (fBin modT (fCallD D__law_mix 2 (fCons (fVar 0) (fCons (fC (.int 3)) fNil))) (fC (.int 6))))) fNext) (fRet (fCall tupleT (fCons (fVar 1) fNil)))))))
def D__law_row : List T → RD := fun ts => (runD N__law_row.length b__law_row ts).noX
theorem fn__law_row {P : Program} {w : World} {K : PySem.W.Frag} {mg : Str → Option Value} {base : Heap} {G : GG} {f : Addr} {fd : FuncData} (hK : G.K = K) (F : Fun K "_law_row" "_law_row" st__law_row f fd) (T : Txt K mg) (c__law_digits : CalD P w K mg base G 1 "_law_digits" 3 D__law_digits) (c__law_draws : CalD P w K mg base G 1 "_law_draws" 2 D__law_draws) (c__law_mix : CalD P w K mg base G 1 "_law_mix" 2 D__law_mix) : FnOk P w K mg base CX0 2 f fd ["cell"] (SpT G 1 D__law_row) := by
  subst hK
  refine fn_pure (k := 1) F sc__law_row (fb := b__law_row) fun cdv A outer s H E hc hr => ?_
  unfold b__law_row
  exact (pss_consf (ps_iff (ptf_cmp (op_ge_t) (pef_callB (call_abs_t) (by rfl) T.b_abs (by first | rfl | decide +kernel) (paf_cons (pef_var (pv 0)) paf_nil)) (pef_bin (op_pow_t) pef_int pef_int) (by first | rfl | with_unfolding_all rfl)) (pss_onef (ps_retf (pef_callTy (call_tuple_t rfl) (by rfl) T.b_tuple (by first | rfl | decide +kernel) (paf_cons (pef_calld c__law_digits (hr.mono (by decide)) (by rfl) (paf_cons (pef_var (pv 0)) (paf_cons (PNf.frz (pnf_lst (paf_cons (pef_str (l := [97]) rfl) (paf_cons (pef_str (l := [98]) rfl) (paf_cons (pef_str (l := [65, 98]) rfl) paf_nil))))) (paf_cons pef_int paf_nil)))) paf_nil)))) pss_nilf) (pss_consf (ps_asgf (pef_calld c__law_draws (hr.mono (by decide)) (by rfl) (paf_cons (pef_calld c__law_mix (hr.mono (by decide)) (by rfl) (paf_cons (pef_var (pv 0)) (paf_cons pef_int paf_nil))) (paf_cons (PNf.frz (pnf_lst (paf_cons pef_int (paf_cons pef_int (paf_cons pef_int paf_nil))))) paf_nil))) (pgf_tup rfl rfl (pgsf_cons (pgf_name (pg_name (i := 2) sc__law_row.nd rfl (Or.inl rfl))) (pgsf_cons (pgf_name (pg_name (i := 3) sc__law_row.nd rfl (Or.inl rfl))) (pgsf_cons (pgf_name (pg_name (i := 4) sc__law_row.nd rfl (Or.inl rfl))) pgsf_nil))))) (pss_consf (ps_setLcf (i := 1) (own := [("k", 5)]) true rfl sc__law_row.nd rfl rfl (by first | rfl | with_unfolding_all rfl) (pif_range1 (by rfl) T.b_range (paf_cons (pef_var (pv 2)) paf_nil)) (blkOk_by (N := N__law_row) (sc := defScope st__law_row) (by decide +kernel)) (fun _ _ _ _ _ => (pgf_name (pg_name (i := 5) sc__law_row.nd rfl (Or.inl rfl)))) (fun _ _ _ _ _ => ptsf_nil) (fun _ _ _ _ _ => (pef_slice rfl (pef_str (l := [97, 98, 99, 100, 101, 102, 103, 104]) rfl) pof_none (pof_some (pef_bin (op_add_t rfl) pef_int (pef_bin (op_mod_t) (pef_calld c__law_mix (hr.mono (by decide)) (by rfl) (paf_cons (pef_var (pv 0)) (paf_cons (pef_bin (op_add_t rfl) pef_int (pef_var (pv 5))) paf_nil))) pef_int)))))) (pss_consf (ps_iff (PWf.pt (pwf_and (ptf_cmp (op_eq_t rfl (hu64 hr)) (pef_var (pv 4)) pef_int (by first | rfl | with_unfolding_all rfl)) (pwf_and1 (ptf_cmp (op_gt_t) (pef_var (pv 2)) pef_int (by first | rfl | with_unfolding_all rfl))))) (pss_onef (ps_asgf (pef_ix rfl (PNf.frz (pnf_lst (paf_cons (pef_str (l := [65]) rfl) (paf_cons (pef_str (l := []) rfl) (paf_cons (pef_str (l := [97, 98, 99, 100, 101, 102, 103, 104, 105]) rfl) (paf_cons pef_non (paf_cons pef_int (paf_cons (pef_str (l := [97, 49]) rfl) paf_nil)))))))) (pef_bin (op_mod_t) (pef_calld c__law_mix (hr.mono (by decide)) (by rfl) (paf_cons (pef_var (pv 0)) (paf_cons pef_int paf_nil))) pef_int)) (pgf_subL (pef_var (pv 1)) (pef_bin (op_mod_t) (pef_var (pv 3)) (pef_var (pv 2)))))) pss_nilf) (pss_onef (ps_retf (pef_callTy (call_tuple_t rfl) (by rfl) T.b_tuple (by first | rfl | decide +kernel) (paf_cons (pef_var (pv 1)) paf_nil))))))))

def st__law_right : Stmt := PySem.Challenge.pw_paperreader_k12_names_and_rows.main.body.getD 14 (.Pass ⟨0, 0, 0, 0⟩)
abbrev N__law_right : List Str := ["cell", "things", "thing", "found", "due", "answer_of", "one"]
theorem sc__law_right : FnScope N__law_right ["cell"] (defScope st__law_right) := ⟨rfl, rfl, rfl, by decide +kernel, rfl, by decide +kernel, by decide +kernel⟩
def b__law_right : FS := (fSeq (fAsg 1 (fFrz (fLstN (fCons (fCallD D__law_text 1 (fCons (fVar 0) fNil)) (fCons (fCallD D__law_thing 1 (fCons (fCallD D__law_mix 2 (fCons (fVar 0) (fCons (fC (.int 4)) fNil))) fNil)) (fCons (fCallD D__law_row 1 (fCons (fVar 0) fNil)) (fCons (fFrz (fCallN listN (fCons (fCallD D__law_row 1 (fCons (fVar 0) fNil)) fNil))) fNil))))))) (fSeq (fFor (fItL (fBin addT (fVar 1) (fSlice (fVar 1) fNoPart (fPart (fC (.int 1)))))) (fSet 2) (fSeq (fAsg 3 (fCallD D_is_name 1 (fCons (fVar 2) fNil))) (fSeq (fIfS (fOr (fNot (fTest (fCall isiT (fCons (fVar 3) (fCons (fC (.ty "bool")) fNil))))) (fTest (fBin neT (fVar 3) (fCallD D__law_is_name 1 (fCons (fVar 2) fNil))))) (fRet (fC (.bl false))) fNext) (fSeq (fAsg 4 (fAndV (fCall isiT (fCons (fVar 2) (fCons (fC (.ty "tuple")) fNil))) (fAndV (fBin ltT (fCall lenT (fCons (fVar 2) fNil)) (fC (.int 25))) (fBin eqT (fFrz (fLc [6] (fItT (fVar 2)) (fSet 6) (fNot (fTest (fCallD D__law_is_name 1 (fCons (fVar 6) fNil)))) (fVar 6))) (fFrz (fLstN fNil)))))) (fSeq (fAsg 5 (fCallD D_is_row 1 (fCons (fVar 2) fNil))) (fIfS (fOr (fNot (fTest (fCall isiT (fCons (fVar 5) (fCons (fC (.ty "bool")) fNil))))) (fTest (fBin neT (fVar 5) (fVar 4)))) (fRet (fC (.bl false))) fNext)))))) (fRet (fC (.bl true)))))
def D__law_right : List T → RD := fun ts => (runD N__law_right.length b__law_right ts).noX
theorem fn__law_right {P : Program} {w : World} {K : PySem.W.Frag} {mg : Str → Option Value} {base : Heap} {G : GG} {f : Addr} {fd : FuncData} (hK : G.K = K) (F : Fun K "_law_right" "_law_right" st__law_right f fd) (T : Txt K mg) (c__law_is_name : CalD P w K mg base G 1 "_law_is_name" 1 D__law_is_name) (c__law_mix : CalD P w K mg base G 1 "_law_mix" 2 D__law_mix) (c__law_row : CalD P w K mg base G 2 "_law_row" 1 D__law_row) (c__law_text : CalD P w K mg base G 2 "_law_text" 1 D__law_text) (c__law_thing : CalD P w K mg base G 1 "_law_thing" 1 D__law_thing) (c_is_name : CalD P w K mg base G 3 "is_name" 1 D_is_name) (c_is_row : CalD P w K mg base G 6 "is_row" 1 D_is_row) : FnOk P w K mg base CX0 7 f fd ["cell"] (SpT G 1 D__law_right) := by
  subst hK
  refine fn_pure (k := 6) F sc__law_right (fb := b__law_right) fun cdv A outer s H E hc hr => ?_
  unfold b__law_right
  exact (pss_consf (ps_setf (i := 1) sc__law_right.nd rfl (Or.inl rfl) (PNf.frz (pnf_lst (paf_cons (pef_calld c__law_text (hr.mono (by decide)) (by rfl) (paf_cons (pef_var (pv 0)) paf_nil)) (paf_cons (pef_calld c__law_thing (hr.mono (by decide)) (by rfl) (paf_cons (pef_calld c__law_mix (hr.mono (by decide)) (by rfl) (paf_cons (pef_var (pv 0)) (paf_cons pef_int paf_nil))) paf_nil)) (paf_cons (pef_calld c__law_row (hr.mono (by decide)) (by rfl) (paf_cons (pef_var (pv 0)) paf_nil)) (paf_cons (PNf.frz (pnf_callTy (calln_list rfl) (by rfl) T.b_list (by first | rfl | decide +kernel) (paf_cons (pef_calld c__law_row (hr.mono (by decide)) (by rfl) (paf_cons (pef_var (pv 0)) paf_nil)) paf_nil))) paf_nil))))))) (pss_consf (ps_forf PassesOwn.never rfl (pif_list rfl (pef_bin (op_add_t rfl) (pef_var (pv 1)) (pef_slice rfl (pef_var (pv 1)) pof_none (pof_some pef_int)))) (pgf_name (pg_name (i := 2) sc__law_right.nd rfl (Or.inl rfl))) (pss_consf (ps_setf (i := 3) sc__law_right.nd rfl (Or.inl rfl) (pef_calld c_is_name (hr.mono (by decide)) (by rfl) (paf_cons (pef_var (pv 2)) paf_nil))) (pss_consf (ps_iff (PWf.pt (pwf_or (ptf_not (ptf_val (pef_callB (call_isi_t rfl) (by rfl) T.b_isinstance (by first | rfl | decide +kernel) (paf_cons (pef_var (pv 3)) (paf_cons (pef_ty (by rfl) T.b_bool (by first | rfl | decide +kernel)) paf_nil))))) (pwf_or1 (ptf_cmp (op_ne_t rfl (hu64 hr)) (pef_var (pv 3)) (pef_calld c__law_is_name (hr.mono (by decide)) (by rfl) (paf_cons (pef_var (pv 2)) paf_nil)) (by first | rfl | with_unfolding_all rfl))))) (pss_onef (ps_retf pef_bl)) pss_nilf) (pss_consf (ps_setf (i := 4) sc__law_right.nd rfl (Or.inl rfl) (pef_and (pef_callB (call_isi_t rfl) (by rfl) T.b_isinstance (by first | rfl | decide +kernel) (paf_cons (pef_var (pv 2)) (paf_cons (pef_ty (by rfl) T.b_tuple (by first | rfl | decide +kernel)) paf_nil))) (pef_and (pef_cmp (op_lt_t) (pef_callB (call_len_t rfl) (by rfl) T.b_len (by first | rfl | decide +kernel) (paf_cons (pef_var (pv 2)) paf_nil)) pef_int (by first | rfl | with_unfolding_all rfl)) (pef_one (pef_cmp (op_eq_t rfl (hu64 hr)) (PNf.frz (pnf_lc (own := [("one", 6)]) rfl sc__law_right.nd (pif_tup rfl (pef_var (pv 2))) (blkOk_by (N := N__law_right) (sc := defScope st__law_right) (by decide +kernel)) (fun _ _ _ _ _ => (pgf_name (pg_name (i := 6) sc__law_right.nd rfl (Or.inl rfl)))) (fun _ _ _ _ _ => (ptsf_one (ptf_not (ptf_val (pef_calld c__law_is_name (hr.mono (by decide)) (by rfl) (paf_cons (pef_var (pv 6)) paf_nil)))))) (fun _ _ _ _ _ => (pef_var (pv 6))))) (PNf.frz (pnf_lst paf_nil)) (by first | rfl | with_unfolding_all rfl)))))) (pss_consf (ps_setf (i := 5) sc__law_right.nd rfl (Or.inl rfl) (pef_calld c_is_row (hr.mono (by decide)) (by rfl) (paf_cons (pef_var (pv 2)) paf_nil))) (pss_onef (ps_iff (PWf.pt (pwf_or (ptf_not (ptf_val (pef_callB (call_isi_t rfl) (by rfl) T.b_isinstance (by first | rfl | decide +kernel) (paf_cons (pef_var (pv 5)) (paf_cons (pef_ty (by rfl) T.b_bool (by first | rfl | decide +kernel)) paf_nil))))) (pwf_or1 (ptf_cmp (op_ne_t rfl (hu64 hr)) (pef_var (pv 5)) (pef_var (pv 4)) (by first | rfl | with_unfolding_all rfl))))) (pss_onef (ps_retf pef_bl)) pss_nilf))))))) (pss_onef (ps_retf pef_bl))))

def st_law : Stmt := PySem.Challenge.pw_paperreader_k12_names_and_rows.main.body.getD 15 (.Pass ⟨0, 0, 0, 0⟩)
abbrev N_law : List Str := ["script", "cell"]
theorem sc_law : FnScope N_law ["script"] (defScope st_law) := ⟨rfl, rfl, rfl, by decide +kernel, rfl, by decide +kernel, by decide +kernel⟩
def b_law : FS := (fRet (fAndV (fCall allT (fCons (fFrz (fLc [1] (fItL (fBin addT (fVar 0) (fFrz (fLstN (fCons (fC (.int 0)) (fCons (fC (.int 1)) fNil)))))) (fSet 1) fYes (fCallD D__law_right 1 (fCons (fVar 1) fNil)))) fNil)) (fBin isT (fCallD D_is_row 1 (fCons (fTup fNil) fNil)) (fC (.bl true)))))
def D_law : List T → RD := fun ts => (runD N_law.length b_law ts).noX
theorem fn_law {P : Program} {w : World} {K : PySem.W.Frag} {mg : Str → Option Value} {base : Heap} {G : GG} {f : Addr} {fd : FuncData} (hK : G.K = K) (F : Fun K "law" "law" st_law f fd) (T : Txt K mg) (c__law_right : CalD P w K mg base G 7 "_law_right" 1 D__law_right) (c_is_row : CalD P w K mg base G 6 "is_row" 1 D_is_row) : FnOk P w K mg base CX0 8 f fd ["script"] (SpT G 1 D_law) := by
  subst hK
  refine fn_pure (k := 7) F sc_law (fb := b_law) fun cdv A outer s H E hc hr => ?_
  unfold b_law
  exact (pss_onef (ps_retf (pef_and (pef_callB (call_all_t rfl rfl) (by rfl) T.b_all (by first | rfl | decide +kernel) (paf_cons (PNf.frz (pnf_lc (own := [("cell", 1)]) rfl sc_law.nd (pif_list rfl (pef_bin (op_add_t rfl) (pef_var (pv 0)) (PNf.frz (pnf_lst (paf_cons pef_int (paf_cons pef_int paf_nil)))))) (blkOk_by (N := N_law) (sc := defScope st_law) (by decide +kernel)) (fun _ _ _ _ _ => (pgf_name (pg_name (i := 1) sc_law.nd rfl (Or.inl rfl)))) (fun _ _ _ _ _ => ptsf_nil) (fun _ _ _ _ _ => (pef_calld c__law_right (hr.mono (by decide)) (by rfl) (paf_cons (pef_var (pv 1)) paf_nil))))) paf_nil)) (pef_one (pef_cmp (op_is_t) (pef_calld c_is_row (hr.mono (by decide)) (by rfl) (paf_cons (pef_tup paf_nil) paf_nil)) pef_bl (by first | rfl | with_unfolding_all rfl))))))

/-- the law's own mathematics: to be proved -/
abbrev LawTrue : Prop := ∀ ns : List Int, ns.length ≤ 63 → (∀ z ∈ ns, Builtin.Int.intBits z ≤ 1048576) → D_law [.lst (ns.map .int)] = .ok (.bl true)
theorem all_mk (law_true : LawTrue) {l : PySem.W.OpenLaw} {w : World} {K : PySem.W.Frag} {h : Heap} {mg : Str → Option Value} {fa f0 f1 f2 f3 f4 f5 f6 f7 f8 f9 f10 f11 : Addr} (X : K.In h) (G : h.Ns mainGlobals mg) (hfa : mg "law" = some (.ref fa)) (tabs : TabsOf PySem.Challenge.pw_paperreader_k12_names_and_rows mg h) (noT : ∀ a, h.get? a = some { cls := .none, data := .fields #[] } → K.lookup a = none)
    {od0 an0 od1 an1 od2 an2 od3 an3 od4 an4 od5 an5 od6 an6 od7 an7 od8 an8 od9 an9 od10 an10 od11 an11 : Option Addr} {sl0 sl1 sl2 sl3 sl4 sl5 sl6 sl7 sl8 sl9 sl10 sl11 : Array (Option Value)} {oc0 kV0 dc0 pm0 cd0 ct0 oc1 kV1 dc1 pm1 cd1 ct1 oc2 kV2 dc2 pm2 cd2 ct2 oc3 kV3 dc3 pm3 cd3 ct3 oc4 kV4 dc4 pm4 cd4 ct4 oc5 kV5 dc5 pm5 cd5 ct5 oc6 kV6 dc6 pm6 cd6 ct6 oc7 kV7 dc7 pm7 cd7 ct7 oc8 kV8 dc8 pm8 cd8 ct8 oc9 kV9 dc9 pm9 cd9 ct9 oc10 kV10 dc10 pm10 cd10 ct10 oc11 kV11 dc11 pm11 cd11 ct11 : Value} {g_MOST_LETTERS g_MOST_WORDS : Tok}
    (a0 : PySem.W.nsIn K mainGlobals "is_name" = some (some (.ref f0)))
    (l0 : K.lookup f0 = some ⟨oc0, od0, .func (PySem.W.fnOf "is_name" "is_name" (defArgs st_is_name) (defBody st_is_name) (defScope st_is_name) .none kV0 dc0 pm0 an0 cd0 ct0), sl0⟩)
    (c0 : PySem.W.codeIn K cd0 "is_name" = true)
    (k0 : PySem.W.keepIn K (.ref f0) = true)
    (a1 : PySem.W.nsIn K mainGlobals "are_names" = some (some (.ref f1)))
    (l1 : K.lookup f1 = some ⟨oc1, od1, .func (PySem.W.fnOf "are_names" "are_names" (defArgs st_are_names) (defBody st_are_names) (defScope st_are_names) .none kV1 dc1 pm1 an1 cd1 ct1), sl1⟩)
    (c1 : PySem.W.codeIn K cd1 "are_names" = true)
    (k1 : PySem.W.keepIn K (.ref f1) = true)
    (a2 : PySem.W.nsIn K mainGlobals "is_row" = some (some (.ref f2)))
    (l2 : K.lookup f2 = some ⟨oc2, od2, .func (PySem.W.fnOf "is_row" "is_row" (defArgs st_is_row) (defBody st_is_row) (defScope st_is_row) .none kV2 dc2 pm2 an2 cd2 ct2), sl2⟩)
    (c2 : PySem.W.codeIn K cd2 "is_row" = true)
    (k2 : PySem.W.keepIn K (.ref f2) = true)
    (a3 : PySem.W.nsIn K mainGlobals "_law_draws" = some (some (.ref f3)))
    (l3 : K.lookup f3 = some ⟨oc3, od3, .func (PySem.W.fnOf "_law_draws" "_law_draws" (defArgs st__law_draws) (defBody st__law_draws) (defScope st__law_draws) .none kV3 dc3 pm3 an3 cd3 ct3), sl3⟩)
    (c3 : PySem.W.codeIn K cd3 "_law_draws" = true)
    (k3 : PySem.W.keepIn K (.ref f3) = true)
    (a4 : PySem.W.nsIn K mainGlobals "_law_mix" = some (some (.ref f4)))
    (l4 : K.lookup f4 = some ⟨oc4, od4, .func (PySem.W.fnOf "_law_mix" "_law_mix" (defArgs st__law_mix) (defBody st__law_mix) (defScope st__law_mix) .none kV4 dc4 pm4 an4 cd4 ct4), sl4⟩)
    (c4 : PySem.W.codeIn K cd4 "_law_mix" = true)
    (k4 : PySem.W.keepIn K (.ref f4) = true)
    (a5 : PySem.W.nsIn K mainGlobals "_law_digits" = some (some (.ref f5)))
    (l5 : K.lookup f5 = some ⟨oc5, od5, .func (PySem.W.fnOf "_law_digits" "_law_digits" (defArgs st__law_digits) (defBody st__law_digits) (defScope st__law_digits) .none kV5 dc5 pm5 an5 cd5 ct5), sl5⟩)
    (c5 : PySem.W.codeIn K cd5 "_law_digits" = true)
    (k5 : PySem.W.keepIn K (.ref f5) = true)
    (a6 : PySem.W.nsIn K mainGlobals "_law_text" = some (some (.ref f6)))
    (l6 : K.lookup f6 = some ⟨oc6, od6, .func (PySem.W.fnOf "_law_text" "_law_text" (defArgs st__law_text) (defBody st__law_text) (defScope st__law_text) .none kV6 dc6 pm6 an6 cd6 ct6), sl6⟩)
    (c6 : PySem.W.codeIn K cd6 "_law_text" = true)
    (k6 : PySem.W.keepIn K (.ref f6) = true)
    (a7 : PySem.W.nsIn K mainGlobals "_law_thing" = some (some (.ref f7)))
    (l7 : K.lookup f7 = some ⟨oc7, od7, .func (PySem.W.fnOf "_law_thing" "_law_thing" (defArgs st__law_thing) (defBody st__law_thing) (defScope st__law_thing) .none kV7 dc7 pm7 an7 cd7 ct7), sl7⟩)
    (c7 : PySem.W.codeIn K cd7 "_law_thing" = true)
    (k7 : PySem.W.keepIn K (.ref f7) = true)
    (a8 : PySem.W.nsIn K mainGlobals "_law_is_name" = some (some (.ref f8)))
    (l8 : K.lookup f8 = some ⟨oc8, od8, .func (PySem.W.fnOf "_law_is_name" "_law_is_name" (defArgs st__law_is_name) (defBody st__law_is_name) (defScope st__law_is_name) .none kV8 dc8 pm8 an8 cd8 ct8), sl8⟩)
    (c8 : PySem.W.codeIn K cd8 "_law_is_name" = true)
    (k8 : PySem.W.keepIn K (.ref f8) = true)
    (a9 : PySem.W.nsIn K mainGlobals "_law_row" = some (some (.ref f9)))
    (l9 : K.lookup f9 = some ⟨oc9, od9, .func (PySem.W.fnOf "_law_row" "_law_row" (defArgs st__law_row) (defBody st__law_row) (defScope st__law_row) .none kV9 dc9 pm9 an9 cd9 ct9), sl9⟩)
    (c9 : PySem.W.codeIn K cd9 "_law_row" = true)
    (k9 : PySem.W.keepIn K (.ref f9) = true)
    (a10 : PySem.W.nsIn K mainGlobals "_law_right" = some (some (.ref f10)))
    (l10 : K.lookup f10 = some ⟨oc10, od10, .func (PySem.W.fnOf "_law_right" "_law_right" (defArgs st__law_right) (defBody st__law_right) (defScope st__law_right) .none kV10 dc10 pm10 an10 cd10 ct10), sl10⟩)
    (c10 : PySem.W.codeIn K cd10 "_law_right" = true)
    (k10 : PySem.W.keepIn K (.ref f10) = true)
    (a11 : PySem.W.nsIn K mainGlobals "law" = some (some (.ref f11)))
    (l11 : K.lookup f11 = some ⟨oc11, od11, .func (PySem.W.fnOf "law" "law" (defArgs st_law) (defBody st_law) (defScope st_law) .none kV11 dc11 pm11 an11 cd11 ct11), sl11⟩)
    (c11 : PySem.W.codeIn K cd11 "law" = true)
    (k11 : PySem.W.keepIn K (.ref f11) = true)
    (z_MOST_LETTERS : PySem.W.nsIn K mainGlobals "MOST_LETTERS" = some (some (.int 8 g_MOST_LETTERS)))
    (z_MOST_WORDS : PySem.W.nsIn K mainGlobals "MOST_WORDS" = some (some (.int 24 g_MOST_WORDS)))
    (z_abs : PySem.W.nsIn K mainGlobals "abs" = some none)
    (z_all : PySem.W.nsIn K mainGlobals "all" = some none)
    (z_bool : PySem.W.nsIn K mainGlobals "bool" = some none)
    (z_isinstance : PySem.W.nsIn K mainGlobals "isinstance" = some none)
    (z_len : PySem.W.nsIn K mainGlobals "len" = some none)
    (z_list : PySem.W.nsIn K mainGlobals "list" = some none)
    (z_range : PySem.W.nsIn K mainGlobals "range" = some none)
    (z_str : PySem.W.nsIn K mainGlobals "str" = some none)
    (z_tuple : PySem.W.nsIn K mainGlobals "tuple" = some none) :
    LamX.LawAtS l w K CX0 8 63 "script" mg fa h := by
  have T : Txt K mg := ⟨⟨_, PySem.W.mg_of X G z_MOST_LETTERS⟩, ⟨_, PySem.W.mg_of X G z_MOST_WORDS⟩, PySem.W.mg_none_of X G z_abs, PySem.W.mg_none_of X G z_all, PySem.W.mg_none_of X G z_bool, PySem.W.mg_none_of X G z_isinstance, PySem.W.mg_none_of X G z_len, PySem.W.mg_none_of X G z_list, PySem.W.mg_none_of X G z_range, PySem.W.mg_none_of X G z_str, PySem.W.mg_none_of X G z_tuple⟩
  have F0 := fun_mk (st := st_is_name) l0 c0 k0
  have b0 := F0.binds (ps := ["thing"]) fun _ _ _ _ _ _ us hl => match us, hl with | [_], _ => rfl
  obtain ⟨cc0, P0, e0, C0, hP0⟩ := tab_at X tabs (x := "is_name") (by decide +kernel) (PySem.W.mg_of X G a0) l0
  have F1 := fun_mk (st := st_are_names) l1 c1 k1
  have b1 := F1.binds (ps := ["thing", "most"]) fun _ _ _ _ _ _ us hl => match us, hl with | [_, _], _ => rfl
  obtain ⟨cc1, P1, e1, C1, hP1⟩ := tab_at X tabs (x := "are_names") (by decide +kernel) (PySem.W.mg_of X G a1) l1
  have F2 := fun_mk (st := st_is_row) l2 c2 k2
  have b2 := F2.binds (ps := ["thing"]) fun _ _ _ _ _ _ us hl => match us, hl with | [_], _ => rfl
  have F3 := fun_mk (st := st__law_draws) l3 c3 k3
  have b3 := F3.binds (ps := ["number", "sizes"]) fun _ _ _ _ _ _ us hl => match us, hl with | [_, _], _ => rfl
  have F4 := fun_mk (st := st__law_mix) l4 c4 k4
  have b4 := F4.binds (ps := ["number", "k"]) fun _ _ _ _ _ _ us hl => match us, hl with | [_, _], _ => rfl
  have F5 := fun_mk (st := st__law_digits) l5 c5 k5
  have b5 := F5.binds (ps := ["cell", "some", "most"]) fun _ _ _ _ _ _ us hl => match us, hl with | [_, _, _], _ => rfl
  have F6 := fun_mk (st := st__law_text) l6 c6 k6
  have b6 := F6.binds (ps := ["cell"]) fun _ _ _ _ _ _ us hl => match us, hl with | [_], _ => rfl
  have F7 := fun_mk (st := st__law_thing) l7 c7 k7
  have b7 := F7.binds (ps := ["cell"]) fun _ _ _ _ _ _ us hl => match us, hl with | [_], _ => rfl
  have F8 := fun_mk (st := st__law_is_name) l8 c8 k8
  have b8 := F8.binds (ps := ["thing"]) fun _ _ _ _ _ _ us hl => match us, hl with | [_], _ => rfl
  have F9 := fun_mk (st := st__law_row) l9 c9 k9
  have b9 := F9.binds (ps := ["cell"]) fun _ _ _ _ _ _ us hl => match us, hl with | [_], _ => rfl
  have F10 := fun_mk (st := st__law_right) l10 c10 k10
  have b10 := F10.binds (ps := ["cell"]) fun _ _ _ _ _ _ us hl => match us, hl with | [_], _ => rfl
  have F11 := fun_mk (st := st_law) l11 c11 k11
  have b11 := F11.binds (ps := ["script"]) fun _ _ _ _ _ _ us hl => match us, hl with | [_], _ => rfl
  have e := hfa.symm.trans (PySem.W.mg_of X G a11)
  cases e
  have hPs : ∀ p ∈ ([(cc0, P0), (cc1, P1)] : List (Addr × Addr)), h.get? p.2 = some { cls := .none, data := .fields #[] } := by
    simp only [List.mem_cons, List.not_mem_nil, or_false, false_or, forall_eq_or_imp, forall_eq, false_implies, implies_true]
    exact ⟨hP0, hP1⟩
  have hCs : ∀ p ∈ ([(cc0, P0), (cc1, P1)] : List (Addr × Addr)), PySem.W.CodeHd h p.1 p.2 := by
    simp only [List.mem_cons, List.not_mem_nil, or_false, false_or, forall_eq_or_imp, forall_eq, false_implies, implies_true]
    exact ⟨C0, C1⟩
  refine ⟨PySem.W.fnOf "law" "law" (defArgs st_law) (defBody st_law) (defScope st_law) .none kV11 dc11 pm11 an11 cd11 ct11, [(cc0, P0), (cc1, P1)], SpT (GG0 K ([(cc0, P0), (cc1, P1)].map (·.2))) 1 D_law, hPs, fun p hp => noT p.2 (hPs p hp), hCs, fun s u => .of_eq rfl, fun H a ns hl hb hT hS => spT_law hS hT (law_true ns hl hb), fun base hbk hbg hTB => ?_⟩
  have q0 : CalD l.prog w K mg base (GG0 K ([(cc0, P0), (cc1, P1)].map (·.2))) 3 "is_name" 1 D_is_name := ⟨_, _, _, fn_is_name rfl F0 T (c := cc0) (P' := P0) e0 (tabB_of (hTB (cc0, P0) (by simp))) (by simp [GG0]), PySem.W.mg_of X G a0, F0.kp, b0⟩
  have q1 : CalD l.prog w K mg base (GG0 K ([(cc0, P0), (cc1, P1)].map (·.2))) 5 "are_names" 2 D_are_names := ⟨_, _, _, fn_are_names rfl F1 T (c := cc1) (P' := P1) e1 (tabB_of (hTB (cc1, P1) (by simp))) (by simp [GG0]) q0, PySem.W.mg_of X G a1, F1.kp, b1⟩
  have q2 : CalD l.prog w K mg base (GG0 K ([(cc0, P0), (cc1, P1)].map (·.2))) 6 "is_row" 1 D_is_row := ⟨_, _, _, fn_is_row rfl F2 T q1, PySem.W.mg_of X G a2, F2.kp, b2⟩
  have q3 : CalD l.prog w K mg base (GG0 K ([(cc0, P0), (cc1, P1)].map (·.2))) 1 "_law_draws" 2 D__law_draws := ⟨_, _, _, fn__law_draws rfl F3 T, PySem.W.mg_of X G a3, F3.kp, b3⟩
  have q4 : CalD l.prog w K mg base (GG0 K ([(cc0, P0), (cc1, P1)].map (·.2))) 1 "_law_mix" 2 D__law_mix := ⟨_, _, _, fn__law_mix rfl F4 T, PySem.W.mg_of X G a4, F4.kp, b4⟩
  have q5 : CalD l.prog w K mg base (GG0 K ([(cc0, P0), (cc1, P1)].map (·.2))) 1 "_law_digits" 3 D__law_digits := ⟨_, _, _, fn__law_digits rfl F5 T, PySem.W.mg_of X G a5, F5.kp, b5⟩
  have q6 : CalD l.prog w K mg base (GG0 K ([(cc0, P0), (cc1, P1)].map (·.2))) 2 "_law_text" 1 D__law_text := ⟨_, _, _, fn__law_text rfl F6 T q5 q3 q4, PySem.W.mg_of X G a6, F6.kp, b6⟩
  have q7 : CalD l.prog w K mg base (GG0 K ([(cc0, P0), (cc1, P1)].map (·.2))) 1 "_law_thing" 1 D__law_thing := ⟨_, _, _, fn__law_thing rfl F7 T, PySem.W.mg_of X G a7, F7.kp, b7⟩
  have q8 : CalD l.prog w K mg base (GG0 K ([(cc0, P0), (cc1, P1)].map (·.2))) 1 "_law_is_name" 1 D__law_is_name := ⟨_, _, _, fn__law_is_name rfl F8 T, PySem.W.mg_of X G a8, F8.kp, b8⟩
  have q9 : CalD l.prog w K mg base (GG0 K ([(cc0, P0), (cc1, P1)].map (·.2))) 2 "_law_row" 1 D__law_row := ⟨_, _, _, fn__law_row rfl F9 T q5 q3 q4, PySem.W.mg_of X G a9, F9.kp, b9⟩
  have q10 : CalD l.prog w K mg base (GG0 K ([(cc0, P0), (cc1, P1)].map (·.2))) 7 "_law_right" 1 D__law_right := ⟨_, _, _, fn__law_right rfl F10 T q8 q4 q9 q6 q7 q0 q2, PySem.W.mg_of X G a10, F10.kp, b10⟩
  exact fn_law rfl F11 T q10 q2
end K12
namespace K12
open PySem L2 GxR Gx Tr
def mix (n k : Int) : Int := let m := (n * 48271 + k * 104729 + 11) % 2147483647; (m * m + 48271 * m + k) % 2147483629
theorem mix_eq (n k : Int) : D__law_mix [.int n, .int k] = .ok (.int (mix n k)) := by
  refine runD_ret (t := .int (mix n k)) (ρ := ⟨[some (.int n), some (.int k), some (.int ((n * 48271 + k * 104729 + 11) % 2147483647))], []⟩) ?_ fz_int
  have h0 := Int.emod_nonneg (n * 48271 + k * 104729 + 11) (b := 2147483647) (by decide)
  have h1 := Int.emod_lt_of_pos (n * 48271 + k * 104729 + 11) (b := 2147483647) (by decide)
  have e1 := mul_r n 48271 (by decide) (by decide)
  have e2 := mul_r k 104729 (by decide) (by decide)
  have e3 := mod_ii (n * 48271 + k * 104729 + 11) 2147483647 (by decide)
  generalize hm : (n * 48271 + k * 104729 + 11) % 2147483647 = m at *
  have e4 := mul_r m m (by omega) (by omega)
  have e5 := mul_l 48271 m (by decide) (by decide)
  have e6 := mod_ii (m * m + 48271 * m + k) 2147483629 (by decide)
  simp -implicitDefEqProofs only [b__law_mix, fSeq, fIfS, fRet, fRetN, fNext, fAsg, fAsgG, fPar, fDrop, fOr, fAnd, fNot, fTest, fTruth, fAndV, fOrV, fNotV, fIf, fChain, fCall, fCallN, fCallD, fCons, fNil, fVar, fC, fBin, fTup, fFrz, fOwn, fLstN, fSlice, fNoPart, fPart, fSet, fGTup, fGCons, fGNil, rb_ok, rb_exc, rb_stk, noExc, Env.put, List.getElem?_cons_zero, List.getElem?_cons_succ, List.set_cons_zero, List.set_cons_succ, List.length_cons, List.length_nil, vw_non, vw_bl, vw_int, vw_str, vw_ty, vw_tup, vw_lst, vw_dct, List.map_cons, List.map_nil, if_true, if_false, reduceIte, nr_non, nr_bl, nr_int, nr_str, nr_ty, nr_tup, nr_lst, nrs_nil, nrs_cons, Bool.and_true, Bool.true_and, Bool.and_false, Bool.false_and, Bool.not_true, Bool.not_false, Bool.or_false, Bool.false_or, Nat.reduceAdd, Nat.reduceLT, Nat.reduceLeDiff, Nat.reduceEqDiff, Nat.zero_add, initE, List.cons_append, List.nil_append, List.replicate, List.replicate_succ, List.replicate_zero, Nat.reduceSub, Bool.false_eq_true, decide_true, decide_false, and_true, true_and, and_self, fz_bl, fz_int, fz_str, fz_non, isi_s, e1, e2, add_ii, e3, e4, e5, e6, hm, mix]
def draws : Int → List Int → List Int
  | _, [] => []
  | n, s :: r => n % s :: draws (n / s) r
theorem draws_eq (n : Int) (ss : List Int) (hs : ∀ s ∈ ss, 0 < s ∧ s < 2 ^ 64) (hl : ss.length ≤ 1000) : D__law_draws [.int n, .lst (ss.map .int)] = .ok (.lst ((draws n ss).map .int)) := by
  have key : ∃ fl, forLoop (fSet 3) (fSeq (fDrop (fAppend (fVar 2) (fBin modT (fVar 0) (fVar 3)))) (fAsg 0 (fBin divT (fVar 0) (fVar 3)))) (.lst (ss.map .int)) (.lst (ss.map .int)) (ss.map .int) ⟨[some (.int n), some (.lst (ss.map .int)), some (.ref 0), none], [.lst []]⟩ = .ok fl ∧
      ∃ a b, fl = .next ⟨[some (.int a), some (.lst (ss.map .int)), some (.ref 0), b], [.lst ((draws n ss).map .int)]⟩ := by
    refine forLoop_post (fun ts ρ => ∃ (a : Int) (b : Option T) (pre : List Int) (rest : List Int), ts = rest.map .int ∧ (∀ s ∈ rest, 0 < s ∧ s < 2 ^ 64) ∧ pre.length + rest.length ≤ 1000 ∧ ρ = ⟨[some (.int a), some (.lst (ss.map .int)), some (.ref 0), b], [.lst (pre.map .int)]⟩ ∧ draws n ss = pre ++ draws a rest) ?_ ?_ _ _ ⟨n, none, [], ss, rfl, hs, by simpa using hl, rfl, rfl⟩
    · rintro ρ ⟨a, b, pre, rest, e, _, _, rfl, q⟩
      cases rest with
      | cons x y => cases e
      | nil =>
        refine ⟨rfl, a, b, ?_⟩
        rw [q]
        simp [draws]
    · rintro t ts ρ ⟨a, b, pre, rest, e, hr, hl, rfl, q⟩
      cases rest with
      | nil => cases e
      | cons s rest =>
        cases e
        obtain ⟨p1, p2⟩ := hr s (List.mem_cons_self ..)
        refine ⟨rfl, ⟨[some (.int a), some (.lst (ss.map .int)), some (.ref 0), some (.int s)], [.lst (pre.map .int)]⟩, .next ⟨[some (.int (a / s)), some (.lst (ss.map .int)), some (.ref 0), some (.int s)], [.lst ((pre ++ [a % s]).map .int)]⟩, by simp -implicitDefEqProofs only [fSeq, fIfS, fRet, fRetN, fNext, fAsg, fAsgG, fPar, fDrop, fOr, fAnd, fNot, fTest, fTruth, fAndV, fOrV, fNotV, fIf, fChain, fCall, fCallN, fCallD, fCons, fNil, fVar, fC, fBin, fTup, fFrz, fOwn, fLstN, fSlice, fNoPart, fPart, fSet, fGTup, fGCons, fGNil, rb_ok, rb_exc, rb_stk, noExc, Env.put, List.getElem?_cons_zero, List.getElem?_cons_succ, List.set_cons_zero, List.set_cons_succ, List.length_cons, List.length_nil, vw_non, vw_bl, vw_int, vw_str, vw_ty, vw_tup, vw_lst, vw_dct, List.map_cons, List.map_nil, if_true, if_false, reduceIte, nr_non, nr_bl, nr_int, nr_str, nr_ty, nr_tup, nr_lst, nrs_nil, nrs_cons, Bool.and_true, Bool.true_and, Bool.and_false, Bool.false_and, Bool.not_true, Bool.not_false, Bool.or_false, Bool.false_or, Nat.reduceAdd, Nat.reduceLT, Nat.reduceLeDiff, Nat.reduceEqDiff, Nat.zero_add, initE, List.cons_append, List.nil_append, List.replicate, List.replicate_succ, List.replicate_zero, Nat.reduceSub, Bool.false_eq_true, decide_true, decide_false, and_true, true_and, and_self, fz_bl, fz_int, fz_str, fz_non, isi_s], ?_, ?_⟩
        · simp -implicitDefEqProofs only [fSeq, fIfS, fRet, fRetN, fNext, fAsg, fAsgG, fPar, fDrop, fOr, fAnd, fNot, fTest, fTruth, fAndV, fOrV, fNotV, fIf, fChain, fCall, fCallN, fCallD, fCons, fNil, fVar, fC, fBin, fTup, fFrz, fOwn, fLstN, fSlice, fNoPart, fPart, fSet, fGTup, fGCons, fGNil, rb_ok, rb_exc, rb_stk, noExc, Env.put, List.getElem?_cons_zero, List.getElem?_cons_succ, List.set_cons_zero, List.set_cons_succ, List.length_cons, List.length_nil, vw_non, vw_bl, vw_int, vw_str, vw_ty, vw_tup, vw_lst, vw_dct, List.map_cons, List.map_nil, if_true, if_false, reduceIte, nr_non, nr_bl, nr_int, nr_str, nr_ty, nr_tup, nr_lst, nrs_nil, nrs_cons, Bool.and_true, Bool.true_and, Bool.and_false, Bool.false_and, Bool.not_true, Bool.not_false, Bool.or_false, Bool.false_or, Nat.reduceAdd, Nat.reduceLT, Nat.reduceLeDiff, Nat.reduceEqDiff, Nat.zero_add, initE, List.cons_append, List.nil_append, List.replicate, List.replicate_succ, List.replicate_zero, Nat.reduceSub, Bool.false_eq_true, decide_true, decide_false, and_true, true_and, and_self, fz_bl, fz_int, fz_str, fz_non, isi_s, fAppend, mulist, mod_ii a s p1, div_ii a s p1 p2, List.length_map]
          rw [if_pos (by simp at hl; omega)]
          simp -implicitDefEqProofs only [fSeq, fIfS, fRet, fRetN, fNext, fAsg, fAsgG, fPar, fDrop, fOr, fAnd, fNot, fTest, fTruth, fAndV, fOrV, fNotV, fIf, fChain, fCall, fCallN, fCallD, fCons, fNil, fVar, fC, fBin, fTup, fFrz, fOwn, fLstN, fSlice, fNoPart, fPart, fSet, fGTup, fGCons, fGNil, rb_ok, rb_exc, rb_stk, noExc, Env.put, List.getElem?_cons_zero, List.getElem?_cons_succ, List.set_cons_zero, List.set_cons_succ, List.length_cons, List.length_nil, vw_non, vw_bl, vw_int, vw_str, vw_ty, vw_tup, vw_lst, vw_dct, List.map_cons, List.map_nil, if_true, if_false, reduceIte, nr_non, nr_bl, nr_int, nr_str, nr_ty, nr_tup, nr_lst, nrs_nil, nrs_cons, Bool.and_true, Bool.true_and, Bool.and_false, Bool.false_and, Bool.not_true, Bool.not_false, Bool.or_false, Bool.false_or, Nat.reduceAdd, Nat.reduceLT, Nat.reduceLeDiff, Nat.reduceEqDiff, Nat.zero_add, initE, List.cons_append, List.nil_append, List.replicate, List.replicate_succ, List.replicate_zero, Nat.reduceSub, Bool.false_eq_true, decide_true, decide_false, and_true, true_and, and_self, fz_bl, fz_int, fz_str, fz_non, isi_s, List.map_append, div_ii a s p1 p2]
        · simp only []
          exact ⟨a / s, some (.int s), pre ++ [a % s], rest, rfl, fun s hs => hr s (List.mem_cons_of_mem _ hs), by simp at hl ⊢; omega, rfl, by rw [q]; simp [draws]⟩
  obtain ⟨fl, h1, a, b, rfl⟩ := key
  refine runD_ret (t := .ref 0) (ρ := ⟨[some (.int a), some (.lst (ss.map .int)), some (.ref 0), b], [.lst ((draws n ss).map .int)]⟩) ?_ ?_
  · simp -implicitDefEqProofs only [b__law_draws, fSeq, fIfS, fRet, fRetN, fNext, fAsg, fAsgG, fPar, fDrop, fOr, fAnd, fNot, fTest, fTruth, fAndV, fOrV, fNotV, fIf, fChain, fCall, fCallN, fCallD, fCons, fNil, fVar, fC, fBin, fTup, fFrz, fOwn, fLstN, fSlice, fNoPart, fPart, fSet, fGTup, fGCons, fGNil, rb_ok, rb_exc, rb_stk, noExc, Env.put, List.getElem?_cons_zero, List.getElem?_cons_succ, List.set_cons_zero, List.set_cons_succ, List.length_cons, List.length_nil, vw_non, vw_bl, vw_int, vw_str, vw_ty, vw_tup, vw_lst, vw_dct, List.map_cons, List.map_nil, if_true, if_false, reduceIte, nr_non, nr_bl, nr_int, nr_str, nr_ty, nr_tup, nr_lst, nrs_nil, nrs_cons, Bool.and_true, Bool.true_and, Bool.and_false, Bool.false_and, Bool.not_true, Bool.not_false, Bool.or_false, Bool.false_or, Nat.reduceAdd, Nat.reduceLT, Nat.reduceLeDiff, Nat.reduceEqDiff, Nat.zero_add, initE, List.cons_append, List.nil_append, List.replicate, List.replicate_succ, List.replicate_zero, Nat.reduceSub, Bool.false_eq_true, decide_true, decide_false, and_true, true_and, and_self, fz_bl, fz_int, fz_str, fz_non, isi_s, fFor, fItL]
    rw [h1]
    simp -implicitDefEqProofs only [fSeq, fIfS, fRet, fRetN, fNext, fAsg, fAsgG, fPar, fDrop, fOr, fAnd, fNot, fTest, fTruth, fAndV, fOrV, fNotV, fIf, fChain, fCall, fCallN, fCallD, fCons, fNil, fVar, fC, fBin, fTup, fFrz, fOwn, fLstN, fSlice, fNoPart, fPart, fSet, fGTup, fGCons, fGNil, rb_ok, rb_exc, rb_stk, noExc, Env.put, List.getElem?_cons_zero, List.getElem?_cons_succ, List.set_cons_zero, List.set_cons_succ, List.length_cons, List.length_nil, vw_non, vw_bl, vw_int, vw_str, vw_ty, vw_tup, vw_lst, vw_dct, List.map_cons, List.map_nil, if_true, if_false, reduceIte, nr_non, nr_bl, nr_int, nr_str, nr_ty, nr_tup, nr_lst, nrs_nil, nrs_cons, Bool.and_true, Bool.true_and, Bool.and_false, Bool.false_and, Bool.not_true, Bool.not_false, Bool.or_false, Bool.false_or, Nat.reduceAdd, Nat.reduceLT, Nat.reduceLeDiff, Nat.reduceEqDiff, Nat.zero_add, initE, List.cons_append, List.nil_append, List.replicate, List.replicate_succ, List.replicate_zero, Nat.reduceSub, Bool.false_eq_true, decide_true, decide_false, and_true, true_and, and_self, fz_bl, fz_int, fz_str, fz_non, isi_s]
  · refine fz_lst rfl (nrs_mem fun t ht => ?_)
    obtain ⟨i, _, rfl⟩ := List.mem_map.mp ht
    exact nr_int i
theorem digits_ok (c : Int) (some : List T) (most : Nat) (hm : most ≤ 1000) (h0 : 0 < some.length) (hl : some.length ≤ 1000) (hn : ∀ t ∈ some, t.nr = true) :
    ∃ us : List T, D__law_digits [.int c, .lst some, .int most] = .ok (.lst us) ∧ us.length ≤ most ∧ ∀ t ∈ us, t ∈ some := by
  have e1 : absT [.int c] = Option.some (.int (if c < 0 then -c else c)) := abs_i c
  generalize hn0 : (if c < 0 then -c else c) - 1000000000000000000 = n0 at *
  have mp : (0 : Int) < (most : Int) + 1 := by omega
  obtain ⟨k, hk, hk2⟩ : ∃ k : Nat, n0 % ((most : Int) + 1) = k ∧ k ≤ most := by
    have a1 := Int.emod_nonneg n0 (b := (most : Int) + 1) (by omega)
    have a2 := Int.emod_lt_of_pos n0 mp
    exact ⟨(n0 % ((most : Int) + 1)).toNat, by omega, by omega⟩
  have key : ∃ fl, forLoop (fSet 5) (fSeq (fDrop (fAppend (fVar 4) (fBin ixT (fVar 1) (fBin modT (fVar 3) (fCall lenT (fCons (fVar 1) fNil)))))) (fAsg 3 (fBin divT (fVar 3) (fCall lenT (fCons (fVar 1) fNil))))) .non .non ((List.range k).map fun (k : Nat) => T.int (0 + (k : Int)))
      ⟨[Option.some (.int c), Option.some (.lst some), Option.some (.int most), Option.some (.int (n0 / ((most : Int) + 1))), Option.some (.ref 0), none, Option.some (.int k)], [.lst []]⟩ = .ok fl ∧
      ∃ a b us, fl = .next ⟨[Option.some (.int c), Option.some (.lst some), Option.some (.int most), Option.some (.int a), Option.some (.ref 0), b, Option.some (.int k)], [.lst us]⟩ ∧ us.length ≤ most ∧ ∀ t ∈ us, t ∈ some := by
    refine forLoop_post (fun ts ρ => ∃ (a : Int) (b : Option T) (us : List T), ρ = ⟨[Option.some (.int c), Option.some (.lst some), Option.some (.int most), Option.some (.int a), Option.some (.ref 0), b, Option.some (.int k)], [.lst us]⟩ ∧ us.length + ts.length ≤ most ∧ ∀ t ∈ us, t ∈ some) ?_ ?_ _ _ ⟨_, none, [], rfl, by simpa using hk2, fun t h => by cases h⟩
    · rintro ρ ⟨a, b, us, rfl, h1, h2⟩
      exact ⟨rfl, a, b, us, rfl, by simpa using h1, h2⟩
    · rintro t ts ρ ⟨a, b, us, rfl, h1, h2⟩
      have lp : (0 : Int) < (some.length : Int) := by omega
      have lp2 : (some.length : Int) < 2 ^ 64 := by omega
      obtain ⟨x, hx, hx2⟩ : ∃ x, ixT (.lst some) (.int (a % some.length)) = Option.some x ∧ x ∈ some := by
        have a1 := Int.emod_nonneg a (b := (some.length : Int)) (by omega)
        have a2 := Int.emod_lt_of_pos a lp
        have hj : (a % some.length).toNat < some.length := by omega
        refine ⟨some[(a % some.length).toNat], ?_, List.getElem_mem _⟩
        show atI some _ = _
        unfold atI ixN
        rw [if_pos a1, if_pos a2]
        show some[(a % some.length).toNat]? = _
        rw [List.getElem?_eq_getElem hj]
      refine ⟨rfl, ⟨[Option.some (.int c), Option.some (.lst some), Option.some (.int most), Option.some (.int a), Option.some (.ref 0), Option.some t, Option.some (.int k)], [.lst us]⟩, .next ⟨[Option.some (.int c), Option.some (.lst some), Option.some (.int most), Option.some (.int (a / some.length)), Option.some (.ref 0), Option.some t, Option.some (.int k)], [.lst (us ++ [x])]⟩, by simp -implicitDefEqProofs only [fSeq, fIfS, fRet, fRetN, fNext, fAsg, fAsgG, fPar, fDrop, fOr, fAnd, fNot, fTest, fTruth, fAndV, fOrV, fNotV, fIf, fChain, fCall, fCallN, fCallD, fCons, fNil, fVar, fC, fBin, fTup, fFrz, fOwn, fLstN, fSlice, fNoPart, fPart, fSet, fGTup, fGCons, fGNil, rb_ok, rb_exc, rb_stk, noExc, Env.put, List.getElem?_cons_zero, List.getElem?_cons_succ, List.set_cons_zero, List.set_cons_succ, List.length_cons, List.length_nil, vw_non, vw_bl, vw_int, vw_str, vw_ty, vw_tup, vw_lst, vw_dct, List.map_cons, List.map_nil, if_true, if_false, reduceIte, nr_non, nr_bl, nr_int, nr_str, nr_ty, nr_tup, nr_lst, nrs_nil, nrs_cons, Bool.and_true, Bool.true_and, Bool.and_false, Bool.false_and, Bool.not_true, Bool.not_false, Bool.or_false, Bool.false_or, Nat.reduceAdd, Nat.reduceLT, Nat.reduceLeDiff, Nat.reduceEqDiff, Nat.zero_add, initE, List.cons_append, List.nil_append, List.replicate, List.replicate_succ, List.replicate_zero, Nat.reduceSub, Bool.false_eq_true, decide_true, decide_false, and_true, true_and, and_self, fz_bl, fz_int, fz_str, fz_non, isi_s], ?_, ?_⟩
      · simp -implicitDefEqProofs only [fSeq, fIfS, fRet, fRetN, fNext, fAsg, fAsgG, fPar, fDrop, fOr, fAnd, fNot, fTest, fTruth, fAndV, fOrV, fNotV, fIf, fChain, fCall, fCallN, fCallD, fCons, fNil, fVar, fC, fBin, fTup, fFrz, fOwn, fLstN, fSlice, fNoPart, fPart, fSet, fGTup, fGCons, fGNil, rb_ok, rb_exc, rb_stk, noExc, Env.put, List.getElem?_cons_zero, List.getElem?_cons_succ, List.set_cons_zero, List.set_cons_succ, List.length_cons, List.length_nil, vw_non, vw_bl, vw_int, vw_str, vw_ty, vw_tup, vw_lst, vw_dct, List.map_cons, List.map_nil, if_true, if_false, reduceIte, nr_non, nr_bl, nr_int, nr_str, nr_ty, nr_tup, nr_lst, nrs_nil, nrs_cons, Bool.and_true, Bool.true_and, Bool.and_false, Bool.false_and, Bool.not_true, Bool.not_false, Bool.or_false, Bool.false_or, Nat.reduceAdd, Nat.reduceLT, Nat.reduceLeDiff, Nat.reduceEqDiff, Nat.zero_add, initE, List.cons_append, List.nil_append, List.replicate, List.replicate_succ, List.replicate_zero, Nat.reduceSub, Bool.false_eq_true, decide_true, decide_false, and_true, true_and, and_self, fz_bl, fz_int, fz_str, fz_non, isi_s, fAppend, mulist, len_l, mod_ii a _ lp, div_ii a _ lp lp2, hx]
        rw [if_pos (by simp at h1; omega)]
        simp -implicitDefEqProofs only [fSeq, fIfS, fRet, fRetN, fNext, fAsg, fAsgG, fPar, fDrop, fOr, fAnd, fNot, fTest, fTruth, fAndV, fOrV, fNotV, fIf, fChain, fCall, fCallN, fCallD, fCons, fNil, fVar, fC, fBin, fTup, fFrz, fOwn, fLstN, fSlice, fNoPart, fPart, fSet, fGTup, fGCons, fGNil, rb_ok, rb_exc, rb_stk, noExc, Env.put, List.getElem?_cons_zero, List.getElem?_cons_succ, List.set_cons_zero, List.set_cons_succ, List.length_cons, List.length_nil, vw_non, vw_bl, vw_int, vw_str, vw_ty, vw_tup, vw_lst, vw_dct, List.map_cons, List.map_nil, if_true, if_false, reduceIte, nr_non, nr_bl, nr_int, nr_str, nr_ty, nr_tup, nr_lst, nrs_nil, nrs_cons, Bool.and_true, Bool.true_and, Bool.and_false, Bool.false_and, Bool.not_true, Bool.not_false, Bool.or_false, Bool.false_or, Nat.reduceAdd, Nat.reduceLT, Nat.reduceLeDiff, Nat.reduceEqDiff, Nat.zero_add, initE, List.cons_append, List.nil_append, List.replicate, List.replicate_succ, List.replicate_zero, Nat.reduceSub, Bool.false_eq_true, decide_true, decide_false, and_true, true_and, and_self, fz_bl, fz_int, fz_str, fz_non, isi_s, len_l, div_ii a _ lp lp2]
      · exact ⟨_, _, _, rfl, by simp at h1 ⊢; omega, fun t ht => (List.mem_append.mp ht).elim (h2 t) fun h => by rw [List.mem_singleton] at h; rw [h]; exact hx2⟩
  obtain ⟨fl, h1, a, b, us, rfl, h3, h4⟩ := key
  refine ⟨us, runD_ret (t := .ref 0) (ρ := ⟨[Option.some (.int c), Option.some (.lst some), Option.some (.int most), Option.some (.int a), Option.some (.ref 0), b, Option.some (.int k)], [.lst us]⟩) ?_ (fz_lst rfl (nrs_mem fun t ht => hn t (h4 t ht))), h3, h4⟩
  have e3 := mod_ii n0 ((most : Int) + 1) mp
  have e4 := div_ii n0 ((most : Int) + 1) mp (by omega)
  have e5 := fun ρ => range1_eq (fVar 6) k ρ ρ
  simp -implicitDefEqProofs only [b__law_digits, fSeq, fIfS, fRet, fRetN, fNext, fAsg, fAsgG, fPar, fDrop, fOr, fAnd, fNot, fTest, fTruth, fAndV, fOrV, fNotV, fIf, fChain, fCall, fCallN, fCallD, fCons, fNil, fVar, fC, fBin, fTup, fFrz, fOwn, fLstN, fSlice, fNoPart, fPart, fSet, fGTup, fGCons, fGNil, rb_ok, rb_exc, rb_stk, noExc, Env.put, List.getElem?_cons_zero, List.getElem?_cons_succ, List.set_cons_zero, List.set_cons_succ, List.length_cons, List.length_nil, vw_non, vw_bl, vw_int, vw_str, vw_ty, vw_tup, vw_lst, vw_dct, List.map_cons, List.map_nil, if_true, if_false, reduceIte, nr_non, nr_bl, nr_int, nr_str, nr_ty, nr_tup, nr_lst, nrs_nil, nrs_cons, Bool.and_true, Bool.true_and, Bool.and_false, Bool.false_and, Bool.not_true, Bool.not_false, Bool.or_false, Bool.false_or, Nat.reduceAdd, Nat.reduceLT, Nat.reduceLeDiff, Nat.reduceEqDiff, Nat.zero_add, initE, List.cons_append, List.nil_append, List.replicate, List.replicate_succ, List.replicate_zero, Nat.reduceSub, Bool.false_eq_true, decide_true, decide_false, and_true, true_and, and_self, fz_bl, fz_int, fz_str, fz_non, isi_s, abs_i, pow_18, sub_ii, hn0, add_ii, e3, e4, hk, fFor]
  rw [range1_eq _ k _ _ rfl (by omega)]
  simp -implicitDefEqProofs only [fSeq, fIfS, fRet, fRetN, fNext, fAsg, fAsgG, fPar, fDrop, fOr, fAnd, fNot, fTest, fTruth, fAndV, fOrV, fNotV, fIf, fChain, fCall, fCallN, fCallD, fCons, fNil, fVar, fC, fBin, fTup, fFrz, fOwn, fLstN, fSlice, fNoPart, fPart, fSet, fGTup, fGCons, fGNil, rb_ok, rb_exc, rb_stk, noExc, Env.put, List.getElem?_cons_zero, List.getElem?_cons_succ, List.set_cons_zero, List.set_cons_succ, List.length_cons, List.length_nil, vw_non, vw_bl, vw_int, vw_str, vw_ty, vw_tup, vw_lst, vw_dct, List.map_cons, List.map_nil, if_true, if_false, reduceIte, nr_non, nr_bl, nr_int, nr_str, nr_ty, nr_tup, nr_lst, nrs_nil, nrs_cons, Bool.and_true, Bool.true_and, Bool.and_false, Bool.false_and, Bool.not_true, Bool.not_false, Bool.or_false, Bool.false_or, Nat.reduceAdd, Nat.reduceLT, Nat.reduceLeDiff, Nat.reduceEqDiff, Nat.zero_add, initE, List.cons_append, List.nil_append, List.replicate, List.replicate_succ, List.replicate_zero, Nat.reduceSub, Bool.false_eq_true, decide_true, decide_false, and_true, true_and, and_self, fz_bl, fz_int, fz_str, fz_non, isi_s]
  rw [h1]
  simp -implicitDefEqProofs only [fSeq, fIfS, fRet, fRetN, fNext, fAsg, fAsgG, fPar, fDrop, fOr, fAnd, fNot, fTest, fTruth, fAndV, fOrV, fNotV, fIf, fChain, fCall, fCallN, fCallD, fCons, fNil, fVar, fC, fBin, fTup, fFrz, fOwn, fLstN, fSlice, fNoPart, fPart, fSet, fGTup, fGCons, fGNil, rb_ok, rb_exc, rb_stk, noExc, Env.put, List.getElem?_cons_zero, List.getElem?_cons_succ, List.set_cons_zero, List.set_cons_succ, List.length_cons, List.length_nil, vw_non, vw_bl, vw_int, vw_str, vw_ty, vw_tup, vw_lst, vw_dct, List.map_cons, List.map_nil, if_true, if_false, reduceIte, nr_non, nr_bl, nr_int, nr_str, nr_ty, nr_tup, nr_lst, nrs_nil, nrs_cons, Bool.and_true, Bool.true_and, Bool.and_false, Bool.false_and, Bool.not_true, Bool.not_false, Bool.or_false, Bool.false_or, Nat.reduceAdd, Nat.reduceLT, Nat.reduceLeDiff, Nat.reduceEqDiff, Nat.zero_add, initE, List.cons_append, List.nil_append, List.replicate, List.replicate_succ, List.replicate_zero, Nat.reduceSub, Bool.false_eq_true, decide_true, decide_false, and_true, true_and, and_self, fz_bl, fz_int, fz_str, fz_non, isi_s]
def lowc (c : Nat) : Bool := decide (97 ≤ c) && decide (c ≤ 122)
def nameT : T → Bool
  | .str s => decide (1 ≤ s.length) && (decide (s.length ≤ 8) && s.all lowc)
  | _ => false
/-- a thing that may be asked -/
def okT (t : T) : Bool := t.base && (match t with | .str s => decide (s.length ≤ 1000) | _ => true)
theorem text_ok (c : Int) : ∃ s, D__law_text [.int c] = .ok (.str s) ∧ s.length ≤ 1000 := by
  by_cases h : 1000000000000000000 ≤ (if c < 0 then -c else c)
  · obtain ⟨us, e1, e2, e3⟩ := digits_ok c [.str [97], .str [122], .str [65], .str [48], .str [32]] 9 (by decide) (by decide) (by decide) (by simp [nr_str])
    obtain ⟨ss, rfl, e4⟩ := strs_of (P := fun s => s.length ≤ 1) (us := us) (fun t ht => by
      have := e3 t ht
      simp only [List.mem_cons, List.not_mem_nil, or_false] at this
      rcases this with rfl | rfl | rfl | rfl | rfl <;> exact ⟨_, rfl, Nat.le_refl _⟩)
    rw [List.length_map] at e2
    have n1 : T.nrs (ss.map T.str) = true := nrs_mem fun t ht => by obtain ⟨s, _, rfl⟩ := List.mem_map.mp ht; exact nr_str s
    refine ⟨TL.joinL [] ss, runD_ret (ρ := ⟨[some (.int c), none, none, none, none, none, none, none], []⟩) ?_ fz_str, ?_⟩
    · have e1' : D__law_digits [T.int c, T.lst [T.str [97], T.str [122], T.str [65], T.str [48], T.str [32]], T.int 9] = RD.ok (T.lst (ss.map T.str)) := e1
      simp -implicitDefEqProofs only [b__law_text, fSeq, fIfS, fRet, fRetN, fNext, fAsg, fAsgG, fPar, fDrop, fOr, fAnd, fNot, fTest, fTruth, fAndV, fOrV, fNotV, fIf, fChain, fCall, fCallN, fCallD, fCons, fNil, fVar, fC, fBin, fTup, fFrz, fOwn, fLstN, fSlice, fNoPart, fPart, fSet, fGTup, fGCons, fGNil, rb_ok, rb_exc, rb_stk, noExc, Env.put, List.getElem?_cons_zero, List.getElem?_cons_succ, List.set_cons_zero, List.set_cons_succ, List.length_cons, List.length_nil, vw_non, vw_bl, vw_int, vw_str, vw_ty, vw_tup, vw_lst, vw_dct, List.map_cons, List.map_nil, if_true, if_false, reduceIte, nr_non, nr_bl, nr_int, nr_str, nr_ty, nr_tup, nr_lst, nrs_nil, nrs_cons, Bool.and_true, Bool.true_and, Bool.and_false, Bool.false_and, Bool.not_true, Bool.not_false, Bool.or_false, Bool.false_or, Nat.reduceAdd, Nat.reduceLT, Nat.reduceLeDiff, Nat.reduceEqDiff, Nat.zero_add, initE, List.cons_append, List.nil_append, List.replicate, List.replicate_succ, List.replicate_zero, Nat.reduceSub, Bool.false_eq_true, decide_true, decide_false, and_true, true_and, and_self, fz_bl, fz_int, fz_str, fz_non, isi_s, abs_i, pow_18, ge_ii, decide_eq_true h, fJoin, Nat.reduceLeDiff, e1', nr_lst, n1, join_l ss 1 e4 (by omega)]
    · rw [joinL_len]
      have := sum_len e4
      omega
  · have d1 := draws_eq (mix c 1) [11, 3, 10, 40] (by simp) (by decide)
    have d1' : D__law_draws [T.int (mix c 1), T.lst [T.int 11, T.int 3, T.int 10, T.int 40]] = _ := d1
    simp only [draws, List.map_cons, List.map_nil] at d1'
    have q1 := mod_in (mix c 1) 11 (by decide)
    have q4 := mod_in (mix c 1 / 11 / 3 / 10) 40 (by decide)
    generalize mix c 1 % 11 = size at *
    generalize mix c 1 / 11 % 3 = way at *
    generalize mix c 1 / 11 / 3 % 10 = at' at *
    generalize mix c 1 / 11 / 3 / 10 % 40 = sign at *
    obtain ⟨n, rfl⟩ : ∃ n : Nat, size = n := ⟨size.toNat, by omega⟩
    have ev : ∃ us, fLc [7] (fRange1 (fCons (fVar 3) fNil)) (fSet 7) fYes (fBin ixT (fC (.str [97, 98, 99, 100, 101, 102, 103, 104, 105, 106, 107, 108, 109, 110, 111, 112, 113, 114, 115, 116, 117, 118, 119, 120, 121, 122])) (fBin modT (fCallD D__law_mix 2 (fCons (fVar 0) (fCons (fBin addT (fC (.int 20)) (fVar 7)) fNil))) (fC (.int 26))))
        ⟨[some (.int c), none, none, some (.int n), some (.int way), some (.int at'), some (.int sign), none], []⟩ = .ok (us, ⟨[some (.int c), none, none, some (.int n), some (.int way), some (.int at'), some (.int sign), none], []⟩) ∧ us.length = n ∧ ∀ t ∈ us, ∃ s, t = .str s ∧ s.length ≤ 1 := by
      obtain ⟨us, u1, u2, u3⟩ := fLc_rel (vs := [7]) (fi := fRange1 (fCons (fVar 3) fNil)) (g := fSet 7) (ft := fYes) (fe := fBin ixT (fC (.str [97, 98, 99, 100, 101, 102, 103, 104, 105, 106, 107, 108, 109, 110, 111, 112, 113, 114, 115, 116, 117, 118, 119, 120, 121, 122])) (fBin modT (fCallD D__law_mix 2 (fCons (fVar 0) (fCons (fBin addT (fC (.int 20)) (fVar 7)) fNil))) (fC (.int 26)))) (fun t => ∃ s, t = .str s ∧ s.length ≤ 1) (range1_eq (fVar 3) n ⟨[some (.int c), none, none, some (.int n), some (.int way), some (.int at'), some (.int sign), none], []⟩ _ rfl (by omega)) rfl rfl (by simp; omega) (fun t ht => by
        obtain ⟨k, hk, rfl⟩ := List.mem_map.mp ht
        refine ⟨⟨[some (.int c), none, none, some (.int n), some (.int way), some (.int at'), some (.int sign), some (.int (0 + (k : Int)))], []⟩, by simp -implicitDefEqProofs only [fSeq, fIfS, fRet, fRetN, fNext, fAsg, fAsgG, fPar, fDrop, fOr, fAnd, fNot, fTest, fTruth, fAndV, fOrV, fNotV, fIf, fChain, fCall, fCallN, fCallD, fCons, fNil, fVar, fC, fBin, fTup, fFrz, fOwn, fLstN, fSlice, fNoPart, fPart, fSet, fGTup, fGCons, fGNil, rb_ok, rb_exc, rb_stk, noExc, Env.put, List.getElem?_cons_zero, List.getElem?_cons_succ, List.set_cons_zero, List.set_cons_succ, List.length_cons, List.length_nil, vw_non, vw_bl, vw_int, vw_str, vw_ty, vw_tup, vw_lst, vw_dct, List.map_cons, List.map_nil, if_true, if_false, reduceIte, nr_non, nr_bl, nr_int, nr_str, nr_ty, nr_tup, nr_lst, nrs_nil, nrs_cons, Bool.and_true, Bool.true_and, Bool.and_false, Bool.false_and, Bool.not_true, Bool.not_false, Bool.or_false, Bool.false_or, Nat.reduceAdd, Nat.reduceLT, Nat.reduceLeDiff, Nat.reduceEqDiff, Nat.zero_add, initE, List.cons_append, List.nil_append, List.replicate, List.replicate_succ, List.replicate_zero, Nat.reduceSub, Bool.false_eq_true, decide_true, decide_false, and_true, true_and, and_self, fz_bl, fz_int, fz_str, fz_non, isi_s], rfl, ?_, rfl⟩
        have m1 := mod_in (mix c (20 + (0 + (k : Int)))) 26 (by decide)
        obtain ⟨x, _, x2⟩ := ix_s' [97, 98, 99, 100, 101, 102, 103, 104, 105, 106, 107, 108, 109, 110, 111, 112, 113, 114, 115, 116, 117, 118, 119, 120, 121, 122] _ (by decide) m1.1 m1.2
        exact ⟨.str [x], by simp -implicitDefEqProofs only [fSeq, fIfS, fRet, fRetN, fNext, fAsg, fAsgG, fPar, fDrop, fOr, fAnd, fNot, fTest, fTruth, fAndV, fOrV, fNotV, fIf, fChain, fCall, fCallN, fCallD, fCons, fNil, fVar, fC, fBin, fTup, fFrz, fOwn, fLstN, fSlice, fNoPart, fPart, fSet, fGTup, fGCons, fGNil, rb_ok, rb_exc, rb_stk, noExc, Env.put, List.getElem?_cons_zero, List.getElem?_cons_succ, List.set_cons_zero, List.set_cons_succ, List.length_cons, List.length_nil, vw_non, vw_bl, vw_int, vw_str, vw_ty, vw_tup, vw_lst, vw_dct, List.map_cons, List.map_nil, if_true, if_false, reduceIte, nr_non, nr_bl, nr_int, nr_str, nr_ty, nr_tup, nr_lst, nrs_nil, nrs_cons, Bool.and_true, Bool.true_and, Bool.and_false, Bool.false_and, Bool.not_true, Bool.not_false, Bool.or_false, Bool.false_or, Nat.reduceAdd, Nat.reduceLT, Nat.reduceLeDiff, Nat.reduceEqDiff, Nat.zero_add, initE, List.cons_append, List.nil_append, List.replicate, List.replicate_succ, List.replicate_zero, Nat.reduceSub, Bool.false_eq_true, decide_true, decide_false, and_true, true_and, and_self, fz_bl, fz_int, fz_str, fz_non, isi_s, add_ii, mix_eq, mod_ii _ 26 (by decide), x2], [x], rfl, Nat.le_refl _⟩)
      exact ⟨us, u1, by simpa using u2, u3⟩
    obtain ⟨us, e1, e2, e3⟩ := ev
    obtain ⟨ss, rfl, e4⟩ := strs_of e3
    rw [List.length_map] at e2
    have jl : (TL.joinL [] ss).length ≤ 10 := by
      rw [joinL_len]
      have := sum_len e4
      omega
    have m1 := mod_in sign 38 (by decide)
    obtain ⟨x, _, x2⟩ := ix_s' [65, 66, 90, 48, 49, 57, 95, 32, 45, 46, 44, 58, 59, 39, 47, 35, 33, 63, 40, 41, 91, 93, 123, 125, 60, 62, 61, 43, 42, 38, 94, 124, 126, 10, 64, 65, 97, 122] _ (by decide) m1.1 m1.2
    have c1 := cutL_len (TL.joinL [] ss) none (some at')
    have c2 := cutL_len (TL.joinL [] ss) (some (at' + 1)) none
    by_cases hw : way = 1 ∧ 0 < (n : Int)
    · refine ⟨cutL (TL.joinL [] ss) none (some at') ++ [x] ++ cutL (TL.joinL [] ss) (some (at' + 1)) none, runD_ret (ρ := ⟨[some (.int c), some (.str (TL.joinL [] ss)), some (.str [65, 66, 90, 48, 49, 57, 95, 32, 45, 46, 44, 58, 59, 39, 47, 35, 33, 63, 40, 41, 91, 93, 123, 125, 60, 62, 61, 43, 42, 38, 94, 124, 126, 10, 64, 65, 97, 122]), some (.int n), some (.int way), some (.int at'), some (.int sign), none], []⟩) ?_ fz_str, by simp; omega⟩
      have a1 := add_ss (cutL (TL.joinL [] ss) none (some at')) [x] (by simp; omega)
      have a2 := add_ss (cutL (TL.joinL [] ss) none (some at') ++ [x]) (cutL (TL.joinL [] ss) (some (at' + 1)) none) (by simp; omega)
      simp -implicitDefEqProofs only [b__law_text, fSeq, fIfS, fRet, fRetN, fNext, fAsg, fAsgG, fPar, fDrop, fOr, fAnd, fNot, fTest, fTruth, fAndV, fOrV, fNotV, fIf, fChain, fCall, fCallN, fCallD, fCons, fNil, fVar, fC, fBin, fTup, fFrz, fOwn, fLstN, fSlice, fNoPart, fPart, fSet, fGTup, fGCons, fGNil, rb_ok, rb_exc, rb_stk, noExc, Env.put, List.getElem?_cons_zero, List.getElem?_cons_succ, List.set_cons_zero, List.set_cons_succ, List.length_cons, List.length_nil, vw_non, vw_bl, vw_int, vw_str, vw_ty, vw_tup, vw_lst, vw_dct, List.map_cons, List.map_nil, if_true, if_false, reduceIte, nr_non, nr_bl, nr_int, nr_str, nr_ty, nr_tup, nr_lst, nrs_nil, nrs_cons, Bool.and_true, Bool.true_and, Bool.and_false, Bool.false_and, Bool.not_true, Bool.not_false, Bool.or_false, Bool.false_or, Nat.reduceAdd, Nat.reduceLT, Nat.reduceLeDiff, Nat.reduceEqDiff, Nat.zero_add, initE, List.cons_append, List.nil_append, List.replicate, List.replicate_succ, List.replicate_zero, Nat.reduceSub, Bool.false_eq_true, decide_true, decide_false, and_true, true_and, and_self, fz_bl, fz_int, fz_str, fz_non, isi_s, abs_i, pow_18, ge_ii, decide_eq_false h, fJoin, mix_eq, d1', e1, join_l ss 1 e4 (by omega), eq_ii, gt_ii, decide_eq_true hw.1, decide_eq_true hw.2, add_ii, mod_ii sign 38 (by decide), x2, cut_s _ _ _ (show (TL.joinL [] ss).length ≤ 16777216 by omega), a1, a2]
    · refine ⟨TL.joinL [] ss, runD_ret (ρ := ⟨[some (.int c), some (.str (TL.joinL [] ss)), some (.str [65, 66, 90, 48, 49, 57, 95, 32, 45, 46, 44, 58, 59, 39, 47, 35, 33, 63, 40, 41, 91, 93, 123, 125, 60, 62, 61, 43, 42, 38, 94, 124, 126, 10, 64, 65, 97, 122]), some (.int n), some (.int way), some (.int at'), some (.int sign), none], []⟩) ?_ fz_str, by omega⟩
      simp -implicitDefEqProofs only [b__law_text, fSeq, fIfS, fRet, fRetN, fNext, fAsg, fAsgG, fPar, fDrop, fOr, fAnd, fNot, fTest, fTruth, fAndV, fOrV, fNotV, fIf, fChain, fCall, fCallN, fCallD, fCons, fNil, fVar, fC, fBin, fTup, fFrz, fOwn, fLstN, fSlice, fNoPart, fPart, fSet, fGTup, fGCons, fGNil, rb_ok, rb_exc, rb_stk, noExc, Env.put, List.getElem?_cons_zero, List.getElem?_cons_succ, List.set_cons_zero, List.set_cons_succ, List.length_cons, List.length_nil, vw_non, vw_bl, vw_int, vw_str, vw_ty, vw_tup, vw_lst, vw_dct, List.map_cons, List.map_nil, if_true, if_false, reduceIte, nr_non, nr_bl, nr_int, nr_str, nr_ty, nr_tup, nr_lst, nrs_nil, nrs_cons, Bool.and_true, Bool.true_and, Bool.and_false, Bool.false_and, Bool.not_true, Bool.not_false, Bool.or_false, Bool.false_or, Nat.reduceAdd, Nat.reduceLT, Nat.reduceLeDiff, Nat.reduceEqDiff, Nat.zero_add, initE, List.cons_append, List.nil_append, List.replicate, List.replicate_succ, List.replicate_zero, Nat.reduceSub, Bool.false_eq_true, decide_true, decide_false, and_true, true_and, and_self, fz_bl, fz_int, fz_str, fz_non, isi_s, abs_i, pow_18, ge_ii, decide_eq_false h, fJoin, mix_eq, d1', e1, join_l ss 1 e4 (by omega), eq_ii, gt_ii]
      by_cases h1 : way = 1
      · have h2 : ¬ (0 : Int) < n := fun z => hw ⟨h1, z⟩
        simp -implicitDefEqProofs only [fSeq, fIfS, fRet, fRetN, fNext, fAsg, fAsgG, fPar, fDrop, fOr, fAnd, fNot, fTest, fTruth, fAndV, fOrV, fNotV, fIf, fChain, fCall, fCallN, fCallD, fCons, fNil, fVar, fC, fBin, fTup, fFrz, fOwn, fLstN, fSlice, fNoPart, fPart, fSet, fGTup, fGCons, fGNil, rb_ok, rb_exc, rb_stk, noExc, Env.put, List.getElem?_cons_zero, List.getElem?_cons_succ, List.set_cons_zero, List.set_cons_succ, List.length_cons, List.length_nil, vw_non, vw_bl, vw_int, vw_str, vw_ty, vw_tup, vw_lst, vw_dct, List.map_cons, List.map_nil, if_true, if_false, reduceIte, nr_non, nr_bl, nr_int, nr_str, nr_ty, nr_tup, nr_lst, nrs_nil, nrs_cons, Bool.and_true, Bool.true_and, Bool.and_false, Bool.false_and, Bool.not_true, Bool.not_false, Bool.or_false, Bool.false_or, Nat.reduceAdd, Nat.reduceLT, Nat.reduceLeDiff, Nat.reduceEqDiff, Nat.zero_add, initE, List.cons_append, List.nil_append, List.replicate, List.replicate_succ, List.replicate_zero, Nat.reduceSub, Bool.false_eq_true, decide_true, decide_false, and_true, true_and, and_self, fz_bl, fz_int, fz_str, fz_non, isi_s, decide_eq_true h1, decide_eq_false h2]
      · simp -implicitDefEqProofs only [fSeq, fIfS, fRet, fRetN, fNext, fAsg, fAsgG, fPar, fDrop, fOr, fAnd, fNot, fTest, fTruth, fAndV, fOrV, fNotV, fIf, fChain, fCall, fCallN, fCallD, fCons, fNil, fVar, fC, fBin, fTup, fFrz, fOwn, fLstN, fSlice, fNoPart, fPart, fSet, fGTup, fGCons, fGNil, rb_ok, rb_exc, rb_stk, noExc, Env.put, List.getElem?_cons_zero, List.getElem?_cons_succ, List.set_cons_zero, List.set_cons_succ, List.length_cons, List.length_nil, vw_non, vw_bl, vw_int, vw_str, vw_ty, vw_tup, vw_lst, vw_dct, List.map_cons, List.map_nil, if_true, if_false, reduceIte, nr_non, nr_bl, nr_int, nr_str, nr_ty, nr_tup, nr_lst, nrs_nil, nrs_cons, Bool.and_true, Bool.true_and, Bool.and_false, Bool.false_and, Bool.not_true, Bool.not_false, Bool.or_false, Bool.false_or, Nat.reduceAdd, Nat.reduceLT, Nat.reduceLeDiff, Nat.reduceEqDiff, Nat.zero_add, initE, List.cons_append, List.nil_append, List.replicate, List.replicate_succ, List.replicate_zero, Nat.reduceSub, Bool.false_eq_true, decide_true, decide_false, and_true, true_and, and_self, fz_bl, fz_int, fz_str, fz_non, isi_s, decide_eq_false h1]
def things : List T := [.non, .int 5, .bl true, .lst [.str [97]], .tup [.str [97], .int 5], .dct [], .tup [.non], .int 0, .tup [.str [97], .tup [.str [97]]], .str [97, 32, 98], .tup [.tup [.str [97]]], .lst [.str [97], .str [98]]]
theorem thing_ok (c : Int) : ∃ t, D__law_thing [.int c] = .ok t ∧ t ∈ things := by
  have m1 := mod_in c 12 (by decide)
  obtain ⟨x, h1, h2⟩ := ix_l' things _ m1.1 m1.2
  unfold things at h2
  have hx : x.nr = true := by
    have h1' := h1
    unfold things at h1'
    simp only [List.mem_cons, List.not_mem_nil, or_false] at h1'
    rcases h1' with rfl | rfl | rfl | rfl | rfl | rfl | rfl | rfl | rfl | rfl | rfl | rfl <;> simp [T.nr, T.nrs, T.nrd]
  refine ⟨x, runD_ret (ρ := ⟨[some (.int c)], []⟩) ?_ (fz_nr hx), h1⟩
  simp -implicitDefEqProofs only [b__law_thing, fSeq, fIfS, fRet, fRetN, fNext, fAsg, fAsgG, fPar, fDrop, fOr, fAnd, fNot, fTest, fTruth, fAndV, fOrV, fNotV, fIf, fChain, fCall, fCallN, fCallD, fCons, fNil, fVar, fC, fBin, fTup, fFrz, fOwn, fLstN, fSlice, fNoPart, fPart, fSet, fGTup, fGCons, fGNil, rb_ok, rb_exc, rb_stk, noExc, Env.put, List.getElem?_cons_zero, List.getElem?_cons_succ, List.set_cons_zero, List.set_cons_succ, List.length_cons, List.length_nil, vw_non, vw_bl, vw_int, vw_str, vw_ty, vw_tup, vw_lst, vw_dct, List.map_cons, List.map_nil, if_true, if_false, reduceIte, nr_non, nr_bl, nr_int, nr_str, nr_ty, nr_tup, nr_lst, nrs_nil, nrs_cons, Bool.and_true, Bool.true_and, Bool.and_false, Bool.false_and, Bool.not_true, Bool.not_false, Bool.or_false, Bool.false_or, Nat.reduceAdd, Nat.reduceLT, Nat.reduceLeDiff, Nat.reduceEqDiff, Nat.zero_add, initE, List.cons_append, List.nil_append, List.replicate, List.replicate_succ, List.replicate_zero, Nat.reduceSub, Bool.false_eq_true, decide_true, decide_false, and_true, true_and, and_self, fz_bl, fz_int, fz_str, fz_non, isi_s, mod_ii c 12 (by decide), h2]
/-- what stands in a row -/
def rowT (t : T) : Prop := (∃ s, t = .str s ∧ s.length ≤ 1000) ∨ t = .non ∨ t = .int 5
theorem rowT_nr {t : T} (h : rowT t) : t.nr = true := by
  rcases h with ⟨s, rfl, _⟩ | rfl | rfl
  · exact nr_str s
  · exact nr_non
  · exact nr_int 5
theorem row_ok (c : Int) : ∃ us, D__law_row [.int c] = .ok (.tup us) ∧ us.length ≤ 26 ∧ ∀ t ∈ us, rowT t := by
  by_cases h : 1000000000000000000 ≤ (if c < 0 then -c else c)
  · obtain ⟨us, e1, e2, e3⟩ := digits_ok c [.str [97], .str [98], .str [65, 98]] 25 (by decide) (by decide) (by decide) (by simp [nr_str])
    have e1' : D__law_digits [T.int c, T.lst [T.str [97], T.str [98], T.str [65, 98]], T.int 25] = RD.ok (T.lst us) := e1
    have e4 : ∀ t ∈ us, rowT t := fun t ht => by
      have := e3 t ht
      simp only [List.mem_cons, List.not_mem_nil, or_false] at this
      rcases this with rfl | rfl | rfl <;> exact .inl ⟨_, rfl, by decide⟩
    have n1 : T.nrs us = true := nrs_mem fun t ht => rowT_nr (e4 t ht)
    refine ⟨us, runD_ret (ρ := ⟨[some (.int c), none, none, none, none, none], []⟩) ?_ (fz_tup n1), by omega, e4⟩
    simp -implicitDefEqProofs only [b__law_row, fSeq, fIfS, fRet, fRetN, fNext, fAsg, fAsgG, fPar, fDrop, fOr, fAnd, fNot, fTest, fTruth, fAndV, fOrV, fNotV, fIf, fChain, fCall, fCallN, fCallD, fCons, fNil, fVar, fC, fBin, fTup, fFrz, fOwn, fLstN, fSlice, fNoPart, fPart, fSet, fGTup, fGCons, fGNil, rb_ok, rb_exc, rb_stk, noExc, Env.put, List.getElem?_cons_zero, List.getElem?_cons_succ, List.set_cons_zero, List.set_cons_succ, List.length_cons, List.length_nil, vw_non, vw_bl, vw_int, vw_str, vw_ty, vw_tup, vw_lst, vw_dct, List.map_cons, List.map_nil, if_true, if_false, reduceIte, nr_non, nr_bl, nr_int, nr_str, nr_ty, nr_tup, nr_lst, nrs_nil, nrs_cons, Bool.and_true, Bool.true_and, Bool.and_false, Bool.false_and, Bool.not_true, Bool.not_false, Bool.or_false, Bool.false_or, Nat.reduceAdd, Nat.reduceLT, Nat.reduceLeDiff, Nat.reduceEqDiff, Nat.zero_add, initE, List.cons_append, List.nil_append, List.replicate, List.replicate_succ, List.replicate_zero, Nat.reduceSub, Bool.false_eq_true, decide_true, decide_false, and_true, true_and, and_self, fz_bl, fz_int, fz_str, fz_non, isi_s, abs_i, pow_18, ge_ii, decide_eq_true h, e1', n1, tuple_l]
  · have d1' : D__law_draws [T.int (mix c 2), T.lst [T.int 27, T.int 26, T.int 3]] = _ := draws_eq (mix c 2) [27, 26, 3] (by simp) (by decide)
    simp only [draws, List.map_cons, List.map_nil] at d1'
    have q1 := mod_in (mix c 2) 27 (by decide)
    generalize mix c 2 % 27 = size at *
    generalize mix c 2 / 27 % 26 = at' at *
    generalize mix c 2 / 27 / 26 % 3 = way at *
    obtain ⟨n, rfl⟩ : ∃ n : Nat, size = n := ⟨size.toNat, by omega⟩
    obtain ⟨us, e1, e2, e3⟩ := fLc_rel (vs := [5]) (fi := fRange1 (fCons (fVar 2) fNil)) (g := fSet 5) (ft := fYes) (fe := fSlice (fC (.str [97, 98, 99, 100, 101, 102, 103, 104])) fNoPart (fPart (fBin addT (fC (.int 1)) (fBin modT (fCallD D__law_mix 2 (fCons (fVar 0) (fCons (fBin addT (fC (.int 60)) (fVar 5)) fNil))) (fC (.int 8)))))) rowT (range1_eq (fVar 2) n ⟨[some (.int c), none, some (.int n), some (.int at'), some (.int way), none], []⟩ _ rfl (by omega)) rfl rfl (by simp; omega) (fun t ht => by
        obtain ⟨k, hk, rfl⟩ := List.mem_map.mp ht
        refine ⟨⟨[some (.int c), none, some (.int n), some (.int at'), some (.int way), some (.int (0 + (k : Int)))], []⟩, by simp -implicitDefEqProofs only [fSeq, fIfS, fRet, fRetN, fNext, fAsg, fAsgG, fPar, fDrop, fOr, fAnd, fNot, fTest, fTruth, fAndV, fOrV, fNotV, fIf, fChain, fCall, fCallN, fCallD, fCons, fNil, fVar, fC, fBin, fTup, fFrz, fOwn, fLstN, fSlice, fNoPart, fPart, fSet, fGTup, fGCons, fGNil, rb_ok, rb_exc, rb_stk, noExc, Env.put, List.getElem?_cons_zero, List.getElem?_cons_succ, List.set_cons_zero, List.set_cons_succ, List.length_cons, List.length_nil, vw_non, vw_bl, vw_int, vw_str, vw_ty, vw_tup, vw_lst, vw_dct, List.map_cons, List.map_nil, if_true, if_false, reduceIte, nr_non, nr_bl, nr_int, nr_str, nr_ty, nr_tup, nr_lst, nrs_nil, nrs_cons, Bool.and_true, Bool.true_and, Bool.and_false, Bool.false_and, Bool.not_true, Bool.not_false, Bool.or_false, Bool.false_or, Nat.reduceAdd, Nat.reduceLT, Nat.reduceLeDiff, Nat.reduceEqDiff, Nat.zero_add, initE, List.cons_append, List.nil_append, List.replicate, List.replicate_succ, List.replicate_zero, Nat.reduceSub, Bool.false_eq_true, decide_true, decide_false, and_true, true_and, and_self, fz_bl, fz_int, fz_str, fz_non, isi_s], rfl, ?_, rfl⟩
        exact ⟨.str (cutL [97, 98, 99, 100, 101, 102, 103, 104] none (some (1 + mix c (60 + (0 + (k : Int))) % 8))), by simp -implicitDefEqProofs only [fSeq, fIfS, fRet, fRetN, fNext, fAsg, fAsgG, fPar, fDrop, fOr, fAnd, fNot, fTest, fTruth, fAndV, fOrV, fNotV, fIf, fChain, fCall, fCallN, fCallD, fCons, fNil, fVar, fC, fBin, fTup, fFrz, fOwn, fLstN, fSlice, fNoPart, fPart, fSet, fGTup, fGCons, fGNil, rb_ok, rb_exc, rb_stk, noExc, Env.put, List.getElem?_cons_zero, List.getElem?_cons_succ, List.set_cons_zero, List.set_cons_succ, List.length_cons, List.length_nil, vw_non, vw_bl, vw_int, vw_str, vw_ty, vw_tup, vw_lst, vw_dct, List.map_cons, List.map_nil, if_true, if_false, reduceIte, nr_non, nr_bl, nr_int, nr_str, nr_ty, nr_tup, nr_lst, nrs_nil, nrs_cons, Bool.and_true, Bool.true_and, Bool.and_false, Bool.false_and, Bool.not_true, Bool.not_false, Bool.or_false, Bool.false_or, Nat.reduceAdd, Nat.reduceLT, Nat.reduceLeDiff, Nat.reduceEqDiff, Nat.zero_add, initE, List.cons_append, List.nil_append, List.replicate, List.replicate_succ, List.replicate_zero, Nat.reduceSub, Bool.false_eq_true, decide_true, decide_false, and_true, true_and, and_self, fz_bl, fz_int, fz_str, fz_non, isi_s, add_ii, mix_eq, mod_ii _ 8 (by decide), cut_s [97, 98, 99, 100, 101, 102, 103, 104] _ _ (by decide)], .inl ⟨_, rfl, Nat.le_trans (cutL_len _ _ _) (by decide)⟩⟩)
    have e2 : us.length = n := by simpa using e2
    by_cases hw : way = 0 ∧ 0 < (n : Int)
    · have m1 := mod_in at' n hw.2
      have m2 := mod_in (mix c 3) 6 (by decide)
      obtain ⟨x, x1, x2⟩ := ix_l' [.str [65], .str [], .str [97, 98, 99, 100, 101, 102, 103, 104, 105], .non, .int 5, .str [97, 49]] _ m2.1 m2.2
      have hx : rowT x := by
        simp only [List.mem_cons, List.not_mem_nil, or_false] at x1
        rcases x1 with rfl | rfl | rfl | rfl | rfl | rfl
        · exact .inl ⟨_, rfl, by decide⟩
        · exact .inl ⟨_, rfl, by decide⟩
        · exact .inl ⟨_, rfl, by decide⟩
        · exact .inr (.inl rfl)
        · exact .inr (.inr rfl)
        · exact .inl ⟨_, rfl, by decide⟩
      have ij : ixN us.length (at' % n) = some (at' % n).toNat := by
        unfold ixN
        rw [if_pos m1.1, if_pos (by omega)]
      have e4 : ∀ t ∈ us.set (at' % n).toNat x, rowT t := fun t ht => (List.mem_or_eq_of_mem_set ht).elim (e3 t) fun e => by rw [e]; exact hx
      have n1 : T.nrs (us.set (at' % n).toNat x) = true := nrs_mem fun t ht => rowT_nr (e4 t ht)
      refine ⟨us.set (at' % n).toNat x, runD_ret (ρ := ⟨[some (.int c), some (.ref 0), some (.int n), some (.int at'), some (.int way), none], [.lst (us.set (at' % n).toNat x)]⟩) ?_ (fz_tup n1), by simp; omega, e4⟩
      simp -implicitDefEqProofs only [b__law_row, fSeq, fIfS, fRet, fRetN, fNext, fAsg, fAsgG, fPar, fDrop, fOr, fAnd, fNot, fTest, fTruth, fAndV, fOrV, fNotV, fIf, fChain, fCall, fCallN, fCallD, fCons, fNil, fVar, fC, fBin, fTup, fFrz, fOwn, fLstN, fSlice, fNoPart, fPart, fSet, fGTup, fGCons, fGNil, rb_ok, rb_exc, rb_stk, noExc, Env.put, List.getElem?_cons_zero, List.getElem?_cons_succ, List.set_cons_zero, List.set_cons_succ, List.length_cons, List.length_nil, vw_non, vw_bl, vw_int, vw_str, vw_ty, vw_tup, vw_lst, vw_dct, List.map_cons, List.map_nil, if_true, if_false, reduceIte, nr_non, nr_bl, nr_int, nr_str, nr_ty, nr_tup, nr_lst, nrs_nil, nrs_cons, Bool.and_true, Bool.true_and, Bool.and_false, Bool.false_and, Bool.not_true, Bool.not_false, Bool.or_false, Bool.false_or, Nat.reduceAdd, Nat.reduceLT, Nat.reduceLeDiff, Nat.reduceEqDiff, Nat.zero_add, initE, List.cons_append, List.nil_append, List.replicate, List.replicate_succ, List.replicate_zero, Nat.reduceSub, Bool.false_eq_true, decide_true, decide_false, and_true, true_and, and_self, fz_bl, fz_int, fz_str, fz_non, isi_s, abs_i, pow_18, ge_ii, decide_eq_false h, mix_eq, d1', e1, eq_ii, gt_ii, decide_eq_true hw.1, decide_eq_true hw.2, mod_ii at' n hw.2, mod_ii _ 6 (by decide), x2, fSubL, mulist, ij, Tr.vw, tuple_l]
    · have n1 : T.nrs us = true := nrs_mem fun t ht => rowT_nr (e3 t ht)
      refine ⟨us, runD_ret (ρ := ⟨[some (.int c), some (.ref 0), some (.int n), some (.int at'), some (.int way), none], [.lst us]⟩) ?_ (fz_tup n1), by omega, e3⟩
      by_cases h1 : way = 0
      · have h2 : ¬ (0 : Int) < n := fun z => hw ⟨h1, z⟩
        simp -implicitDefEqProofs only [b__law_row, fSeq, fIfS, fRet, fRetN, fNext, fAsg, fAsgG, fPar, fDrop, fOr, fAnd, fNot, fTest, fTruth, fAndV, fOrV, fNotV, fIf, fChain, fCall, fCallN, fCallD, fCons, fNil, fVar, fC, fBin, fTup, fFrz, fOwn, fLstN, fSlice, fNoPart, fPart, fSet, fGTup, fGCons, fGNil, rb_ok, rb_exc, rb_stk, noExc, Env.put, List.getElem?_cons_zero, List.getElem?_cons_succ, List.set_cons_zero, List.set_cons_succ, List.length_cons, List.length_nil, vw_non, vw_bl, vw_int, vw_str, vw_ty, vw_tup, vw_lst, vw_dct, List.map_cons, List.map_nil, if_true, if_false, reduceIte, nr_non, nr_bl, nr_int, nr_str, nr_ty, nr_tup, nr_lst, nrs_nil, nrs_cons, Bool.and_true, Bool.true_and, Bool.and_false, Bool.false_and, Bool.not_true, Bool.not_false, Bool.or_false, Bool.false_or, Nat.reduceAdd, Nat.reduceLT, Nat.reduceLeDiff, Nat.reduceEqDiff, Nat.zero_add, initE, List.cons_append, List.nil_append, List.replicate, List.replicate_succ, List.replicate_zero, Nat.reduceSub, Bool.false_eq_true, decide_true, decide_false, and_true, true_and, and_self, fz_bl, fz_int, fz_str, fz_non, isi_s, abs_i, pow_18, ge_ii, decide_eq_false h, mix_eq, d1', e1, eq_ii, gt_ii, decide_eq_true h1, decide_eq_false h2, Tr.vw, tuple_l]
      · simp -implicitDefEqProofs only [b__law_row, fSeq, fIfS, fRet, fRetN, fNext, fAsg, fAsgG, fPar, fDrop, fOr, fAnd, fNot, fTest, fTruth, fAndV, fOrV, fNotV, fIf, fChain, fCall, fCallN, fCallD, fCons, fNil, fVar, fC, fBin, fTup, fFrz, fOwn, fLstN, fSlice, fNoPart, fPart, fSet, fGTup, fGCons, fGNil, rb_ok, rb_exc, rb_stk, noExc, Env.put, List.getElem?_cons_zero, List.getElem?_cons_succ, List.set_cons_zero, List.set_cons_succ, List.length_cons, List.length_nil, vw_non, vw_bl, vw_int, vw_str, vw_ty, vw_tup, vw_lst, vw_dct, List.map_cons, List.map_nil, if_true, if_false, reduceIte, nr_non, nr_bl, nr_int, nr_str, nr_ty, nr_tup, nr_lst, nrs_nil, nrs_cons, Bool.and_true, Bool.true_and, Bool.and_false, Bool.false_and, Bool.not_true, Bool.not_false, Bool.or_false, Bool.false_or, Nat.reduceAdd, Nat.reduceLT, Nat.reduceLeDiff, Nat.reduceEqDiff, Nat.zero_add, initE, List.cons_append, List.nil_append, List.replicate, List.replicate_succ, List.replicate_zero, Nat.reduceSub, Bool.false_eq_true, decide_true, decide_false, and_true, true_and, and_self, fz_bl, fz_int, fz_str, fz_non, isi_s, abs_i, pow_18, ge_ii, decide_eq_false h, mix_eq, d1', e1, eq_ii, gt_ii, decide_eq_false h1, Tr.vw, tuple_l]
theorem le1 (c : Nat) : (!decide (([c] : List Nat) < [97])) = decide (97 ≤ c) := by
  have : (([c] : List Nat) < [97]) ↔ c < 97 := by simp [List.cons_lt_cons_iff]
  by_cases h : 97 ≤ c
  · rw [decide_eq_true h, decide_eq_false (by rw [this]; omega)]; rfl
  · rw [decide_eq_false h, decide_eq_true (by rw [this]; omega)]; rfl
theorem le2 (c : Nat) : (!decide (([122] : List Nat) < [c])) = decide (c ≤ 122) := by
  have : (([122] : List Nat) < [c]) ↔ 122 < c := by simp [List.cons_lt_cons_iff]
  by_cases h : c ≤ 122
  · rw [decide_eq_true h, decide_eq_false (by rw [this]; omega)]; rfl
  · rw [decide_eq_false h, decide_eq_true (by rw [this]; omega)]; rfl
theorem base_vw {μ : List Node} {t : T} (h : t.base = true) : vw μ t = t := by cases t <;> first | rfl | cases h
theorem okT_base {t : T} (h : okT t = true) : t.base = true := by unfold okT at h; rw [Bool.and_eq_true] at h; exact h.1
theorem no_str {t : T} (h : okT t = true) (hs : ∀ s, t ≠ .str s) : isiT [t, .ty "str"] = some (.bl false) := by
  have hb : t.base = true := okT_base h
  rw [isi_str hb]
  cases t <;> first | rfl | exact (hs _ rfl).elim
theorem nameT_no {t : T} (hs : ∀ s, t ≠ .str s) : nameT t = false := by cases t <;> first | rfl | exact (hs _ rfl).elim
theorem name_all (s : List Nat) : fAA false [1] (fItS (fVar 0)) (fSet 1) fYes (fChain leT leT (fC (.str [97])) (fVar 1) (fC (.str [122]))) ⟨[some (.str s), none], []⟩ = .ok (.bl (s.all lowc), ⟨[some (.str s), none], []⟩) := by
  have hs : ∀ t ∈ s.map (fun c => T.str [c]), ∃ ρ1, fSet 1 t ⟨[some (.str s), none], []⟩ = .ok ρ1 ∧ fYes ρ1 = .ok (true, ρ1) ∧ fChain leT leT (fC (.str [97])) (fVar 1) (fC (.str [122])) ρ1 = .ok (.bl (match t with | .str [c] => lowc c | _ => false), ρ1) ∧ wipeE ρ1 [1] = ⟨[some (.str s), none], []⟩ := fun t ht => by
    obtain ⟨c, _, rfl⟩ := List.mem_map.mp ht
    refine ⟨⟨[some (.str s), some (.str [c])], []⟩, rfl, rfl, ?_, rfl⟩
    simp -implicitDefEqProofs only [fSeq, fIfS, fRet, fRetN, fNext, fAsg, fAsgG, fPar, fDrop, fOr, fAnd, fNot, fTest, fTruth, fAndV, fOrV, fNotV, fIf, fChain, fCall, fCallN, fCallD, fCons, fNil, fVar, fC, fBin, fTup, fFrz, fOwn, fLstN, fSlice, fNoPart, fPart, fSet, fGTup, fGCons, fGNil, rb_ok, rb_exc, rb_stk, noExc, Env.put, List.getElem?_cons_zero, List.getElem?_cons_succ, List.set_cons_zero, List.set_cons_succ, List.length_cons, List.length_nil, vw_non, vw_bl, vw_int, vw_str, vw_ty, vw_tup, vw_lst, vw_dct, List.map_cons, List.map_nil, if_true, if_false, reduceIte, nr_non, nr_bl, nr_int, nr_str, nr_ty, nr_tup, nr_lst, nrs_nil, nrs_cons, Bool.and_true, Bool.true_and, Bool.and_false, Bool.false_and, Bool.not_true, Bool.not_false, Bool.or_false, Bool.false_or, Nat.reduceAdd, Nat.reduceLT, Nat.reduceLeDiff, Nat.reduceEqDiff, Nat.zero_add, initE, List.cons_append, List.nil_append, List.replicate, List.replicate_succ, List.replicate_zero, Nat.reduceSub, Bool.false_eq_true, decide_true, decide_false, and_true, true_and, and_self, fz_bl, fz_int, fz_str, fz_non, isi_s, le_ss, le1, le2, lowc]
    by_cases h : 97 ≤ c
    · simp [h]
    · simp [h]
  obtain ⟨ρ', e1, e2⟩ := aaLoop_all (t0 := .non) (u := .non) (vs := [1]) (ρ := ⟨[some (.str s), none], []⟩) _ rfl rfl _ hs
  show (R.bind (noExc (aaLoop false [1] _ _ _ .non .non (s.map fun c => T.str [c]) ⟨[some (.str s), none], []⟩)) fun q => .ok (T.bl q.1, wipeE q.2 [1])) = _
  rw [e1]
  show R.ok (T.bl _, wipeE ρ' [1]) = _
  rw [e2, List.all_map]
  rfl
theorem len_test (s : List Nat) (ρ : Tr.Env) (hl : s.length ≤ 1000) (h0 : ρ.sl[0]? = some (some (.str s))) : fTest (fChain leT leT (fC (.int 1)) (fCall lenT (fCons (fVar 0) fNil)) (fC (.int 8))) ρ = .ok (decide (1 ≤ s.length) && decide (s.length ≤ 8), ρ) := by
  simp -implicitDefEqProofs only [fSeq, fIfS, fRet, fRetN, fNext, fAsg, fAsgG, fPar, fDrop, fOr, fAnd, fNot, fTest, fTruth, fAndV, fOrV, fNotV, fIf, fChain, fCall, fCallN, fCallD, fCons, fNil, fVar, fC, fBin, fTup, fFrz, fOwn, fLstN, fSlice, fNoPart, fPart, fSet, fGTup, fGCons, fGNil, rb_ok, rb_exc, rb_stk, noExc, Env.put, List.getElem?_cons_zero, List.getElem?_cons_succ, List.set_cons_zero, List.set_cons_succ, List.length_cons, List.length_nil, vw_non, vw_bl, vw_int, vw_str, vw_ty, vw_tup, vw_lst, vw_dct, List.map_cons, List.map_nil, if_true, if_false, reduceIte, nr_non, nr_bl, nr_int, nr_str, nr_ty, nr_tup, nr_lst, nrs_nil, nrs_cons, Bool.and_true, Bool.true_and, Bool.and_false, Bool.false_and, Bool.not_true, Bool.not_false, Bool.or_false, Bool.false_or, Nat.reduceAdd, Nat.reduceLT, Nat.reduceLeDiff, Nat.reduceEqDiff, Nat.zero_add, initE, List.cons_append, List.nil_append, List.replicate, List.replicate_succ, List.replicate_zero, Nat.reduceSub, Bool.false_eq_true, decide_true, decide_false, and_true, true_and, and_self, fz_bl, fz_int, fz_str, fz_non, isi_s, h0, len_s s (show s.length ≤ 16777216 by omega), le_ii]
  by_cases h1 : 1 ≤ s.length
  · have i1 : (1 : Int) ≤ s.length := by omega
    simp -implicitDefEqProofs only [fSeq, fIfS, fRet, fRetN, fNext, fAsg, fAsgG, fPar, fDrop, fOr, fAnd, fNot, fTest, fTruth, fAndV, fOrV, fNotV, fIf, fChain, fCall, fCallN, fCallD, fCons, fNil, fVar, fC, fBin, fTup, fFrz, fOwn, fLstN, fSlice, fNoPart, fPart, fSet, fGTup, fGCons, fGNil, rb_ok, rb_exc, rb_stk, noExc, Env.put, List.getElem?_cons_zero, List.getElem?_cons_succ, List.set_cons_zero, List.set_cons_succ, List.length_cons, List.length_nil, vw_non, vw_bl, vw_int, vw_str, vw_ty, vw_tup, vw_lst, vw_dct, List.map_cons, List.map_nil, if_true, if_false, reduceIte, nr_non, nr_bl, nr_int, nr_str, nr_ty, nr_tup, nr_lst, nrs_nil, nrs_cons, Bool.and_true, Bool.true_and, Bool.and_false, Bool.false_and, Bool.not_true, Bool.not_false, Bool.or_false, Bool.false_or, Nat.reduceAdd, Nat.reduceLT, Nat.reduceLeDiff, Nat.reduceEqDiff, Nat.zero_add, initE, List.cons_append, List.nil_append, List.replicate, List.replicate_succ, List.replicate_zero, Nat.reduceSub, Bool.false_eq_true, decide_true, decide_false, and_true, true_and, and_self, fz_bl, fz_int, fz_str, fz_non, isi_s, decide_eq_true h1, decide_eq_true i1, le_ii, len_s s (show s.length ≤ 16777216 by omega)]
    by_cases h2 : s.length ≤ 8
    · have i2 : (s.length : Int) ≤ 8 := by omega
      simp -implicitDefEqProofs only [fSeq, fIfS, fRet, fRetN, fNext, fAsg, fAsgG, fPar, fDrop, fOr, fAnd, fNot, fTest, fTruth, fAndV, fOrV, fNotV, fIf, fChain, fCall, fCallN, fCallD, fCons, fNil, fVar, fC, fBin, fTup, fFrz, fOwn, fLstN, fSlice, fNoPart, fPart, fSet, fGTup, fGCons, fGNil, rb_ok, rb_exc, rb_stk, noExc, Env.put, List.getElem?_cons_zero, List.getElem?_cons_succ, List.set_cons_zero, List.set_cons_succ, List.length_cons, List.length_nil, vw_non, vw_bl, vw_int, vw_str, vw_ty, vw_tup, vw_lst, vw_dct, List.map_cons, List.map_nil, if_true, if_false, reduceIte, nr_non, nr_bl, nr_int, nr_str, nr_ty, nr_tup, nr_lst, nrs_nil, nrs_cons, Bool.and_true, Bool.true_and, Bool.and_false, Bool.false_and, Bool.not_true, Bool.not_false, Bool.or_false, Bool.false_or, Nat.reduceAdd, Nat.reduceLT, Nat.reduceLeDiff, Nat.reduceEqDiff, Nat.zero_add, initE, List.cons_append, List.nil_append, List.replicate, List.replicate_succ, List.replicate_zero, Nat.reduceSub, Bool.false_eq_true, decide_true, decide_false, and_true, true_and, and_self, fz_bl, fz_int, fz_str, fz_non, isi_s, decide_eq_true h2, decide_eq_true i2]
    · have i2 : ¬ (s.length : Int) ≤ 8 := by omega
      simp -implicitDefEqProofs only [fSeq, fIfS, fRet, fRetN, fNext, fAsg, fAsgG, fPar, fDrop, fOr, fAnd, fNot, fTest, fTruth, fAndV, fOrV, fNotV, fIf, fChain, fCall, fCallN, fCallD, fCons, fNil, fVar, fC, fBin, fTup, fFrz, fOwn, fLstN, fSlice, fNoPart, fPart, fSet, fGTup, fGCons, fGNil, rb_ok, rb_exc, rb_stk, noExc, Env.put, List.getElem?_cons_zero, List.getElem?_cons_succ, List.set_cons_zero, List.set_cons_succ, List.length_cons, List.length_nil, vw_non, vw_bl, vw_int, vw_str, vw_ty, vw_tup, vw_lst, vw_dct, List.map_cons, List.map_nil, if_true, if_false, reduceIte, nr_non, nr_bl, nr_int, nr_str, nr_ty, nr_tup, nr_lst, nrs_nil, nrs_cons, Bool.and_true, Bool.true_and, Bool.and_false, Bool.false_and, Bool.not_true, Bool.not_false, Bool.or_false, Bool.false_or, Nat.reduceAdd, Nat.reduceLT, Nat.reduceLeDiff, Nat.reduceEqDiff, Nat.zero_add, initE, List.cons_append, List.nil_append, List.replicate, List.replicate_succ, List.replicate_zero, Nat.reduceSub, Bool.false_eq_true, decide_true, decide_false, and_true, true_and, and_self, fz_bl, fz_int, fz_str, fz_non, isi_s, decide_eq_false h2, decide_eq_false i2]
  · have i1 : ¬ (1 : Int) ≤ s.length := by omega
    simp -implicitDefEqProofs only [fSeq, fIfS, fRet, fRetN, fNext, fAsg, fAsgG, fPar, fDrop, fOr, fAnd, fNot, fTest, fTruth, fAndV, fOrV, fNotV, fIf, fChain, fCall, fCallN, fCallD, fCons, fNil, fVar, fC, fBin, fTup, fFrz, fOwn, fLstN, fSlice, fNoPart, fPart, fSet, fGTup, fGCons, fGNil, rb_ok, rb_exc, rb_stk, noExc, Env.put, List.getElem?_cons_zero, List.getElem?_cons_succ, List.set_cons_zero, List.set_cons_succ, List.length_cons, List.length_nil, vw_non, vw_bl, vw_int, vw_str, vw_ty, vw_tup, vw_lst, vw_dct, List.map_cons, List.map_nil, if_true, if_false, reduceIte, nr_non, nr_bl, nr_int, nr_str, nr_ty, nr_tup, nr_lst, nrs_nil, nrs_cons, Bool.and_true, Bool.true_and, Bool.and_false, Bool.false_and, Bool.not_true, Bool.not_false, Bool.or_false, Bool.false_or, Nat.reduceAdd, Nat.reduceLT, Nat.reduceLeDiff, Nat.reduceEqDiff, Nat.zero_add, initE, List.cons_append, List.nil_append, List.replicate, List.replicate_succ, List.replicate_zero, Nat.reduceSub, Bool.false_eq_true, decide_true, decide_false, and_true, true_and, and_self, fz_bl, fz_int, fz_str, fz_non, isi_s, decide_eq_false h1, decide_eq_false i1]
theorem is_name_eq {t : T} (h : okT t = true) : D_is_name [t] = .ok (.bl (nameT t)) := by
  refine runD_ret (ρ := ⟨[some t, none], []⟩) ?_ fz_bl
  have hb : t.base = true := okT_base h
  by_cases hs : ∀ s, t ≠ .str s
  · simp -implicitDefEqProofs only [b_is_name, fSeq, fIfS, fRet, fRetN, fNext, fAsg, fAsgG, fPar, fDrop, fOr, fAnd, fNot, fTest, fTruth, fAndV, fOrV, fNotV, fIf, fChain, fCall, fCallN, fCallD, fCons, fNil, fVar, fC, fBin, fTup, fFrz, fOwn, fLstN, fSlice, fNoPart, fPart, fSet, fGTup, fGCons, fGNil, rb_ok, rb_exc, rb_stk, noExc, Env.put, List.getElem?_cons_zero, List.getElem?_cons_succ, List.set_cons_zero, List.set_cons_succ, List.length_cons, List.length_nil, vw_non, vw_bl, vw_int, vw_str, vw_ty, vw_tup, vw_lst, vw_dct, List.map_cons, List.map_nil, if_true, if_false, reduceIte, nr_non, nr_bl, nr_int, nr_str, nr_ty, nr_tup, nr_lst, nrs_nil, nrs_cons, Bool.and_true, Bool.true_and, Bool.and_false, Bool.false_and, Bool.not_true, Bool.not_false, Bool.or_false, Bool.false_or, Nat.reduceAdd, Nat.reduceLT, Nat.reduceLeDiff, Nat.reduceEqDiff, Nat.zero_add, initE, List.cons_append, List.nil_append, List.replicate, List.replicate_succ, List.replicate_zero, Nat.reduceSub, Bool.false_eq_true, decide_true, decide_false, and_true, true_and, and_self, fz_bl, fz_int, fz_str, fz_non, isi_s, base_vw hb, no_str h hs, nameT_no hs]
  · obtain ⟨s, rfl⟩ : ∃ s, t = .str s := Classical.byContradiction fun z => hs fun s e => z ⟨s, e⟩
    have hl : s.length ≤ 1000 := by simpa [okT, T.base] using h
    have lt := len_test s ⟨[some (.str s), none], []⟩ hl rfl
    unfold b_is_name
    have e1 : fOr (fNot (fTest (fCall isiT (fCons (fVar 0) (fCons (fC (.ty "str")) fNil))))) (fNot (fTest (fChain leT leT (fC (.int 1)) (fCall lenT (fCons (fVar 0) fNil)) (fC (.int 8))))) ⟨[some (.str s), none], []⟩ = .ok (!(decide (1 ≤ s.length) && decide (s.length ≤ 8)), ⟨[some (.str s), none], []⟩) := by
      have e0 : fTest (fCall isiT (fCons (fVar 0) (fCons (fC (.ty "str")) fNil))) ⟨[some (.str s), none], []⟩ = .ok (true, ⟨[some (.str s), none], []⟩) := by simp -implicitDefEqProofs only [fSeq, fIfS, fRet, fRetN, fNext, fAsg, fAsgG, fPar, fDrop, fOr, fAnd, fNot, fTest, fTruth, fAndV, fOrV, fNotV, fIf, fChain, fCall, fCallN, fCallD, fCons, fNil, fVar, fC, fBin, fTup, fFrz, fOwn, fLstN, fSlice, fNoPart, fPart, fSet, fGTup, fGCons, fGNil, rb_ok, rb_exc, rb_stk, noExc, Env.put, List.getElem?_cons_zero, List.getElem?_cons_succ, List.set_cons_zero, List.set_cons_succ, List.length_cons, List.length_nil, vw_non, vw_bl, vw_int, vw_str, vw_ty, vw_tup, vw_lst, vw_dct, List.map_cons, List.map_nil, if_true, if_false, reduceIte, nr_non, nr_bl, nr_int, nr_str, nr_ty, nr_tup, nr_lst, nrs_nil, nrs_cons, Bool.and_true, Bool.true_and, Bool.and_false, Bool.false_and, Bool.not_true, Bool.not_false, Bool.or_false, Bool.false_or, Nat.reduceAdd, Nat.reduceLT, Nat.reduceLeDiff, Nat.reduceEqDiff, Nat.zero_add, initE, List.cons_append, List.nil_append, List.replicate, List.replicate_succ, List.replicate_zero, Nat.reduceSub, Bool.false_eq_true, decide_true, decide_false, and_true, true_and, and_self, fz_bl, fz_int, fz_str, fz_non, isi_s]
      unfold fOr fNot
      rw [e0]
      simp -implicitDefEqProofs only [rb_ok, Bool.not_true, Bool.false_eq_true, if_false, lt]
    show fSeq _ _ ⟨[some (.str s), none], []⟩ = _
    unfold fSeq fIfS
    rw [e1]
    rw [show nameT (.str s) = (decide (1 ≤ s.length) && (decide (s.length ≤ 8) && s.all lowc)) from rfl]
    cases (decide (1 ≤ s.length)) <;> cases (decide (s.length ≤ 8)) <;> simp -implicitDefEqProofs only [fSeq, fIfS, fRet, fRetN, fNext, fAsg, fAsgG, fPar, fDrop, fOr, fAnd, fNot, fTest, fTruth, fAndV, fOrV, fNotV, fIf, fChain, fCall, fCallN, fCallD, fCons, fNil, fVar, fC, fBin, fTup, fFrz, fOwn, fLstN, fSlice, fNoPart, fPart, fSet, fGTup, fGCons, fGNil, rb_ok, rb_exc, rb_stk, noExc, Env.put, List.getElem?_cons_zero, List.getElem?_cons_succ, List.set_cons_zero, List.set_cons_succ, List.length_cons, List.length_nil, vw_non, vw_bl, vw_int, vw_str, vw_ty, vw_tup, vw_lst, vw_dct, List.map_cons, List.map_nil, if_true, if_false, reduceIte, nr_non, nr_bl, nr_int, nr_str, nr_ty, nr_tup, nr_lst, nrs_nil, nrs_cons, Bool.and_true, Bool.true_and, Bool.and_false, Bool.false_and, Bool.not_true, Bool.not_false, Bool.or_false, Bool.false_or, Nat.reduceAdd, Nat.reduceLT, Nat.reduceLeDiff, Nat.reduceEqDiff, Nat.zero_add, initE, List.cons_append, List.nil_append, List.replicate, List.replicate_succ, List.replicate_zero, Nat.reduceSub, Bool.false_eq_true, decide_true, decide_false, and_true, true_and, and_self, fz_bl, fz_int, fz_str, fz_non, isi_s, name_all]
theorem filt_empty (s : List Nat) : ((s.map fun c => T.str [c]).filter fun t => match t with | .str [c] => !lowc c | _ => false).isEmpty = s.all lowc := by
  induction s with
  | nil => rfl
  | cons c r ih =>
    rw [List.map_cons, List.filter_cons, List.all_cons]
    by_cases h : lowc c = true
    · simp only [h, Bool.not_true, Bool.false_eq_true, if_false, Bool.true_and]
      exact ih
    · rw [Bool.not_eq_true] at h
      simp only [h, Bool.not_false, if_true, Bool.false_and]
      rfl
theorem law_is_name_eq {t : T} (h : okT t = true) : D__law_is_name [t] = .ok (.bl (nameT t)) := by
  refine runD_ret (ρ := ⟨[some t, none], []⟩) ?_ fz_bl
  have hb : t.base = true := okT_base h
  by_cases hs : ∀ s, t ≠ .str s
  · simp -implicitDefEqProofs only [b__law_is_name, fSeq, fIfS, fRet, fRetN, fNext, fAsg, fAsgG, fPar, fDrop, fOr, fAnd, fNot, fTest, fTruth, fAndV, fOrV, fNotV, fIf, fChain, fCall, fCallN, fCallD, fCons, fNil, fVar, fC, fBin, fTup, fFrz, fOwn, fLstN, fSlice, fNoPart, fPart, fSet, fGTup, fGCons, fGNil, rb_ok, rb_exc, rb_stk, noExc, Env.put, List.getElem?_cons_zero, List.getElem?_cons_succ, List.set_cons_zero, List.set_cons_succ, List.length_cons, List.length_nil, vw_non, vw_bl, vw_int, vw_str, vw_ty, vw_tup, vw_lst, vw_dct, List.map_cons, List.map_nil, if_true, if_false, reduceIte, nr_non, nr_bl, nr_int, nr_str, nr_ty, nr_tup, nr_lst, nrs_nil, nrs_cons, Bool.and_true, Bool.true_and, Bool.and_false, Bool.false_and, Bool.not_true, Bool.not_false, Bool.or_false, Bool.false_or, Nat.reduceAdd, Nat.reduceLT, Nat.reduceLeDiff, Nat.reduceEqDiff, Nat.zero_add, initE, List.cons_append, List.nil_append, List.replicate, List.replicate_succ, List.replicate_zero, Nat.reduceSub, Bool.false_eq_true, decide_true, decide_false, and_true, true_and, and_self, fz_bl, fz_int, fz_str, fz_non, isi_s, base_vw hb, no_str h hs, nameT_no hs]
  · obtain ⟨s, rfl⟩ : ∃ s, t = .str s := Classical.byContradiction fun z => hs fun s e => z ⟨s, e⟩
    have hl : s.length ≤ 1000 := by simpa [okT, T.base] using h
    have lt := len_test s ⟨[some (.str s), none], []⟩ hl rfl
    unfold b__law_is_name
    have e1 : fOr (fNot (fTest (fCall isiT (fCons (fVar 0) (fCons (fC (.ty "str")) fNil))))) (fNot (fTest (fChain leT leT (fC (.int 1)) (fCall lenT (fCons (fVar 0) fNil)) (fC (.int 8))))) ⟨[some (.str s), none], []⟩ = .ok (!(decide (1 ≤ s.length) && decide (s.length ≤ 8)), ⟨[some (.str s), none], []⟩) := by
      have e0 : fTest (fCall isiT (fCons (fVar 0) (fCons (fC (.ty "str")) fNil))) ⟨[some (.str s), none], []⟩ = .ok (true, ⟨[some (.str s), none], []⟩) := by simp -implicitDefEqProofs only [fSeq, fIfS, fRet, fRetN, fNext, fAsg, fAsgG, fPar, fDrop, fOr, fAnd, fNot, fTest, fTruth, fAndV, fOrV, fNotV, fIf, fChain, fCall, fCallN, fCallD, fCons, fNil, fVar, fC, fBin, fTup, fFrz, fOwn, fLstN, fSlice, fNoPart, fPart, fSet, fGTup, fGCons, fGNil, rb_ok, rb_exc, rb_stk, noExc, Env.put, List.getElem?_cons_zero, List.getElem?_cons_succ, List.set_cons_zero, List.set_cons_succ, List.length_cons, List.length_nil, vw_non, vw_bl, vw_int, vw_str, vw_ty, vw_tup, vw_lst, vw_dct, List.map_cons, List.map_nil, if_true, if_false, reduceIte, nr_non, nr_bl, nr_int, nr_str, nr_ty, nr_tup, nr_lst, nrs_nil, nrs_cons, Bool.and_true, Bool.true_and, Bool.and_false, Bool.false_and, Bool.not_true, Bool.not_false, Bool.or_false, Bool.false_or, Nat.reduceAdd, Nat.reduceLT, Nat.reduceLeDiff, Nat.reduceEqDiff, Nat.zero_add, initE, List.cons_append, List.nil_append, List.replicate, List.replicate_succ, List.replicate_zero, Nat.reduceSub, Bool.false_eq_true, decide_true, decide_false, and_true, true_and, and_self, fz_bl, fz_int, fz_str, fz_non, isi_s]
      unfold fOr fNot
      rw [e0]
      simp -implicitDefEqProofs only [rb_ok, Bool.not_true, Bool.false_eq_true, if_false, lt]
    show fSeq _ _ ⟨[some (.str s), none], []⟩ = _
    unfold fSeq fIfS
    rw [e1]
    have e2 := fLc_map (vs := [1]) (fi := fItS (fVar 0)) (g := fSet 1) (ft := fTest (fBin notInT (fVar 1) (fC (.str [97, 98, 99, 100, 101, 102, 103, 104, 105, 106, 107, 108, 109, 110, 111, 112, 113, 114, 115, 116, 117, 118, 119, 120, 121, 122])))) (fe := fVar 1) (ρ := ⟨[some (.str s), none], []⟩) (fun t => match t with | .str [c] => !lowc c | _ => false) id (k := ⟨s.map fun c => T.str [c], .non, .non⟩) rfl rfl rfl (by simp; omega) (fun t ht => by
      obtain ⟨c, _, rfl⟩ := List.mem_map.mp ht
      refine ⟨⟨[some (.str s), some (.str [c])], []⟩, rfl, ?_, fun _ => rfl, rfl⟩
      simp -implicitDefEqProofs only [fSeq, fIfS, fRet, fRetN, fNext, fAsg, fAsgG, fPar, fDrop, fOr, fAnd, fNot, fTest, fTruth, fAndV, fOrV, fNotV, fIf, fChain, fCall, fCallN, fCallD, fCons, fNil, fVar, fC, fBin, fTup, fFrz, fOwn, fLstN, fSlice, fNoPart, fPart, fSet, fGTup, fGCons, fGNil, rb_ok, rb_exc, rb_stk, noExc, Env.put, List.getElem?_cons_zero, List.getElem?_cons_succ, List.set_cons_zero, List.set_cons_succ, List.length_cons, List.length_nil, vw_non, vw_bl, vw_int, vw_str, vw_ty, vw_tup, vw_lst, vw_dct, List.map_cons, List.map_nil, if_true, if_false, reduceIte, nr_non, nr_bl, nr_int, nr_str, nr_ty, nr_tup, nr_lst, nrs_nil, nrs_cons, Bool.and_true, Bool.true_and, Bool.and_false, Bool.false_and, Bool.not_true, Bool.not_false, Bool.or_false, Bool.false_or, Nat.reduceAdd, Nat.reduceLT, Nat.reduceLeDiff, Nat.reduceEqDiff, Nat.zero_add, initE, List.cons_append, List.nil_append, List.replicate, List.replicate_succ, List.replicate_zero, Nat.reduceSub, Bool.false_eq_true, decide_true, decide_false, and_true, true_and, and_self, fz_bl, fz_int, fz_str, fz_non, isi_s, notIn_sign]
      have hc : decide (c ∈ [97, 98, 99, 100, 101, 102, 103, 104, 105, 106, 107, 108, 109, 110, 111, 112, 113, 114, 115, 116, 117, 118, 119, 120, 121, 122]) = lowc c := by
        unfold lowc
        rw [Bool.eq_iff_iff]
        simp
        omega
      rw [hc])
    have e4 : PyData.plainAll (T.pys (((s.map fun c => T.str [c]).filter fun t => match t with | .str [c] => !lowc c | _ => false).map id)) = true := plain_all fun t ht => by
      rw [List.map_id] at ht
      obtain ⟨c, _, rfl⟩ := List.mem_map.mp (List.mem_filter.mp ht).1
      rfl
    have e5 : (((s.map fun c => T.str [c]).filter fun t => match t with | .str [c] => !lowc c | _ => false).map id).isEmpty = s.all lowc := by
      rw [List.map_id]
      exact filt_empty s
    rw [show nameT (.str s) = (decide (1 ≤ s.length) && (decide (s.length ≤ 8) && s.all lowc)) from rfl]
    cases (decide (1 ≤ s.length)) <;> cases (decide (s.length ≤ 8)) <;> simp -implicitDefEqProofs only [fSeq, fIfS, fRet, fRetN, fNext, fAsg, fAsgG, fPar, fDrop, fOr, fAnd, fNot, fTest, fTruth, fAndV, fOrV, fNotV, fIf, fChain, fCall, fCallN, fCallD, fCons, fNil, fVar, fC, fBin, fTup, fFrz, fOwn, fLstN, fSlice, fNoPart, fPart, fSet, fGTup, fGCons, fGNil, rb_ok, rb_exc, rb_stk, noExc, Env.put, List.getElem?_cons_zero, List.getElem?_cons_succ, List.set_cons_zero, List.set_cons_succ, List.length_cons, List.length_nil, vw_non, vw_bl, vw_int, vw_str, vw_ty, vw_tup, vw_lst, vw_dct, List.map_cons, List.map_nil, if_true, if_false, reduceIte, nr_non, nr_bl, nr_int, nr_str, nr_ty, nr_tup, nr_lst, nrs_nil, nrs_cons, Bool.and_true, Bool.true_and, Bool.and_false, Bool.false_and, Bool.not_true, Bool.not_false, Bool.or_false, Bool.false_or, Nat.reduceAdd, Nat.reduceLT, Nat.reduceLeDiff, Nat.reduceEqDiff, Nat.zero_add, initE, List.cons_append, List.nil_append, List.replicate, List.replicate_succ, List.replicate_zero, Nat.reduceSub, Bool.false_eq_true, decide_true, decide_false, and_true, true_and, and_self, fz_bl, fz_int, fz_str, fz_non, isi_s, e2, eq_l0 _ e4, e5]
/-- a row, as the text tells it -/
def namesT (n : Nat) : T → Bool
  | .tup ts => decide (ts.length ≤ n) && ts.all nameT
  | _ => false
theorem no_tup {t : T} (h : okT t = true) (hs : ∀ s, t ≠ .tup s) : isiT [t, .ty "tuple"] = some (.bl false) := by
  have hb := okT_base h
  rw [isi_tup hb]
  cases t <;> first | rfl | exact (hs _ rfl).elim
theorem isi_tt (s : List T) : isiT [.tup s, .ty "tuple"] = some (.bl true) := isi_tup rfl
theorem are_names_eq {t : T} {n : Nat} (h : okT t = true) (hn : t.nr = true) (hl : ∀ ts, t = .tup ts → ∀ x ∈ ts, okT x = true ∧ x.nr = true) : D_are_names [t, .int n] = .ok (.bl (namesT n t)) := by
  refine runD_ret (ρ := ⟨[some t, some (.int n), none], []⟩) ?_ fz_bl
  have hb := okT_base h
  by_cases hs : ∀ s, t ≠ .tup s
  · have e : namesT n t = false := by cases t <;> first | rfl | exact (hs _ rfl).elim
    simp -implicitDefEqProofs only [b_are_names, fSeq, fIfS, fRet, fRetN, fNext, fAsg, fAsgG, fPar, fDrop, fOr, fAnd, fNot, fTest, fTruth, fAndV, fOrV, fNotV, fIf, fChain, fCall, fCallN, fCallD, fCons, fNil, fVar, fC, fBin, fTup, fFrz, fOwn, fLstN, fSlice, fNoPart, fPart, fSet, fGTup, fGCons, fGNil, rb_ok, rb_exc, rb_stk, noExc, Env.put, List.getElem?_cons_zero, List.getElem?_cons_succ, List.set_cons_zero, List.set_cons_succ, List.length_cons, List.length_nil, vw_non, vw_bl, vw_int, vw_str, vw_ty, vw_tup, vw_lst, vw_dct, List.map_cons, List.map_nil, if_true, if_false, reduceIte, nr_non, nr_bl, nr_int, nr_str, nr_ty, nr_tup, nr_lst, nrs_nil, nrs_cons, Bool.and_true, Bool.true_and, Bool.and_false, Bool.false_and, Bool.not_true, Bool.not_false, Bool.or_false, Bool.false_or, Nat.reduceAdd, Nat.reduceLT, Nat.reduceLeDiff, Nat.reduceEqDiff, Nat.zero_add, initE, List.cons_append, List.nil_append, List.replicate, List.replicate_succ, List.replicate_zero, Nat.reduceSub, Bool.false_eq_true, decide_true, decide_false, and_true, true_and, and_self, fz_bl, fz_int, fz_str, fz_non, isi_s, base_vw hb, no_tup h hs, e]
  · obtain ⟨ts, rfl⟩ : ∃ s, t = .tup s := Classical.byContradiction fun z => hs fun s e => z ⟨s, e⟩
    rw [show namesT n (.tup ts) = (decide (ts.length ≤ n) && ts.all nameT) from rfl]
    by_cases h1 : ts.length ≤ n
    · have h2 : ¬ (n : Int) < ts.length := by omega
      have e1 : fAA false [2] (fItT (fVar 0)) (fSet 2) fYes (fCallD D_is_name 1 (fCons (fVar 2) fNil)) ⟨[some (.tup ts), some (.int n), none], []⟩ = .ok (.bl (ts.all nameT), ⟨[some (.tup ts), some (.int n), none], []⟩) := by
        obtain ⟨ρ', e1, e2⟩ := aaLoop_all (g := fSet 2) (ft := fYes) (fe := fCallD D_is_name 1 (fCons (fVar 2) fNil)) (t0 := .tup ts) (u := .tup ts) (vs := [2]) (ρ := ⟨[some (.tup ts), some (.int n), none], []⟩) nameT rfl rfl ts (fun x hx => ⟨⟨[some (.tup ts), some (.int n), some x], []⟩, rfl, rfl, by
          obtain ⟨o1, o2⟩ := hl ts rfl x hx
          simp -implicitDefEqProofs only [fSeq, fIfS, fRet, fRetN, fNext, fAsg, fAsgG, fPar, fDrop, fOr, fAnd, fNot, fTest, fTruth, fAndV, fOrV, fNotV, fIf, fChain, fCall, fCallN, fCallD, fCons, fNil, fVar, fC, fBin, fTup, fFrz, fOwn, fLstN, fSlice, fNoPart, fPart, fSet, fGTup, fGCons, fGNil, rb_ok, rb_exc, rb_stk, noExc, Env.put, List.getElem?_cons_zero, List.getElem?_cons_succ, List.set_cons_zero, List.set_cons_succ, List.length_cons, List.length_nil, vw_non, vw_bl, vw_int, vw_str, vw_ty, vw_tup, vw_lst, vw_dct, List.map_cons, List.map_nil, if_true, if_false, reduceIte, nr_non, nr_bl, nr_int, nr_str, nr_ty, nr_tup, nr_lst, nrs_nil, nrs_cons, Bool.and_true, Bool.true_and, Bool.and_false, Bool.false_and, Bool.not_true, Bool.not_false, Bool.or_false, Bool.false_or, Nat.reduceAdd, Nat.reduceLT, Nat.reduceLeDiff, Nat.reduceEqDiff, Nat.zero_add, initE, List.cons_append, List.nil_append, List.replicate, List.replicate_succ, List.replicate_zero, Nat.reduceSub, Bool.false_eq_true, decide_true, decide_false, and_true, true_and, and_self, fz_bl, fz_int, fz_str, fz_non, isi_s, o2, is_name_eq o1], rfl⟩)
        show (R.bind (noExc (aaLoop false [2] _ _ _ (.tup ts) (.tup ts) ts ⟨[some (.tup ts), some (.int n), none], []⟩)) fun q => .ok (T.bl q.1, wipeE q.2 [2])) = _
        rw [e1]
        show R.ok (T.bl _, wipeE ρ' [2]) = _
        rw [e2]
      simp -implicitDefEqProofs only [b_are_names, fSeq, fIfS, fRet, fRetN, fNext, fAsg, fAsgG, fPar, fDrop, fOr, fAnd, fNot, fTest, fTruth, fAndV, fOrV, fNotV, fIf, fChain, fCall, fCallN, fCallD, fCons, fNil, fVar, fC, fBin, fTup, fFrz, fOwn, fLstN, fSlice, fNoPart, fPart, fSet, fGTup, fGCons, fGNil, rb_ok, rb_exc, rb_stk, noExc, Env.put, List.getElem?_cons_zero, List.getElem?_cons_succ, List.set_cons_zero, List.set_cons_succ, List.length_cons, List.length_nil, vw_non, vw_bl, vw_int, vw_str, vw_ty, vw_tup, vw_lst, vw_dct, List.map_cons, List.map_nil, if_true, if_false, reduceIte, nr_non, nr_bl, nr_int, nr_str, nr_ty, nr_tup, nr_lst, nrs_nil, nrs_cons, Bool.and_true, Bool.true_and, Bool.and_false, Bool.false_and, Bool.not_true, Bool.not_false, Bool.or_false, Bool.false_or, Nat.reduceAdd, Nat.reduceLT, Nat.reduceLeDiff, Nat.reduceEqDiff, Nat.zero_add, initE, List.cons_append, List.nil_append, List.replicate, List.replicate_succ, List.replicate_zero, Nat.reduceSub, Bool.false_eq_true, decide_true, decide_false, and_true, true_and, and_self, fz_bl, fz_int, fz_str, fz_non, isi_s, isi_tt, len_t, gt_ii, decide_eq_false h2, decide_eq_true h1, e1]
    · have h2 : (n : Int) < ts.length := by omega
      simp -implicitDefEqProofs only [b_are_names, fSeq, fIfS, fRet, fRetN, fNext, fAsg, fAsgG, fPar, fDrop, fOr, fAnd, fNot, fTest, fTruth, fAndV, fOrV, fNotV, fIf, fChain, fCall, fCallN, fCallD, fCons, fNil, fVar, fC, fBin, fTup, fFrz, fOwn, fLstN, fSlice, fNoPart, fPart, fSet, fGTup, fGCons, fGNil, rb_ok, rb_exc, rb_stk, noExc, Env.put, List.getElem?_cons_zero, List.getElem?_cons_succ, List.set_cons_zero, List.set_cons_succ, List.length_cons, List.length_nil, vw_non, vw_bl, vw_int, vw_str, vw_ty, vw_tup, vw_lst, vw_dct, List.map_cons, List.map_nil, if_true, if_false, reduceIte, nr_non, nr_bl, nr_int, nr_str, nr_ty, nr_tup, nr_lst, nrs_nil, nrs_cons, Bool.and_true, Bool.true_and, Bool.and_false, Bool.false_and, Bool.not_true, Bool.not_false, Bool.or_false, Bool.false_or, Nat.reduceAdd, Nat.reduceLT, Nat.reduceLeDiff, Nat.reduceEqDiff, Nat.zero_add, initE, List.cons_append, List.nil_append, List.replicate, List.replicate_succ, List.replicate_zero, Nat.reduceSub, Bool.false_eq_true, decide_true, decide_false, and_true, true_and, and_self, fz_bl, fz_int, fz_str, fz_non, isi_s, isi_tt, len_t, gt_ii, decide_eq_true h2, decide_eq_false h1]
theorem is_row_eq {t : T} (h : okT t = true) (hn : t.nr = true) (hl : ∀ ts, t = .tup ts → ∀ x ∈ ts, okT x = true ∧ x.nr = true) : D_is_row [t] = .ok (.bl (namesT 24 t)) := by
  refine runD_ret (ρ := ⟨[some t], []⟩) ?_ fz_bl
  have e : D_are_names [t, .int 24] = .ok (.bl (namesT 24 t)) := are_names_eq (n := 24) h hn hl
  simp -implicitDefEqProofs only [b_is_row, fSeq, fIfS, fRet, fRetN, fNext, fAsg, fAsgG, fPar, fDrop, fOr, fAnd, fNot, fTest, fTruth, fAndV, fOrV, fNotV, fIf, fChain, fCall, fCallN, fCallD, fCons, fNil, fVar, fC, fBin, fTup, fFrz, fOwn, fLstN, fSlice, fNoPart, fPart, fSet, fGTup, fGCons, fGNil, rb_ok, rb_exc, rb_stk, noExc, Env.put, List.getElem?_cons_zero, List.getElem?_cons_succ, List.set_cons_zero, List.set_cons_succ, List.length_cons, List.length_nil, vw_non, vw_bl, vw_int, vw_str, vw_ty, vw_tup, vw_lst, vw_dct, List.map_cons, List.map_nil, if_true, if_false, reduceIte, nr_non, nr_bl, nr_int, nr_str, nr_ty, nr_tup, nr_lst, nrs_nil, nrs_cons, Bool.and_true, Bool.true_and, Bool.and_false, Bool.false_and, Bool.not_true, Bool.not_false, Bool.or_false, Bool.false_or, Nat.reduceAdd, Nat.reduceLT, Nat.reduceLeDiff, Nat.reduceEqDiff, Nat.zero_add, initE, List.cons_append, List.nil_append, List.replicate, List.replicate_succ, List.replicate_zero, Nat.reduceSub, Bool.false_eq_true, decide_true, decide_false, and_true, true_and, and_self, fz_bl, fz_int, fz_str, fz_non, isi_s, hn, e]
/-- what is asked about -/
structure Asked (t : T) : Prop where
  ok : okT t = true
  nr : t.nr = true
  el : ∀ ts, t = .tup ts → ts.length ≤ 26 ∧ ∀ x ∈ ts, okT x = true ∧ x.nr = true ∧ x.py.plain = true
theorem asked_str {s : List Nat} (h : s.length ≤ 1000) : Asked (.str s) := ⟨by simp [okT, T.base, h], nr_str s, fun ts e => by cases e⟩
theorem asked_thing {t : T} (h : t ∈ things) : Asked t := by
  unfold things at h
  simp only [List.mem_cons, List.not_mem_nil, or_false] at h
  rcases h with rfl | rfl | rfl | rfl | rfl | rfl | rfl | rfl | rfl | rfl | rfl | rfl <;> refine ⟨by decide, by simp [T.nr, T.nrs, T.nrd], fun ts e => ?_⟩ <;> first
    | (cases e; done)
    | (cases e; refine ⟨by decide, fun x hx => ?_⟩; simp only [List.mem_cons, List.not_mem_nil, or_false] at hx; rcases hx with rfl | rfl <;> exact ⟨by decide, by simp [T.nr, T.nrs], by decide⟩)
    | (cases e; refine ⟨by decide, fun x hx => ?_⟩; simp only [List.mem_cons, List.not_mem_nil, or_false] at hx; subst hx; exact ⟨by decide, by simp [T.nr, T.nrs], by decide⟩)
theorem asked_row {us : List T} (hl : us.length ≤ 26) (h : ∀ t ∈ us, rowT t) : Asked (.tup us) := by
  refine ⟨rfl, by rw [nr_tup]; exact nrs_mem fun t ht => rowT_nr (h t ht), fun ts e => ?_⟩
  cases e
  refine ⟨hl, fun x hx => ⟨?_, rowT_nr (h x hx), ?_⟩⟩ <;> rcases h x hx with ⟨s, rfl, q⟩ | rfl | rfl
  · simp [okT, T.base, q]
  · rfl
  · rfl
  · rfl
  · rfl
  · rfl
theorem asked_lst {us : List T} (h : ∀ t ∈ us, rowT t) : Asked (.lst us) := ⟨rfl, by rw [nr_lst]; exact nrs_mem fun t ht => rowT_nr (h t ht), fun ts e => by cases e⟩
theorem isi_bb (b : Bool) : isiT [.bl b, .ty "bool"] = some (.bl true) := isi_bool
/-- one thing's turn -/
theorem due_eq {t : T} (a : Asked t) (c : T) (th : T) (f : Option T) (d o : Option T) : fAndV (fCall isiT (fCons (fVar 2) (fCons (fC (.ty "tuple")) fNil))) (fAndV (fBin ltT (fCall lenT (fCons (fVar 2) fNil)) (fC (.int 25))) (fBin eqT (fFrz (fLc [6] (fItT (fVar 2)) (fSet 6) (fNot (fTest (fCallD D__law_is_name 1 (fCons (fVar 6) fNil)))) (fVar 6))) (fFrz (fLstN fNil)))) ⟨[some c, some th, some t, f, d, o, none], []⟩ = .ok (.bl (namesT 24 t), ⟨[some c, some th, some t, f, d, o, none], []⟩) := by
  by_cases hs : ∀ s, t ≠ .tup s
  · have e : namesT 24 t = false := by cases t <;> first | rfl | exact (hs _ rfl).elim
    simp -implicitDefEqProofs only [fSeq, fIfS, fRet, fRetN, fNext, fAsg, fAsgG, fPar, fDrop, fOr, fAnd, fNot, fTest, fTruth, fAndV, fOrV, fNotV, fIf, fChain, fCall, fCallN, fCallD, fCons, fNil, fVar, fC, fBin, fTup, fFrz, fOwn, fLstN, fSlice, fNoPart, fPart, fSet, fGTup, fGCons, fGNil, rb_ok, rb_exc, rb_stk, noExc, Env.put, List.getElem?_cons_zero, List.getElem?_cons_succ, List.set_cons_zero, List.set_cons_succ, List.length_cons, List.length_nil, vw_non, vw_bl, vw_int, vw_str, vw_ty, vw_tup, vw_lst, vw_dct, List.map_cons, List.map_nil, if_true, if_false, reduceIte, nr_non, nr_bl, nr_int, nr_str, nr_ty, nr_tup, nr_lst, nrs_nil, nrs_cons, Bool.and_true, Bool.true_and, Bool.and_false, Bool.false_and, Bool.not_true, Bool.not_false, Bool.or_false, Bool.false_or, Nat.reduceAdd, Nat.reduceLT, Nat.reduceLeDiff, Nat.reduceEqDiff, Nat.zero_add, initE, List.cons_append, List.nil_append, List.replicate, List.replicate_succ, List.replicate_zero, Nat.reduceSub, Bool.false_eq_true, decide_true, decide_false, and_true, true_and, and_self, fz_bl, fz_int, fz_str, fz_non, isi_s, base_vw (okT_base a.ok), no_tup a.ok hs, e]
  · obtain ⟨ts, rfl⟩ : ∃ s, t = .tup s := Classical.byContradiction fun z => hs fun s e => z ⟨s, e⟩
    rw [show namesT 24 (.tup ts) = (decide (ts.length ≤ 24) && ts.all nameT) from rfl]
    obtain ⟨l1, l2⟩ := a.el ts rfl
    by_cases h1 : ts.length ≤ 24
    · have h2 : (ts.length : Int) < 25 := by omega
      have e2 := fLc_map (vs := [6]) (fi := fItT (fVar 2)) (g := fSet 6) (ft := fNot (fTest (fCallD D__law_is_name 1 (fCons (fVar 6) fNil)))) (fe := fVar 6) (ρ := ⟨[some c, some th, some (.tup ts), f, d, o, none], []⟩) (fun t => !nameT t) id (k := ⟨ts, .tup ts, .tup ts⟩) rfl rfl rfl (by simp; omega) (fun x hx => by
        obtain ⟨o1, o2, _⟩ := l2 x hx
        refine ⟨⟨[some c, some th, some (.tup ts), f, d, o, some x], []⟩, rfl, ?_, fun _ => rfl, rfl⟩
        simp -implicitDefEqProofs only [fSeq, fIfS, fRet, fRetN, fNext, fAsg, fAsgG, fPar, fDrop, fOr, fAnd, fNot, fTest, fTruth, fAndV, fOrV, fNotV, fIf, fChain, fCall, fCallN, fCallD, fCons, fNil, fVar, fC, fBin, fTup, fFrz, fOwn, fLstN, fSlice, fNoPart, fPart, fSet, fGTup, fGCons, fGNil, rb_ok, rb_exc, rb_stk, noExc, Env.put, List.getElem?_cons_zero, List.getElem?_cons_succ, List.set_cons_zero, List.set_cons_succ, List.length_cons, List.length_nil, vw_non, vw_bl, vw_int, vw_str, vw_ty, vw_tup, vw_lst, vw_dct, List.map_cons, List.map_nil, if_true, if_false, reduceIte, nr_non, nr_bl, nr_int, nr_str, nr_ty, nr_tup, nr_lst, nrs_nil, nrs_cons, Bool.and_true, Bool.true_and, Bool.and_false, Bool.false_and, Bool.not_true, Bool.not_false, Bool.or_false, Bool.false_or, Nat.reduceAdd, Nat.reduceLT, Nat.reduceLeDiff, Nat.reduceEqDiff, Nat.zero_add, initE, List.cons_append, List.nil_append, List.replicate, List.replicate_succ, List.replicate_zero, Nat.reduceSub, Bool.false_eq_true, decide_true, decide_false, and_true, true_and, and_self, fz_bl, fz_int, fz_str, fz_non, isi_s, o2, law_is_name_eq o1])
      have e4 : PyData.plainAll (T.pys ((ts.filter fun t => !nameT t).map id)) = true := plain_all fun t ht => by
        rw [List.map_id] at ht
        exact (l2 t (List.mem_filter.mp ht).1).2.2
      have e5 : ((ts.filter fun t => !nameT t).map id).isEmpty = ts.all nameT := by
        rw [List.map_id, Bool.eq_iff_iff, List.isEmpty_iff, List.filter_eq_nil_iff, List.all_eq_true]
        simp
      simp -implicitDefEqProofs only [fSeq, fIfS, fRet, fRetN, fNext, fAsg, fAsgG, fPar, fDrop, fOr, fAnd, fNot, fTest, fTruth, fAndV, fOrV, fNotV, fIf, fChain, fCall, fCallN, fCallD, fCons, fNil, fVar, fC, fBin, fTup, fFrz, fOwn, fLstN, fSlice, fNoPart, fPart, fSet, fGTup, fGCons, fGNil, rb_ok, rb_exc, rb_stk, noExc, Env.put, List.getElem?_cons_zero, List.getElem?_cons_succ, List.set_cons_zero, List.set_cons_succ, List.length_cons, List.length_nil, vw_non, vw_bl, vw_int, vw_str, vw_ty, vw_tup, vw_lst, vw_dct, List.map_cons, List.map_nil, if_true, if_false, reduceIte, nr_non, nr_bl, nr_int, nr_str, nr_ty, nr_tup, nr_lst, nrs_nil, nrs_cons, Bool.and_true, Bool.true_and, Bool.and_false, Bool.false_and, Bool.not_true, Bool.not_false, Bool.or_false, Bool.false_or, Nat.reduceAdd, Nat.reduceLT, Nat.reduceLeDiff, Nat.reduceEqDiff, Nat.zero_add, initE, List.cons_append, List.nil_append, List.replicate, List.replicate_succ, List.replicate_zero, Nat.reduceSub, Bool.false_eq_true, decide_true, decide_false, and_true, true_and, and_self, fz_bl, fz_int, fz_str, fz_non, isi_s, isi_tt, len_t, lt_ii, decide_eq_true h2, decide_eq_true h1, e2, eq_l0 _ e4, e5]
    · have h2 : ¬ (ts.length : Int) < 25 := by omega
      simp -implicitDefEqProofs only [fSeq, fIfS, fRet, fRetN, fNext, fAsg, fAsgG, fPar, fDrop, fOr, fAnd, fNot, fTest, fTruth, fAndV, fOrV, fNotV, fIf, fChain, fCall, fCallN, fCallD, fCons, fNil, fVar, fC, fBin, fTup, fFrz, fOwn, fLstN, fSlice, fNoPart, fPart, fSet, fGTup, fGCons, fGNil, rb_ok, rb_exc, rb_stk, noExc, Env.put, List.getElem?_cons_zero, List.getElem?_cons_succ, List.set_cons_zero, List.set_cons_succ, List.length_cons, List.length_nil, vw_non, vw_bl, vw_int, vw_str, vw_ty, vw_tup, vw_lst, vw_dct, List.map_cons, List.map_nil, if_true, if_false, reduceIte, nr_non, nr_bl, nr_int, nr_str, nr_ty, nr_tup, nr_lst, nrs_nil, nrs_cons, Bool.and_true, Bool.true_and, Bool.and_false, Bool.false_and, Bool.not_true, Bool.not_false, Bool.or_false, Bool.false_or, Nat.reduceAdd, Nat.reduceLT, Nat.reduceLeDiff, Nat.reduceEqDiff, Nat.zero_add, initE, List.cons_append, List.nil_append, List.replicate, List.replicate_succ, List.replicate_zero, Nat.reduceSub, Bool.false_eq_true, decide_true, decide_false, and_true, true_and, and_self, fz_bl, fz_int, fz_str, fz_non, isi_s, isi_tt, len_t, lt_ii, decide_eq_false h2, decide_eq_false h1]
theorem right_ok (c : Int) : D__law_right [.int c] = .ok (.bl true) := by
  obtain ⟨s, t1, t2⟩ := text_ok c
  obtain ⟨x, x1, x2⟩ := thing_ok (mix c 4)
  obtain ⟨us, r1, r2, r3⟩ := row_ok c
  have A : ∀ t ∈ ([.str s, x, .tup us, .lst us] ++ [.str s] : List T), Asked t := fun t ht => by
    simp only [List.cons_append, List.nil_append, List.mem_cons, List.not_mem_nil, or_false] at ht
    rcases ht with rfl | rfl | rfl | rfl | rfl
    · exact asked_str t2
    · exact asked_thing x2
    · exact asked_row r2 r3
    · exact asked_lst r3
    · exact asked_str t2
  have xn := (asked_thing x2).nr
  have un := (asked_row r2 r3).nr
  rw [nr_tup] at un
  have key : ∃ fl, forLoop (fSet 2) (fSeq (fAsg 3 (fCallD D_is_name 1 (fCons (fVar 2) fNil))) (fSeq (fIfS (fOr (fNot (fTest (fCall isiT (fCons (fVar 3) (fCons (fC (.ty "bool")) fNil))))) (fTest (fBin neT (fVar 3) (fCallD D__law_is_name 1 (fCons (fVar 2) fNil))))) (fRet (fC (.bl false))) fNext) (fSeq (fAsg 4 (fAndV (fCall isiT (fCons (fVar 2) (fCons (fC (.ty "tuple")) fNil))) (fAndV (fBin ltT (fCall lenT (fCons (fVar 2) fNil)) (fC (.int 25))) (fBin eqT (fFrz (fLc [6] (fItT (fVar 2)) (fSet 6) (fNot (fTest (fCallD D__law_is_name 1 (fCons (fVar 6) fNil)))) (fVar 6))) (fFrz (fLstN fNil)))))) (fSeq (fAsg 5 (fCallD D_is_row 1 (fCons (fVar 2) fNil))) (fIfS (fOr (fNot (fTest (fCall isiT (fCons (fVar 5) (fCons (fC (.ty "bool")) fNil))))) (fTest (fBin neT (fVar 5) (fVar 4)))) (fRet (fC (.bl false))) fNext)))))
      (.lst ([.str s, x, .tup us, .lst us] ++ [.str s])) (.lst ([.str s, x, .tup us, .lst us] ++ [.str s])) ([.str s, x, .tup us, .lst us] ++ [.str s]) ⟨[some (.int c), some (.lst [.str s, x, .tup us, .lst us]), none, none, none, none, none], []⟩ = .ok fl ∧ ∃ ρ, fl = .next ρ := by
    refine forLoop_post (fun ts ρ => (∀ t ∈ ts, Asked t) ∧ ∃ a b d e, ρ = ⟨[some (.int c), some (.lst [.str s, x, .tup us, .lst us]), a, b, d, e, none], []⟩) ?_ ?_ _ _ ⟨A, none, none, none, none, rfl⟩
    · rintro ρ ⟨_, a, b, d, e, rfl⟩
      exact ⟨rfl, _, rfl⟩
    · rintro t ts ρ ⟨h, a, b, d, e, rfl⟩
      have at' := h t (List.mem_cons_self ..)
      refine ⟨rfl, ⟨[some (.int c), some (.lst [.str s, x, .tup us, .lst us]), some t, b, d, e, none], []⟩, .next ⟨[some (.int c), some (.lst [.str s, x, .tup us, .lst us]), some t, some (.bl (nameT t)), some (.bl (namesT 24 t)), some (.bl (namesT 24 t)), none], []⟩, by simp -implicitDefEqProofs only [fSeq, fIfS, fRet, fRetN, fNext, fAsg, fAsgG, fPar, fDrop, fOr, fAnd, fNot, fTest, fTruth, fAndV, fOrV, fNotV, fIf, fChain, fCall, fCallN, fCallD, fCons, fNil, fVar, fC, fBin, fTup, fFrz, fOwn, fLstN, fSlice, fNoPart, fPart, fSet, fGTup, fGCons, fGNil, rb_ok, rb_exc, rb_stk, noExc, Env.put, List.getElem?_cons_zero, List.getElem?_cons_succ, List.set_cons_zero, List.set_cons_succ, List.length_cons, List.length_nil, vw_non, vw_bl, vw_int, vw_str, vw_ty, vw_tup, vw_lst, vw_dct, List.map_cons, List.map_nil, if_true, if_false, reduceIte, nr_non, nr_bl, nr_int, nr_str, nr_ty, nr_tup, nr_lst, nrs_nil, nrs_cons, Bool.and_true, Bool.true_and, Bool.and_false, Bool.false_and, Bool.not_true, Bool.not_false, Bool.or_false, Bool.false_or, Nat.reduceAdd, Nat.reduceLT, Nat.reduceLeDiff, Nat.reduceEqDiff, Nat.zero_add, initE, List.cons_append, List.nil_append, List.replicate, List.replicate_succ, List.replicate_zero, Nat.reduceSub, Bool.false_eq_true, decide_true, decide_false, and_true, true_and, and_self, fz_bl, fz_int, fz_str, fz_non, isi_s], ?_, fun y hy => h y (List.mem_cons_of_mem _ hy), _, _, _, _, rfl⟩
      have ir := is_row_eq at'.ok at'.nr fun ts e x hx => ⟨((at'.el ts e).2 x hx).1, ((at'.el ts e).2 x hx).2.1⟩
      have de := due_eq at' (.int c) (.lst [.str s, x, .tup us, .lst us]) (some (.bl (nameT t))) d e
      unfold fSeq fAsg fIfS
      have c1 : fCallD D_is_name 1 (fCons (fVar 2) fNil) ⟨[some (.int c), some (.lst [.str s, x, .tup us, .lst us]), some t, b, d, e, none], []⟩ = .ok (.bl (nameT t), ⟨[some (.int c), some (.lst [.str s, x, .tup us, .lst us]), some t, b, d, e, none], []⟩) := by simp -implicitDefEqProofs only [fSeq, fIfS, fRet, fRetN, fNext, fAsg, fAsgG, fPar, fDrop, fOr, fAnd, fNot, fTest, fTruth, fAndV, fOrV, fNotV, fIf, fChain, fCall, fCallN, fCallD, fCons, fNil, fVar, fC, fBin, fTup, fFrz, fOwn, fLstN, fSlice, fNoPart, fPart, fSet, fGTup, fGCons, fGNil, rb_ok, rb_exc, rb_stk, noExc, Env.put, List.getElem?_cons_zero, List.getElem?_cons_succ, List.set_cons_zero, List.set_cons_succ, List.length_cons, List.length_nil, vw_non, vw_bl, vw_int, vw_str, vw_ty, vw_tup, vw_lst, vw_dct, List.map_cons, List.map_nil, if_true, if_false, reduceIte, nr_non, nr_bl, nr_int, nr_str, nr_ty, nr_tup, nr_lst, nrs_nil, nrs_cons, Bool.and_true, Bool.true_and, Bool.and_false, Bool.false_and, Bool.not_true, Bool.not_false, Bool.or_false, Bool.false_or, Nat.reduceAdd, Nat.reduceLT, Nat.reduceLeDiff, Nat.reduceEqDiff, Nat.zero_add, initE, List.cons_append, List.nil_append, List.replicate, List.replicate_succ, List.replicate_zero, Nat.reduceSub, Bool.false_eq_true, decide_true, decide_false, and_true, true_and, and_self, fz_bl, fz_int, fz_str, fz_non, isi_s, at'.nr, is_name_eq at'.ok]
      rw [c1]
      simp -implicitDefEqProofs only [rb_ok, List.length_cons, List.length_nil, Nat.reduceAdd, Nat.reduceLT, if_true, Env.put, List.set_cons_succ, List.set_cons_zero]
      have c2 : fOr (fNot (fTest (fCall isiT (fCons (fVar 3) (fCons (fC (.ty "bool")) fNil))))) (fTest (fBin neT (fVar 3) (fCallD D__law_is_name 1 (fCons (fVar 2) fNil)))) ⟨[some (.int c), some (.lst [.str s, x, .tup us, .lst us]), some t, some (.bl (nameT t)), d, e, none], []⟩ = .ok (false, ⟨[some (.int c), some (.lst [.str s, x, .tup us, .lst us]), some t, some (.bl (nameT t)), d, e, none], []⟩) := by
        simp -implicitDefEqProofs only [fSeq, fIfS, fRet, fRetN, fNext, fAsg, fAsgG, fPar, fDrop, fOr, fAnd, fNot, fTest, fTruth, fAndV, fOrV, fNotV, fIf, fChain, fCall, fCallN, fCallD, fCons, fNil, fVar, fC, fBin, fTup, fFrz, fOwn, fLstN, fSlice, fNoPart, fPart, fSet, fGTup, fGCons, fGNil, rb_ok, rb_exc, rb_stk, noExc, Env.put, List.getElem?_cons_zero, List.getElem?_cons_succ, List.set_cons_zero, List.set_cons_succ, List.length_cons, List.length_nil, vw_non, vw_bl, vw_int, vw_str, vw_ty, vw_tup, vw_lst, vw_dct, List.map_cons, List.map_nil, if_true, if_false, reduceIte, nr_non, nr_bl, nr_int, nr_str, nr_ty, nr_tup, nr_lst, nrs_nil, nrs_cons, Bool.and_true, Bool.true_and, Bool.and_false, Bool.false_and, Bool.not_true, Bool.not_false, Bool.or_false, Bool.false_or, Nat.reduceAdd, Nat.reduceLT, Nat.reduceLeDiff, Nat.reduceEqDiff, Nat.zero_add, initE, List.cons_append, List.nil_append, List.replicate, List.replicate_succ, List.replicate_zero, Nat.reduceSub, Bool.false_eq_true, decide_true, decide_false, and_true, true_and, and_self, fz_bl, fz_int, fz_str, fz_non, isi_s, isi_bb, at'.nr, law_is_name_eq at'.ok, ne_bb]
      rw [c2]
      simp -implicitDefEqProofs only [rb_ok, Bool.false_eq_true, if_false, fNext]
      rw [de]
      simp -implicitDefEqProofs only [rb_ok, List.length_cons, List.length_nil, Nat.reduceAdd, Nat.reduceLT, if_true, Env.put, List.set_cons_succ, List.set_cons_zero]
      simp -implicitDefEqProofs only [fSeq, fIfS, fRet, fRetN, fNext, fAsg, fAsgG, fPar, fDrop, fOr, fAnd, fNot, fTest, fTruth, fAndV, fOrV, fNotV, fIf, fChain, fCall, fCallN, fCallD, fCons, fNil, fVar, fC, fBin, fTup, fFrz, fOwn, fLstN, fSlice, fNoPart, fPart, fSet, fGTup, fGCons, fGNil, rb_ok, rb_exc, rb_stk, noExc, Env.put, List.getElem?_cons_zero, List.getElem?_cons_succ, List.set_cons_zero, List.set_cons_succ, List.length_cons, List.length_nil, vw_non, vw_bl, vw_int, vw_str, vw_ty, vw_tup, vw_lst, vw_dct, List.map_cons, List.map_nil, if_true, if_false, reduceIte, nr_non, nr_bl, nr_int, nr_str, nr_ty, nr_tup, nr_lst, nrs_nil, nrs_cons, Bool.and_true, Bool.true_and, Bool.and_false, Bool.false_and, Bool.not_true, Bool.not_false, Bool.or_false, Bool.false_or, Nat.reduceAdd, Nat.reduceLT, Nat.reduceLeDiff, Nat.reduceEqDiff, Nat.zero_add, initE, List.cons_append, List.nil_append, List.replicate, List.replicate_succ, List.replicate_zero, Nat.reduceSub, Bool.false_eq_true, decide_true, decide_false, and_true, true_and, and_self, fz_bl, fz_int, fz_str, fz_non, isi_s, at'.nr, ir, isi_bb, ne_bb]
  obtain ⟨fl, h1, ρ, rfl⟩ := key
  refine runD_ret (t := .bl true) (ρ := ρ) ?_ fz_bl
  have tl : cutL [T.str s, x, T.tup us, T.lst us] none (some 1) = [.str s] := by simp [cutL, HT.sIx]
  simp -implicitDefEqProofs only [b__law_right, fSeq, fIfS, fRet, fRetN, fNext, fAsg, fAsgG, fPar, fDrop, fOr, fAnd, fNot, fTest, fTruth, fAndV, fOrV, fNotV, fIf, fChain, fCall, fCallN, fCallD, fCons, fNil, fVar, fC, fBin, fTup, fFrz, fOwn, fLstN, fSlice, fNoPart, fPart, fSet, fGTup, fGCons, fGNil, rb_ok, rb_exc, rb_stk, noExc, Env.put, List.getElem?_cons_zero, List.getElem?_cons_succ, List.set_cons_zero, List.set_cons_succ, List.length_cons, List.length_nil, vw_non, vw_bl, vw_int, vw_str, vw_ty, vw_tup, vw_lst, vw_dct, List.map_cons, List.map_nil, if_true, if_false, reduceIte, nr_non, nr_bl, nr_int, nr_str, nr_ty, nr_tup, nr_lst, nrs_nil, nrs_cons, Bool.and_true, Bool.true_and, Bool.and_false, Bool.false_and, Bool.not_true, Bool.not_false, Bool.or_false, Bool.false_or, Nat.reduceAdd, Nat.reduceLT, Nat.reduceLeDiff, Nat.reduceEqDiff, Nat.zero_add, initE, List.cons_append, List.nil_append, List.replicate, List.replicate_succ, List.replicate_zero, Nat.reduceSub, Bool.false_eq_true, decide_true, decide_false, and_true, true_and, and_self, fz_bl, fz_int, fz_str, fz_non, isi_s, t1, mix_eq, x1, xn, r1, un, list_t, fFor, fItL, cut_l, tl, add_ll, h1]
  simp only [List.cons_append, List.nil_append] at h1
  rw [h1]
  simp -implicitDefEqProofs only [fSeq, fIfS, fRet, fRetN, fNext, fAsg, fAsgG, fPar, fDrop, fOr, fAnd, fNot, fTest, fTruth, fAndV, fOrV, fNotV, fIf, fChain, fCall, fCallN, fCallD, fCons, fNil, fVar, fC, fBin, fTup, fFrz, fOwn, fLstN, fSlice, fNoPart, fPart, fSet, fGTup, fGCons, fGNil, rb_ok, rb_exc, rb_stk, noExc, Env.put, List.getElem?_cons_zero, List.getElem?_cons_succ, List.set_cons_zero, List.set_cons_succ, List.length_cons, List.length_nil, vw_non, vw_bl, vw_int, vw_str, vw_ty, vw_tup, vw_lst, vw_dct, List.map_cons, List.map_nil, if_true, if_false, reduceIte, nr_non, nr_bl, nr_int, nr_str, nr_ty, nr_tup, nr_lst, nrs_nil, nrs_cons, Bool.and_true, Bool.true_and, Bool.and_false, Bool.false_and, Bool.not_true, Bool.not_false, Bool.or_false, Bool.false_or, Nat.reduceAdd, Nat.reduceLT, Nat.reduceLeDiff, Nat.reduceEqDiff, Nat.zero_add, initE, List.cons_append, List.nil_append, List.replicate, List.replicate_succ, List.replicate_zero, Nat.reduceSub, Bool.false_eq_true, decide_true, decide_false, and_true, true_and, and_self, fz_bl, fz_int, fz_str, fz_non, isi_s]
theorem law_true : ∀ ns : List Int, ns.length ≤ 63 → (∀ z ∈ ns, Builtin.Int.intBits z ≤ 1048576) → D_law [.lst (ns.map .int)] = .ok (.bl true) := fun ns hl _ => by
  refine runD_ret (t := .bl true) (ρ := ⟨[some (.lst (ns.map .int)), none], []⟩) ?_ fz_bl
  have e1 := fLc_map (vs := [1]) (fi := fItL (fBin addT (fVar 0) (fFrz (fLstN (fCons (fC (.int 0)) (fCons (fC (.int 1)) fNil)))))) (g := fSet 1) (ft := fYes) (fe := fCallD D__law_right 1 (fCons (fVar 1) fNil)) (ρ := ⟨[some (.lst (ns.map .int)), none], []⟩) (fun _ => true) (fun _ => .bl true) (k := ⟨ns.map .int ++ [.int 0, .int 1], .lst (ns.map .int ++ [.int 0, .int 1]), .lst (ns.map .int ++ [.int 0, .int 1])⟩)
    (by simp -implicitDefEqProofs only [fSeq, fIfS, fRet, fRetN, fNext, fAsg, fAsgG, fPar, fDrop, fOr, fAnd, fNot, fTest, fTruth, fAndV, fOrV, fNotV, fIf, fChain, fCall, fCallN, fCallD, fCons, fNil, fVar, fC, fBin, fTup, fFrz, fOwn, fLstN, fSlice, fNoPart, fPart, fSet, fGTup, fGCons, fGNil, rb_ok, rb_exc, rb_stk, noExc, Env.put, List.getElem?_cons_zero, List.getElem?_cons_succ, List.set_cons_zero, List.set_cons_succ, List.length_cons, List.length_nil, vw_non, vw_bl, vw_int, vw_str, vw_ty, vw_tup, vw_lst, vw_dct, List.map_cons, List.map_nil, if_true, if_false, reduceIte, nr_non, nr_bl, nr_int, nr_str, nr_ty, nr_tup, nr_lst, nrs_nil, nrs_cons, Bool.and_true, Bool.true_and, Bool.and_false, Bool.false_and, Bool.not_true, Bool.not_false, Bool.or_false, Bool.false_or, Nat.reduceAdd, Nat.reduceLT, Nat.reduceLeDiff, Nat.reduceEqDiff, Nat.zero_add, initE, List.cons_append, List.nil_append, List.replicate, List.replicate_succ, List.replicate_zero, Nat.reduceSub, Bool.false_eq_true, decide_true, decide_false, and_true, true_and, and_self, fz_bl, fz_int, fz_str, fz_non, isi_s, fItL, add_ll (ns.map T.int) [.int 0, .int 1] (by simp; omega)]) rfl rfl (by simp; omega) (fun t ht => by
      have : ∃ i : Int, t = .int i := by
        rcases List.mem_append.mp ht with h | h
        · obtain ⟨i, _, rfl⟩ := List.mem_map.mp h; exact ⟨i, rfl⟩
        · simp only [List.mem_cons, List.not_mem_nil, or_false] at h; rcases h with rfl | rfl <;> exact ⟨_, rfl⟩
      obtain ⟨i, rfl⟩ := this
      refine ⟨⟨[some (.lst (ns.map .int)), some (.int i)], []⟩, rfl, rfl, fun _ => ?_, rfl⟩
      simp -implicitDefEqProofs only [fSeq, fIfS, fRet, fRetN, fNext, fAsg, fAsgG, fPar, fDrop, fOr, fAnd, fNot, fTest, fTruth, fAndV, fOrV, fNotV, fIf, fChain, fCall, fCallN, fCallD, fCons, fNil, fVar, fC, fBin, fTup, fFrz, fOwn, fLstN, fSlice, fNoPart, fPart, fSet, fGTup, fGCons, fGNil, rb_ok, rb_exc, rb_stk, noExc, Env.put, List.getElem?_cons_zero, List.getElem?_cons_succ, List.set_cons_zero, List.set_cons_succ, List.length_cons, List.length_nil, vw_non, vw_bl, vw_int, vw_str, vw_ty, vw_tup, vw_lst, vw_dct, List.map_cons, List.map_nil, if_true, if_false, reduceIte, nr_non, nr_bl, nr_int, nr_str, nr_ty, nr_tup, nr_lst, nrs_nil, nrs_cons, Bool.and_true, Bool.true_and, Bool.and_false, Bool.false_and, Bool.not_true, Bool.not_false, Bool.or_false, Bool.false_or, Nat.reduceAdd, Nat.reduceLT, Nat.reduceLeDiff, Nat.reduceEqDiff, Nat.zero_add, initE, List.cons_append, List.nil_append, List.replicate, List.replicate_succ, List.replicate_zero, Nat.reduceSub, Bool.false_eq_true, decide_true, decide_false, and_true, true_and, and_self, fz_bl, fz_int, fz_str, fz_non, isi_s, right_ok])
  have e2 : ∀ zs : List T, allT [.lst (zs.map fun _ => T.bl true)] = some (.bl true) := fun zs => by
    have : ∀ zs : List T, blsOf (zs.map fun _ => T.bl true) = some (zs.map fun _ => true) := fun zs => by
      induction zs with
      | nil => rfl
      | cons a r ih => rw [List.map_cons]; unfold blsOf; rw [ih]; rfl
    show (blsOf (zs.map fun _ => T.bl true)).map _ = _
    rw [this]
    simp
  have e3 : D_is_row [.tup []] = .ok (.bl true) := is_row_eq (t := .tup []) rfl rfl fun ts e x hx => by cases e; cases hx
  have e4 : isT (.bl true) (.bl true) = some (.bl true) := rfl
  simp -implicitDefEqProofs only [b_law, fSeq, fIfS, fRet, fRetN, fNext, fAsg, fAsgG, fPar, fDrop, fOr, fAnd, fNot, fTest, fTruth, fAndV, fOrV, fNotV, fIf, fChain, fCall, fCallN, fCallD, fCons, fNil, fVar, fC, fBin, fTup, fFrz, fOwn, fLstN, fSlice, fNoPart, fPart, fSet, fGTup, fGCons, fGNil, rb_ok, rb_exc, rb_stk, noExc, Env.put, List.getElem?_cons_zero, List.getElem?_cons_succ, List.set_cons_zero, List.set_cons_succ, List.length_cons, List.length_nil, vw_non, vw_bl, vw_int, vw_str, vw_ty, vw_tup, vw_lst, vw_dct, List.map_cons, List.map_nil, if_true, if_false, reduceIte, nr_non, nr_bl, nr_int, nr_str, nr_ty, nr_tup, nr_lst, nrs_nil, nrs_cons, Bool.and_true, Bool.true_and, Bool.and_false, Bool.false_and, Bool.not_true, Bool.not_false, Bool.or_false, Bool.false_or, Nat.reduceAdd, Nat.reduceLT, Nat.reduceLeDiff, Nat.reduceEqDiff, Nat.zero_add, initE, List.cons_append, List.nil_append, List.replicate, List.replicate_succ, List.replicate_zero, Nat.reduceSub, Bool.false_eq_true, decide_true, decide_false, and_true, true_and, and_self, fz_bl, fz_int, fz_str, fz_non, isi_s, e1, e2, e3, e4]
end K12

open PySem PySem.W PyProof.Rows in
set_option maxRecDepth 100000 in
set_option maxHeartbeats 0 in
theorem PySem.Challenge.cw_paperreader_k12_names_and_rows_holds : PySem.Challenge.rw_paperreader_k12_names_and_rows.Holds := by
  w_on; o_law; k_head; (case hw => w_witness2)
  k_fill
  refine Tr.walk_tabs (l := PySem.Challenge.rw_paperreader_k12_names_and_rows) (K := _) (CX := fun _ => L2.CX0) (n := 63) (k := 8) (x := "script") rfl (by decide) rfl ⟨rfl, by decide, by decide⟩ (fun w h Y => PySem.W.kIn_of Y) ?F fun _ _ _ _ _ z => z
  case F =>
    intro w mg fa h Y KX G hmg tabs
    refine' K12.all_mk K12.law_true KX G hmg tabs (Tr.noTab KX ?nt) ?a0 ?l0 ?c0 ?k0 ?a1 ?l1 ?c1 ?k1 ?a2 ?l2 ?c2 ?k2 ?a3 ?l3 ?c3 ?k3 ?a4 ?l4 ?c4 ?k4 ?a5 ?l5 ?c5 ?k5 ?a6 ?l6 ?c6 ?k6 ?a7 ?l7 ?c7 ?k7 ?a8 ?l8 ?c8 ?k8 ?a9 ?l9 ?c9 ?k9 ?a10 ?l10 ?c10 ?k10 ?a11 ?l11 ?c11 ?k11 ?z_MOST_LETTERS ?z_MOST_WORDS ?z_abs ?z_all ?z_bool ?z_isinstance ?z_len ?z_list ?z_range ?z_str ?z_tuple
    (case nt => kernel_rfl)
    (case a0 => k_is)
    (case l0 => k_is)
    (case c0 => k_is)
    (case k0 => k_is)
    (case a1 => k_is)
    (case l1 => k_is)
    (case c1 => k_is)
    (case k1 => k_is)
    (case a2 => k_is)
    (case l2 => k_is)
    (case c2 => k_is)
    (case k2 => k_is)
    (case a3 => k_is)
    (case l3 => k_is)
    (case c3 => k_is)
    (case k3 => k_is)
    (case a4 => k_is)
    (case l4 => k_is)
    (case c4 => k_is)
    (case k4 => k_is)
    (case a5 => k_is)
    (case l5 => k_is)
    (case c5 => k_is)
    (case k5 => k_is)
    (case a6 => k_is)
    (case l6 => k_is)
    (case c6 => k_is)
    (case k6 => k_is)
    (case a7 => k_is)
    (case l7 => k_is)
    (case c7 => k_is)
    (case k7 => k_is)
    (case a8 => k_is)
    (case l8 => k_is)
    (case c8 => k_is)
    (case k8 => k_is)
    (case a9 => k_is)
    (case l9 => k_is)
    (case c9 => k_is)
    (case k9 => k_is)
    (case a10 => k_is)
    (case l10 => k_is)
    (case c10 => k_is)
    (case k10 => k_is)
    (case a11 => k_is)
    (case l11 => k_is)
    (case c11 => k_is)
    (case k11 => k_is)
    (case z_MOST_LETTERS => k_is)
    (case z_MOST_WORDS => k_is)
    (case z_abs => k_is)
    (case z_all => k_is)
    (case z_bool => k_is)
    (case z_isinstance => k_is)
    (case z_len => k_is)
    (case z_list => k_is)
    (case z_range => k_is)
    (case z_str => k_is)
    (case z_tuple => k_is)
