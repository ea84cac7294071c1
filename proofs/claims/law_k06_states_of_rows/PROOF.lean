import PyProof.Rows.All
import Wide.All
import OpenK.AllK
import Wide.FinOn
import PyProof.EqAt
import PyProof.EqKinds
import PyProof.TupleCall
import HandS.Base
import HandS.Call
import HandS.List
import HandS.Comp
import HandS.Ends
import HandS.Words
import HandS.Exc
import HandS.TryOnly
import HandS.ExcIs
import HandS.IsInst
import HandS.WordsExc
import HandS.Iter
import HandS.Conv
import HandS.Small
import HandS.FStr
import HandS.CallLocal
import HandS.Codes
import KE.DataMinMax
import KE.GoesEnum
import HandS.Dict
import HandS.DictComp
import HandS.TupMul
import PyProof.P3Eq
import HandS.ExcInit
import HandS.ExcField
import HandS.Nested
import KE.KExcSuper
import KE.KSuper
import HandS.TryMany
import HandS.Defaults
import HandS.WideBits
import PySem.Challenge.RW_tossrow_k06_states_of_rows
set_option Elab.async false
set_option linter.all false
set_option maxRecDepth 100000
set_option maxHeartbeats 4000000
namespace TW
open PySem PySem.Spec PyProof.Rows L2
section
variable {X : Cx}
/-- a list that may be read + another -/
def rCatL (K : PySem.W.Frag) : R2 := fun x y H Q => ∃ l b xs zs, x = .ref l ∧ y = .ref b ∧ SqL K H l xs ∧ SqL K H b zs ∧ xs.length + zs.length ≤ sizeLine ∧ ∀ p, H p = none → Q (.ref p) (upd H p (.lst (xs ++ zs)))
theorem op_catL : OpR X (binaryOp .Add) (rCatL X.K) := by
  intro pins s σ H x y v u Q I rx ry h
  obtain ⟨l, b, xs, zs, rfl, rfl, hH, hB, hz, q⟩ := h
  cases rx
  cases ry
  obtain ⟨its, r, pl, hl1⟩ := I.list hH
  obtain ⟨its2, r2, pl2, hl2⟩ := I.list hB
  have e1 := r.length
  have e2 := r2.length
  obtain ⟨⟨cls, dd, data, sl⟩, ho, hc, n, hd⟩ := pl.isList
  obtain ⟨⟨cls2, dd2, data2, sl2⟩, ho2, hc2, n2, hd2⟩ := pl2.isList
  simp only at hc hd hc2 hd2
  subst hc hd hc2 hd2
  have e : its.toArray ++ its2.toArray = (its ++ its2).toArray := by simp
  refine concat_meets ⟨_, ho, rfl⟩ ⟨_, ho2, rfl⟩ noFill_list_add seq_list_add PySem.F.slot_list_add PySem.F.entry_list_add (PySem.F.args_list_add_2 _ _) (list_addW l b its.toArray its2.toArray n n2 dd dd2 sl sl2 (by simp only [List.size_toArray]; omega)) ⟨ho, ho2, ?_⟩
  rw [e]
  exact ⟨.ref _, _, I.lnew (t' := s.toks) (r.append r2) (by rw [List.length_append]; omega), rfl, q _ I.fresh⟩
end
end TW
namespace TW
open PySem PySem.Spec PyProof.Rows L2

/-- an exception that was caught and is kept, at a -/
def ExK (cls : Value) (d : Option Addr) (a : Addr) : HO :=
  .ext fun h => ∃ (oe : Obj) (vs : Array Value), h.get? a = some oe ∧ Zc cls d oe ∧ oe.data = .fields vs

section
variable {X : Cx} {pins : List (Addr × Obj)} {σ : L2.St} {H : Hp} {s : Shared} {a : Addr} {oe : Obj} {vs : Array Value} {cls : Value} {d : Option Addr}

/-- a pinned exception is tracked from now on -/
theorem keep_exc (I : Inv X ((a, oe) :: pins) σ H s) (h0 : X.s_0.heap.get? a = none) (hp : ∀ p ∈ X.pn ++ pins, p.1 ≠ a) (hz : Zc cls d oe) (hd : oe.data = .fields vs) :
    Inv X pins σ (upd H a (ExK cls d a)) s := by
  obtain ⟨p1, p2, p3, p4, p5⟩ := I.pin (a, oe) (List.mem_append.mpr (.inr List.mem_cons_self))
  have ne : ∀ {b : Addr} {o : HO}, H b = some o → b ≠ a := fun e z => by
    rw [z] at e
    exact absurd (e.symm.trans p2) (by simp)
  refine { ok := I.ok, os := I.os, bare := I.bare, base := ?_, loc := I.loc, cell := I.cell, free := ?_, freeC := ?_, pin := ?_, hok := ?_, len := I.len }
  · refine { keep := I.base.keep, slot := I.base.slot, free := ?_, there := I.base.there, tups := ?_, frzs := ?_, tbls := ?_ }
    · intro b u e n hx
      rw [upd_ne (fun z => by rw [z, h0] at e; cases e)]
      exact I.base.free b u e n hx
    · intro b xs e
      have q := I.base.tups b xs e
      rw [upd_ne (ne q)]
      exact q
    · intro b u xs e
      have q := I.base.frzs b u xs e
      rw [upd_ne (ne q)]
      exact q
    · intro b ps e
      obtain ⟨m, q⟩ := I.base.tbls b ps e
      exact ⟨m, by rw [upd_ne (ne q)]; exact q⟩
  · rw [upd_ne (fun z => p3 z.symm)]
    exact I.free
  · intro x c e
    have z : c ≠ a := fun z => by
      obtain ⟨v, o, ho, hc⟩ := I.cell x c e
      rw [z] at ho
      have w := ho.symm.trans p1
      cases w
      exact p5 v hc
    rw [upd_ne z]
    exact I.freeC x c e
  · intro p hm
    obtain ⟨q1, q2, q3⟩ := I.pin p (by
      rcases List.mem_append.mp hm with z | z
      · exact List.mem_append.mpr (.inl z)
      · exact List.mem_append.mpr (.inr (List.mem_cons_of_mem _ z)))
    exact ⟨q1, by rw [upd_ne (hp p hm)]; exact q2, q3⟩
  · intro b u e
    by_cases hb : b = a
    · subst hb
      rw [upd_same] at e
      cases e
      exact ⟨⟨oe, vs, p1, hz, hd⟩, ⟨oe, p1⟩, fun _ _ ⟨o, v, q, r⟩ k => ⟨o, v, k o q, r⟩⟩
    · rw [upd_ne hb] at e
      refine (I.hok b u e).stay (fun _ _ _ q => q) (fun c q => ?_) fun c xs q => ?_
      · rw [upd_ne (ne q)]
        exact q
      · rw [upd_ne (ne q)]
        exact q

/-- what «except x as n: suite» wishes, where each error of the body is of that class, and the error is kept behind the suite -/
def wKeep (K : PySem.W.Frag) (c : Value) (i : Nat) (ts : Addr → Value → Option Addr → TS) (D : Ends) : WX := fun cls d σ H =>
  PySem.W.exmOne K cls c = some true ∧ ∀ a, H a = none →
    ts a cls d ⟨fun σ' H' => H' a = none → D.nx (σ'.set i none) (upd H' a (ExK cls d a)), D.rt, fun σ' H' => D.bk (σ'.set i none) H', fun σ' H' => D.ct (σ'.set i none) H'⟩ (σ.set i (some (.ref a))) H
def tKeep (K : PySem.W.Frag) (c : Value) (i : Nat) (tb : WX → TS) (ts : Addr → Value → Option Addr → TS) : TS := fun D σ H => tb (wKeep K c i ts D) D σ H
end

section
variable {X : Cx} {x n : Str} {c : Value} {i : Nat} {body suite : List Stmt} {b0 : Stmt} {np pos pos' : Pos} {tb : WX → TS} {ts : Addr → Value → Option Addr → TS}
theorem ps_try_keep (hst : X.stack = X.env :: X.outer) (hfr : X.env.frame = some X.env.locals) (hex : X.ex = []) (hN : X.N.Nodup) (hi : X.N[i]? = some n) (hln : X.env.kindOf n = some .local) (hc : Names X x c)
    (hb : ∀ (W : WX) (pn : List (Addr × Obj)) (xe : Value → Shared → Prop), Takes (X.tr pn xe) W → PSs (X.tr pn xe) body (tb W))
    (hsu : ∀ (a : Addr) (oe : Obj) (cls : Value) (d : Option Addr) (pn : List (Addr × Obj)), Zc cls d oe → (∃ vs, oe.data = .fields vs) → PSs (X.suite a ((a, oe) :: pn)) (b0 :: suite) (ts a cls d)) :
    PS X (.Try body [.ExceptHandler (some (.Name x np)) (some n) (b0 :: suite) pos'] [] [] pos) (tKeep X.K c i tb ts) := by
  constructor
  intro pins s σ H D I h
  have ok := I.ok
  refine wpAny_Try_except ?_
  let after : Value → Shared → Prop := fun u s1 =>
    wpAny (model X.prog X.w) X.A (noteFrame u X.env) (fun _ s2 =>
      wpAny (model X.prog X.w) X.A (setFlight u none) (fun _ s3 =>
        wpAny (model X.prog X.w) X.A (handleBy u X.env [.ExceptHandler (some (.Name x np)) (some n) (b0 :: suite) pos'])
          (SP X pins D) X.xe s3) X.xe s2) X.xe s1
  have tk : Takes (X.tr (X.pn ++ pins) after) (wKeep X.K c i ts D) := by
    rintro u s' ⟨a, B, sI, pins', σ', H', cls, d, rfl, J0, nb, up, sky, na, os, ag, hm, hyes⟩
    have J : Inv X pins σ' H' sI := J0.ofTry ok
    rw [show (X.tr (X.pn ++ pins) after).stack = X.env :: X.outer from hst] at sky
    have gone : B.get? a = none := by
      rcases sky with z | z | z
      · exact z.2.1
      · exact z.2.1
      · exact z.2.1
    have nbX : ∀ b o, sI.heap.get? b = some o → b ∉ frs (X.env :: X.outer) → B.get? b = some o := fun b o e q => nb b o e (by
      rw [show (X.tr (X.pn ++ pins) after).stack = X.env :: X.outer from hst]
      exact q)
    show wpAny (model X.prog X.w) X.A (noteFrame (.ref a) X.env) _ _ s'
    refine Sky.land Zc.steady (ok.frames.trans (by rw [hst])) hfr sky fun h3 fl3 up3 => ?_
    have J3 : Inv X pins σ' H' { s' with heap := h3 } := J.landed nb fl3.1 (up.trans up3) os ag
    obtain ⟨oe3, vs3, he3, hz3, hd3⟩ := fl3.there
    have nfr : a ∉ frs (X.env :: X.outer) := fun q => by
      obtain ⟨_, o', e', hnf⟩ := fl3.2.2.1.mem q
      have z := he3.symm.trans e'
      cases z
      exact hnf _ hd3
    have inF : ∀ b, b = X.env.locals ∨ b ∈ X.fs → b ∈ frs (X.env :: X.outer) := by
      rintro b (q | q)
      · exact List.mem_filterMap.mpr ⟨X.env, List.mem_cons_self, by rw [hfr, q]⟩
      · obtain ⟨e1, q1, q2⟩ := List.mem_filterMap.mp q
        exact List.mem_filterMap.mpr ⟨e1, List.mem_cons_of_mem _ q1, q2⟩
    have nL : a ≠ X.env.locals := fun z => nfr (inF a (.inl z))
    have nF : a ∉ X.fs := fun z => nfr (inF a (.inr z))
    have fresh : sI.heap.get? a = none := by
      cases e : sI.heap.get? a with
      | none => rfl
      | some o =>
        have z := nbX a o e nfr
        rw [gone] at z
        cases z
    have new0 : X.s_0.heap.get? a = none := by
      cases e : X.s_0.heap.get? a with
      | none => rfl
      | some o =>
        obtain ⟨o', z⟩ := J.base.there a o e (by rw [hex]; exact fun z => nomatch z)
        rw [fresh] at z
        cases z
    have apart : ∀ p ∈ X.pn ++ pins, p.1 ≠ a := fun p q z => by
      have e := (J.pin p q).1
      rw [z, fresh] at e
      cases e
    have S3 := J3.suite he3 hd3 na nL nF
    refine wpAny_handleBy_cons (codeAny_handlers_test ?_) (by intro q; cases q)
    have LT : PySem.W.Looks (model X.prog X.w) h3 (typeOf (.ref a)) cls := fun A Q E t k q =>
      wpAny_typeOf_ref (k _ _ he3) (by rw [hz3.1]; exact q)
    have LM := PySem.W.exm_one (M := model X.prog X.w) J3.kIn LT hm
    have test : ∀ {Q E : Value → Shared → Prop}, Q c { s' with heap := h3 } →
        wpAny (model X.prog X.w) (X.A.mark (some (.ref a))) (eval (.Name x np) X.env) Q E { s' with heap := h3 } := by
      intro Q E q
      obtain ⟨hg, hdb, e | ⟨e1, e2, e3⟩⟩ := hc
      · exact ld_glob (X := X.suite a ((a, oe3) :: (X.pn ++ pins))) S3 hg e q hdb
      · exact ld_blt (X := X.suite a ((a, oe3) :: (X.pn ++ pins))) S3 hg e1 e2 q e3 hdb
    refine test (LM.here (codeAny_handlers_suite_as ?_))
    refine HandSPX.lands_againZ fl3 fun h4 fl4 up4 => ?_
    have J4 : Inv X pins σ' H' { s' with heap := h4 } := J.landed nb fl4.1 ((up.trans up3).trans up4) os ag
    obtain ⟨oe4, vs4, he4, hz4, hd4⟩ := fl4.there
    have S4 := J4.suite he4 hd4 na nL nF
    refine store_ok (X := X.suite a ((a, oe4) :: (X.pn ++ pins))) (v := .ref a) S4 hN hi (.inl hln) rfl (fun s5 S5 => ?_) (.inr hln)
    have body := (hsu a oe4 cls d (X.pn ++ pins) hz4 ⟨vs4, hd4⟩).run [] s5 _ H' _ S5 (hyes a na)
    refine wpAny_mono body (fun f s6 hsp => ?_) (fun _ _ z => z.elim)
    have goes : ∀ {σ6 : L2.St} {H6 : Hp} {Q : Shared → Prop}, Inv (X.suite a ((a, oe4) :: (X.pn ++ pins))) [] σ6 H6 s6 →
        (∀ s7, Inv X ((a, oe4) :: pins) (σ6.set i none) H6 s7 → Q s7) →
        wpAny (model X.prog X.w) X.A (do bindName X.env n .none; unbindBehindTheSuite X.env n pos') (fun _ s7 => Q s7) X.xe s6 := by
      intro σ6 H6 Q S6 hq
      have P6 : Inv X ((a, oe4) :: pins) σ6 H6 s6 :=
        { ok := ok, os := S6.os, bare := S6.bare, base := S6.base, loc := S6.loc, cell := S6.cell, free := S6.free, freeC := S6.freeC, hok := S6.hok, len := S6.len,
          pin := fun p q => S6.pin p (List.mem_append.mpr (.inl (by
            rcases List.mem_append.mp q with z | z
            · exact List.mem_cons_of_mem _ (List.mem_append.mpr (.inl z))
            · rcases List.mem_cons.mp z with z | z
              · rw [z]
                exact List.mem_cons_self
              · exact List.mem_cons_of_mem _ (List.mem_append.mpr (.inr z))))) }
      exact gone_ok P6 hN hi hln hq
    have drop : ∀ {σ6 : L2.St} {H6 : Hp} {s7 : Shared}, Inv X ((a, oe4) :: pins) σ6 H6 s7 → Inv X pins σ6 H6 s7 := fun J7 => J7.pins_of fun p q => J7.pin p (List.mem_append.mpr (.inr (List.mem_cons_of_mem _ q)))
    cases f with
    | next =>
      obtain ⟨σ6, H6, S6, q6⟩ := hsp
      refine goes S6 fun s7 J7 => ?_
      exact ⟨_, _, keep_exc J7 new0 apart hz4 hd4, q6 (J7.pin (a, oe4) (List.mem_append.mpr (.inr List.mem_cons_self))).2.1⟩
    | brk =>
      obtain ⟨σ6, H6, S6, q6⟩ := hsp
      exact goes S6 fun s7 J7 => ⟨_, _, drop J7, q6⟩
    | cont =>
      obtain ⟨σ6, H6, S6, q6⟩ := hsp
      exact goes S6 fun s7 J7 => ⟨_, _, drop J7, q6⟩
    | ret u =>
      obtain ⟨v6, σ6, H6, S6, r6, q6⟩ := hsp
      exact goes S6 fun s7 J7 => ⟨_, _, _, drop J7, r6, q6⟩
  refine wpAny_mono ((hb _ _ after tk).run [] s σ H D (I.toTry _) h) (fun f s1 hsp => ?_) (fun u s1 he => he)
  cases f with
  | next =>
    obtain ⟨σ1, H1, J1, q⟩ := hsp
    exact wpAny_execs_nil ⟨σ1, H1, J1.ofTry ok, q⟩
  | brk =>
    obtain ⟨σ1, H1, J1, q⟩ := hsp
    exact ⟨σ1, H1, J1.ofTry ok, q⟩
  | cont =>
    obtain ⟨σ1, H1, J1, q⟩ := hsp
    exact ⟨σ1, H1, J1.ofTry ok, q⟩
  | ret u =>
    obtain ⟨v, σ1, H1, J1, r, q⟩ := hsp
    exact ⟨v, σ1, H1, J1.ofTry ok, r, q⟩

/-- isinstance(e, C) of a kept error -/
def rIsK (K : PySem.W.Frag) : List V → Hp → VK → Prop := fun xs H Q =>
  ∃ (a C : Addr) (c : V) (u : Value) (b : Bool), xs = [.ref a, c] ∧ H a = some (ExK (.ref C) none a) ∧ ExcC K C ∧ ClsV c u ∧ PySem.W.kitOne K (.ref C) u = some b ∧ Q (.bl b) H
theorem call_isK : CallR X (.builtin "isinstance") (rIsK X.K) := by
  intro pins s σ H xs us Q I r h
  obtain ⟨a, C, c, u, b, rfl, ha, T, k, e, q⟩ := h
  obtain ⟨u1, u2, rfl, r1, r2⟩ := vals2 r
  have e1 : u1 = .ref a := r1
  subst e1
  have e2 := k.eq r2
  subst e2
  obtain ⟨⟨oe, vs, hget, hz, hd⟩, _, _⟩ := I.hok a _ ha
  have J : PySem.W.InstAt s.heap a oe C none := by
    obtain ⟨oc, od, oda, osl⟩ := oe
    obtain ⟨z1, z2⟩ := hz
    dsimp only at z1 z2 hd
    subst z1 z2 hd
    exact ⟨hget, rfl, rfl, trivial⟩
  exact PySem.W.kia_one (PySem.W.handS_kitx_exc T.hg T.hk T.hs T.hd T.ha T.hn T.ht T.hm) I.kIn J e (fun z => nomatch z) fun tk => ⟨.bl b, H, I.kept (t' := tk) fun _ _ z => z, rfl, q⟩
/-- isinstance(e, (C, D ..)) of a kept error -/
def rIsKT (K : PySem.W.Frag) : List V → Hp → VK → Prop := fun xs H Q =>
  ∃ (a C tp : Addr) (cs : List V) (us : List Value) (b : Bool), xs = [.ref a, .ref tp] ∧ H a = some (ExK (.ref C) none a) ∧ ExcC K C ∧ H tp = some (.tup cs) ∧ Paired ClsV cs us ∧ PySem.W.kitAny K (.ref C) us = some b ∧ Q (.bl b) H
theorem call_isKT : CallR X (.builtin "isinstance") (rIsKT X.K) := by
  intro pins s σ H xs us Q I r h
  obtain ⟨a, C, tp, cs, ws, b, rfl, ha, T, hT, k, e, q⟩ := h
  obtain ⟨u1, u2, rfl, r1, r2⟩ := vals2 r
  have e1 : u1 = .ref a := r1
  subst e1
  have e2 : u2 = .ref tp := r2
  subst e2
  obtain ⟨⟨oe, vs, hget, hz, hd⟩, _, _⟩ := I.hok a _ ha
  have J : PySem.W.InstAt s.heap a oe C none := by
    obtain ⟨oc, od, oda, osl⟩ := oe
    obtain ⟨z1, z2⟩ := hz
    dsimp only at z1 z2 hd
    subst z1 z2 hd
    exact ⟨hget, rfl, rfl, trivial⟩
  obtain ⟨_, its, rv, o, h1, h2, n, h3⟩ := (show ObjOk X.prog X.w H s.heap tp (.tup cs) from I.hok tp _ hT)
  have e3 := ClsV.all k rv
  subst e3
  obtain ⟨oc, od, dt, sl⟩ := o
  simp only at h2 h3
  subst h2 h3
  exact PySem.W.kia_tup (PySem.W.handS_kitx_exc T.hg T.hk T.hs T.hd T.ha T.hn T.ht T.hm) I.kIn J h1 e (fun z => nomatch z) fun tk => ⟨.bl b, H, I.kept (t' := tk) fun _ _ z => z, rfl, q⟩
end
end TW
namespace TW
open PySem PySem.Spec PyProof.Rows L2

/-! ### readings, from the left -/
section
variable {σ : L2.St} {H : Hp} {nx bk ct : L2.St → Hp → Prop} {rt : VK} {t u ts : TS} {te ta tb tl : TE} {tt c1 c2 : TT} {g : TG} {i : Nat} {v x y : V} {Q : VK} {B : Bool → Hp → Prop} {r : R2} {A : TA} {R : List V → Hp → Prop} {K : PySem.W.Frag} {a b l : Addr} {xs ys : List V} {m n : Int}
theorem w_seq (h : t ⟨u ⟨nx, rt, bk, ct⟩, rt, bk, ct⟩ σ H) : tSeq t u ⟨nx, rt, bk, ct⟩ σ H := h
theorem w_set (h : te σ H fun x H1 => nx (σ.set i (some x)) H1) : tAsg te (gName i) ⟨nx, rt, bk, ct⟩ σ H := h
theorem w_asg (h : te σ H fun x H1 => g x σ H1 nx) : tAsg te g ⟨nx, rt, bk, ct⟩ σ H := h
theorem w_ret (h : te σ H rt) : tRet te ⟨nx, rt, bk, ct⟩ σ H := h
theorem w_next (h : nx σ H) : tNext ⟨nx, rt, bk, ct⟩ σ H := h
theorem w_cont (h : ct σ H) : tCont ⟨nx, rt, bk, ct⟩ σ H := h
theorem w_brk (h : bk σ H) : tBreak ⟨nx, rt, bk, ct⟩ σ H := h
theorem w_drop (h : te σ H fun _ H1 => nx σ H1) : tDrop te ⟨nx, rt, bk, ct⟩ σ H := h
theorem w_if (h : tt σ H fun b H1 => if b = true then t ⟨nx, rt, bk, ct⟩ σ H1 else u ⟨nx, rt, bk, ct⟩ σ H1) : tIfS tt t u ⟨nx, rt, bk, ct⟩ σ H := h
theorem w_var (h : σ[i]? = some (some v)) (q : Q v H) : tVar i σ H Q := ⟨v, h, q⟩
theorem w_c (q : Q v H) : tC v σ H Q := q
theorem w_op (h : ta σ H fun x H1 => tb σ H1 fun y H2 => r x y H2 Q) : tOp r ta tb σ H Q := h
theorem w_un {r : V → Hp → VK → Prop} (h : ta σ H fun x H1 => r x H1 Q) : tUn r ta σ H Q := h
theorem w_nil (h : R [] H) : tNil σ H R := h
theorem w_cons (h : ta σ H fun x H1 => A σ H1 fun xs H2 => R (x :: xs) H2) : tCons ta A σ H R := h
theorem w_lst (h : A σ H fun xs H1 => xs.length ≤ sizeLine ∧ ∀ p, H1 p = none → Q (.ref p) (upd H1 p (.lst xs))) : tLst A σ H Q := h
theorem w_tup (h : A σ H fun xs H1 => xs.length ≤ sizeLine ∧ ∀ p, H1 p = none → Q (.ref p) (upd H1 p (.tup xs))) : tTup A σ H Q := h
theorem w_cb {r : List V → Hp → VK → Prop} (h : A σ H fun vs H1 => r vs H1 Q) : tCB r A σ H Q := h
theorem w_call {sp : Sp} {dvs : List V} {E : XK} (h : A σ H fun vs H1 => sp (vs ++ dvs) H1 Q E) : tCall sp dvs E A σ H Q := h
theorem w_test (h : te σ H fun x H1 => ∃ k, x = .bl k ∧ B k H1) : tTest te σ H B := h
theorem w_tB (h : te σ H fun x H1 => ∃ k, x = .bl k ∧ B k H1) : tB te σ H B := h
theorem w_exbl {k : Bool} {P : Bool → Prop} (h : P k) : ∃ k', V.bl k = V.bl k' ∧ P k' := ⟨k, rfl, h⟩
theorem w_not (h : tt σ H fun c H1 => B (!c) H1) : tNot tt σ H B := h
theorem w_and (h : c1 σ H fun c H1 => if c = true then c2 σ H1 B else B false H1) : tAnd c1 c2 σ H B := h
theorem w_or (h : c1 σ H fun c H1 => if c = true then B true H1 else c2 σ H1 B) : tOr c1 c2 σ H B := h
theorem w_andV (h : ta σ H fun x H1 => ∃ c, x = .bl c ∧ if c = true then tb σ H1 Q else Q (.bl false) H1) : tAndV ta tb σ H Q := h
theorem w_orV (h : ta σ H fun x H1 => ∃ c, x = .bl c ∧ if c = true then Q (.bl true) H1 else tb σ H1 Q) : tOrV ta tb σ H Q := h
theorem w_notV (h : ta σ H fun x H1 => ∃ c, x = .bl c ∧ Q (.bl (!c)) H1) : tNotV ta σ H Q := h
theorem w_chain {r' : R2} {tc : TE} (h : ta σ H fun x H1 => tb σ H1 fun y H2 => r x y H2 fun z H3 => ∃ k, z = .bl k ∧ (if k = true then tc σ H3 fun w' H4 => r' y w' H4 Q else Q (.bl false) H3)) : tChain r r' ta tb tc σ H Q := h
theorem w_slice {r : V → Option Int → Option Int → Hp → VK → Prop} {tl th : TO} (h : te σ H fun x H1 => tl σ H1 fun l H2 => th σ H2 fun u H3 => r x l u H3 Q) : tSl r te tl th σ H Q := h
theorem w_nopart {P : Option Int → Hp → Prop} (h : P none H) : tNoPart σ H P := h
theorem w_part {P : Option Int → Hp → Prop} (h : te σ H fun x H1 => ∃ i, x = .int i ∧ P (some i) H1) : tPart te σ H P := h
theorem w_exint {k : Int} {P : Int → Prop} (h : P k) : ∃ k', V.int k = V.int k' ∧ P k' := ⟨k, rfl, h⟩

/-! ### operators by their values -/
theorem w_I0 {f : Int → Int → V} (h : Q (f m n) H) : rI0 f (.int m) (.int n) H Q := ⟨m, n, rfl, rfl, h⟩
theorem w_I {C : Int → Int → Prop} {f : Int → Int → V} (hc : C m n) (h : Q (f m n) H) : rI C f (.int m) (.int n) H Q := ⟨m, n, rfl, rfl, hc, h⟩
theorem w_U {f : Int → V} (h : Q (f m) H) : rU f (.int m) H Q := ⟨m, rfl, h⟩
theorem w_ixL (hs : SqL K H a xs) (hv : atI xs n = some v) (h : Q v H) : rIxL K (.ref a) (.int n) H Q := ⟨a, xs, n, v, rfl, rfl, hs, hv, h⟩
theorem w_ixT (hs : SqT K H a xs) (hv : atI xs n = some v) (h : Q v H) : rIxT K (.ref a) (.int n) H Q := ⟨a, xs, n, v, rfl, rfl, hs, hv, h⟩
theorem w_catL (h1 : SqL K H a xs) (h2 : SqL K H b ys) (hz : xs.length + ys.length ≤ sizeLine) (h : ∀ p, H p = none → Q (.ref p) (upd H p (.lst (xs ++ ys)))) : rCatL K (.ref a) (.ref b) H Q := ⟨a, b, xs, ys, rfl, rfl, h1, h2, hz, h⟩
theorem w_rep (h1 : H a = some (.lst xs)) (n0 : 0 ≤ n) (n1 : n ≤ 1000000) (hz : xs.length * n.toNat ≤ sizeLine) (h : ∀ p, H p = none → Q (.ref p) (upd H p (.lst (List.replicate n.toNat xs).flatten))) : rRep (.ref a) (.int n) H Q := ⟨a, n, xs, rfl, rfl, h1, by omega, by omega, hz, h⟩
theorem w_inL {neg : Bool} (hs : SqL K H a xs) (hx : flatV x = true) (hf : xs.all flatV = true) (h : Q (.bl (if neg then !inV x xs else inV x xs)) H) : rIn K neg x (.ref a) H Q := ⟨a, xs, rfl, .inl hs, hx, hf, h⟩
theorem w_eqD {d e : PyData} (hd : Dp K H x d) (he : Dp K H y e) (sd : SeqAt.shaped d = true) (se : SeqAt.shaped e = true) (h : Q (.bl (PyData.eqv d e)) H) : rEqD K x y H Q := ⟨d, e, hd, he, sd, se, h⟩
theorem w_neD {d e : PyData} (hd : Dp K H x d) (he : Dp K H y e) (sd : SeqAt.shaped d = true) (se : SeqAt.shaped e = true) (h : Q (.bl (!PyData.eqv d e)) H) : rNeD K x y H Q := ⟨d, e, hd, he, sd, se, h⟩
theorem w_eqI (h : Q (.bl (decide (m = n))) H) : rEq (.int m) (.int n) H Q := ⟨rfl, by rw [show decide (V.int m = V.int n) = decide (m = n) by simp]; exact h⟩
theorem w_neI (h : Q (.bl (!decide (m = n))) H) : rNe (.int m) (.int n) H Q := ⟨rfl, by rw [show decide (V.int m = V.int n) = decide (m = n) by simp]; exact h⟩
theorem w_slL {lo hi : Option Int} (hs : SqL K H a xs) (h : ∀ p, H p = none → Q (.ref p) (upd H p (.lst (cutV xs lo hi)))) : rSlL K (.ref a) lo hi H Q := ⟨a, xs, rfl, hs, h⟩
end

/-! ### what is read stays read -/
section
variable {K : PySem.W.Frag} {H H' : Hp} {a p : Addr} {xs : List V} {o o' : HO}
theorem sqn (hp : H p = none) (h : SqL K H a xs) : SqL K (upd H p o) a xs := by
  rcases h with (h | ⟨ob, h⟩) | h
  · exact .inl (.inl (by rw [upd_ne (ne_of_none h hp)]; exact h))
  · exact .inl (.inr ⟨ob, by rw [upd_ne (ne_of_none h hp)]; exact h⟩)
  · exact .inr h
theorem stn (hp : H p = none) (h : SqT K H a xs) : SqT K (upd H p o) a xs := by
  rcases h with (h | ⟨ob, h⟩) | h
  · exact .inl (.inl (by rw [upd_ne (ne_of_none h hp)]; exact h))
  · exact .inl (.inr ⟨ob, by rw [upd_ne (ne_of_none h hp)]; exact h⟩)
  · exact .inr h
theorem sts (e : Same H H') (h : SqT K H a xs) : SqT K H' a xs := by
  rcases h with (h | ⟨ob, h⟩) | h
  · exact .inl (.inl (e _ _ h))
  · exact .inl (.inr ⟨ob, e _ _ h⟩)
  · exact .inr h
theorem hln (hp : H p = none) (h : H a = some o') : upd H p o a = some o' := by
  rw [upd_ne (ne_of_none h hp)]
  exact h
theorem same_new (hp : H p = none) (e : Same H' H) : Same H' (upd H p o) := fun b u q => hln hp (e b u q)
theorem free_new (h : upd H p o a = none) : H a = none := by
  by_cases e : a = p
  · rw [e, upd_same] at h
    cases h
  · rwa [upd_ne e] at h
end
end TW
namespace TW
open PySem PySem.Spec PyProof.Rows L2
/-- a def that is called by its name: what it promises -/
structure Cal (P : Program) (w : World) (K : PySem.W.Frag) (mg : Str → Option Value) (base : Heap) (CX : CXT) (k : Nat) (x : Str) (sp : Sp) : Prop where
  ex : ∃ (f : Addr) (fd : FuncData) (ps : List Str), FnOk P w K mg base CX k f fd ps sp ∧ mg x = some (.ref f) ∧ PySem.W.keepIn K (.ref f) = true ∧ Binds K fd ps []
/-- one of the defs that a value may be -/
structure CalAt (P : Program) (w : World) (K : PySem.W.Frag) (mg : Str → Option Value) (base : Heap) (k : Nat) (f : Addr) (sp : Sp) : Prop where
  ex : ∃ (fd : FuncData) (ps : List Str), FnOk P w K mg base CX0 k f fd ps sp ∧ PySem.W.keepIn K (.ref f) = true ∧ Binds K fd ps []
section
variable {X : Cx} {j k : Nat} {x : Str} {sp : Sp} {p pos : Pos} {e fe : Expr} {es : List Expr} {t : TA} {tf : TE}
/-- a call of a def that raises nothing, anywhere -/
theorem pc0 (c : Cal X.prog X.w X.K X.mg X.base CX0 k x sp) (hr : Room j X.A) (hk : k ≤ j) (ha : PA X (e :: es) t) (hg : Gl X x := by rfl)
    (hdb : (x == ("__debug__" : Str)) = false := by decide) (he : starEach (e :: es) X.env = (false, eval e X.env) :: starEach es X.env := by rfl) (hpl : (backTo pos (starEach es X.env)).any (·.1) = false := by rfl) :
    PE X (.Call (.Name x p) (e :: es) [] pos) (tCall sp [] E0 t) := by
  obtain ⟨f, fd, ps, F, hm, kp, b⟩ := c.ex
  exact pe_call F (hr.mono hk) hg hm kp b .nil pass0 ha hdb he hpl
/-- a call of a def that may raise, where it does not -/
theorem pcN (c : Cal X.prog X.w X.K X.mg X.base (L2.CX X.prog X.w) k x sp) (hr : Room j X.A) (hk : k ≤ j) (ha : PA X (e :: es) t) (hg : Gl X x := by rfl)
    (hdb : (x == ("__debug__" : Str)) = false := by decide) (he : starEach (e :: es) X.env = (false, eval e X.env) :: starEach es X.env := by rfl) (hpl : (backTo pos (starEach es X.env)).any (·.1) = false := by rfl) :
    PE X (.Call (.Name x p) (e :: es) [] pos) (tCall sp [] E0 t) := by
  obtain ⟨f, fd, ps, F, hm, kp, b⟩ := c.ex
  exact pe_call F (hr.mono hk) hg hm kp b .nil passL ha hdb he hpl
/-- a call of a def that may raise: what it lets out goes by W -/
theorem pcS {W : WX} (c : Cal X.prog X.w X.K X.mg X.base (L2.CX X.prog X.w) k x sp) (hr : Room j X.A) (hk : k ≤ j) (tk : Takes X W) (ha : PA X (e :: es) t) (hg : Gl X x := by rfl)
    (hdb : (x == ("__debug__" : Str)) = false := by decide) (he : starEach (e :: es) X.env = (false, eval e X.env) :: starEach es X.env := by rfl) (hpl : (backTo pos (starEach es X.env)).any (·.1) = false := by rfl) :
    PE X (.Call (.Name x p) (e :: es) [] pos) (tCallS sp (WE W) t) := by
  obtain ⟨f, fd, ps, F, hm, kp, b⟩ := c.ex
  exact pe_callS F (hr.mono hk) hg hm kp b (fun σ => passAt tk σ) ha hdb he hpl
theorem w_callS {σ : L2.St} {H : Hp} {Q : VK} {E : L2.St → XK} (h : t σ H fun vs H1 => sp vs H1 Q (E σ)) : tCallS sp E t σ H Q := h
/-- a call of what an expression gives -/
def tCallF (S : Addr → Sp → Prop) (tf : TE) (t : TA) : TE := fun σ H Q => tf σ H fun v H1 => ∃ f sp, v = .ref f ∧ S f sp ∧ t σ H1 fun vs H2 => sp vs H2 Q E0
theorem pcF {S : Addr → Sp → Prop} (c : ∀ f sp, S f sp → CalAt X.prog X.w X.K X.mg X.base k f sp) (hr : Room j X.A) (hk : k ≤ j) (hf : PE X fe tf) (ha : PA X (e :: es) t)
    (hc : eval (.Call fe (e :: es) [] pos) X.env = (do
      let f ← eval fe X.env
      callWith pos f [] (backTo pos (starEach (e :: es) X.env)) (backToKw pos (keywordEach [] X.env))) := by rfl)
    (he : starEach (e :: es) X.env = (false, eval e X.env) :: starEach es X.env := by rfl) (hpl : (backTo pos (starEach es X.env)).any (·.1) = false := by rfl) :
    PE X (.Call fe (e :: es) [] pos) (tCallF S tf t) := by
  constructor
  intro pins s σ H Q I h
  rw [hc]
  refine wpAny_bind (thn (hf.run pins s σ H _ I h) fun u s1 h1 => ?_)
  obtain ⟨v, H1, I1, r1, f, sp, rfl, hs, q⟩ := h1
  have e1 : u = .ref f := r1
  subst e1
  obtain ⟨fd, ps, F, hk1, hb⟩ := (c f sp hs).ex
  refine PySem.W.callWith_K (h₀ := X.base) I1.ok.mod.kin hk1 (thn (ha.run pos pins s1 σ H1 _ I1 q) fun us s2 h2 => ?_) he hpl
  obtain ⟨vs, H2, I2, r2, q2⟩ := h2
  exact ⟨I2.kIn, run_fn F (hr.mono hk) hb .nil pass0 I2 r2 (by rw [List.append_nil]; exact q2)⟩
theorem w_callF {S : Addr → Sp → Prop} {σ : L2.St} {H : Hp} {Q : VK} (h : tf σ H fun v H1 => ∃ f sp, v = .ref f ∧ S f sp ∧ t σ H1 fun vs H2 => sp vs H2 Q E0) : tCallF S tf t σ H Q := h
/-- a module's name as a value -/
theorem pgl {v : V} (h : ∃ u, X.mg x = some u ∧ RelV v u) (hg : Gl X x := by rfl) (hd : (x == ("__debug__" : Str)) = false := by decide) : PE X (.Name x p) (tC v) := by
  obtain ⟨u, hm, r⟩ := h
  exact pe_glob hg hm r hd
end
section
variable {P : Program} {w : World} {K : PySem.W.Frag} {mg : Str → Option Value} {base : Heap}
/-- a def of the module under its name, as it stands behind the top -/
structure Dfn (K : PySem.W.Frag) (mg : Str → Option Value) (x : Str) (st : Stmt) (ps : List Str) : Prop where
  ex : ∃ (f : Addr) (fd : FuncData), Fun K x x st f fd ∧ mg x = some (.ref f) ∧ Binds K fd ps []
theorem Dfn.cal {x : Str} {st : Stmt} {N ps : List Str} {k : Nat} {sp : Sp} (D : Dfn K mg x st ps) (S : FnScope N ps (defScope st)) (len : ∀ vs H Q E, sp vs H Q E → vs.length = ps.length)
    (hbody : ∀ (f : Addr) (cdv : Value) (A : Around) (outer : List Env) (s : Shared) (H : Hp) (vs : List V) (Q : VK) (E : XK), Room k (A.deeper (envOfC x (defScope st) s.heap.objs.size f cdv)) → sp vs H Q E →
      ∃ t, PSs (cxOf CX0 P w K mg base N x (defScope st) f cdv A outer s H E).nox (defBody st) t ∧ t { nx := fun _ H' => Q .non H', rt := Q } (start N vs) H) : Cal P w K mg base CX0 (k + 1) x sp := by
  obtain ⟨f, fd, F, hm, hb⟩ := D.ex
  exact ⟨f, fd, ps, F.ok S len (hbody f), hm, F.kp, hb⟩
theorem Dfn.calX {x : Str} {st : Stmt} {N ps : List Str} {k : Nat} {sp : Sp} (D : Dfn K mg x st ps) (S : FnScope N ps (defScope st)) (len : ∀ vs H Q E, sp vs H Q E → vs.length = ps.length)
    (hbody : ∀ (f : Addr) (cdv : Value) (A : Around) (outer : List Env) (s : Shared) (H : Hp) (vs : List V) (Q : VK) (E : XK), Room k (A.deeper (envOfC x (defScope st) s.heap.objs.size f cdv)) → sp vs H Q E →
      ∃ t, PSs (cxOf (L2.CX P w) P w K mg base N x (defScope st) f cdv A outer s H E) (defBody st) t ∧ t { nx := fun _ H' => Q .non H', rt := Q } (start N vs) H) : Cal P w K mg base (L2.CX P w) (k + 1) x sp := by
  obtain ⟨f, fd, F, hm, hb⟩ := D.ex
  exact ⟨f, fd, ps, F.okX S len (hbody f), hm, F.kp, hb⟩
end
end TW
namespace TW
open PySem PySem.Spec PyProof.Rows L2
/-! ### rules for several kinds at once -/
def rAddA (K : PySem.W.Frag) : R2 := fun x y H Q => rI0 (fun i j => .int (i + j)) x y H Q ∨ rCatL K x y H Q
def rMulA : R2 := fun x y H Q => rI CMul (fun i j => .int (i * j)) x y H Q ∨ rRep x y H Q
def rEqA (K : PySem.W.Frag) : R2 := fun x y H Q => rEq x y H Q ∨ rEqD K x y H Q
def rNeA (K : PySem.W.Frag) : R2 := fun x y H Q => rNe x y H Q ∨ rNeD K x y H Q
def rIsA (K : PySem.W.Frag) : List V → Hp → VK → Prop := fun xs H Q => rIsi K xs H Q ∨ rIsiT K xs H Q ∨ rIsK K xs H Q ∨ rIsKT K xs H Q
def rLenA (K : PySem.W.Frag) : List V → Hp → VK → Prop := fun xs H Q => (∃ p ys, xs = [.ref p] ∧ (SqL K H p ys ∨ SqT K H p ys) ∧ Q (.int ys.length) H) ∨ ∃ z, xs = [.str z] ∧ z.length ≤ sizeLine ∧ Q (.int z.length) H
section
variable {X : Cx}
theorem op_addA : OpR X (binaryOp .Add) (rAddA X.K) := op_add.or op_catL
theorem op_mulA : OpR X (binaryOp .Mult) rMulA := op_mul.or op_rep
theorem op_eqA (hu : X.A.units + 64 < cLine) : OpR X (compareOp .Eq) (rEqA X.K) := op_eq.or (op_eqD hu)
theorem op_neA (hu : X.A.units + 64 < cLine) : OpR X (compareOp .NotEq) (rNeA X.K) := op_ne.or (op_neD hu)
theorem call_isA : CallR X (.builtin "isinstance") (rIsA X.K) := call_isi.or (call_isiT.or (call_isK.or call_isKT))
theorem call_lenA : CallR X (.builtin "len") (rLenA X.K) := call_len_seq.or call_len_str
end
section
variable {K : PySem.W.Frag} {H : Hp} {Q : VK} {m n : Int} {x y v : V} {a b : Addr} {xs ys : List V}
theorem w_addI (h : Q (.int (m + n)) H) : rAddA K (.int m) (.int n) H Q := .inl (w_I0 h)
theorem w_addL (h1 : SqL K H a xs) (h2 : SqL K H b ys) (hz : xs.length + ys.length ≤ sizeLine) (h : ∀ p, H p = none → Q (.ref p) (upd H p (.lst (xs ++ ys)))) : rAddA K (.ref a) (.ref b) H Q := .inr (w_catL h1 h2 hz h)
theorem w_mulI (hc : CMul m n) (h : Q (.int (m * n)) H) : rMulA (.int m) (.int n) H Q := .inl (w_I hc h)
theorem w_mulL (h1 : H a = some (.lst xs)) (n0 : 0 ≤ n) (n1 : n ≤ 1000000) (hz : xs.length * n.toNat ≤ sizeLine) (h : ∀ p, H p = none → Q (.ref p) (upd H p (.lst (List.replicate n.toNat xs).flatten))) : rMulA (.ref a) (.int n) H Q := .inr (w_rep h1 n0 n1 hz h)
theorem w_eqAI (h : Q (.bl (decide (m = n))) H) : rEqA K (.int m) (.int n) H Q := .inl (w_eqI h)
theorem w_neAI (h : Q (.bl (!decide (m = n))) H) : rNeA K (.int m) (.int n) H Q := .inl (w_neI h)
theorem w_eqAS (hs : scal x y = true) (h : Q (.bl (decide (x = y))) H) : rEqA K x y H Q := .inl ⟨hs, h⟩
theorem w_neAS (hs : scal x y = true) (h : Q (.bl (!decide (x = y))) H) : rNeA K x y H Q := .inl ⟨hs, h⟩
theorem w_lenL (hs : SqL K H a xs) (h : Q (.int xs.length) H) : rLenA K [.ref a] H Q := .inl ⟨a, xs, rfl, .inl hs, h⟩
theorem w_lenT (hs : SqT K H a xs) (h : Q (.int xs.length) H) : rLenA K [.ref a] H Q := .inl ⟨a, xs, rfl, .inr hs, h⟩
theorem w_ixAL (hs : SqL K H a xs) (hv : atI xs n = some v) (h : Q v H) : rIx K (.ref a) (.int n) H Q := .inl (w_ixL hs hv h)
theorem w_ixAT (hs : SqT K H a xs) (hv : atI xs n = some v) (h : Q v H) : rIx K (.ref a) (.int n) H Q := .inr (.inl (w_ixT hs hv h))
/-- what kind of thing a value is -/
theorem ty_list (h : SqL K H a xs) : TyX K H (.ref a) (.type "list") := by
  rcases h with (h | ⟨o, h⟩) | ⟨o, its, n, hk, hc, _⟩
  · exact .base (.lst h)
  · exact .base (.frz h)
  · exact .kList hk hc
theorem ty_tup (h : SqT K H a xs) : TyX K H (.ref a) (.type "tuple") := by
  rcases h with (h | ⟨o, h⟩) | ⟨o, its, n, hk, hc, _⟩
  · exact .base (.tup h)
  · exact .fTuple h
  · exact .kTuple hk hc
/-- isinstance(x, T), x plain, T a built-in class -/
theorem w_isTy {s t : String} {k : Bool} (ht : TyX K H x (.type s)) (hk : kitB s t = some k) (h : Q (.bl k) H) : rIsA K [x, .ty t] H Q := .inl ⟨x, .ty t, _, _, k, rfl, .ty t, ht, kit_ty hk, h⟩
/-- isinstance(x, (S, T)) -/
theorem w_isTy2 {s t u : String} {k1 k2 : Bool} (ht : TyX K H x (.type s)) (hT : H a = some (.tup [.ty t, .ty u])) (h1 : kitB s t = some k1) (h2 : kitB s u = some k2) (h : Q (.bl (k1 || k2)) H) : rIsA K [x, .ref a] H Q := by
  refine .inr (.inl ⟨x, a, _, _, _, _, rfl, hT, .cons (.ty t) (.cons (.ty u) .nil), ht, ?_, h⟩)
  refine kitAny_cons (kit_ty h1) (fun e => kitAny_cons (kit_ty h2) (fun e' => ?_) fun e' => ?_) fun e => ?_
  · rw [e, e']
    exact kitAny_nil
  · rw [e', Bool.or_true]
  · rw [e, Bool.true_or]
/-- .. of a kept error -/
theorem w_isK {C : Addr} {u : Value} {k : Bool} (ha : H a = some (ExK (.ref C) none a)) (T : ExcC K C) (c : ClsV y u) (hk : PySem.W.kitOne K (.ref C) u = some k) (h : Q (.bl k) H) : rIsA K [.ref a, y] H Q := .inr (.inr (.inl ⟨a, C, y, u, k, rfl, ha, T, c, hk, h⟩))
theorem w_isK2 {C : Addr} {u1 u2 : Value} {k1 k2 : Bool} (ha : H a = some (ExK (.ref C) none a)) (T : ExcC K C) (hT : H b = some (.tup [x, y])) (c1 : ClsV x u1) (c2 : ClsV y u2) (h1 : PySem.W.kitOne K (.ref C) u1 = some k1) (h2 : PySem.W.kitOne K (.ref C) u2 = some k2) (h : Q (.bl (k1 || k2)) H) : rIsA K [.ref a, .ref b] H Q := by
  refine .inr (.inr (.inr ⟨a, C, b, _, _, _, rfl, ha, T, hT, .cons c1 (.cons c2 .nil), ?_, h⟩))
  refine kitAny_cons h1 (fun e => kitAny_cons h2 (fun e' => ?_) fun e' => ?_) fun e => ?_
  · rw [e, e']
    exact kitAny_nil
  · rw [e', Bool.or_true]
  · rw [e, Bool.true_or]
theorem w_int1 {k : Bool} {P1 : Int → Prop} {P2 : Bool → Prop} (h : P2 k) : (∃ i, [V.bl k] = [.int i] ∧ P1 i) ∨ ∃ j, [V.bl k] = [.bl j] ∧ P2 j := .inr ⟨k, rfl, h⟩
theorem w_append {l : Addr} (h1 : H l = some (.lst xs)) (hz : xs.length < sizeLine) (h : Q .non (upd H l (.lst (xs ++ [v])))) : rAppend (.ref l) [v] H Q := ⟨l, xs, v, rfl, rfl, h1, hz, h⟩
theorem w_bm {σ : L2.St} {T : String} {r : V → List V → Hp → VK → Prop} {to : TE} {t : TA} (h : to σ H fun x H1 => tyV K T x H1 ∧ t σ H1 fun xs H2 => r x xs H2 Q) : tBM K T r to t σ H Q := h
theorem tyV_list (h : SqL K H a xs) : tyV K "list" (.ref a) H := .inl ⟨rfl, _, h⟩
theorem w_sum {ns : List Int} (h : SqL K H a (ns.map V.int)) (q : Q (.int ns.sum) H) : rSum K [.ref a] H Q := ⟨a, ns, rfl, h, q⟩
theorem w_lstRg {σ : L2.St} {te : L2.St → Hp → (Int → Int → Hp → Prop) → Prop} (h : te σ H fun a b H1 => RgOk a b ∧ ∀ q, H1 q = none → Q (.ref q) (upd H1 q (.lst (rgV a b)))) : tLstRg te σ H Q := h
theorem w_rg1 {σ : L2.St} {ta : TE} {R : Int → Int → Hp → Prop} (h : ta σ H fun x H1 => ∃ n, x = .int n ∧ R 0 n H1) : tRg1 ta σ H R := h
end
/-- data that compare: a flat value, a list of flat values -/
def flD : V → PyData
  | .bl b => .bool b
  | .int i => .int i
  | .str x => .str x
  | _ => .none
theorem flD_of {K : PySem.W.Frag} {H : Hp} {v : V} (h : flatV v = true) : Dp K H v (flD v) := by
  cases v with
  | non => exact .non
  | bl b => exact .bl b
  | int i => exact .int i
  | str x => exact .str x
  | _ => cases h
theorem flD_all {K : PySem.W.Frag} {H : Hp} : ∀ {vs : List V}, vs.all flatV = true → DpAll K H vs (vs.map flD)
  | [], _ => .nil
  | v :: vs, h => by
    rw [List.all_cons, Bool.and_eq_true] at h
    exact .cons (flD_of h.1) (flD_all h.2)
/-- an error's class as the text has it -/
structure Exn (K : PySem.W.Frag) (mg : Str → Option Value) (n : Str) (C : Addr) : Prop where
  g : mg n = some (.ref C)
  x : PySem.W.excIn K C [.type "ValueError", .type "Exception", .type "BaseException", .type "object"] "ValueError.__new__" = true
  k : PySem.W.keepIn K (.ref C) = true
  b : PySem.W.subIn K (.ref C) (.type "BaseException") = some true
  t : PySem.W.typeIn K (.ref C) = some (.type "type")
  ec : ExcC K C
end TW
namespace TW
open PySem PySem.Spec PyProof.Rows L2
/-! ### comprehensions whose tests and items are told by functions -/
def frm (lo : Int) (n : Nat) : List Int := (List.range n).map fun (i : Nat) => lo + (i : Int)
theorem frm_succ (lo : Int) (n : Nat) : frm lo (n + 1) = frm lo n ++ [lo + (n : Int)] := by
  unfold frm
  rw [List.range_succ, List.map_append]
  rfl
theorem frm_length (lo : Int) (n : Nat) : (frm lo n).length = n := by
  unfold frm
  rw [List.length_map, List.length_range]
theorem fm_succ {α : Type} (l : List α) (a : α) (p : α → Bool) (f : α → V) : ((l ++ [a]).filter p).map f = if p a = true then (l.filter p).map f ++ [f a] else (l.filter p).map f := by
  rw [List.filter_append, List.map_append]
  by_cases h : p a = true
  · rw [if_pos h, List.filter_cons_of_pos h]
    rfl
  · rw [if_neg h, List.filter_cons_of_neg h]
    simp
section
variable {K : PySem.W.Frag} {lo : Int} {n j : Nat} {tt : TT} {te : TE} {σ : L2.St} {H1 : Hp} {D : Addr} {Q : VK} {a : Addr} {xs : List V}
/-- [te for j in range if tt] -/
theorem lcR {Qd : Hp → Prop} (p : Int → Bool) (f : Int → V) (hD : H1 D = none) (hn : n ≤ 100000)
    (ht : ∀ (i : Nat) (H : Hp), i < n → Same H1 H → ∀ B : Bool → Hp → Prop, (∀ H', Same H H' → B (p (lo + i)) H') → tt ((wipe σ [j]).set j (some (.int (lo + i)))) H B)
    (he : ∀ (i : Nat) (H : Hp), i < n → p (lo + i) = true → Same H1 H → ∀ R : VK, (∀ H', Same H H' → R (f (lo + i)) H') → te ((wipe σ [j]).set j (some (.int (lo + i)))) H R)
    (q : ∀ H', Same H1 H' → H' D = some (.lst (((frm lo n).filter p).map f)) → Qd H') :
    ∃ W : Nat → Nat → Hp → Prop, (∃ m, W 0 m (upd H1 D (.lst []))) ∧ ∀ i m H, W i m H →
      ((Itr lo n).stop i H ∧ Qd H) ∨ ((Itr lo n).go i H ∧ ∃ Nx : Hp → Prop, (∀ H', Nx H' → ∃ m', m' < m ∧ W (i + 1) m' H') ∧ ∀ x H', (Itr lo n).yld i H x H' → (gName j) x (wipe σ [j]) H' fun σ2 H2 => wipe σ2 [j] = wipe σ [j] ∧ tt σ2 H2 fun b H3 =>
        if b = true then te σ2 H3 fun y H4 => ∃ acc, H4 D = some (.lst acc) ∧ acc.length < sizeLine ∧ Nx (upd H4 D (.lst (acc ++ [y]))) else Nx H3) := by
  refine lc_range (fun i H => Same H1 H ∧ H D = some (.lst (((frm lo i).filter p).map f))) ⟨?_, ?_⟩ (fun i H hi hP => ?_) fun H hP => ?_
  · exact same_new hD (Same.refl _)
  · rw [upd_same]
    rfl
  · obtain ⟨sm, hl⟩ := hP
    refine ⟨?_, ?_⟩
    · show ((((σ).set j none).set j (some (.int (lo + i)))).set j none) = (σ.set j none)
      rw [List.set_set, List.set_set]
    · refine ht i H hi sm _ fun H' s1 => ?_
      by_cases hp : p (lo + i) = true
      · rw [hp]
        refine iteT ?_
        refine he i H' hi hp (sm.trans s1) _ fun H2 s2 => ?_
        have h2 := s2 _ _ (s1 _ _ hl)
        refine ⟨_, h2, ?_, ?_, ?_⟩
        · refine Nat.lt_of_le_of_lt (m := n) ?_ (Nat.lt_of_le_of_lt hn (by decide))
          rw [List.length_map]
          refine Nat.le_trans (List.length_filter_le _ _) ?_
          rw [frm_length]
          omega
        · intro b o e
          rw [upd_ne (ne_of_none e hD)]
          exact s2 _ _ (s1 _ _ (sm _ _ e))
        · rw [upd_same, frm_succ, fm_succ, if_pos hp]
      · rw [Bool.not_eq_true] at hp
        rw [hp]
        refine iteF ⟨sm.trans s1, ?_⟩
        rw [frm_succ, fm_succ, if_neg (by rw [hp]; decide)]
        exact s1 _ _ hl
  · exact q H hP.1 hP.2
/-- [te for j in list if tt] -/
theorem lcL {Qd : Hp → Prop} (p : V → Bool) (f : V → V) (hD : H1 D = none) (hn : xs.length ≤ 100000) (hx : SqL K H1 a xs)
    (ht : ∀ (i : Nat) (x : V) (H : Hp), xs[i]? = some x → Same H1 H → ∀ B : Bool → Hp → Prop, (∀ H', Same H H' → B (p x) H') → tt ((wipe σ [j]).set j (some x)) H B)
    (he : ∀ (i : Nat) (x : V) (H : Hp), xs[i]? = some x → p x = true → Same H1 H → ∀ R : VK, (∀ H', Same H H' → R (f x) H') → te ((wipe σ [j]).set j (some x)) H R)
    (q : ∀ H', Same H1 H' → H' D = some (.lst ((xs.filter p).map f)) → Qd H') :
    ∃ W : Nat → Nat → Hp → Prop, (∃ m, W 0 m (upd H1 D (.lst []))) ∧ ∀ i m H, W i m H →
      ((Itl K a).stop i H ∧ Qd H) ∨ ((Itl K a).go i H ∧ ∃ Nx : Hp → Prop, (∀ H', Nx H' → ∃ m', m' < m ∧ W (i + 1) m' H') ∧ ∀ x H', (Itl K a).yld i H x H' → (gName j) x (wipe σ [j]) H' fun σ2 H2 => wipe σ2 [j] = wipe σ [j] ∧ tt σ2 H2 fun b H3 =>
        if b = true then te σ2 H3 fun y H4 => ∃ acc, H4 D = some (.lst acc) ∧ acc.length < sizeLine ∧ Nx (upd H4 D (.lst (acc ++ [y]))) else Nx H3) := by
  refine lc_list (xs := xs) (fun i H => Same H1 H ∧ H D = some (.lst (((xs.take i).filter p).map f))) ⟨?_, ?_⟩ (fun i H _ hP => hP.1.seq hx) (fun i x H hi hP => ?_) fun H hP => ?_
  · exact same_new hD (Same.refl _)
  · rw [upd_same]
    rfl
  · obtain ⟨sm, hl⟩ := hP
    have hlt : i < xs.length := (List.getElem?_eq_some_iff.mp hi).1
    have tk : xs.take (i + 1) = xs.take i ++ [x] := by rw [List.take_add_one, hi]; rfl
    refine ⟨?_, ?_⟩
    · show ((((σ).set j none).set j (some x)).set j none) = (σ.set j none)
      rw [List.set_set, List.set_set]
    · refine ht i x H hi sm _ fun H' s1 => ?_
      by_cases hp : p x = true
      · rw [hp]
        refine iteT ?_
        refine he i x H' hi hp (sm.trans s1) _ fun H2 s2 => ?_
        have h2 := s2 _ _ (s1 _ _ hl)
        refine ⟨_, h2, ?_, ?_, ?_⟩
        · refine Nat.lt_of_le_of_lt (m := xs.length) ?_ (Nat.lt_of_le_of_lt hn (by decide))
          rw [List.length_map]
          refine Nat.le_trans (List.length_filter_le _ _) ?_
          rw [List.length_take]
          exact Nat.min_le_right _ _
        · intro b o e
          rw [upd_ne (ne_of_none e hD)]
          exact s2 _ _ (s1 _ _ (sm _ _ e))
        · rw [upd_same, tk, fm_succ, if_pos hp]
      · rw [Bool.not_eq_true] at hp
        rw [hp]
        refine iteF ⟨sm.trans s1, ?_⟩
        rw [tk, fm_succ, if_neg (by rw [hp]; decide)]
        exact s1 _ _ hl
  · rw [List.take_length] at hP
    exact q H hP.1 hP.2
/-- for j, x in enumerate(list) -/
theorem for_enum {g : TG} {tb : TS} {nx : L2.St → Hp → Prop} {rt : VK} {H : Hp} (Pv : Nat → L2.St → Hp → Prop) (h0 : Pv 0 σ H) (hl : ∀ i σ H, i ≤ xs.length → Pv i σ H → SqL K H a xs)
    (hs : ∀ i x σ H T, xs[i]? = some x → Pv i σ H → H T = none → g (.ref T) σ (upd H T (.tup [.int (i : Nat), x])) fun σ2 H2 => tb ⟨Pv (i + 1), rt, nx, Pv (i + 1)⟩ σ2 H2) (hd : ∀ σ H, Pv xs.length σ H → nx σ H) :
    ∃ W : Nat → Nat → L2.St → Hp → Prop, (∃ m, W 0 m σ H) ∧ ∀ i m σ H, W i m σ H →
      ((Ite K a).stop i H ∧ nx σ H) ∨ ((Ite K a).go i H ∧ ∃ N : L2.St → Hp → Prop, (∀ σ' H', N σ' H' → ∃ m', m' < m ∧ W (i + 1) m' σ' H') ∧ ∀ x H', (Ite K a).yld i H x H' → g x σ H' fun σ2 H2 => tb ⟨N, rt, nx, N⟩ σ2 H2) := by
  refine ⟨fun i m σ H => m = xs.length - i ∧ i ≤ xs.length ∧ Pv i σ H, ⟨xs.length, by simp, Nat.zero_le _, h0⟩, ?_⟩
  rintro i m σ H ⟨rfl, hi, p⟩
  have q := hl i σ H hi p
  by_cases hlt : i < xs.length
  · refine .inr ⟨⟨xs, xs[i], q, by simp [hlt]⟩, Pv (i + 1), fun σ' H' p' => ⟨xs.length - (i + 1), by omega, rfl, hlt, p'⟩, ?_⟩
    rintro v H' ⟨T, x, rfl, hT, rfl, hx⟩
    exact hs i x σ H T (hx xs q) p hT
  · have e : i = xs.length := by omega
    subst e
    exact .inl ⟨⟨xs, q, Nat.le_refl _⟩, hd σ H p⟩
theorem w_for {D : Ends} {wi : TI} {g : TG} {tb : TS} {H : Hp} (h : wi σ H fun J H1 => ∃ W : Nat → Nat → L2.St → Hp → Prop, (∃ m, W 0 m σ H1) ∧ ∀ i m σ H, W i m σ H →
    (J.stop i H ∧ D.nx σ H) ∨ (J.go i H ∧ ∃ N : L2.St → Hp → Prop, (∀ σ' H', N σ' H' → ∃ m', m' < m ∧ W (i + 1) m' σ' H') ∧ ∀ x H', J.yld i H x H' → g x σ H' fun σ2 H2 => tb { D with nx := N, ct := N, bk := D.nx } σ2 H2)) : tFor wi g tb D σ H := h
theorem w_enum {ta : TA} {R : It → Hp → Prop} {H : Hp} (h : ta σ H fun vs H1 => ∃ a xs, vs = [.ref a] ∧ SqL K H1 a xs ∧ R (Ite K a) H1) : iEnum K ta σ H R := h
theorem w_lc {wi : TI} {g : TG} {vs : List Nat} {H : Hp} (h : wi σ H fun J H1 => ∀ D, H1 D = none → ∃ W : Nat → Nat → Hp → Prop, (∃ m, W 0 m (upd H1 D (.lst []))) ∧ ∀ i m H, W i m H →
  (J.stop i H ∧ Q (.ref D) H) ∨ (J.go i H ∧ ∃ Nx : Hp → Prop, (∀ H', Nx H' → ∃ m', m' < m ∧ W (i + 1) m' H') ∧ ∀ x H', J.yld i H x H' → g x (wipe σ vs) H' fun σ2 H2 => wipe σ2 vs = wipe σ vs ∧ tt σ2 H2 fun b H3 =>
    if b = true then te σ2 H3 fun y H4 => ∃ acc, H4 D = some (.lst acc) ∧ acc.length < sizeLine ∧ Nx (upd H4 D (.lst (acc ++ [y]))) else Nx H3)) : tLc wi g tt te vs σ H Q := h
theorem w_rng1 {ta : TA} {R : It → Hp → Prop} {H : Hp} (h : ta σ H fun vs H1 => ∃ j : Int, vs = [.int j] ∧ -(2 ^ 62) ≤ j ∧ j < 2 ^ 62 ∧ R (Itr 0 j.toNat) H1) : iRng1 ta σ H R := h
theorem w_rng2 {ta : TA} {R : It → Hp → Prop} {H : Hp} (h : ta σ H fun vs H1 => ∃ i j : Int, vs = [.int i, .int j] ∧ (-(2 ^ 62) ≤ i ∧ i < 2 ^ 62 ∧ -(2 ^ 62) ≤ j ∧ j < 2 ^ 62) ∧ R (Itr i (j - i).toNat) H1) : iRng2 ta σ H R := h
theorem w_list {tl : TE} {R : It → Hp → Prop} {H : Hp} (h : tl σ H fun x H1 => ∃ a, x = .ref a ∧ (∃ xs, SqL K H1 a xs) ∧ R (Itl K a) H1) : iList K tl σ H R := h
end
/-- a plain value, by its kind -/
inductive Kd (K : PySem.W.Frag) (H : Hp) : V → String → Prop
  | non : Kd K H .non "NoneType"
  | bl (b : Bool) : Kd K H (.bl b) "bool"
  | int (i : Int) : Kd K H (.int i) "int"
  | str (x : Str) : Kd K H (.str x) "str"
  | lst {a : Addr} {xs : List V} (h : SqL K H a xs) : Kd K H (.ref a) "list"
  | tup {a : Addr} {xs : List V} (h : SqT K H a xs) : Kd K H (.ref a) "tuple"
  | dK {a : Addr} {kvs : List (Key × V)} (h : H a = some (.dK kvs)) : Kd K H (.ref a) "dict"
theorem Kd.ty {K : PySem.W.Frag} {H : Hp} {x : V} {t : String} (k : Kd K H x t) : TyX K H x (.type t) := by
  cases k with
  | non => exact .base .non
  | bl b => exact .base (.bl b)
  | int i => exact .base (.int i)
  | str x => exact .base (.str x)
  | lst h => exact ty_list h
  | tup h => exact ty_tup h
  | dK h => exact .base (.dK h)
theorem Kd.same {K : PySem.W.Frag} {H H' : Hp} {x : V} {t : String} (e : Same H H') (k : Kd K H x t) : Kd K H' x t := by
  cases k with
  | non => exact .non
  | bl b => exact .bl b
  | int i => exact .int i
  | str x => exact .str x
  | lst h => exact .lst (e.seq h)
  | tup h => exact .tup (sts e h)
  | dK h => exact .dK (e _ _ h)
def wholeV : V → Bool
  | .int _ => true
  | _ => false
def intV : V → Bool
  | .int _ => true
  | .bl _ => true
  | _ => false
def boolV : V → Bool
  | .bl _ => true
  | _ => false
theorem w_isInt {K : PySem.W.Frag} {H : Hp} {x : V} {t : String} {Q : VK} (k : Kd K H x t) (h : Q (.bl (intV x)) H) : rIsA K [x, .ty "int"] H Q := by
  refine w_isTy k.ty (k := intV x) ?_ h
  cases k <;> (dsimp only [intV, boolV]; decide +kernel)
theorem w_isBool {K : PySem.W.Frag} {H : Hp} {x : V} {t : String} {Q : VK} (k : Kd K H x t) (h : Q (.bl (boolV x)) H) : rIsA K [x, .ty "bool"] H Q := by
  refine w_isTy k.ty (k := boolV x) ?_ h
  cases k <;> (dsimp only [intV, boolV]; decide +kernel)
/-- isinstance(x, (int, list)), isinstance(x, (list, tuple)) -/
theorem w_isIntList {K : PySem.W.Frag} {H : Hp} {x : V} {t : String} {Q : VK} {a : Addr} (k : Kd K H x t) (hT : H a = some (.tup [.ty "int", .ty "list"])) (h : Q (.bl (intV x || t == "list")) H) : rIsA K [x, .ref a] H Q := by
  refine w_isTy2 k.ty hT (k1 := intV x) (k2 := t == "list") ?_ ?_ h
  · cases k <;> (dsimp only [intV, boolV]; decide +kernel)
  · cases k <;> decide +kernel
theorem w_isListTup {K : PySem.W.Frag} {H : Hp} {x : V} {t : String} {Q : VK} {a : Addr} (k : Kd K H x t) (hT : H a = some (.tup [.ty "list", .ty "tuple"])) (h : Q (.bl (t == "list" || t == "tuple")) H) : rIsA K [x, .ref a] H Q := by
  refine w_isTy2 k.ty hT (k1 := t == "list") (k2 := t == "tuple") ?_ ?_ h
  · cases k <;> decide +kernel
  · cases k <;> decide +kernel
/-! ### texts of errors -/
section
variable {σ : L2.St} {H : Hp} {te : TE} {ts : List TE} {acc : Str} {R : Str → Hp → Prop} {Q : VK} {i : Int}
theorem w_js (h : te σ H fun x H1 => ∃ y : Str, x = .str y ∧ (acc ++ y).length ≤ sizeLine ∧ tJs ts (acc ++ y) σ H1 R) : tJs (te :: ts) acc σ H R := h
theorem w_js0 (h : R acc H) : tJs [] acc σ H R := h
theorem w_fmt (h : te σ H fun x H1 => (∃ y : Str, x = .str y ∧ y.length ≤ sizeLine ∧ Q (.str y) H1) ∨ ∃ i : Int, x = .int i ∧ i.natAbs.log2 < 1920 ∧ Q (.str (toString i)) H1) : tFmt te σ H Q := h
theorem w_fmtI {P1 : Str → Prop} {P2 : Int → Prop} (hi : i.natAbs.log2 < 1920) (h : P2 i) : (∃ y : Str, V.int i = .str y ∧ y.length ≤ sizeLine ∧ P1 y) ∨ ∃ j : Int, V.int i = .int j ∧ j.natAbs.log2 < 1920 ∧ P2 j := .inr ⟨i, rfl, hi, h⟩
theorem w_exstr {s : Str} {P : Str → Prop} (h : P s) : ∃ y, V.str s = .str y ∧ P y := ⟨s, rfl, h⟩
end
theorem iteD {p A B : Prop} [Decidable p] (h1 : p → A) (h2 : ¬p → B) : if decide p = true then A else B := by
  by_cases h : p
  · rw [decide_eq_true h]
    exact iteT (h1 h)
  · rw [decide_eq_false h]
    exact iteF (h2 h)
theorem iteND {p A B : Prop} [Decidable p] (h1 : ¬p → A) (h2 : p → B) : if (!decide p) = true then A else B := by
  by_cases h : p
  · rw [decide_eq_true h]
    exact iteF (h2 h)
  · rw [decide_eq_false h]
    exact iteT (h1 h)
theorem iteB {b : Bool} {A B : Prop} (h1 : b = true → A) (h2 : b = false → B) : if b = true then A else B := by
  cases b with
  | true => exact iteT (h1 rfl)
  | false => exact iteF (h2 rfl)
theorem iteNB {b : Bool} {A B : Prop} (h1 : b = false → A) (h2 : b = true → B) : if (!b) = true then A else B := by
  cases b with
  | true => exact iteF (h2 rfl)
  | false => exact iteT (h1 rfl)
theorem w_ex1 {a : Int} {P : Int → Prop} (h : P a) : ∃ i, [V.int a] = [V.int i] ∧ P i := ⟨a, rfl, h⟩
theorem w_ex2 {a b : Int} {P : Int → Int → Prop} (h : P a b) : ∃ i j, [V.int a, V.int b] = [V.int i, V.int j] ∧ P i j := ⟨a, b, rfl, h⟩
theorem w_exsq {K : PySem.W.Frag} {H : Hp} {p : Addr} {xs : List V} {P : Addr → Prop} (hs : SqL K H p xs) (h : P p) : ∃ a xs, [V.ref p] = [V.ref a] ∧ SqL K H a xs ∧ P a := ⟨p, xs, rfl, hs, h⟩
theorem w_exrf {K : PySem.W.Frag} {H : Hp} {p : Addr} {xs : List V} {P : Addr → Prop} (hs : SqL K H p xs) (h : P p) : ∃ a, V.ref p = V.ref a ∧ (∃ xs, SqL K H a xs) ∧ P a := ⟨p, rfl, ⟨xs, hs⟩, h⟩
/-! ### lists of ints -/
theorem flat_ints : ∀ ns : List Int, (ns.map V.int).all flatV = true
  | [] => rfl
  | _ :: r => by
    rw [List.map_cons, List.all_cons, flat_ints r]
    rfl
theorem inV_ints {n : Int} : ∀ {ns : List Int}, inV (.int n) (ns.map V.int) = decide (n ∈ ns)
  | [] => by simp [inV]
  | a :: r => by
    have ih := inV_ints (n := n) (ns := r)
    unfold inV at ih ⊢
    rw [List.map_cons, List.any_cons, ih]
    show (a == n || decide (n ∈ r)) = decide (n ∈ a :: r)
    by_cases e : a = n
    · subst e
      simp
    · have e' : ¬ n = a := fun z => e z.symm
      simp [e, e']
/-- a value that is no int is not among ints, but True and False -/
theorem inV_not {v : V} (hv : intV v = false) : ∀ {ns : List Int}, inV v (ns.map V.int) = false
  | [] => rfl
  | a :: r => by
    have ih := inV_not (v := v) hv (ns := r)
    unfold inV at ih ⊢
    rw [List.map_cons, List.any_cons, ih, Bool.or_false]
    cases v <;> first | rfl | cases hv
theorem eqv_ints : ∀ ns ms : List Int, PyData.eqv (.list ((ns.map V.int).map flD)) (.list ((ms.map V.int).map flD)) = decide (ns = ms) := by
  have key : ∀ ns ms : List Int, PyData.eqvAll ((ns.map V.int).map flD) ((ms.map V.int).map flD) = decide (ns = ms) := by
    intro ns
    induction ns with
    | nil =>
      intro ms
      cases ms with
      | nil => rfl
      | cons b s => rfl
    | cons a r ih =>
      intro ms
      cases ms with
      | nil => rfl
      | cons b s =>
        show (PyData.eqv (.int a) (.int b) && PyData.eqvAll ((r.map V.int).map flD) ((s.map V.int).map flD)) = _
        rw [ih]
        show (a == b && decide (r = s)) = _
        by_cases e : a = b <;> simp [e]
  intro ns ms
  exact key ns ms
/-! ### the rules with the written part said -/
section
variable {X : Cx} (K : PySem.W.Frag)
theorem op_addK (h : X.K = K := by rfl) : OpR X (binaryOp .Add) (rAddA K) := h ▸ op_addA
theorem op_eqK (hu : X.A.units + 64 < cLine) (h : X.K = K := by rfl) : OpR X (compareOp .Eq) (rEqA K) := h ▸ op_eqA hu
theorem op_neK (hu : X.A.units + 64 < cLine) (h : X.K = K := by rfl) : OpR X (compareOp .NotEq) (rNeA K) := h ▸ op_neA hu
theorem op_inK (h : X.K = K := by rfl) : OpR X (compareOp .In) (rIn K false) := h ▸ op_in_seq
theorem op_notInK (h : X.K = K := by rfl) : OpR X (compareOp .NotIn) (rIn K true) := h ▸ op_notIn_seq
theorem ix_seqK (h : X.K = K := by rfl) : IxR X (rIx K) := h ▸ ix_seq
theorem sl_listK (h : X.K = K := by rfl) : SlR X (rSlL K) := h ▸ sl_list
theorem call_lenK (h : X.K = K := by rfl) : CallR X (.builtin "len") (rLenA K) := h ▸ call_lenA
theorem call_isK_ (h : X.K = K := by rfl) : CallR X (.builtin "isinstance") (rIsA K) := h ▸ call_isA
theorem cr_sumK (hc : X.calm = true) (h : X.K = K := by rfl) : CallR X (.builtin "sum") (rSum K) := h ▸ cr_sum hc
end
theorem w_cut {t u : TS} {nx bk ct : L2.St → Hp → Prop} {rt : VK} {σ : L2.St} {H : Hp} (M : L2.St → Hp → Prop) (h : t ⟨M, rt, bk, ct⟩ σ H) (k : ∀ σ' H', M σ' H' → u ⟨nx, rt, bk, ct⟩ σ' H') : C8.tCut t u ⟨nx, rt, bk, ct⟩ σ H := ⟨M, h, k⟩
theorem at_ints {ns : List Int} {i : Nat} {x : V} (h : (ns.map V.int)[i]? = some x) : ∃ n, ns[i]? = some n ∧ x = .int n := by
  rw [List.getElem?_map] at h
  cases e : ns[i]? with
  | none =>
    rw [e] at h
    cases h
  | some n =>
    rw [e] at h
    exact ⟨n, rfl, (Option.some.inj h).symm⟩
theorem w_yes {σ : L2.St} {H : Hp} {B : Bool → Hp → Prop} (h : B true H) : tYes σ H B := h
theorem w_keep {K : PySem.W.Frag} {c : Value} {i : Nat} {tb : WX → TS} {ts : Addr → Value → Option Addr → TS} {nx bk ct : L2.St → Hp → Prop} {rt : VK} {σ : L2.St} {H : Hp} (h : tb (wKeep K c i ts ⟨nx, rt, bk, ct⟩) ⟨nx, rt, bk, ct⟩ σ H) : tKeep K c i tb ts ⟨nx, rt, bk, ct⟩ σ H := h
theorem w_refs (h : Prop) : h → h := id
theorem w_gtup2 {K : PySem.W.Frag} {T : Addr} {x y : V} {i j : Nat} {σ : L2.St} {H : Hp} {Q : L2.St → Hp → Prop} (hT : H T = some (.tup [x, y])) (h : Q ((σ.set i (some x)).set j (some y)) H) : gTup K 2 (gCons (gName i) (gCons (gName j) gNil)) (.ref T) σ H Q :=
  ⟨T, [x, y], rfl, SqT.of hT, rfl, x, [y], rfl, y, [], rfl, rfl, h⟩
theorem w_gtupL2 {K : PySem.W.Frag} {T : Addr} {x y : V} {i j : Nat} {σ : L2.St} {H : Hp} {Q : L2.St → Hp → Prop} (hT : SqT K H T [x, y]) (h : Q ((σ.set i (some x)).set j (some y)) H) : gTup K 2 (gCons (gName i) (gCons (gName j) gNil)) (.ref T) σ H Q :=
  ⟨T, [x, y], rfl, hT, rfl, x, [y], rfl, y, [], rfl, rfl, h⟩
theorem pick {xs : List V} {n : Int} (h0 : 0 ≤ n) (h1 : n < xs.length) : ∃ v, atI xs n = some v ∧ v ∈ xs := by
  obtain ⟨j, rfl⟩ : ∃ j : Nat, n = (j : Int) := ⟨n.toNat, by omega⟩
  have hj : j < xs.length := by omega
  exact ⟨xs[j], atI_nat (List.getElem?_eq_getElem hj), List.getElem_mem hj⟩
theorem Kd.flat {K : PySem.W.Frag} {H : Hp} {v : V} (h : flatV v = true) : ∃ t, Kd K H v t := by
  cases v with
  | non => exact ⟨_, .non⟩
  | bl b => exact ⟨_, .bl b⟩
  | int i => exact ⟨_, .int i⟩
  | str x => exact ⟨_, .str x⟩
  | _ => cases h
theorem new_at {H H' : Hp} {p : Addr} {o : HO} (hp : H p = none) (h : upd H p o = H') : Same H H' ∧ H' p = some o := by
  subst h
  exact ⟨same_new hp (Same.refl _), upd_same⟩
/-! ### two lists of ints compared -/
theorem flD_ints (ns : List Int) : (ns.map V.int).map flD = ns.map PyData.int := by
  rw [List.map_map]
  rfl
theorem dp_ints {K : PySem.W.Frag} {H : Hp} {a : Addr} {ns : List Int} (h : SqL K H a (ns.map V.int)) : Dp K H (.ref a) (.list (ns.map PyData.int)) := .lst h (by
  have z := flD_all (K := K) (H := H) (flat_ints ns)
  rw [flD_ints] at z
  exact z)
theorem w_neAL {K : PySem.W.Frag} {H : Hp} {a b : Addr} {ns ms : List Int} {Q : VK} (h1 : SqL K H a (ns.map V.int)) (h2 : SqL K H b (ms.map V.int)) (h : Q (.bl (!decide (ns = ms))) H) : rNeA K (.ref a) (.ref b) H Q := by
  refine .inr (w_neD (dp_ints h1) (dp_ints h2) (PySem.W.ke_shaped_ints _) (PySem.W.ke_shaped_ints _) ?_)
  rw [← flD_ints, ← flD_ints, eqv_ints]
  exact h
theorem w_eqAL {K : PySem.W.Frag} {H : Hp} {a b : Addr} {ns ms : List Int} {Q : VK} (h1 : SqL K H a (ns.map V.int)) (h2 : SqL K H b (ms.map V.int)) (h : Q (.bl (decide (ns = ms))) H) : rEqA K (.ref a) (.ref b) H Q := by
  refine .inr (w_eqD (dp_ints h1) (dp_ints h2) (PySem.W.ke_shaped_ints _) (PySem.W.ke_shaped_ints _) ?_)
  rw [← flD_ints, ← flD_ints, eqv_ints]
  exact h
theorem same_mut {H H' : Hp} {p : Addr} {o : HO} (hp : H p = none) (e : Same H H') : Same H (upd H' p o) := fun b u q => by
  rw [upd_ne (ne_of_none q hp)]
  exact e b u q
/-! ### what kind of reading a goal is -/
theorem gTE {t : TE} {σ : L2.St} {H : Hp} {Q : VK} (h : t σ H Q) : t σ H Q := h
theorem gTA {t : TA} {σ : L2.St} {H : Hp} {Q : List V → Hp → Prop} (h : t σ H Q) : t σ H Q := h
theorem gTT {t : TT} {σ : L2.St} {H : Hp} {Q : Bool → Hp → Prop} (h : t σ H Q) : t σ H Q := h
theorem gTS {t : TS} {D : Ends} {σ : L2.St} {H : Hp} (h : t D σ H) : t D σ H := h
theorem gR2 {r : R2} {x y : V} {H : Hp} {Q : VK} (h : r x y H Q) : r x y H Q := h
theorem gEx {α : Type} {P : α → Prop} (h : ∃ x, P x) : ∃ x, P x := h
theorem gAnd {A B : Prop} (h : A ∧ B) : A ∧ B := h
/-! ### what the top leaves -/
theorem dfn_mk {K : PySem.W.Frag} {h : Heap} {mg : Str → Option Value} {x : Str} {st : Stmt} {ps : List Str} {f : Addr} {oc : Value} {od an : Option Addr} {osl : Array (Option Value)} {kV doc pm cdv ct : Value} (X : K.In h) (G : h.Ns mainGlobals mg)
    (a : PySem.W.nsIn K mainGlobals x = some (some (.ref f))) (l : K.lookup f = some ⟨oc, od, .func (PySem.W.fnOf x x (defArgs st) (defBody st) (defScope st) .none kV doc pm an cdv ct), osl⟩) (c : PySem.W.codeIn K cdv x = true) (k : PySem.W.keepIn K (.ref f) = true)
    (b : ∀ (kV doc pm : Value) (an : Option Addr) (cdv ct : Value) (us : List Value), us.length = ps.length → bindArgs (PySem.W.fnOf x x (defArgs st) (defBody st) (defScope st) .none kV doc pm an cdv ct) ⟨us, []⟩ = pure (ps.zip us)) : Dfn K mg x st ps := by
  have F := fun_mk (st := st) l c k
  exact ⟨f, _, F, PySem.W.mg_of X G a, F.binds b⟩
theorem exn_mk {K : PySem.W.Frag} {h : Heap} {mg : Str → Option Value} {n : Str} {C : Addr} (X : K.In h) (G : h.Ns mainGlobals mg) (a : PySem.W.nsIn K mainGlobals n = some (some (.ref C)))
    (x : PySem.W.excIn K C [.type "ValueError", .type "Exception", .type "BaseException", .type "object"] "ValueError.__new__" = true) (k : PySem.W.keepIn K (.ref C) = true) (b : PySem.W.subIn K (.ref C) (.type "BaseException") = some true) (t : PySem.W.typeIn K (.ref C) = some (.type "type"))
    (hg : PySem.W.findIn K (.ref C) "__getattribute__" = some (some (.builtin "BaseException.__getattribute__"))) (hk : PySem.W.findIn K (.ref C) "__getattr__" = some none) (hd : PySem.W.hasDictIn K C = true) (ha : PySem.W.findIn K (.ref C) "__class__" = some (some (.builtin "object.__class__")))
    (hn : PySem.W.specialIn K (.builtin "object.__class__") "__get__" = some (some (.builtin "getset_descriptor.__get__"))) (ht : PySem.W.takesIn K (.builtin "object.__class__") = some true) (hm : PySem.W.mroIn K C (.type "object") = some true) : Exn K mg n C :=
  ⟨PySem.W.mg_of X G a, x, k, b, t, ⟨hg, hk, b, hd, ha, hn, ht, hm⟩⟩
theorem const_mk {K : PySem.W.Frag} {h : Heap} {mg : Str → Option Value} {n : Str} {v : V} {u : Value} (X : K.In h) (G : h.Ns mainGlobals mg) (a : PySem.W.nsIn K mainGlobals n = some (some u)) (r : RelV v u) : ∃ u, mg n = some u ∧ RelV v u := ⟨u, PySem.W.mg_of X G a, r⟩
theorem kit_ct {K : PySem.W.Frag} {C : Addr} {T : String} {b : Bool} (hm : PySem.W.kitMeta T = true) (h : PySem.W.subIn K (.ref C) (.type T) = some b) : PySem.W.kitOne K (.ref C) (.type T) = some b := by
  show (if PySem.W.kitMeta T = true then PySem.W.subIn K (.ref C) (.type T) else none) = some b
  rw [if_pos hm]
  exact h
theorem kit_cc {K : PySem.W.Frag} {C : Addr} : PySem.W.kitOne K (.ref C) (.ref C) = some true := by
  unfold PySem.W.kitOne
  rw [if_pos (by simp)]
theorem kit_cd {K : PySem.W.Frag} {C D : Addr} {b : Bool} (hd : PySem.W.hasDictIn K D = true) (ht : PySem.W.typeIn K (.ref D) = some (.type "type")) (hs : PySem.W.subIn K (.ref D) (.ref D) = some true) (h : PySem.W.subIn K (.ref C) (.ref D) = some b) : PySem.W.kitOne K (.ref C) (.ref D) = some b := by
  by_cases e : C = D
  · subst e
    rw [kit_cc, ← hs, h]
  · obtain ⟨cd, hc, _⟩ := PySem.W.any_some hd
    have e1 : ((PySem.W.clsIn K D).isSome && PySem.W.typeIn K (.ref D) == some (.type "type")) = true := by rw [hc, ht] <;> rfl
    unfold PySem.W.kitOne
    rw [if_neg (by simpa using e)]
    show (if ((PySem.W.clsIn K D).isSome && PySem.W.typeIn K (.ref D) == some (.type "type")) = true then PySem.W.subIn K (.ref C) (.ref D) else none) = some b
    rw [if_pos e1]
    exact h
end TW
namespace TW
open PySem PySem.Spec PyProof.Rows L2
/-! ### min, max of a tuple of ints -/
def rMinT (K : PySem.W.Frag) : List V → Hp → VK → Prop := fun vs H Q => ∃ (a : Addr) (n : Int) (ns : List Int), vs = [.ref a] ∧ SqT K H a ((n :: ns).map V.int) ∧ Q (.int (ns.foldl min n)) H
def rMaxT (K : PySem.W.Frag) : List V → Hp → VK → Prop := fun vs H Q => ∃ (a : Addr) (n : Int) (ns : List Int), vs = [.ref a] ∧ SqT K H a ((n :: ns).map V.int) ∧ Q (.int (ns.foldl max n)) H
theorem alike_ints (ns : List Int) : PySem.W.AlikeAll (ns.map PyData.int) := by
  constructor
  · intro x hx y hy
    obtain ⟨i, _, rfl⟩ := List.mem_map.mp hx
    obtain ⟨j, _, rfl⟩ := List.mem_map.mp hy
    rfl
  · intro x hx
    obtain ⟨i, _, rfl⟩ := List.mem_map.mp hx
    exact fun z => nomatch z
section
variable {X : Cx} (K : PySem.W.Frag)
theorem reads_ints {pins : List (Addr × Obj)} {σ : L2.St} {H : Hp} {s : Shared} {its : List Value} {ns : List Int} (I : Inv X pins σ H s) (rv : Vals (ns.map V.int) its) : ∃ as, ReadsAll s.heap its (ns.map PyData.int) as := by
  have d := flD_all (K := X.K) (H := H) (flat_ints ns)
  rw [flD_ints] at d
  exact Dp.readsAll I _ _ its d rv
theorem call_minT (hc : X.calm = true) (hu : X.A.units + 64 < cLine) (h : X.K = K := by rfl) : CallR X (.builtin "min") (rMinT K) := by
  subst h
  intro pins s σ H vs us Q I r h
  obtain ⟨a, n, ns, rfl, ha, q⟩ := h
  rw [Vals.ref1 r]
  obtain ⟨its, rv, ht, _⟩ := I.tuple ha
  obtain ⟨as, ra⟩ := reads_ints I rv
  refine PySem.W.min_tuple_data (x := .int n) (xs := ns.map .int) (I.ok.hd hc) ht (by simpa using ra) (alike_ints (n :: ns)) ?_ fun i v h' tk bs _ hr hk => ?_
  · have e : PyData.depthAll (.int n :: ns.map .int) = 0 := PySem.W.ke_depthAll (n :: ns)
    rw [e]
    omega
  · rw [PySem.W.minD_ints] at hr
    cases hr with
    | int i t => exact ⟨.int _, H, I.kept (t' := tk) hk, ⟨t, rfl⟩, q⟩
theorem call_maxT (hc : X.calm = true) (hu : X.A.units + 64 < cLine) (h : X.K = K := by rfl) : CallR X (.builtin "max") (rMaxT K) := by
  subst h
  intro pins s σ H vs us Q I r h
  obtain ⟨a, n, ns, rfl, ha, q⟩ := h
  rw [Vals.ref1 r]
  obtain ⟨its, rv, ht, _⟩ := I.tuple ha
  obtain ⟨as, ra⟩ := reads_ints I rv
  refine PySem.W.max_tuple_data (x := .int n) (xs := ns.map .int) (I.ok.hd hc) ht (by simpa using ra) (alike_ints (n :: ns)) ?_ fun i v h' tk bs _ hr hk => ?_
  · have e : PyData.depthAll (.int n :: ns.map .int) = 0 := PySem.W.ke_depthAll (n :: ns)
    rw [e]
    omega
  · rw [PySem.W.maxD_ints] at hr
    cases hr with
    | int i t => exact ⟨.int _, H, I.kept (t' := tk) hk, ⟨t, rfl⟩, q⟩
end
theorem w_minT {K : PySem.W.Frag} {H : Hp} {Q : VK} {a : Addr} {m n : Int} (h : SqT K H a [.int m, .int n]) (q : Q (.int (min m n)) H) : rMinT K [.ref a] H Q := ⟨a, m, [n], rfl, h, q⟩
theorem w_maxT {K : PySem.W.Frag} {H : Hp} {Q : VK} {a : Addr} {m n : Int} (h : SqT K H a [.int m, .int n]) (q : Q (.int (max m n)) H) : rMaxT K [.ref a] H Q := ⟨a, m, [n], rfl, h, q⟩
end TW
namespace TW
open PySem PySem.Spec PyProof.Rows L2
/-! ### the rows that are drawn -/
def mixed (c k : Int) : Int := (c + 7919 * k) * 48271 % 2147483647 * ((c + 7919 * k) * 48271 % 2147483647 + 2 * k + 1) % 2147483629
theorem mixed_nn (c k : Int) : 0 ≤ mixed c k := Int.emod_nonneg _ (by decide)
theorem mixed_lt (c k : Int) : mixed c k < 2147483629 := Int.emod_lt_of_pos _ (by decide)
/-- a row: 1 to 40 heights from 0 to 9 -/
structure OkR (r : List Int) : Prop where
  pos : 1 ≤ r.length
  most : r.length ≤ 40
  all : ∀ h ∈ r, 0 ≤ h ∧ h ≤ 9
def anyM (c : Int) : Int := if c % 3 = 1 then 4 else 10
def anyL (c m : Int) : List Int := (frm 0 m.toNat).map fun k => mixed c k % anyM c
theorem anyM_b (c : Int) : 0 < anyM c ∧ anyM c ≤ 10 := by
  unfold anyM
  split <;> decide
theorem anyL_length (c m : Int) : (anyL c m).length = m.toNat := by
  unfold anyL
  rw [List.length_map, frm_length]
theorem anyL_ok {c m : Int} (h1 : 1 ≤ m) (h2 : m ≤ 40) : OkR (anyL c m) where
  pos := by
    rw [anyL_length]
    omega
  most := by
    rw [anyL_length]
    omega
  all := fun h hh => by
    obtain ⟨k, _, rfl⟩ := List.mem_map.mp hh
    have b := anyM_b c
    have h1 := Int.emod_nonneg (mixed c k) (b := anyM c) (by omega)
    have h2 := Int.emod_lt_of_pos (mixed c k) (b := anyM c) b.1
    exact ⟨h1, by omega⟩
/-- the two turns of an exchange, the lesser ahead -/
def ends (m d : Int) : Int × Int := if d % m > (d % m + 1 + d / 64 % (m - 1)) % m then ((d % m + 1 + d / 64 % (m - 1)) % m, d % m) else (d % m, (d % m + 1 + d / 64 % (m - 1)) % m)
theorem ends_b {m d : Int} (hm : 0 < m) : (0 ≤ (ends m d).1 ∧ (ends m d).1 < m) ∧ (0 ≤ (ends m d).2 ∧ (ends m d).2 < m) := by
  have a1 := Int.emod_nonneg d (b := m) (by omega)
  have a2 := Int.emod_lt_of_pos d (b := m) hm
  have b1 := Int.emod_nonneg (d % m + 1 + d / 64 % (m - 1)) (b := m) (by omega)
  have b2 := Int.emod_lt_of_pos (d % m + 1 + d / 64 % (m - 1)) (b := m) hm
  unfold ends
  split
  · exact ⟨⟨b1, b2⟩, a1, a2⟩
  · exact ⟨⟨a1, a2⟩, b1, b2⟩
def exch (row : List Int) (a b : Int) : List Int :=
  if 0 ≤ min (b - a + row.getD b.toNat 0) (row.getD a.toNat 0 - b + a) ∧ max (b - a + row.getD b.toNat 0) (row.getD a.toNat 0 - b + a) < 10 then
    (row.set a.toNat (b - a + row.getD b.toNat 0)).set b.toNat (row.getD a.toNat 0 - b + a) else row
def mixStep (cell : Int) (row : List Int) (k : Nat) : List Int := exch row (ends row.length (mixed cell k)).1 (ends row.length (mixed cell k)).2
def mixTo (cell : Int) (row : List Int) (i : Nat) : List Int := (List.range i).foldl (mixStep cell) row
theorem mixTo_succ (cell : Int) (row : List Int) (i : Nat) : mixTo cell row (i + 1) = mixStep cell (mixTo cell row i) i := by
  unfold mixTo
  rw [List.range_succ, List.foldl_append]
  rfl
theorem exch_length (row : List Int) (a b : Int) : (exch row a b).length = row.length := by
  unfold exch
  split
  · rw [List.length_set, List.length_set]
  · rfl
theorem mixTo_length (cell : Int) (row : List Int) : ∀ i, (mixTo cell row i).length = row.length
  | 0 => rfl
  | i + 1 => by
    rw [mixTo_succ]
    unfold mixStep
    rw [exch_length, mixTo_length cell row i]
theorem mem_set {l : List Int} {i : Nat} {x h : Int} (hh : h ∈ l.set i x) : h = x ∨ h ∈ l := by
  rcases List.mem_or_eq_of_mem_set hh with z | z
  · exact .inr z
  · exact .inl z
theorem exch_all {row : List Int} (a b : Int) (hr : ∀ h ∈ row, 0 ≤ h ∧ h ≤ 9) : ∀ h ∈ exch row a b, 0 ≤ h ∧ h ≤ 9 := by
  intro h hh
  unfold exch at hh
  split at hh
  · rename_i q
    rcases mem_set hh with z | z
    · subst z
      omega
    · rcases mem_set z with z | z
      · subst z
        omega
      · exact hr h z
  · exact hr h hh
theorem mixTo_all {cell : Int} {row : List Int} (hr : ∀ h ∈ row, 0 ≤ h ∧ h ≤ 9) : ∀ i, ∀ h ∈ mixTo cell row i, 0 ≤ h ∧ h ≤ 9
  | 0 => hr
  | i + 1 => by
    rw [mixTo_succ]
    exact exch_all _ _ (mixTo_all hr i)
/-- all the exchanges of a row of n heights -/
def mixN (n : Nat) : Nat := if 1 < n then 2 * n else 0
def mixUp (cell : Int) (row : List Int) : List Int := mixTo cell row (mixN row.length)
def rot (row : List Int) (b : Int) : List Int := row.drop b.toNat ++ row.take b.toNat
def turnS (c : Int) (row : List Int) (k : Nat) : List Int := rot (mixUp (mixed c (50 + k)) row) (mixed c (60 + k) % row.length)
def goingL (c m : Int) : List Int := turnS c (turnS c (List.replicate m.toNat (c % 10)) 0) 1
theorem rot_length (row : List Int) (b : Int) : (rot row b).length = row.length := by
  unfold rot
  rw [List.length_append, List.length_drop, List.length_take]
  omega
theorem rot_all {row : List Int} {b : Int} (hr : ∀ h ∈ row, 0 ≤ h ∧ h ≤ 9) : ∀ h ∈ rot row b, 0 ≤ h ∧ h ≤ 9 := by
  intro h hh
  unfold rot at hh
  rcases List.mem_append.mp hh with z | z
  · exact hr h (List.mem_of_mem_drop z)
  · exact hr h (List.mem_of_mem_take z)
theorem mixUp_length (cell : Int) (row : List Int) : (mixUp cell row).length = row.length := mixTo_length _ _ _
theorem turnS_length (c : Int) (row : List Int) (k : Nat) : (turnS c row k).length = row.length := by
  unfold turnS
  rw [rot_length, mixUp_length]
theorem turnS_all {c : Int} {row : List Int} {k : Nat} (hr : ∀ h ∈ row, 0 ≤ h ∧ h ≤ 9) : ∀ h ∈ turnS c row k, 0 ≤ h ∧ h ≤ 9 := rot_all (mixTo_all hr _)
theorem goingL_length (c m : Int) : (goingL c m).length = m.toNat := by
  unfold goingL
  rw [turnS_length, turnS_length, List.length_replicate]
theorem goingL_ok {c m : Int} (h1 : 1 ≤ m) (h2 : m ≤ 40) : OkR (goingL c m) where
  pos := by
    rw [goingL_length]
    omega
  most := by
    rw [goingL_length]
    omega
  all := by
    refine turnS_all (turnS_all fun h hh => ?_)
    have e := (List.mem_replicate.mp hh).2
    subst e
    have h1 := Int.emod_nonneg c (b := 10) (by decide)
    have h2 := Int.emod_lt_of_pos c (b := 10) (by decide)
    exact ⟨h1, by omega⟩
def longI (c : Int) : Int := if c % 3 = 0 then 1 + c / 10 % 9 else if c % 3 = 1 then 1 + c / 10 % 40 else 3
theorem longI_b (c : Int) : 1 ≤ longI c ∧ longI c ≤ 40 := by
  unfold longI
  split
  · omega
  · split
    · omega
    · decide
/-! ### one object changed -/
def SameBut (a : Addr) (H H' : Hp) : Prop := ∀ b o, b ≠ a → H b = some o → H' b = some o
theorem SameBut.refl (a : Addr) (H : Hp) : SameBut a H H := fun _ _ _ h => h
theorem SameBut.trans {a : Addr} {H H1 H2 : Hp} (x : SameBut a H H1) (y : SameBut a H1 H2) : SameBut a H H2 := fun b o n h => y b o n (x b o n h)
theorem SameBut.upd {a : Addr} {H : Hp} {o : HO} : SameBut a H (upd H a o) := fun b u n h => by
  rw [upd_ne n]
  exact h
theorem Same.but {a : Addr} {H H' : Hp} (e : Same H H') : SameBut a H H' := fun b o _ h => e b o h
theorem SameBut.same {a : Addr} {H0 H H' : Hp} (e : SameBut a H H') (h0 : H0 a = none) (s : Same H0 H) : Same H0 H' := fun b o h => e b o (fun z => by rw [z, h0] at h; cases h) (s b o h)
section
variable {K : PySem.W.Frag} {σ : L2.St} {H : Hp} {Q : L2.St → Hp → Prop} {T a : Addr} {x y v : V} {xs : List V} {k : Int} {j : Nat}
theorem w_gtupS2 {g1 g2 : TG} (hT : SqT K H T [x, y]) (h : g1 x σ H fun σ' H' => g2 y σ' H' Q) : gTup K 2 (gCons g1 (gCons g2 gNil)) (.ref T) σ H Q := ⟨T, [x, y], rfl, hT, rfl, x, [y], rfl, by
  have e : (fun (σ' : L2.St) (H' : Hp) => gCons g2 gNil [y] σ' H' Q) = fun σ' H' => ∃ v r, [y] = v :: r ∧ g2 v σ' H' fun σ2 H2 => gNil r σ2 H2 Q := rfl
  show g1 x σ H fun σ' H' => ∃ v r, [y] = v :: r ∧ g2 v σ' H' fun σ2 H2 => r = [] ∧ Q σ2 H2
  have e2 : (fun (σ' : L2.St) (H' : Hp) => ∃ v r, [y] = v :: r ∧ g2 v σ' H' fun σ2 H2 => r = [] ∧ Q σ2 H2) = fun σ' H' => g2 y σ' H' Q := by
    funext σ' H'
    refine propext ⟨?_, fun q => ⟨y, [], rfl, ?_⟩⟩
    · rintro ⟨v, r, e3, q⟩
      cases e3
      have e4 : (fun (σ2 : L2.St) (H2 : Hp) => ([] : List V) = [] ∧ Q σ2 H2) = Q := by
        funext σ2 H2
        exact propext ⟨fun z => z.2, fun z => ⟨rfl, z⟩⟩
      rw [e4] at q
      exact q
    · have e4 : (fun (σ2 : L2.St) (H2 : Hp) => ([] : List V) = [] ∧ Q σ2 H2) = Q := by
        funext σ2 H2
        exact propext ⟨fun z => z.2, fun z => ⟨rfl, z⟩⟩
      rw [e4]
      exact q
  rw [e2]
  exact h⟩
theorem w_gsub {to ti : TE} {t : TSet} (h : to σ H fun o H1 => ti σ H1 fun i H2 => t o i v H2 fun H3 => Q σ H3) : gSub to ti t v σ H Q := h
theorem w_setL {R : Hp → Prop} (hl : H a = some (.lst xs)) (hj : ixN xs.length k = some j) (h : R (upd H a (.lst (xs.set j v)))) : rSetL (.ref a) (.int k) v H R := ⟨a, xs, k, j, rfl, rfl, hl, hj, h⟩
end
theorem ixN_of {n : Nat} {k : Int} (h0 : 0 ≤ k) (h1 : k < n) : ixN n k = some k.toNat := by
  unfold ixN
  rw [if_pos h0, if_pos h1]
theorem at_getD {ns : List Int} {k : Int} (h0 : 0 ≤ k) (h1 : k < ns.length) : atI (ns.map V.int) k = some (.int (ns.getD k.toNat 0)) := by
  obtain ⟨j, rfl⟩ : ∃ j : Nat, k = (j : Int) := ⟨k.toNat, by omega⟩
  have hj : j < ns.length := by omega
  refine atI_nat ?_
  rw [List.getElem?_map, List.getElem?_eq_getElem hj, Int.toNat_natCast, List.getD_eq_getElem?_getD, List.getElem?_eq_getElem hj]
  rfl
theorem map_set (ns : List Int) (j : Nat) (x : Int) : (ns.map V.int).set j (.int x) = (ns.set j x).map V.int := by
  rw [List.map_set]
theorem ints_of : ∀ {xs : List V}, (∀ v ∈ xs, ∃ h : Int, v = .int h ∧ 0 ≤ h ∧ h ≤ 9) → ∃ r : List Int, xs = r.map V.int ∧ ∀ h ∈ r, 0 ≤ h ∧ h ≤ 9
  | [], _ => ⟨[], rfl, fun _ h => nomatch h⟩
  | v :: xs, hv => by
    obtain ⟨r, e, hr⟩ := ints_of (xs := xs) fun u hu => hv u (List.mem_cons_of_mem _ hu)
    obtain ⟨h, rfl, hb⟩ := hv v List.mem_cons_self
    refine ⟨h :: r, by rw [e]; rfl, fun k hk => ?_⟩
    rcases List.mem_cons.mp hk with z | z
    · subst z
      exact hb
    · exact hr k z
theorem any_at (c : Int) : atI ([.int 10, .int 4, .int 10] : List V) (c % 3) = some (.int (anyM c)) := by
  have h : c % 3 = 0 ∨ c % 3 = 1 ∨ c % 3 = 2 := by omega
  unfold anyM
  rcases h with h | h | h <;> rw [h] <;> rfl
theorem long_at (c : Int) : atI ([.int (1 + c / 10 % 9), .int (1 + c / 10 % 40), .int 3] : List V) (c % 3) = some (.int (longI c)) := by
  have h : c % 3 = 0 ∨ c % 3 = 1 ∨ c % 3 = 2 := by omega
  unfold longI
  rcases h with h | h | h <;> rw [h] <;> rfl
theorem cut_from {xs : List V} {b : Int} (h0 : 0 ≤ b) (h1 : b ≤ xs.length) : cutV xs (some b) none = xs.drop b.toNat := by
  obtain ⟨j, rfl⟩ : ∃ j : Nat, b = (j : Int) := ⟨b.toNat, by omega⟩
  have e1 : HT.sIx xs.length 0 (some (j : Int)) = j := by
    rw [HT.sIx_nat]
    omega
  unfold cutV
  rw [e1, HT.sIx_none, Int.toNat_natCast]
  refine List.take_of_length_le ?_
  rw [List.length_drop]
  exact Nat.le_refl _
theorem cut_to {xs : List V} {b : Int} (h0 : 0 ≤ b) (h1 : b ≤ xs.length) : cutV xs none (some b) = xs.take b.toNat := by
  obtain ⟨j, rfl⟩ : ∃ j : Nat, b = (j : Int) := ⟨b.toNat, by omega⟩
  have e1 : HT.sIx xs.length xs.length (some (j : Int)) = j := by
    rw [HT.sIx_nat]
    omega
  unfold cutV
  rw [e1, HT.sIx_none, Int.toNat_natCast]
  rfl
/-! ### the first pair that clashes -/
def landL (r : List Int) (i : Nat) : Int := ((i : Int) + r.getD i 0) % r.length
def oneOf (r : List Int) (o : Nat) : Option Nat := (List.range o).find? fun i => decide (landL r i = landL r o)
def clashL (r : List Int) : Option (Nat × Nat) := (List.range r.length).findSome? fun o => (oneOf r o).map fun i => (i, o)
theorem findSome_at {α : Type} {f : Nat → Option α} : ∀ {n i : Nat} {x : α}, i < n → (∀ j, j < i → f j = none) → f i = some x → (List.range n).findSome? f = some x := by
  intro n
  induction n with
  | zero =>
    intro i x h
    omega
  | succ n ih =>
    intro i x h h1 h2
    rw [List.range_succ, List.findSome?_append]
    by_cases e : i = n
    · subst e
      have z : (List.range i).findSome? f = none := List.findSome?_eq_none_iff.mpr fun j hj => h1 j (List.mem_range.mp hj)
      rw [z]
      simp [h2]
    · rw [ih (i := i) (x := x) (by omega) h1 h2]
      rfl
theorem findSome_none {α : Type} {f : Nat → Option α} {n : Nat} (h : ∀ j, j < n → f j = none) : (List.range n).findSome? f = none :=
  List.findSome?_eq_none_iff.mpr fun j hj => h j (List.mem_range.mp hj)
theorem clash_at {r : List Int} {i j : Nat} (hi : i < r.length) (h1 : ∀ o, o < i → oneOf r o = none) (h2 : oneOf r i = some j) : clashL r = some (j, i) :=
  findSome_at (f := fun o => (oneOf r o).map fun i => (i, o)) hi (fun o ho => by rw [h1 o ho]; rfl) (by rw [h2]; rfl)
theorem clash_none {r : List Int} (h : ∀ o, o < r.length → oneOf r o = none) : clashL r = none :=
  findSome_none (f := fun o => (oneOf r o).map fun i => (i, o)) fun o ho => by rw [h o ho]; rfl
theorem land_iff {r : List Int} {i o : Nat} : ((i : Int) + r.getD i 0 - (o : Int) - r.getD o 0) % r.length = 0 ↔ landL r i = landL r o := by
  unfold landL
  rw [Int.emod_eq_emod_iff_emod_sub_eq_zero, show (i : Int) + r.getD i 0 - (o : Int) - r.getD o 0 = (i : Int) + r.getD i 0 - ((o : Int) + r.getD o 0) by omega]
/-- the list that the law makes at a turn -/
def dueP (r : List Int) (o : Nat) (i : Int) : Bool := decide ((i + r.getD i.toNat 0 - (o : Int) - r.getD o 0) % r.length = 0)
def dueL (r : List Int) (o : Nat) : List Int := (frm 0 o).filter (dueP r o)
theorem due_list (r : List Int) (o : Nat) : dueL r o = ((List.range o).filter fun i => decide (landL r i = landL r o)).map fun (i : Nat) => (i : Int) := by
  unfold dueL frm
  rw [List.filter_map]
  have e : ∀ i : Nat, (dueP r o ∘ fun (i : Nat) => (0 : Int) + (i : Int)) i = decide (landL r i = landL r o) := fun i => by
    show decide (((0 : Int) + (i : Int) + r.getD ((0 : Int) + (i : Int)).toNat 0 - (o : Int) - r.getD o 0) % r.length = 0) = _
    rw [show (0 : Int) + (i : Int) = (i : Int) by omega, Int.toNat_natCast, decide_eq_decide]
    exact land_iff
  rw [List.filter_congr fun i _ => e i]
  exact List.map_congr_left fun i _ => by omega
theorem due_none {r : List Int} {o : Nat} (h : oneOf r o = none) : dueL r o = [] := by
  rw [due_list]
  have z : ((List.range o).filter fun i => decide (landL r i = landL r o)) = [] := by
    rw [List.filter_eq_nil_iff]
    exact List.find?_eq_none.mp h
  rw [z]
  rfl
theorem due_some {r : List Int} {o j : Nat} (h : oneOf r o = some j) : ∃ t, dueL r o = (j : Int) :: t := by
  rw [due_list]
  have z : ((List.range o).filter fun i => decide (landL r i = landL r o)).head? = some j := by
    rw [List.head?_filter]
    exact h
  cases e : (List.range o).filter fun i => decide (landL r i = landL r o) with
  | nil =>
    rw [e] at z
    cases z
  | cons x t =>
    rw [e] at z
    cases z
    exact ⟨_, rfl⟩
end TW
namespace TW
open PySem PySem.Spec PyProof.Rows L2
/-! ### enumerate of a tuple -/
theorem enum_one {v : Value} {o : Obj} {W : Heap → Prop} (B : Begins v o W) :
    Meets (Builtin.«enumerate.__new__» ⟨[.type "enumerate", v], []⟩) (fun _ R t => W t.heap ∧
      R (.ok (.ret (.ref (t.heap.push o).objs.size)))
        { t with heap := (t.heap.push o).push { cls := .type "enumerate", data := .fields #[.none, .bool false, .ref t.heap.objs.size, rawInt 0, .none, .none] } }) := by
  refine .of_wp fun prog w A R t h => ?_
  obtain ⟨hp, g, d, tk, os⟩ := t
  obtain ⟨h1, h2⟩ := h
  have e0 := sub_enumerate
  have it : ∀ {A' : Around} {F : Value → Shared → Prop} {G : Value → Shared → Prop}, G (.ref hp.objs.size) ⟨hp.push o, g, d, tk, os⟩ →
      wpAny (model prog w) A' (pyIter v) G F ⟨hp, g, d, tk, os⟩ := fun q => B.iter prog w _ _ ⟨hp, g, d, tk, os⟩ _ h1 q
  wp_walk using it
  refine wpAny_stack_any fun _ => wpAny_pure ?_
  split
  · rename_i c _ _ _ _ _
    cases c == Value.type "enumerate" <;> (wp_walk using it; exact ⟨_, rfl, h2⟩)
  · wp_walk using it
    exact ⟨_, rfl, h2⟩
section
variable {prog : Program} {w : World} {A : Around} {E : Value → Shared → Prop} {s : Shared}
theorem enum_call {v : Value} {o : Obj} {W : Heap → Prop} {Q : Value → Shared → Prop} (B : Begins v o W) (h1 : W s.heap)
    (h : ∀ h', IsEnum h' (s.heap.objs.size + 1) s.heap.objs.size 0 .none → h'.get? s.heap.objs.size = some o →
      (∀ b u, s.heap.get? b = some u → h'.get? b = some u) → Q (.ref (s.heap.objs.size + 1)) { s with heap := h' }) :
    wpAny (model prog w) A (call (.type "enumerate") [v]) Q E s := by
  refine callType_new F.called_enumerate (by decide) (F.typeCall_enumerate_1 _) (F.newCall_enumerate_1 _)
    (fun x => F.args_object_init_2 x _) F.entry_enumerate_new (enum_one B) ⟨h1, ?_⟩
  show _ ∧ _
  have z : (s.heap.push o).objs.size = s.heap.objs.size + 1 := Heap.size_push ..
  rw [z]
  have at1 := Heap.get?_push_size (s.heap.push o) (o := { cls := .type "enumerate", data := .fields #[.none, .bool false, .ref s.heap.objs.size, rawInt 0, .none, .none] }) rfl
  rw [z] at at1
  exact ⟨⟨_, at1, rfl⟩, h _ at1 (Heap.get?_push_of_some _ (Heap.get?_push_size _ B.free)) fun b u x => Heap.get?_push_of_some _ (Heap.get?_push_of_some _ x)⟩
end
/-- the end of an enumerated tuple -/
theorem enumT_end {prog : Program} {w : World} {A : Around} {E : Value → Shared → Prop} {s : Shared} {e it t : Addr} {i : Int} {j : Nat} {items : Array Value} {old : Value} {Q : Option Value → Shared → Prop} (hh : A.handled = none)
    (he : IsEnum s.heap e it i old) (hit : s.heap.IsTupleIter it t j) (ht : s.heap.IsTuple t items) (hx : items[j]? = none)
    (q : ∀ h', Heap.ExtBut it s.heap h' → Q none { s with heap := h' }) : wpAny (model prog w) A (pyNext (.ref e)) Q E s := by
  have ty : s.TypeIs (.ref e) "enumerate" := ⟨_, he, rfl⟩
  have inner : wpAny (model prog w) A.in1 (Builtin.«enumerate.__next__» ⟨[.ref e], []⟩) (fun _ _ => False)
      (fun u s' => ∃ a h' o, u = .ref a ∧ s' = { s with heap := h' } ∧ Heap.ExtBut it s.heap h' ∧ h'.get? a = some o ∧ o.cls = .type "StopIteration") s := by
    show wpAny _ _ (field (.ref e) 2 >>= _) _ _ _
    refine wpAny_bind (wpAny_field he rfl (x := .ref it) rfl (wpAny_bind ?_))
    refine wpAny_nextOf_tuple_end (A := A.in1) hh hit ht hx fun h' a eb ho => ?_
    obtain ⟨o, ho1, ho2⟩ := ho
    exact ⟨a, h', o, rfl, rfl, eb, ho1, ho2⟩
  unfold pyNext
  refine wpAny_bind (wpAny_attempt ?_)
  refine wpAny_callSpecial?_slot (name := Str.ofString "__next__") ty F.slot_enumerate_next ?_
  refine wpAny_call_entry F.slot_enumerate_next ty F.entry_enumerate_next ?_ (F.args_enumerate_next_1 _)
  refine wpAny_mono inner (fun _ _ z => z.elim) fun u s' z => ?_
  obtain ⟨a, h', o, rfl, rfl, eb, ho, hc⟩ := z
  exact wpAny_bind (wpAny_isInstance (T := "StopIteration") (b := true) ⟨o, ho, hc⟩ isSubtype_stop (wpAny_pure (q _ eb)))
/-- the tuple at a, each item in a new pair behind its number -/
def Itu (K : PySem.W.Frag) (a : Addr) : It where
  go := fun i H => ∃ (xs : List V) (x : V), SqT K H a xs ∧ xs[i]? = some x
  yld := fun i H v H' => ∃ T x, v = .ref T ∧ H T = none ∧ H' = upd H T (.tup [.int (i : Nat), x]) ∧ ∀ xs, SqT K H a xs → xs[i]? = some x
  stop := fun i H => ∃ xs : List V, SqT K H a xs ∧ xs.length ≤ i
theorem turn_itu {P : Program} {w : World} {K : PySem.W.Frag} {elts : List Expr} {kk : Nat} {tpos : Pos} (a e it : Addr) :
    Turn P w K (.Tuple elts kk tpos) (Itu K a) [e, it] e (fun i h => (∃ old, IsEnum h e it ((i : Nat) : Int) old) ∧ h.IsTupleIter it a i ∧ e ≠ it) where
  mem := List.mem_cons_self
  obj := by
    rintro i h ⟨⟨old, he⟩, ⟨o, ho, hc, hd⟩, _⟩ b hb
    rcases List.mem_cons.mp hb with z | z
    · subst z
      exact ⟨_, he, fun v q => nomatch q⟩
    · have z' := List.mem_singleton.mp z
      subst z'
      refine ⟨o, ho, fun v q => ?_⟩
      rw [hd] at q
      cases q
  keep := by
    rintro i h h' ⟨⟨old, he⟩, hi, hne⟩ k
    exact ⟨⟨old, k e List.mem_cons_self _ he⟩, hi.at fun o q => k it (by simp) o q, hne⟩
  item := by
    rintro X rfl rfl rfl hcalm i pins s σ H E I hf ⟨⟨old, he⟩, hit, hne⟩ ⟨xs, x, hq, hx⟩
    obtain ⟨its, rv, p, hz⟩ := I.tuple hq
    obtain ⟨u, hu, ru⟩ := rv.get hx
    have el : e < s.heap.objs.size := Heap.lt_size he
    have il : it < s.heap.objs.size := by
      obtain ⟨_, q, _⟩ := hit
      exact Heap.lt_size q
    have ai : a ≠ it := fun z => by
      obtain ⟨o1, q1, c1, n1, d1⟩ := p
      obtain ⟨o2, q2, c2, d2⟩ := hit
      rw [z, q2] at q1
      cases q1
      rw [d2] at d1
      cases d1
    have ae : e ≠ a := fun z => by
      obtain ⟨o1, q1, c1, n1, d1⟩ := p
      have q2 := he
      unfold IsEnum at q2
      rw [z, q1] at q2
      cases q2
      cases d1
    have D := Draws.tuple (prog := X.prog) (w := X.w) (A := X.A.in1) (I.ok.hd hcalm) it a ai its.toArray
    have lt : i < its.toArray.size := by
      rw [List.size_toArray, ← rv.length]
      exact (List.getElem?_eq_some_iff.mp hx).1
    refine wpAny_pyNext_enum_itemC D he ⟨hit, p⟩ lt hne (by simp [hne, ae]) fun y h' tk hy ho hst hT hsz hk => ?_
    have ey : y = u := by
      have q : its[i]? = some y := by simpa using hy
      exact Option.some.inj (q.symm.trans hu)
    subst ey
    refine ⟨_, rfl, wpAny_letOwnedTupleGo_enum (s := { s with heap := h', toks := tk + 1 }) ho fun h'' he' sb => ?_⟩
    have hT2 : h''.get? s.heap.objs.size = some { cls := .type "tuple", data := .seq #[.int i tk, y] } := (sb.2 _ (Nat.ne_of_gt el)).trans hT
    have new : ObjOk X.prog X.w (upd H s.heap.objs.size (.tup [.int (i : Nat), x])) h'' s.heap.objs.size (.tup [.int (i : Nat), x]) :=
      ⟨by show 2 ≤ sizeLine; decide, [.int i tk, y], .cons ⟨_, rfl⟩ (.cons ru .nil), ⟨_, hT2, rfl, _, rfl⟩⟩
    have I1 : Inv X pins σ (upd H s.heap.objs.size (.tup [.int (i : Nat), x])) { s with heap := h'', toks := tk + 1 } := by
      refine I.turnedNew (ch := [e, it]) (fun b ob hb q => ?_) hf (Nat.le_refl _) new
      have n1 : b ≠ e := fun z => hb (by simp [z])
      have n2 : b ≠ it := fun z => hb (by simp [z])
      exact (sb.2 b n1).trans (hk b ob n1 n2 q)
    refine ⟨.ref s.heap.objs.size, _, I1, rfl, ⟨_, x, rfl, I.hok.fresh (Nat.le_refl _), rfl, fun ys hy2 => ?_⟩, ⟨⟨y, ?_⟩, ?_, hne⟩, fun b hb => ?_⟩
    · rw [I.tuple_inj hy2 hq]
      exact hx
    · have q : ((i + 1 : Nat) : Int) = (i : Int) + 1 := by omega
      rw [q]
      exact he'
    · exact hst.1.at fun o q => (sb.2 it (Ne.symm hne)).trans q
    · have lb : b < s.heap.objs.size := by
        rcases List.mem_cons.mp hb with z | z
        · exact z ▸ el
        · exact (List.mem_singleton.mp z) ▸ il
      rw [upd_ne (Nat.ne_of_lt lb)]
      exact (hf b hb).1
  done := by
    rintro X rfl rfl rfl hcalm i pins s σ H E I hf ⟨⟨old, he⟩, hit, hne⟩ ⟨xs, hq, hx⟩
    obtain ⟨its, rv, p, hz⟩ := I.tuple hq
    have ai : a ≠ it := fun z => by
      obtain ⟨o1, q1, c1, n1, d1⟩ := p
      obtain ⟨o2, q2, c2, d2⟩ := hit
      rw [z, q2] at q1
      cases q1
      rw [d2] at d1
      cases d1
    obtain ⟨f0, f1, f2, f3, f4, f5⟩ := hf it (by simp)
    have hl := rv.length
    have none : its.toArray[i]? = Option.none := by
      rw [Array.getElem?_eq_none_iff, List.size_toArray]
      omega
    exact enumT_end (A := X.A) (I.ok.hd hcalm) he hit p none fun h' eb => ⟨rfl, I.turned (t' := s.toks) (fun b o hb q => eb b o hb q) f0 f1 f3 f4 f5⟩
  self := fun A i s Q E st h => wpAny_pyIter_enum st.1.choose_spec h
/-- enumerate of a list or of a tuple -/
def iEnumA (K : PySem.W.Frag) (ta : TA) : TI := fun σ H R => ta σ H fun vs H1 => (∃ a xs, vs = [.ref a] ∧ SqL K H1 a xs ∧ R (Ite K a) H1) ∨ (∃ a xs, vs = [.ref a] ∧ SqT K H1 a xs ∧ R (Itu K a) H1)
theorem pi_enumT {X : Cx} {e : Expr} {ta : TA} {p pos tpos : Pos} {elts : List Expr} {kk : Nat} (hg : Gl X "enumerate") (hm : X.mg "enumerate" = none) (ha : PA X [e] ta) (hs : starEach [e] X.env = [(false, eval e X.env)] := by rfl) :
    PI X (.Tuple elts kk tpos) (.Call (.Name "enumerate" p) [e] [] pos) (iEnumA X.K ta) := by
  constructor
  intro pins s σ H R I h
  refine Call_ (ld_blt I hg hm boot_enumerate (PyProof.Rows.callWith_type1 (thn (ha.run pos pins s σ H _ I h) fun us s1 hq => ?_) hs rfl))
  obtain ⟨vs, H1, I1, r1, hq⟩ := hq
  have new : ∀ {h' : Heap} {J : It} {tn : Nat → Heap → Prop}, (∀ b o, s1.heap.get? b = some o → h'.get? b = some o) → tn 0 h' → R J H1 →
      Turn X.prog X.w X.K (.Tuple elts kk tpos) J [s1.heap.objs.size + 1, s1.heap.objs.size] (s1.heap.objs.size + 1) tn →
      PIE X pins σ (.Tuple elts kk tpos) R (.ref (s1.heap.objs.size + 1)) { s1 with heap := h' } := by
    intro h' J tn hk ht hR T
    refine ⟨s1.heap.objs.size + 1, _, tn, J, H1, rfl, I1.kept (t' := s1.toks) hk, T, ht, fun b hb => ?_, hR⟩
    have hle : s1.heap.objs.size ≤ b := by
      rcases List.mem_cons.mp hb with z | z
      · rw [z]
        exact Nat.le_add_right _ _
      · rw [List.mem_singleton.mp z]
        exact Nat.le_refl _
    exact I1.fpOk hle (I1.hok.fresh hle)
  rcases hq with ⟨a, xs, rfl, hl, hR⟩ | ⟨a, xs, rfl, hl, hR⟩
  · rw [Vals.ref1 r1]
    obtain ⟨its, rv, p', hz⟩ := I1.list hl
    refine call_enumerate_list p'.isList fun h' he hit hsz hk => wpAny_pyIter_enum he ?_
    exact new hk ⟨⟨_, he⟩, hit, Nat.succ_ne_self _⟩ hR (turn_enum a _ _)
  · rw [Vals.ref1 r1]
    obtain ⟨its, rv, p', hz⟩ := I1.tuple hl
    refine enum_call (begins_tuple a its.toArray) p' fun h' he hit hk => wpAny_pyIter_enum he ?_
    exact new hk ⟨⟨_, he⟩, ⟨_, hit, rfl, rfl⟩, Nat.succ_ne_self _⟩ hR (turn_itu a _ _)
/-- a list or a tuple, walked -/
def iSeq (K : PySem.W.Frag) (tl : TE) : TI := fun σ H R => tl σ H fun x H1 => (∃ a xs, x = .ref a ∧ SqL K H1 a xs ∧ R (Itl K a) H1) ∨ (∃ a xs, x = .ref a ∧ SqT K H1 a xs ∧ R (Itt K a) H1)
theorem pi_seq {X : Cx} {tg l : Expr} {tl : TE} (hl : PE X l tl) : PI X tg l (iSeq X.K tl) := by
  constructor
  intro pins s σ H R I h
  refine thn (hl.run pins s σ H _ I h) fun v s1 hq => ?_
  obtain ⟨x, H1, I1, r1, hq⟩ := hq
  have old : ∀ {b : Addr} {o : Obj} {n : Obj}, s1.heap.get? b = some o → (s1.heap.push n).get? b = some o := fun e => Heap.get?_push_of_some _ e
  have one : ∀ b ∈ [s1.heap.objs.size], FpOk X pins H1 b := fun b hb => by
    rw [List.mem_singleton.mp hb]
    exact I1.fpOk (Nat.le_refl _) (I1.hok.fresh (Nat.le_refl _))
  rcases hq with ⟨a, xs, rfl, hs, hR⟩ | ⟨a, xs, rfl, hs, hR⟩
  · have e1 : v = .ref a := r1
    subst e1
    obtain ⟨its, rv, p, hz⟩ := I1.list hs
    refine wpAny_pyIter_list p.isList ?_
    exact ⟨_, _, _, _, H1, rfl, I1.kept (t' := s1.toks) fun b o e => old e, turn_list a _, ⟨_, Heap.get?_push_size _ rfl, rfl, rfl⟩, one, hR⟩
  · have e1 : v = .ref a := r1
    subst e1
    obtain ⟨its, rv, p, hz⟩ := I1.tuple hs
    refine wpAny_pyIter_tuple (show s1.heap.IsTuple a its.toArray from p) ?_
    exact ⟨_, _, _, _, H1, rfl, I1.kept (t' := s1.toks) fun b o e => old e, turn_tuple a _, ⟨_, Heap.get?_push_size _ rfl, rfl, rfl⟩, one, hR⟩
section
variable {K : PySem.W.Frag} {σ : L2.St} {H : Hp} {tl : TE} {ta : TA} {R : It → Hp → Prop} {a : Addr} {xs : List V}
theorem w_iseq (h : tl σ H fun x H1 => (∃ a xs, x = .ref a ∧ SqL K H1 a xs ∧ R (Itl K a) H1) ∨ (∃ a xs, x = .ref a ∧ SqT K H1 a xs ∧ R (Itt K a) H1)) : iSeq K tl σ H R := h
theorem w_enumA (h : ta σ H fun vs H1 => (∃ a xs, vs = [.ref a] ∧ SqL K H1 a xs ∧ R (Ite K a) H1) ∨ (∃ a xs, vs = [.ref a] ∧ SqT K H1 a xs ∧ R (Itu K a) H1)) : iEnumA K ta σ H R := h
theorem for_enumT {g : TG} {tb : TS} {nx : L2.St → Hp → Prop} {rt : VK} {H : Hp} (Pv : Nat → L2.St → Hp → Prop) (h0 : Pv 0 σ H) (hl : ∀ i σ H, i ≤ xs.length → Pv i σ H → SqT K H a xs)
    (hs : ∀ i x σ H T, xs[i]? = some x → Pv i σ H → H T = none → g (.ref T) σ (upd H T (.tup [.int (i : Nat), x])) fun σ2 H2 => tb ⟨Pv (i + 1), rt, nx, Pv (i + 1)⟩ σ2 H2) (hd : ∀ σ H, Pv xs.length σ H → nx σ H) :
    ∃ W : Nat → Nat → L2.St → Hp → Prop, (∃ m, W 0 m σ H) ∧ ∀ i m σ H, W i m σ H →
      ((Itu K a).stop i H ∧ nx σ H) ∨ ((Itu K a).go i H ∧ ∃ N : L2.St → Hp → Prop, (∀ σ' H', N σ' H' → ∃ m', m' < m ∧ W (i + 1) m' σ' H') ∧ ∀ x H', (Itu K a).yld i H x H' → g x σ H' fun σ2 H2 => tb ⟨N, rt, nx, N⟩ σ2 H2) := by
  refine ⟨fun i m σ H => m = xs.length - i ∧ i ≤ xs.length ∧ Pv i σ H, ⟨xs.length, by simp, Nat.zero_le _, h0⟩, ?_⟩
  rintro i m σ H ⟨rfl, hi, p⟩
  have q := hl i σ H hi p
  by_cases hlt : i < xs.length
  · refine .inr ⟨⟨xs, xs[i], q, by simp [hlt]⟩, Pv (i + 1), fun σ' H' p' => ⟨xs.length - (i + 1), by omega, rfl, hlt, p'⟩, ?_⟩
    rintro v H' ⟨T, x, rfl, hT, rfl, hx⟩
    exact hs i x σ H T (hx xs q) p hT
  · have e : i = xs.length := by omega
    subst e
    exact .inl ⟨⟨xs, q, Nat.le_refl _⟩, hd σ H p⟩
end
theorem w_gname {i : Nat} {x : V} {σ : L2.St} {H : Hp} {Q : L2.St → Hp → Prop} (h : Q (σ.set i (some x)) H) : gName i x σ H Q := h
theorem w_par {i j : Nat} {ta : TA} {nx bk ct : L2.St → Hp → Prop} {rt : VK} {σ : L2.St} {H : Hp} (h : ta σ H fun vs H1 => ∃ v w, vs = [v, w] ∧ nx ((σ.set i (some v)).set j (some w)) H1) : tPar i j ta ⟨nx, rt, bk, ct⟩ σ H := h
theorem w_exvw {v w : V} {P : V → V → Prop} (h : P v w) : ∃ v' w', [v, w] = [v', w'] ∧ P v' w' := ⟨v, w, rfl, h⟩
/-! ### dicts -/
section
variable {σ : L2.St} {H : Hp} {Q : VK} {td ty tv : TE} {nx bk ct : L2.St → Hp → Prop} {rt : VK}
theorem w_dnew (h : ∀ p, H p = none → Q (.ref p) (upd H p (.dK []))) : tDNewK σ H Q := h
theorem w_din (h : ty σ H fun y H1 => td σ H1 fun x H2 => ∃ a o, x = .ref a ∧ DGet H2 a y o ∧ Q (.bl o.isSome) H2) : tDIn ty td σ H Q := h
theorem w_dnotin (h : ty σ H fun y H1 => td σ H1 fun x H2 => ∃ a o, x = .ref a ∧ DGet H2 a y o ∧ Q (.bl (!o.isSome)) H2) : tDNotIn ty td σ H Q := h
theorem w_dget (h : td σ H fun x H1 => ty σ H1 fun y H2 => ∃ a v, x = .ref a ∧ DGet H2 a y (some v) ∧ Q v H2) : tDGet td ty σ H Q := h
theorem w_dput (h : tv σ H fun v H1 => td σ H1 fun x H2 => ty σ H2 fun y H3 => ∃ a H4, x = .ref a ∧ DPut H3 a y v H4 ∧ nx σ H4) : sDPut td ty tv ⟨nx, rt, bk, ct⟩ σ H := h
end
/-! ### try .. except X: suite, all errors of the body being X -/
def tOnly (K : PySem.W.Frag) (c : Value) (tb : WX → TS) (ts : Addr → Value → Option Addr → TS) : TS := fun D σ H => tb (wOnly K c ts (fun _ _ _ _ => False) D) D σ H
theorem ps_only {X : Cx} {x : Str} {c : Value} {body suite : List Stmt} {b0 : Stmt} {np pos pos' : Pos} {tb : WX → TS} {ts : Addr → Value → Option Addr → TS} (hs : X.stack = X.env :: X.outer) (hf : X.env.frame = some X.env.locals) (hc : Names X x c)
    (hb : ∀ (W : WX) (pn : List (Addr × Obj)) (xe : Value → Shared → Prop), Takes (X.tr pn xe) W → PSs (X.tr pn xe) body (tb W))
    (hsu : ∀ (a : Addr) (oe : Obj) (cls : Value) (d : Option Addr) (pn : List (Addr × Obj)), Zc cls d oe → (∃ vs, oe.data = .fields vs) → PSs (X.suite a ((a, oe) :: pn)) (b0 :: suite) (ts a cls d)) :
    PS X (.Try body [.ExceptHandler (some (.Name x np)) none (b0 :: suite) pos'] [] [] pos) (tOnly X.K c tb ts) := ps_try_only hs hf hc takes0 (fun W pn xe tk _ => hb W pn xe tk) hsu
theorem w_only {K : PySem.W.Frag} {c : Value} {tb : WX → TS} {ts : Addr → Value → Option Addr → TS} {nx bk ct : L2.St → Hp → Prop} {rt : VK} {σ : L2.St} {H : Hp} (h : tb (wOnly K c ts (fun _ _ _ _ => False) ⟨nx, rt, bk, ct⟩) ⟨nx, rt, bk, ct⟩ σ H) : tOnly K c tb ts ⟨nx, rt, bk, ct⟩ σ H := h
/-- tuple(xs) -/
def rTupA (K : PySem.W.Frag) : List V → Hp → VK → Prop := fun xs H Q => ∃ p ys, xs = [.ref p] ∧ ((SqL K H p ys ∧ ∀ l, H l = none → Q (.ref l) (upd H l (.tup ys))) ∨ (SqT K H p ys ∧ Q (.ref p) H))
theorem call_tupK {X : Cx} (K : PySem.W.Frag) (h : X.K = K := by rfl) : CallR X (.type "tuple") (rTupA K) := h ▸ call_tuple_of
section
variable {K : PySem.W.Frag} {H : Hp} {Q : VK} {a b : Addr} {xs : List V} {i j : Int} {x : V}
theorem w_tupL (hs : SqL K H a xs) (h : ∀ l, H l = none → Q (.ref l) (upd H l (.tup xs))) : rTupA K [.ref a] H Q := ⟨a, xs, rfl, .inl ⟨hs, h⟩⟩
theorem dp_pair (h : SqT K H a [.int i, .int j]) : Dp K H (.ref a) (.tuple [.int i, .int j]) := .tup h (.cons (.int i) (.cons (.int j) .nil))
theorem sh_pair : SeqAt.shaped (.tuple [.int i, .int j]) = true := by
  simp [SeqAt.shaped, PyData.canLay0, PyData.canLayAll0, PyData.depth, PyData.depthAll]
theorem w_neAT2 (h1 : SqT K H a [.int i, .int j]) (h2 : SqT K H b [.int i, .int j]) (h : Q (.bl false) H) : rNeA K (.ref a) (.ref b) H Q := by
  refine .inr (w_neD (dp_pair h1) (dp_pair h2) sh_pair sh_pair ?_)
  have e : PyData.eqv (.tuple [.int i, .int j]) (.tuple [.int i, .int j]) = true := by
    simp [PyData.eqv, PyData.eqvAll]
  rw [e]
  exact h
theorem w_notN {P : Prop} (h : P) : V.non = V.non ∧ P := ⟨rfl, h⟩
end
end TW
namespace TW
open PySem PySem.Spec PyProof.Rows L2
/-! what may be handed in: described, and compared -/
section
variable {K : PySem.W.Frag} {H H' : Hp}
mutual
theorem Dp.same (e : Same H H') : ∀ (d : PyData) (v : V), Dp K H v d → Dp K H' v d
  | .none, _, h => by
    cases h
    exact .non
  | .bool b, _, h => by
    cases h
    exact .bl b
  | .int i, _, h => by
    cases h
    exact .int i
  | .str x, _, h => by
    cases h
    exact .str x
  | .list ds, _, h => by
    cases h with
    | lst h1 h2 => exact .lst (e.seq h1) (Dp.sameAll e ds _ h2)
  | .tuple ds, _, h => by
    cases h with
    | tup h1 h2 => exact .tup (sts e h1) (Dp.sameAll e ds _ h2)
  | .dict _, _, h => nomatch h
theorem Dp.sameAll (e : Same H H') : ∀ (ds : List PyData) (vs : List V), DpAll K H vs ds → DpAll K H' vs ds
  | [], _, h => by
    cases h
    exact .nil
  | d :: ds, _, h => by
    cases h with
    | cons h1 h2 => exact .cons (Dp.same e d _ h1) (Dp.sameAll e ds _ h2)
end
theorem dpa_ints : ∀ r : List Int, DpAll K H (r.map V.int) (r.map PyData.int)
  | [] => .nil
  | h :: r => .cons (.int h) (dpa_ints r)
theorem dp_set {vs : List V} {ds : List PyData} {v : V} {d : PyData} (h : DpAll K H vs ds) (hv : Dp K H v d) : ∀ i, DpAll K H (vs.set i v) (ds.set i d) := by
  induction vs generalizing ds with
  | nil =>
    intro i
    cases h
    exact .nil
  | cons w vs ih =>
    intro i
    cases h with
    | cons h1 h2 =>
      cases i with
      | zero => exact .cons hv h2
      | succ i => exact .cons h1 (ih h2 i)
/-- of small nesting -/
def Low (d : PyData) : Prop := d.canLay0 = true ∧ d.depth ≤ 2
theorem low_all : ∀ {ds : List PyData}, (∀ d ∈ ds, Low d) → PyData.canLayAll0 ds = true ∧ PyData.depthAll ds ≤ 2
  | [], _ => ⟨by simp [PyData.canLayAll0], by simp [PyData.depthAll]⟩
  | d :: ds, h => by
    have h1 := h d (List.mem_cons_self)
    have h2 := low_all (ds := ds) fun x hx => h x (List.mem_cons_of_mem _ hx)
    constructor
    · simp only [PyData.canLayAll0, h1.1, h2.1, Bool.and_self]
    · simp only [PyData.depthAll]
      exact Nat.max_le.mpr ⟨h1.2, h2.2⟩
theorem low_int (i : Int) : Low (.int i) := ⟨by simp [PyData.canLay0], by simp [PyData.depth]⟩
theorem low_ints (r : List Int) : ∀ d ∈ r.map PyData.int, Low d := fun d h => by
  obtain ⟨i, _, rfl⟩ := List.mem_map.mp h
  exact low_int i
theorem shape_list {ds : List PyData} (h : ∀ d ∈ ds, Low d) : SeqAt.shaped (.list ds) = true := by
  obtain ⟨h1, h2⟩ := low_all h
  unfold SeqAt.shaped
  rw [Bool.and_eq_true]
  refine ⟨by simpa only [PyData.canLay0] using h1, decide_eq_true ?_⟩
  simp only [PyData.depth]
  omega
theorem shape_tup {ds : List PyData} (h : ∀ d ∈ ds, Low d) : SeqAt.shaped (.tuple ds) = true := by
  obtain ⟨h1, h2⟩ := low_all h
  unfold SeqAt.shaped
  rw [Bool.and_eq_true]
  refine ⟨by simpa only [PyData.canLay0] using h1, decide_eq_true ?_⟩
  simp only [PyData.depth]
  omega
theorem mem_set' {α : Type} {l : List α} {i : Nat} {x h : α} (hh : h ∈ l.set i x) : h = x ∨ h ∈ l := by
  rcases List.mem_or_eq_of_mem_set hh with e | e
  · exact .inr e
  · exact .inl e
/-- a thing: described, or the one dict -/
inductive Td
  | deep (d : PyData)
  | dict
def IsTd (K : PySem.W.Frag) (H : Hp) (x : V) : Td → Prop
  | .deep d => Dp K H x d ∧ SeqAt.shaped d = true
  | .dict => ∃ a, x = .ref a ∧ H a = some (.dK [(.inl 4, .int 4)])
theorem IsTd.same (e : Same H H') {x : V} : ∀ {t : Td}, IsTd K H x t → IsTd K H' x t
  | .deep d, h => ⟨Dp.same e d x h.1, h.2⟩
  | .dict, ⟨a, e1, e2⟩ => ⟨a, e1, e _ _ e2⟩
def rNeB (K : PySem.W.Frag) : R2 := fun x y H Q => rNeA K x y H Q ∨ rNeDA x y H Q
theorem op_neB {X : Cx} (K : PySem.W.Frag) (hu : X.A.units + 64 < cLine) (h : X.K = K := by rfl) : OpR X (compareOp .NotEq) (rNeB K) := h ▸ (op_neA hu).or (op_ne_dictA (by omega))
theorem w_neTd {x y : V} {t : Td} {Q : VK} (h1 : IsTd K H x t) (h2 : IsTd K H y t) (h : Q (.bl false) H) : rNeB K x y H Q := by
  cases t with
  | deep d =>
    refine .inl (.inr ⟨d, d, h1.1, h2.1, h1.2, h1.2, ?_⟩)
    rw [SeqAt.eqv_refl d (SeqAt.canLay_of_shaped h1.2)]
    exact h
  | dict =>
    obtain ⟨a, rfl, ha⟩ := h1
    obtain ⟨b, rfl, hb⟩ := h2
    refine .inr ⟨a, b, _, _, rfl, rfl, ha, hb, rfl, fun p hp => ?_, h⟩
    obtain rfl : p = (.inl 4, .int 4) := by simpa using hp
    exact ⟨rfl, rfl⟩
theorem w_neBS {x y : V} {Q : VK} (hs : scal x y = true) (h : Q (.bl (!decide (x = y))) H) : rNeB K x y H Q := .inl (w_neAS hs h)
/-- {4: 4} -/
theorem w_disp1 {m n : Int} {σ : L2.St} {Q : VK} (h : ∀ p, H p = none → Q (.ref p) (upd H p (.dK [(.inl m, .int n)]))) : tDisp [(tC (.int m), tC (.int n))] σ H Q := fun p hp => by
  refine ⟨upd_same, [(.inl m, .int n)], rfl, (show 1 ≤ 15 by decide), ?_⟩
  rw [upd_upd]
  exact h p hp
/-- times, for tuples too -/
def rMulB (K : PySem.W.Frag) : R2 := fun x y H Q => rMulA x y H Q ∨ rRepT K x y H Q
theorem op_mulB {X : Cx} (K : PySem.W.Frag) (h : X.K = K := by rfl) : OpR X (binaryOp .Mult) (rMulB K) := h ▸ op_mulA.or op_repT
theorem w_mulBT {a : Addr} {xs : List V} {n : Int} {Q : VK} (hT : SqT K H a xs) (hx : xs ≠ []) (h1 : 2 ≤ n) (h2 : n ≤ 1000) (hz : xs.length ≤ 1000) (h : ∀ p, H p = none → Q (.ref p) (upd H p (.tup (List.replicate n.toNat xs).flatten))) : rMulB K (.ref a) (.int n) H Q :=
  .inr ⟨a, n, xs, rfl, rfl, hT, hx, h1, h2, hz, h⟩
theorem kit_none {C : Value} : ∀ {us : List Value}, (∀ u ∈ us, PySem.W.kitOne K C u = some false) → PySem.W.kitAny K C us = some false
  | [], _ => kitAny_nil
  | u :: us, h => kitAny_cons (h u List.mem_cons_self) (fun _ => kit_none fun x hx => h x (List.mem_cons_of_mem _ hx)) (fun e => nomatch e)
/-- isinstance(kept error, some classes), of which it is none -/
theorem w_isKN {C a b : Addr} {xs : List V} {us : List Value} {Q : VK} (ha : H a = some (ExK (.ref C) none a)) (T : ExcC K C) (hT : H b = some (.tup xs)) (c : Paired ClsV xs us) (hk : ∀ u ∈ us, PySem.W.kitOne K (.ref C) u = some false) (h : Q (.bl false) H) : rIsA K [.ref a, .ref b] H Q :=
  .inr (.inr (.inr ⟨a, C, b, _, _, _, rfl, ha, T, hT, c, kit_none hk, h⟩))
/-- what stands at a place of two lists alike -/
theorem pick2 {α : Type} {R : V → α → Prop} : ∀ {xs : List V} {ds : List α} {k : Nat} (d0 : α), Paired R xs ds → k < xs.length → ∃ v, atI xs (k : Int) = some v ∧ R v (ds.getD k d0) := by
  intro xs ds k d0 h
  induction h generalizing k with
  | nil => intro hk; exact absurd hk (Nat.not_lt_zero _)
  | @cons x d xs ds h t ih =>
    intro hk
    cases k with
    | zero => exact ⟨x, atI_nat (j := 0) rfl, h⟩
    | succ k =>
      obtain ⟨v, e, r⟩ := ih (k := k) (Nat.lt_of_succ_lt_succ hk)
      refine ⟨v, ?_, r⟩
      obtain ⟨hk2⟩ : k < xs.length ∧ True := ⟨Nat.lt_of_succ_lt_succ hk, trivial⟩
      rw [atI_nat (List.getElem?_eq_getElem hk2)] at e
      cases e
      exact atI_nat (by rw [List.getElem?_cons_succ]; exact List.getElem?_eq_getElem hk2)
end
end TW
namespace TW
open PySem PySem.Spec PyProof.Rows L2 NdefX
/-! an own exception whose __init__ says super().__init__(e) first, then keeps fields -/
/-- what the written part says of such a class C, its __init__ at f -/
structure SupC (prog : Program) (K : PySem.W.Frag) (f cda cc C : Addr) (qual : Str) (st : Stmt) : Prop where
  fn : ∃ (oc : Value) (od : Option Addr) (kV doc pm : Value) (an : Option Addr) (ct : Value) (osl : Array (Option Value)), K.lookup f = some ⟨oc, od, .func (PySem.W.fnX "__init__" qual (defArgs st) (defBody st) (defScope st) [("__class__", cc)] .none kV doc pm an (.ref cda) ct), osl⟩
  code : PySem.W.codeIn K (.ref cda) qual = true
  cda : ∃ (ccl : Value) (cdd : Option Addr) (vs : Array Value) (ccs : Array (Option Value)) (file : Str) (tf : Tok), K.lookup cda = some ⟨ccl, cdd, .fields vs, ccs⟩ ∧ vs[2]? = some (.str file tf) ∧ ((prog.main.file : Str) == file) = true
  cell : ∃ (cl : Value) (cld : Option Addr) (csl : Array (Option Value)), K.lookup cc = some ⟨cl, cld, .cell (some (.ref C)), csl⟩
  sup : PySem.W.ks_superIn K C C "__init__" = some (some (.builtin "ValueError.__init__"))
  mro : PySem.W.mroIn K C (.ref C) = some true
  ve : PySem.W.subIn K (.ref C) (.type "ValueError") = some true
  nop : PySem.W.nsIn K PySem.cStatics "thirdparty.any" = some none
section
variable {X : Cx} {pins : List (Addr × Obj)} {σ : L2.St} {H : Hp} {s : Shared} {a C u : Addr} {us : List Value} {E : Value → Shared → Prop} {A : Around}
/-- the bound ValueError.__init__ called: nothing of it is told -/
theorem mw_call {Q : Value → Shared → Prop} (T : OexC X.K C) (I : Inv X pins σ H s) (e : H a = some (exo a C none)) (hu : s.heap.get? u = some (PySem.W.kxs_mw "ValueError.__init__" a)) (hl : us.length ≤ sizeLine) (h : ∀ s', Inv X pins σ H s' → Q .none s') :
    wpAny (model X.prog X.w) A (call (.ref u) us) Q E s := by
  obtain ⟨nm, q, N, bs, bm, sn, sub, ab, col, dd, k0, k1, k2, k3, k5, hC, hbm⟩ := T.cls
  obtain ⟨t1, ho⟩ := exo_at I.hok e
  obtain ⟨hp, g, d, t, os⟩ := s
  refine wpAny_call (codeAny_of_tree ?_)
  show wpAny _ A.in1 (callAny (.ref u) ⟨us, []⟩) _ _ _
  simp only [callAny]
  refine wpAny_bind (wpAny_load hu ?_)
  simp only [PySem.W.kxs_mw, show (Value.type "method-wrapper" == Value.type "method" || Value.type "method-wrapper" == Value.type "builtin_function_or_method" || Value.type "method-wrapper" == Value.type "method-wrapper") = true by decide, if_true]
  refine PySem.W.KFB.if_so (by decide) ?_
  refine wpAny_bind (PySem.W.check_bound_init F.excBase_ValueError.toExcCallFacts (I.kIn _ _ hC) ho rfl ?_)
  refine wpAny_bind (wpAny_pure (wpAny_pure ?_))
  refine ⟨plainId_quiet F.excBase_ValueError.init.plain _, codeAny_builtin F.excBase_ValueError.initEntry ?_⟩
  refine PySem.W.exc_init_tree (cls := .ref C) (t0 := t1) (dv := none) (c2 := .none) (c3 := .none) (b4 := .bool false) ho hl fun h' k hx _ => ?_
  have J := I.write (t' := t) (x := a) (e := a) (o := exo a C none) (by rw [e]; exact True.intro) (.inl rfl) k ⟨_, hx⟩ (exo_ok hx)
  have eu : upd H a (exo a C none) = H := by
    funext b
    by_cases hb : b = a
    · rw [hb, upd_same, e]
    · rw [upd_ne hb]
  rw [eu] at J
  exact h _ J
/-- the first statement, and the others behind it -/
theorem sup_body {f cda cc L : Addr} {qual : Str} {st : Stmt} {ar : Arg} {e : Expr} {es : List Expr} {rest body : List Stmt} {p0 p1 p2 pos pos2 : Pos} {ta : TA} {tr : TS} {D : Ends}
    (S : SupC X.prog X.K f cda cc C qual st) (T : OexC X.K C) (hE : X.env = PySem.W.envX qual (defScope st) L f (.ref cda) [("__class__", cc)]) (hps : ((defArgs st).posonlyargs ++ (defArgs st).args).head? = some ar) (hN : X.N[0]? = some ar.arg)
    (hks : (defScope st).names.lookup ("super" : Str) = some .globalImplicit) (hkc : (defScope st).names.lookup ("__class__" : Str) = some .free) (hka : (defScope st).names.lookup ar.arg = some .local)
    (htop : (X.prog.main.scope.names.lookup ("super" : Str)).isSome = false) (hsup : X.mg "super" = none) (ha : PA X (e :: es) ta) (hr : PSs X rest tr)
    (hs2 : swapsWith (.Call (.Attribute (.Call (.Name "super" p0) [] [] p1) "__init__" p2) (e :: es) [] pos) none pos2.line X.env = pure false)
    (hsE : starEach (e :: es) X.env = (false, eval e X.env) :: starEach es X.env) (hpl : (backTo pos (starEach es X.env)).any (·.1) = false)
    (hev : ∃ pl : Sem Bool, eval (.Call (.Attribute (.Call (.Name "super" p0) [] [] p1) "__init__" p2) (e :: es) [] pos) X.env = (do
      let ov ← attributeBase (.Call (.Name "super" p0) [] [] p1) "__init__" X.env (eval (.Call (.Name "super" p0) [] [] p1) X.env)
      standAt p2.atName
      let (f, first) ← holding [ov] (getMethod ov "__init__" pl)
      callWith pos f first (backTo pos (starEach (e :: es) X.env)) []))
    (I : Inv X [] σ H s) (h0 : σ[0]? = some (some (.ref a))) (hH : H a = some (exo a C none)) (hq : ta σ H fun vs H1 => vs.length ≤ 1000 ∧ H1 a = some (exo a C none) ∧ tr D σ H1) :
    _root_.PySem.wpAt (model X.prog X.w) X.A (.func body X.env) (execs (.Expr (.Call (.Attribute (.Call (.Name "super" p0) [] [] p1) "__init__" p2) (e :: es) [] pos) pos2 :: rest) X.env) (SP X [] D) X.xe s := by
  obtain ⟨pl, hev⟩ := hev
  obtain ⟨oc, od, kV, doc, pm, an, ct, osl, lf⟩ := S.fn
  obtain ⟨ccl, cdd, vs0, ccs, file, tf, lcd, hv2, hfile⟩ := S.cda
  obtain ⟨cl, cld, csl, lcc⟩ := S.cell
  obtain ⟨nm, q, N, bs, bm, sn, sub, ab, col, dd, k0, k1, k2, k3, k5, hC, hbm⟩ := T.cls
  have KX := I.kIn
  have gf : X.env.func = some f := by rw [hE]
  have gs : X.env.kindOf "super" = some .globalImplicit := by rw [hE]; exact hks
  have gc : X.env.kindOf "__class__" = some .free := by rw [hE]; exact hkc
  have ga : X.env.kindOf ar.arg = some .local := by rw [hE]; exact hka
  have gcd : X.env.code = .ref cda := by rw [hE]
  have gcl : X.env.cells.lookup ("__class__" : Str) = some cc := by rw [hE]; rfl
  refine ks_wpAt_execs_cons (ks_wpAt_Expr_any (ks_wpAt_MethodCall (pl := pl) ?_ hev) I.quiet hs2)
  refine ks_wpAt_super_base (env := X.env) gs gc rfl gf (KX _ _ lf) rfl hps gcd (KX _ _ lcd) rfl hv2 hfile htop ?_
  obtain ⟨mb, hb1, hb2⟩ := I.mod.blt
  refine PySem.W.ks_loadName_global I.ok.kind gs (PySem.Calls.loadGlobal_builtin (by rw [I.ok.glob]; exact I.mod.glob.keeps I.bk) hsup (by rw [I.ok.blt]; exact hb1.keeps I.bk) ((hb2 "super" (by decide)).trans PyProof.Rows.Boot.«super») ⟨rfl, ?_⟩)
  refine wpAny_loadName_free I.ok.kind gc gcl ⟨_, KX _ _ lcc, rfl⟩ ?_
  obtain ⟨m, hn, hl⟩ := I.loc
  obtain ⟨u0, r0, l0⟩ := hl 0 ar.arg _ hN h0 (.inl ga)
  obtain rfl : u0 = Value.ref a := r0
  have lm : m ar.arg = some (.ref a) := by
    rcases l0 with ⟨_, z⟩ | ⟨z, _⟩
    · exact z
    · rw [ga] at z
      rcases z with z | z <;> cases z
  refine wpAny_loadName_local I.ok.kind ga hn lm ?_
  refine ks_wpAny_isType_cls (KX _ _ hC) rfl ⟨rfl, ?_⟩
  obtain ⟨t1, ho⟩ := exo_at I.hok hH
  refine ks_wpAny_call_super (KX _ _ hC) rfl ho rfl (fun c z => nomatch z) (PySem.W.looks_mroIn KX S.mro) fun h' hso k => ?_
  have I1 : Inv X [] σ H { s with heap := h' } := I.kept (t' := s.toks) k
  have K1 := I1.kIn
  have ho1 := k _ _ ho
  have IA : PySem.W.InstAt h' a (PySem.W.excObj C t1 none .none) C none := ⟨ho1, rfl, rfl, trivial⟩
  have hsu := S.sup
  cases hc : PySem.W.clsIn X.K C with
  | none =>
    unfold PySem.W.ks_superIn at hsu
    rw [hc] at hsu
    cases hsu
  | some cd =>
    unfold PySem.W.ks_superIn at hsu
    rw [hc] at hsu
    have hI : PySem.W.Looks (model X.prog X.w) h' (isInstance (.ref a) (.type "ValueError")) true := IA.type.andThen (PySem.W.looks_subIn K1 S.ve)
    refine PySem.W.kxs_getMethod PySem.W.kxs_ValueError hso (PySem.W.looks_opaque K1 S.nop) (l₀ := cd.mro) (fun A Q E s k q => wpAny_bind ((PySem.W.looks_clsIn K1 hc) A _ E s k (wpAny_pure q))) rfl K1 hsu hI (PySem.W.ks_ne K1 IA hc) rfl ?_
    have hmw : (h'.push (PySem.W.kxs_mw "ValueError.__init__" a)).get? h'.objs.size = some (PySem.W.kxs_mw "ValueError.__init__" a) := Heap.get?_push_at rfl rfl
    have I2 : Inv X [] σ H { s with heap := h'.push (PySem.W.kxs_mw "ValueError.__init__" a), toks := s.toks + 1 } := I1.kept (t' := s.toks + 1) (fun b o e => Heap.get?_push_of_some _ e)
    have I3 : Inv X [(h'.objs.size, PySem.W.kxs_mw "ValueError.__init__" a)] σ H { s with heap := h'.push (PySem.W.kxs_mw "ValueError.__init__" a), toks := s.toks + 1 } := I2.pins_of fun p hp => by
      obtain rfl : p = (h'.objs.size, PySem.W.kxs_mw "ValueError.__init__" a) := by simpa using hp
      exact ⟨hmw, I1.hok.fresh (Nat.le_refl _), fun z => absurd I1.lt (by show ¬ X.env.locals < h'.objs.size; rw [← z]; exact Nat.lt_irrefl _), I1.nofs (Nat.le_refl _), fun v z => nomatch z⟩
    dsimp only
    have key : wpAny (model X.prog X.w) X.A (spliced (backTo pos (starEach (e :: es) X.env))) (fun vs s1 => PySem.W.KxsAt "ValueError.__init__" h'.objs.size a s1.heap ∧ wpAny (model X.prog X.w) X.A (call (.ref h'.objs.size) vs)
        (fun _ s' => _root_.PySem.wpAt (model X.prog X.w) X.A (.func body X.env) (execs rest X.env) (SP X [] D) X.xe s') X.xe s1) X.xe { s with heap := h'.push (PySem.W.kxs_mw "ValueError.__init__" a), toks := s.toks + 1 } :=
      thn (ha.run pos [(h'.objs.size, PySem.W.kxs_mw "ValueError.__init__" a)] _ σ H _ I3 hq) fun us s1 ⟨vs, H1, J, r1, z, e1, q1⟩ => by
        have hp := (J.pin (h'.objs.size, PySem.W.kxs_mw "ValueError.__init__" a) (List.mem_append_right _ (List.mem_singleton.mpr rfl))).1
        have J1 : Inv X [] σ H1 s1 := J.pins_of fun p hp => nomatch hp
        refine ⟨hp, mw_call T J1 e1 hp ?_ fun s' J2 => wpAt_of_wpAny (hr.run [] s' σ H1 D J2 q1)⟩
        rw [← Paired.length r1, sizeLine_eq]
        omega
    rw [hsE] at key ⊢
    refine PySem.W.kxs_callWith (i := "ValueError.__init__") (x := a) (by show (false || (backTo pos (starEach es X.env)).any (·.1)) = false; rw [hpl]; rfl) ?_
    exact PySem.Calls.evalArgs_plain key
end
section
variable {P : Program} {w : World} {K : PySem.W.Frag} {mg : Str → Option Value} {base : Heap}
abbrev nfS (qual : Str) (st : Stmt) (cc cda : Addr) : NF := ⟨"__init__", qual, defArgs st, defBody st, defScope st, [("__class__", cc)], cda⟩
/-- THE RULE for such an __init__ -/
theorem sup_ok {f cda cc C : Addr} {qual : Str} {st : Stmt} {N ps : List Str} {k : Nat} {sp : Sp} {ar : Arg} {e : Expr} {es : List Expr} {rest : List Stmt} {p0 p1 p2 pos pos2 : Pos} {fd : FuncData}
    (S : SupC P K f cda cc C qual st) (T : OexC K C) (Sc : NScope N ps ["__class__"] (defScope st)) (hfd : ∃ o, K.lookup f = some o ∧ o.data = .func fd)
    (hB : defBody st = .Expr (.Call (.Attribute (.Call (.Name "super" p0) [] [] p1) "__init__" p2) (e :: es) [] pos) pos2 :: rest) (hps : ((defArgs st).posonlyargs ++ (defArgs st).args).head? = some ar) (hN : N[0]? = some ar.arg)
    (hks : (defScope st).names.lookup ("super" : Str) = some .globalImplicit) (hkc : (defScope st).names.lookup ("__class__" : Str) = some .free) (hka : (defScope st).names.lookup ar.arg = some .local)
    (htop : (P.main.scope.names.lookup ("super" : Str)).isSome = false) (hsup : mg "super" = none)
    (hsy : ∀ X : Cx, swapsWith (.Call (.Attribute (.Call (.Name "super" p0) [] [] p1) "__init__" p2) (e :: es) [] pos) none pos2.line X.env = pure false ∧
      starEach (e :: es) X.env = (false, eval e X.env) :: starEach es X.env ∧ (backTo pos (starEach es X.env)).any (·.1) = false ∧
      ∃ pl : Sem Bool, eval (.Call (.Attribute (.Call (.Name "super" p0) [] [] p1) "__init__" p2) (e :: es) [] pos) X.env = (do
      let ov ← attributeBase (.Call (.Name "super" p0) [] [] p1) "__init__" X.env (eval (.Call (.Name "super" p0) [] [] p1) X.env)
      standAt p2.atName
      let (f, first) ← holding [ov] (getMethod ov "__init__" pl)
      callWith pos f first (backTo pos (starEach (e :: es) X.env)) []))
    (len : ∀ vs H Q E, sp vs H Q E → vs.length = ps.length)
    (hbody : ∀ (A : Around) (outer : List Env) (s : Shared) (H : Hp) (vs : List V) (Q : VK) (E : XK), Room k (A.deeper (envF (nfS qual st cc cda) f s.heap.objs.size)) → sp vs H Q E →
      ∃ (a : Addr) (ta : TA) (tr : TS), vs[0]? = some (.ref a) ∧ H a = some (exo a C none) ∧ PA (ncx CX0 P w K mg base N (nfS qual st cc cda) f A outer s H E) (e :: es) ta ∧ PSs (ncx CX0 P w K mg base N (nfS qual st cc cda) f A outer s H E) rest tr ∧
        ta (startF N vs [some (.ref C)]) H fun vs' H1 => vs'.length ≤ 1000 ∧ H1 a = some (exo a C none) ∧ tr { nx := fun _ H' => Q .non H', rt := Q } (startF N vs [some (.ref C)]) H1) :
    FnOk P w K mg base CX0 (k + 1) f fd ps sp := by
  refine ⟨len, fun A outer s H args us vs Q E hr e0 hb r hsp => ?_⟩
  have hl := len _ _ _ _ hsp
  have KX : K.In s.heap := e0.mod.kin.keeps fun b o e => (e0.bs b o e).1
  have lim : s.heap.NoLimit := e0.mod.nolimit.keeps fun b o e => (e0.bs b o e).1
  obtain ⟨oc, od, kV, doc, pm, an, ct, osl, lf⟩ := S.fn
  obtain ⟨o, lo, do_⟩ := hfd
  rw [lf] at lo
  cases lo
  cases do_
  obtain ⟨cl, cld, csl, lcc⟩ := S.cell
  have hz : vs ≠ [] := by
    obtain ⟨a, ta, tr, h0, _⟩ := hbody A outer s H vs Q E (hr.deeper _) hsp
    rintro rfl
    cases h0
  refine codeAny_call_function hr.depth (KX _ _ lf) rfl Sc.co Sc.gen rfl (PySem.W.codeRec_of KX S.code) (hb _ _ _ _ ?_)
  refine wpAny_newFunctionEnv Sc.nocell (fun ⟨n, _⟩ hy => Sc.par n (List.of_mem_zip hy).1) (fun h₁ hns hsb => ⟨lim.fresh _ hsb, ?_⟩) Sc.kind
  show codeAny _ _ (.func (defBody st) (envF (nfS qual st cc cda) f s.heap.objs.size)) _ _
  refine ks_codeAny_funcAt ?_
  have kp : ∀ b o, s.heap.get? b = some o → h₁.get? b = some o := fun b o e => hsb.extBut b o (Nat.ne_of_lt (Heap.lt_size e)) (Heap.get?_push_of_some _ e)
  have Ccl : CellsAt [("__class__", cc)] ["__class__"] [some (.ref C)] s.heap H := by
    refine ⟨rfl, fun y c hc => ?_, fun x y c hx hy => ?_, fun i y hy => ?_⟩
    · obtain rfl : c = cc := by
        rw [List.lookup_cons] at hc
        split at hc
        · cases hc
          rfl
        · cases hc
      exact ⟨(e0.bs _ _ (e0.mod.kin _ _ lcc)).2, _, _, KX _ _ lcc, rfl⟩
    · rw [List.lookup_cons] at hx hy
      split at hx
      · rename_i e1
        split at hy
        · rename_i e2
          exact (eq_of_beq e1).trans (eq_of_beq e2).symm
        · cases hy
      · cases hx
    · cases i with
      | zero =>
        cases hy
        refine ⟨cc, rfl, fun v hv => ?_⟩
        cases hv
        exact ⟨_, rfl, _, KX _ _ lcc, rfl⟩
      | succ i => cases hy
  obtain ⟨a, ta, tr, h0, hH, ha, hr2, hq⟩ := hbody A outer s H vs Q E (hr.deeper _) hsp
  have I : Inv (ncx CX0 P w K mg base N (nfS qual st cc cda) f A outer s H E) [] (startF N vs [some (.ref C)]) H { s with heap := h₁, toks := s.toks + (ps.zip us).length } := inv_startN Sc hr.hd e0 hl r Ccl hns kp
  obtain ⟨y1, y2, y3, y4⟩ := hsy (ncx CX0 P w K mg base N (nfS qual st cc cda) f A outer s H E)
  have h00 : (startF N vs [some (.ref C)])[0]? = some (some (.ref a)) := by
    unfold startF
    cases vs with
    | nil => exact absurd rfl hz
    | cons v vs =>
      cases h0
      rfl
  have R := sup_body (X := ncx CX0 P w K mg base N (nfS qual st cc cda) f A outer s H E) (body := defBody st) (L := s.heap.objs.size) S T rfl hps hN hks hkc hka htop hsup ha hr2 y1 y2 y3 y4 I h00 hH hq
  rw [← hB] at R
  refine _root_.PySem.wpAt_mono R (fun fl s' hs => ?_) fun e s' hs => hs
  have fin : ∀ {σ' : L2.St} {H' : Hp} {v : V} {u : Value}, Inv (ncx CX0 P w K mg base N (nfS qual st cc cda) f A outer s H E) [] σ' H' s' → L2.RelV v u → Q v H' → CE outer P w H s Q u s' :=
    fun {σ' H' v u} J rv q => ⟨v, H', J.os, J.bare, J.base, J.hok, rv, q⟩
  cases fl with
  | ret u =>
    obtain ⟨v, σ', H', J, rv, q⟩ := hs
    exact fin J rv q
  | next =>
    obtain ⟨σ', H', J, q⟩ := hs
    exact fin (v := V.non) (u := Value.none) J rfl q
  | brk =>
    obtain ⟨_, _, _, q⟩ := hs
    exact False.elim q
  | cont =>
    obtain ⟨_, _, _, q⟩ := hs
    exact False.elim q
end
end TW
namespace TW
open PySem PySem.Spec PyProof.Rows L2
def clsBody (s : Stmt) : List Stmt := match s with
  | .ClassDef _ _ _ body _ _ _ _ _ _ _ => body
  | _ => []
/-- an own exception, its __init__ keeping sp -/
structure MkE (P : Program) (w : World) (K : PySem.W.Frag) (mg : Str → Option Value) (base : Heap) (k : Nat) (x : Str) (C : Addr) (sp : Sp) : Prop where
  ex : ∃ (fI : Addr) (fd : FuncData) (ps : List Str), OexC K C ∧ PySem.W.findIn K (.ref C) "__init__" = some (some (.ref fI)) ∧ PySem.W.typeIn K (.ref fI) = some (.type "function") ∧ FnOk P w K mg base CX0 k fI fd ps sp ∧ Binds K fd ps [] ∧ mg x = some (.ref C)
theorem pmE {X : Cx} {k j : Nat} {x : Str} {C : Addr} {sp : Sp} {e : Expr} {es : List Expr} {p pos : Pos} {ta : TA} (m : MkE X.prog X.w X.K X.mg X.base k x C sp) (hr : Room j X.A) (hk : k + 1 ≤ j) (ha : PA X (e :: es) ta) (hg : Gl X x := by rfl)
    (hdb : (x == ("__debug__" : Str)) = false := by decide) (he : starEach (e :: es) X.env = (false, eval e X.env) :: starEach es X.env := by rfl) (hpl : (backTo pos (starEach es X.env)).any (·.1) = false := by rfl) :
    PMk X (.Call (.Name x p) (e :: es) [] pos) (tMkO C sp [] ta) := by
  obtain ⟨fI, fd, ps, T, iC, tI, F, b, hm⟩ := m.ex
  exact pmk_oex T iC tI F (hr.mono hk) b .nil pass0 hg hm ha hdb he hpl
section
variable {K : PySem.W.Frag} {σ : L2.St} {H : Hp} {C a : Addr} {nx bk ct : L2.St → Hp → Prop} {rt : VK} {to te : TE} {f : Str}
theorem w_ost (h : te σ H fun y H1 => to σ H1 fun x H2 => ∃ a C : Addr, x = .ref a ∧ OexC K C ∧ PySem.W.findIn K (.ref C) f = some none ∧
  ((H2 a = some (exo a C none) ∧ ∀ dx, H2 dx = none → dx ≠ a → nx σ (upd (upd H2 dx (exd dx [(f, y)])) a (exo a C (some dx)))) ∨
    ∃ (dx : Addr) (fs : List (Str × V)), H2 a = some (exo a C (some dx)) ∧ H2 dx = some (exd dx fs) ∧ fs.length ≤ 900 ∧ nx σ (upd H2 dx (exd dx ((f, y) :: fs))))) : tOst K f to te ⟨nx, rt, bk, ct⟩ σ H := h
/-- a number as it stands in an error's text -/
theorem num_len {n : Nat} (h : n < 100) : (V.str (toString (n : Int)) = V.str (toString (n : Int))) ∧ ((toString (n : Int) : String) : Str).length ≤ 2 := by
  refine ⟨rfl, ?_⟩
  have e : ∀ m : Fin 100, ((toString ((m.val : Nat) : Int) : String) : Str).length ≤ 2 := by decide +kernel
  exact e ⟨n, h⟩
theorem num_log {n : Nat} (h : n < 100) : ((n : Int)).natAbs.log2 < 1920 := by
  have e : ∀ m : Fin 100, ((m.val : Nat) : Int).natAbs.log2 < 1920 := by decide +kernel
  exact e ⟨n, h⟩
/-- an __init__ that keeps two numbers as fields -/
def spTwo (f g : Str) (C : Addr) : Sp := fun vs H Q _ => ∃ (a : Addr) (i j : Nat), vs = [.ref a, .int i, .int j] ∧ i < 100 ∧ j < 100 ∧ H a = some (exo a C none) ∧ ∀ d H', H d = none → d ≠ a → (∀ b o, b ≠ a → H b = some o → H' b = some o) → H' a = some (exo a C (some d)) → H' d = some (exd d [(g, .int j), (f, .int i)]) → Q .non H'
theorem w_mkO {sp : Sp} {ta : TA} {Q : XK} (h : ta σ H fun vs H1 => vs.length ≤ 1000 ∧ ∀ a, H1 a = none → sp (.ref a :: (vs ++ [])) (upd H1 a (exo a C none))
  (fun v H2 => v = .non ∧ ∃ (d : Addr) (fs : List (Str × V)), H2 a = some (exo a C (some d)) ∧ H2 d = some (exd d fs) ∧ H1 d = none ∧ Q (.ref C) (some d) (upd (del H2 a) d (.xd fs))) (fun _ _ _ => False)) : tMkO C sp [] ta σ H Q := h
theorem mk_two {f g : Str} {i j : Nat} {H1 : Hp} {Q : XK} (hi : i < 100) (hj : j < 100) (q : ∀ d H', Same H1 H' → H1 d = none → H' d = some (.xd [(g, .int j), (f, .int i)]) → Q (.ref C) (some d) H') :
    [V.int i, V.int j].length ≤ 1000 ∧ ∀ a, H1 a = none → spTwo f g C (.ref a :: ([V.int i, V.int j] ++ [])) (upd H1 a (exo a C none))
  (fun v H2 => v = .non ∧ ∃ (d : Addr) (fs : List (Str × V)), H2 a = some (exo a C (some d)) ∧ H2 d = some (exd d fs) ∧ H1 d = none ∧ Q (.ref C) (some d) (upd (del H2 a) d (.xd fs))) (fun _ _ _ => False) := by
  refine ⟨show 2 ≤ 1000 by decide, fun a ha => ⟨a, i, j, rfl, hi, hj, upd_same, fun d H' hd ne k e1 e2 => ⟨rfl, d, _, e1, e2, ?_, ?_⟩⟩⟩
  · rw [upd_ne ne] at hd
    exact hd
  · rw [upd_ne ne] at hd
    refine q d _ (fun b o hb => ?_) hd upd_same
    have hba : b ≠ a := fun z => by rw [z, ha] at hb; cases hb
    have hbd : b ≠ d := fun z => by rw [z, hd] at hb; cases hb
    rw [upd_ne hbd, del_ne hba]
    exact k b o hba (by rw [upd_ne hba]; exact hb)
/-- self.f = x; self.g = y, of an exception just made -/
theorem two_set {f g : Str} {x y : V} {P : Hp → Prop} (ha : H a = some (exo a C none)) (q : ∀ d H', H d = none → d ≠ a → (∀ b o, b ≠ a → H b = some o → H' b = some o) → H' a = some (exo a C (some d)) → H' d = some (exd d [(g, y), (f, x)]) → P H') :
    ∀ d, H d = none → d ≠ a → upd (upd H d (exd d [(f, x)])) a (exo a C (some d)) a = some (exo a C (some d)) ∧ upd (upd H d (exd d [(f, x)])) a (exo a C (some d)) d = some (exd d [(f, x)]) ∧ P (upd (upd (upd H d (exd d [(f, x)])) a (exo a C (some d))) d (exd d [(g, y), (f, x)])) := fun d hd ne => by
  refine ⟨upd_same, ?_, q d _ hd ne (fun b o hb e => ?_) ?_ upd_same⟩
  · rw [upd_ne ne]
    exact upd_same
  · have hbd : b ≠ d := fun z => by rw [z, hd] at e; cases e
    rw [upd_ne hbd, upd_ne hb, upd_ne hbd]
    exact e
  · rw [upd_ne (Ne.symm ne)]
    exact upd_same
end
end TW
namespace TW
/-! ### rows thrown forever -/
/-- the height at a turn -/
def atF (r : List Int) (t : Int) : Int := r.getD (t % r.length).toNat 0
/-- no two turns come down at one rest -/
def Going (r : List Int) : Prop := ∀ s t : Int, (r.length : Int) ∣ s + atF r s - (t + atF r t) → (r.length : Int) ∣ s - t
theorem dvd_mod (s n : Int) : n ∣ s - s % n := ⟨s / n, by have := Int.mul_ediv_add_emod s n; omega⟩
theorem eq_of_dvd {n p q : Int} (h : n ∣ p - q) (p0 : 0 ≤ p) (p1 : p < n) (q0 : 0 ≤ q) (q1 : q < n) : p = q := by
  have e := Int.emod_eq_emod_iff_emod_sub_eq_zero.mpr (Int.emod_eq_zero_of_dvd h)
  rwa [Int.emod_eq_of_lt p0 p1, Int.emod_eq_of_lt q0 q1] at e
theorem atF_mod (r : List Int) {s t : Int} (h : (r.length : Int) ∣ s - t) : atF r s = atF r t := by
  unfold atF
  rw [Int.emod_eq_emod_iff_emod_sub_eq_zero.mpr (Int.emod_eq_zero_of_dvd h)]
theorem atF_nat {r : List Int} {i : Nat} (h : i < r.length) : atF r i = r.getD i 0 := by
  unfold atF
  rw [Int.emod_eq_of_lt (by omega) (by omega), Int.toNat_natCast]
theorem atF_b {r : List Int} (ok : OkR r) (t : Int) : 0 ≤ atF r t ∧ atF r t ≤ 9 := by
  have p := ok.pos
  have h1 := Int.emod_nonneg t (b := r.length) (by omega)
  have h2 := Int.emod_lt_of_pos t (b := r.length) (by omega)
  have h3 : (t % r.length).toNat < r.length := by omega
  unfold atF
  rw [List.getD_eq_getElem?_getD, List.getElem?_eq_getElem h3]
  exact ok.all _ (List.getElem_mem h3)
theorem land_F {r : List Int} {i : Nat} (h : i < r.length) : landL r i = ((i : Int) + atF r i) % r.length := by
  unfold landL
  rw [atF_nat h]
theorem none_going {r : List Int} (hp : 1 ≤ r.length) (h : clashL r = none) : Going r := by
  have key : ∀ i j : Nat, i < j → j < r.length → landL r i ≠ landL r j := by
    intro i j hij hj e
    unfold clashL at h
    rw [List.findSome?_eq_none_iff] at h
    have h2 := h j (List.mem_range.mpr hj)
    have h3 : oneOf r j = none := by
      cases z : oneOf r j with
      | none => rfl
      | some k => rw [z] at h2; cases h2
    unfold oneOf at h3
    have h4 := List.find?_eq_none.mp h3 i (List.mem_range.mpr hij)
    exact h4 (decide_eq_true e)
  intro s t d
  have s0 := Int.emod_nonneg s (b := r.length) (by omega)
  have s1 := Int.emod_lt_of_pos s (b := r.length) (by omega)
  have t0 := Int.emod_nonneg t (b := r.length) (by omega)
  have t1 := Int.emod_lt_of_pos t (b := r.length) (by omega)
  obtain ⟨i, hi⟩ : ∃ i : Nat, s % r.length = i := ⟨(s % r.length).toNat, by omega⟩
  obtain ⟨j, hj⟩ : ∃ j : Nat, t % r.length = j := ⟨(t % r.length).toNat, by omega⟩
  have ds := dvd_mod s r.length
  have dt := dvd_mod t r.length
  rw [hi] at ds s1
  rw [hj] at dt t1
  have es := atF_mod r ds
  have et := atF_mod r dt
  have hl : landL r i = landL r j := by
    rw [land_F (by omega), land_F (by omega)]
    refine Int.emod_eq_emod_iff_emod_sub_eq_zero.mpr (Int.emod_eq_zero_of_dvd ?_)
    have z := Int.dvd_sub (Int.dvd_add d dt) ds
    rw [es, et] at z
    rw [show (i : Int) + atF r i - (j + atF r j) = s + atF r i - (t + atF r j) + (t - j) - (s - i) by omega]
    exact z
  have hij : i = j := by
    rcases Nat.lt_trichotomy i j with z | z | z
    · exact absurd hl (key i j z (by omega))
    · exact z
    · exact absurd hl.symm (key j i z (by omega))
  subst hij
  have z := Int.dvd_sub ds dt
  rw [show s - i - (t - i) = s - t by omega] at z
  exact z
theorem going_none {r : List Int} (g : Going r) : clashL r = none := by
  refine clash_none fun o ho => ?_
  unfold oneOf
  rw [List.find?_eq_none]
  intro i hi e
  have hi' := List.mem_range.mp hi
  have e' := of_decide_eq_true e
  rw [land_F (by omega), land_F ho] at e'
  have d := g i o (Int.dvd_of_emod_eq_zero (Int.emod_eq_emod_iff_emod_sub_eq_zero.mp e'))
  have := eq_of_dvd d (by omega) (by omega) (by omega) (by omega)
  omega
theorem going_rep {n : Nat} {h : Int} (hn : 1 ≤ n) : Going (List.replicate n h) := by
  have e : ∀ t, atF (List.replicate n h) t = h := by
    intro t
    have h1 := Int.emod_nonneg t (b := (n : Int)) (by omega)
    have h2 := Int.emod_lt_of_pos t (b := (n : Int)) (by omega)
    unfold atF
    rw [List.length_replicate, List.getD_eq_getElem?_getD, List.getElem?_replicate, if_pos (by omega)]
    rfl
  intro s t d
  rw [e, e] at d
  rwa [show s + h - (t + h) = s - t by omega] at d
theorem atF_rot {r : List Int} {b : Int} (b0 : 0 ≤ b) (b1 : b < r.length) (s : Int) : atF (rot r b) s = atF r (s + b) := by
  unfold atF
  rw [rot_length]
  have s0 := Int.emod_nonneg s (b := r.length) (by omega)
  have s1 := Int.emod_lt_of_pos s (b := r.length) (by omega)
  obtain ⟨i, hi⟩ : ∃ i : Nat, s % r.length = i := ⟨(s % r.length).toNat, by omega⟩
  obtain ⟨c, hc⟩ : ∃ c : Nat, b = c := ⟨b.toNat, by omega⟩
  have e : (s + b) % r.length = ((i : Int) + c) % r.length := by
    rw [← hi, ← hc, Int.emod_add_emod]
  rw [e, hi, Int.toNat_natCast]
  unfold rot
  rw [hc, Int.toNat_natCast]
  rw [hi] at s1
  rw [hc] at b1
  rw [List.getD_eq_getElem?_getD, List.getD_eq_getElem?_getD]
  by_cases z : i + c < r.length
  · rw [Int.emod_eq_of_lt (by omega) (by omega), List.getElem?_append_left (by rw [List.length_drop]; omega), List.getElem?_drop, show ((i : Int) + c).toNat = c + i by omega]
  · have e2 : ((i : Int) + c) % r.length = (i : Int) + c - r.length := by
      rw [Int.emod_eq_emod_iff_emod_sub_eq_zero.mpr (show ((i : Int) + c - ((i : Int) + c - r.length)) % r.length = 0 by rw [show (i : Int) + c - ((i : Int) + c - r.length) = r.length by omega]; exact Int.emod_self), Int.emod_eq_of_lt (by omega) (by omega)]
    rw [e2, List.getElem?_append_right (by rw [List.length_drop]; omega), List.length_drop, List.getElem?_take_of_lt (by omega), show ((i : Int) + c - r.length).toNat = i - (r.length - c) by omega]
theorem going_rot {r : List Int} {b : Int} (b0 : 0 ≤ b) (b1 : b < r.length) (g : Going r) : Going (rot r b) := by
  intro s t d
  rw [rot_length] at d ⊢
  rw [atF_rot b0 b1, atF_rot b0 b1] at d
  have z := g (s + b) (t + b) (by rw [show s + b + atF r (s + b) - (t + b + atF r (t + b)) = s + atF r (s + b) - (t + atF r (t + b)) by omega]; exact d)
  rwa [show s + b - (t + b) = s - t by omega] at z
theorem going_exch {r : List Int} {a b : Int} (a0 : 0 ≤ a) (a1 : a < r.length) (b0 : 0 ≤ b) (b1 : b < r.length) (g : Going r) : Going (exch r a b) := by
  unfold exch
  split
  · obtain ⟨i, rfl⟩ : ∃ i : Nat, a = i := ⟨a.toNat, by omega⟩
    obtain ⟨j, rfl⟩ : ∃ j : Nat, b = j := ⟨b.toNat, by omega⟩
    simp only [Int.toNat_natCast]
    have ha : atF r i = r.getD i 0 := atF_nat (by omega)
    have hb : atF r j = r.getD j 0 := atF_nat (by omega)
    rw [← ha, ← hb]
    have len : ((r.set i ((j : Int) - i + atF r j)).set j (atF r i - j + i)).length = r.length := by rw [List.length_set, List.length_set]
    have key : ∀ s : Int, ∃ p : Int, 0 ≤ p ∧ p < r.length ∧ (r.length : Int) ∣ s + atF ((r.set i ((j : Int) - i + atF r j)).set j (atF r i - j + i)) s - (p + atF r p) ∧ ((s % r.length = j ∧ p = i) ∨ (s % r.length = i ∧ s % r.length ≠ j ∧ p = j) ∨ (s % r.length ≠ i ∧ s % r.length ≠ j ∧ p = s % r.length)) := by
      intro s
      have s0 := Int.emod_nonneg s (b := r.length) (by omega)
      have s1 := Int.emod_lt_of_pos s (b := r.length) (by omega)
      have ds := dvd_mod s r.length
      have val : atF ((r.set i ((j : Int) - i + atF r j)).set j (atF r i - j + i)) s = if s % r.length = j then atF r i - j + i else if s % r.length = i then (j : Int) - i + atF r j else atF r s := by
        have un : atF ((r.set i ((j : Int) - i + atF r j)).set j (atF r i - j + i)) s = ((r.set i ((j : Int) - i + atF r j)).set j (atF r i - j + i)).getD (s % r.length).toNat 0 := by
          show ((r.set i ((j : Int) - i + atF r j)).set j (atF r i - j + i)).getD (s % ((r.set i ((j : Int) - i + atF r j)).set j (atF r i - j + i)).length).toNat 0 = _
          rw [len]
        rw [un]
        obtain ⟨k, hk⟩ : ∃ k : Nat, s % r.length = k := ⟨(s % r.length).toNat, by omega⟩
        have ek : atF r s = r.getD k 0 := by
          unfold atF
          rw [hk, Int.toNat_natCast]
        rw [hk] at s1
        rw [hk, ek, Int.toNat_natCast, List.getD_eq_getElem?_getD, List.getElem?_set, List.getElem?_set]
        by_cases z1 : j = k
        · subst z1
          rw [if_pos rfl, if_pos (by rw [List.length_set]; omega), if_pos rfl]
          rfl
        · rw [if_neg z1, if_neg (show ¬ (k : Int) = j by omega)]
          by_cases z2 : i = k
          · subst z2
            rw [if_pos rfl, if_pos (by omega), if_pos rfl]
            rfl
          · rw [if_neg z2, if_neg (show ¬ (k : Int) = i by omega), List.getD_eq_getElem?_getD]
      rw [val]
      by_cases z1 : s % r.length = j
      · rw [if_pos z1]
        refine ⟨i, by omega, a1, ?_, .inl ⟨z1, rfl⟩⟩
        rw [z1] at ds
        rwa [show s + (atF r i - j + i) - (i + atF r i) = s - j by omega]
      · rw [if_neg z1]
        by_cases z2 : s % r.length = i
        · rw [if_pos z2]
          refine ⟨j, by omega, b1, ?_, .inr (.inl ⟨z2, z1, rfl⟩)⟩
          rw [z2] at ds
          rwa [show s + ((j : Int) - i + atF r j) - (j + atF r j) = s - i by omega]
        · rw [if_neg z2]
          refine ⟨s % r.length, s0, s1, ?_, .inr (.inr ⟨z2, z1, rfl⟩)⟩
          rw [atF_mod r ds]
          rwa [show s + atF r (s % r.length) - (s % r.length + atF r (s % r.length)) = s - s % r.length by omega]
    intro s t d
    rw [len] at d ⊢
    obtain ⟨p, p0, p1, dp, hp⟩ := key s
    obtain ⟨q, q0, q1, dq, hq⟩ := key t
    have z : (r.length : Int) ∣ p + atF r p - (q + atF r q) := by
      have y := Int.dvd_sub (Int.dvd_add d dq) dp
      rwa [show s + atF ((r.set i ((j : Int) - i + atF r j)).set j (atF r i - j + i)) s - (t + atF ((r.set i ((j : Int) - i + atF r j)).set j (atF r i - j + i)) t) + (t + atF ((r.set i ((j : Int) - i + atF r j)).set j (atF r i - j + i)) t - (q + atF r q)) - (s + atF ((r.set i ((j : Int) - i + atF r j)).set j (atF r i - j + i)) s - (p + atF r p)) = p + atF r p - (q + atF r q) by omega] at y
    have pq : p = q := eq_of_dvd (g p q z) p0 p1 q0 q1
    have e : s % r.length = t % r.length := by omega
    have y := Int.dvd_sub (dvd_mod s r.length) (dvd_mod t r.length)
    rwa [e, show s - t % r.length - (t - t % r.length) = s - t by omega] at y
  · exact g
theorem going_mixTo {cell : Int} {row : List Int} (hp : 1 ≤ row.length) (g : Going row) : ∀ i, Going (mixTo cell row i)
  | 0 => g
  | i + 1 => by
    rw [mixTo_succ]
    unfold mixStep
    have l := mixTo_length cell row i
    obtain ⟨⟨x0, x1⟩, y0, y1⟩ := ends_b (m := ((mixTo cell row i).length : Int)) (d := mixed cell i) (by omega)
    exact going_exch x0 x1 y0 y1 (going_mixTo hp g i)
theorem going_turnS {c : Int} {row : List Int} {k : Nat} (hp : 1 ≤ row.length) (g : Going row) : Going (turnS c row k) := by
  unfold turnS
  have l : (mixUp (mixed c (50 + k)) row).length = row.length := mixUp_length _ _
  refine going_rot (Int.emod_nonneg _ (by omega)) ?_ (going_mixTo hp g _)
  rw [l]
  exact Int.emod_lt_of_pos _ (by omega)
/-- what is drawn as going on goes on -/
theorem goingL_going {c m : Int} (h : 1 ≤ m) : Going (goingL c m) := by
  unfold goingL
  refine going_turnS ?_ (going_turnS ?_ (going_rep (by omega)))
  · rw [turnS_length, List.length_replicate]
    omega
  · rw [List.length_replicate]
    omega
/-! ### somewhat of counting -/
theorem length_le_of_nodup {l m : List Nat} (nd : l.Nodup) (h : ∀ x ∈ l, x ∈ m) : l.length ≤ m.length := by
  induction l generalizing m with
  | nil => exact Nat.zero_le _
  | cons x l ih =>
    have nd' := List.nodup_cons.mp nd
    have hx := h x List.mem_cons_self
    have := ih (m := m.erase x) nd'.2 fun y hy => (List.mem_erase_of_ne (fun e => nd'.1 (by rw [← e]; exact hy))).mpr (h y (List.mem_cons_of_mem _ hy))
    rw [List.length_erase_of_mem hx] at this
    have := List.length_pos_of_mem hx
    rw [List.length_cons]
    omega
theorem onto_of_inj {n : Nat} {f : Nat → Nat} (hf : ∀ i, i < n → f i < n) (inj : ∀ i j, i < n → j < n → f i = f j → i = j) {k : Nat} (hk : k < n) : ∃ i, i < n ∧ f i = k := by
  refine Classical.byContradiction fun h => ?_
  have hn : ∀ i, i < n → f i ≠ k := fun i hi e => h ⟨i, hi, e⟩
  have nd : ((List.range n).map f).Nodup := by
    rw [List.nodup_iff_pairwise_ne, List.pairwise_map]
    refine List.Pairwise.imp_of_mem (R := fun a b => a ≠ b) (fun {a b} ha hb ne e => ne (inj a b (List.mem_range.mp ha) (List.mem_range.mp hb) e)) ?_
    exact List.nodup_range
  have := length_le_of_nodup (m := (List.range n).erase k) nd fun x hx => by
    obtain ⟨i, hi, rfl⟩ := List.mem_map.mp hx
    have hi' := List.mem_range.mp hi
    exact (List.mem_erase_of_ne (hn i hi')).mpr (List.mem_range.mpr (hf i hi'))
  rw [List.length_map, List.length_range, List.length_erase_of_mem (List.mem_range.mpr hk), List.length_range] at this
  omega
/-- something comes down at each turn: what was thrown there, or there itself a 0 -/
theorem going_onto {r : List Int} (hp : 1 ≤ r.length) (g : Going r) (t : Int) : ∃ s : Int, s + atF r s = t := by
  have hn : (0 : Int) < r.length := by omega
  have t0 := Int.emod_nonneg t (b := r.length) (by omega)
  have t1 := Int.emod_lt_of_pos t (b := r.length) hn
  obtain ⟨i, hi, e⟩ := onto_of_inj (n := r.length) (f := fun i => (((i : Int) + atF r i) % r.length).toNat) (fun i _ => by
    have h1 := Int.emod_nonneg ((i : Int) + atF r i) (b := r.length) (by omega)
    have h2 := Int.emod_lt_of_pos ((i : Int) + atF r i) (b := r.length) hn
    show (((i : Int) + atF r i) % r.length).toNat < r.length
    omega) (fun i j hi hj e => by
    have h1 := Int.emod_nonneg ((i : Int) + atF r i) (b := r.length) (by omega)
    have h2 := Int.emod_nonneg ((j : Int) + atF r j) (b := r.length) (by omega)
    have e' : ((i : Int) + atF r i) % r.length = ((j : Int) + atF r j) % r.length := by
      have : (((i : Int) + atF r i) % r.length).toNat = (((j : Int) + atF r j) % r.length).toNat := e
      omega
    have := eq_of_dvd (g i j (Int.dvd_of_emod_eq_zero (Int.emod_eq_emod_iff_emod_sub_eq_zero.mp e'))) (by omega) (by omega) (by omega) (by omega)
    omega) (k := (t % r.length).toNat) (by omega)
  have h1 := Int.emod_nonneg ((i : Int) + atF r i) (b := r.length) (by omega)
  have e' : ((i : Int) + atF r i) % r.length = t % r.length := by
    have : (((i : Int) + atF r i) % r.length).toNat = (t % r.length).toNat := e
    omega
  have d : (r.length : Int) ∣ (i : Int) + atF r i - t := Int.dvd_of_emod_eq_zero (Int.emod_eq_emod_iff_emod_sub_eq_zero.mp e')
  refine ⟨t - atF r i, ?_⟩
  have : atF r (t - atF r i) = atF r i := (atF_mod r (by rwa [show (i : Int) - (t - atF r i) = (i : Int) + atF r i - t by omega])).symm
  rw [this]
  omega
end TW
namespace TW
/-! ### the state at a turn -/
/-- what the last i throws ahead of t let come down from t on -/
def sumN (r : List Int) (t : Int) : Nat → Nat
  | 0 => 0
  | i + 1 => if ((i : Int) + 1) ≤ atF r (t - (i + 1)) then sumN r t i ||| 2 ^ (atF r (t - (i + 1)) - (i + 1)).toNat else sumN r t i
/-- .. added up -/
def duN (r : List Int) (t : Int) : Nat → Nat
  | 0 => 0
  | i + 1 => if 0 ≤ atF r (t - (i + 1)) - (i + 1) then duN r t i + 2 ^ (atF r (t - (i + 1)) - (i + 1)).toNat else duN r t i
theorem sumN_bit (r : List Int) (t : Int) (k : Nat) : ∀ i, (sumN r t i).testBit k = true ↔ ∃ a : Nat, a < i ∧ atF r (t - (a + 1)) = (a : Int) + 1 + k
  | 0 => by
    unfold sumN
    rw [Nat.zero_testBit]
    exact ⟨fun h => (nomatch h), fun ⟨a, h, _⟩ => absurd h (Nat.not_lt_zero a)⟩
  | i + 1 => by
    have ih := sumN_bit r t k i
    unfold sumN
    split
    · rename_i h
      rw [Nat.testBit_or, Bool.or_eq_true, ih, Nat.testBit_two_pow, decide_eq_true_eq]
      constructor
      · rintro (⟨a, ha, e⟩ | e)
        · exact ⟨a, by omega, e⟩
        · exact ⟨i, by omega, by omega⟩
      · rintro ⟨a, ha, e⟩
        by_cases z : a = i
        · subst z
          exact .inr (by omega)
        · exact .inl ⟨a, by omega, e⟩
    · rename_i h
      rw [ih]
      constructor
      · rintro ⟨a, ha, e⟩
        exact ⟨a, by omega, e⟩
      · rintro ⟨a, ha, e⟩
        by_cases z : a = i
        · subst z
          omega
        · exact ⟨a, by omega, e⟩
theorem sumN_lt {r : List Int} (ok : OkR r) (t : Int) : ∀ i, sumN r t i < 2 ^ 9
  | 0 => by unfold sumN; decide
  | i + 1 => by
    have ih := sumN_lt ok t i
    have hb := atF_b ok (t - (i + 1))
    unfold sumN
    split
    · refine Nat.or_lt_two_pow ih ?_
      exact Nat.pow_lt_pow_right (by decide) (by omega)
    · exact ih
theorem or_add : ((List.range 512).all fun s => (List.range 9).all fun w => s.testBit w || decide (s ||| 2 ^ w = s + 2 ^ w)) = true := by decide +kernel
theorem or_add' {s w : Nat} (hs : s < 512) (hw : w < 9) (h : s.testBit w = false) : s ||| 2 ^ w = s + 2 ^ w := by
  have e := List.all_eq_true.mp (List.all_eq_true.mp or_add s (List.mem_range.mpr hs)) w (List.mem_range.mpr hw)
  rw [h, Bool.false_or, decide_eq_true_eq] at e
  exact e
theorem duN_is {r : List Int} (ok : OkR r) (g : Going r) (t : Int) : ∀ i, duN r t i = sumN r t i
  | 0 => by
    unfold sumN duN
    rfl
  | i + 1 => by
    have ih := duN_is ok g t i
    have hb := atF_b ok (t - (i + 1))
    unfold sumN duN
    rw [ih]
    by_cases h : ((i : Int) + 1) ≤ atF r (t - (i + 1))
    · rw [if_pos h, if_pos (by omega)]
      refine (or_add' (sumN_lt ok t i) (by omega) ?_).symm
      cases z : (sumN r t i).testBit (atF r (t - (i + 1)) - (i + 1)).toNat with
      | false => rfl
      | true =>
        obtain ⟨a, ha, e⟩ := (sumN_bit r t _ i).mp z
        have d := g (t - (a + 1)) (t - (i + 1)) (by rw [show t - ((a : Int) + 1) + atF r (t - (a + 1)) - (t - ((i : Int) + 1) + atF r (t - (i + 1))) = 0 by omega]; exact Int.dvd_zero _)
        have e2 := atF_mod r d
        omega
    · rw [if_neg h, if_neg (by omega)]
theorem sumN_more {r : List Int} (ok : OkR r) (t : Int) : ∀ i, 9 ≤ i → sumN r t i = sumN r t 9
  | 0, h => by omega
  | i + 1, h => by
    by_cases z : i + 1 = 9
    · rw [z]
    · have hb := atF_b ok (t - (i + 1))
      have ih := sumN_more ok t i (by omega)
      rw [← ih]
      conv => lhs; unfold sumN
      rw [if_neg (by omega)]
def stA (r : List Int) (t : Int) : Nat := sumN r t 9
/-- the state behind the turn's throw -/
theorem st_next {r : List Int} (ok : OkR r) (t : Int) : (stA r t ||| 2 ^ (atF r t).toNat) / 2 = stA r (t + 1) := by
  have hb := atF_b ok t
  refine Nat.eq_of_testBit_eq fun k => ?_
  rw [Nat.testBit_div_two, Nat.testBit_or, Nat.testBit_two_pow, Bool.eq_iff_iff, Bool.or_eq_true, decide_eq_true_eq]
  unfold stA
  rw [sumN_bit, sumN_bit]
  constructor
  · rintro (⟨a, ha, e⟩ | e)
    · have hb2 := atF_b ok (t - (a + 1))
      refine ⟨a + 1, by omega, ?_⟩
      rw [show t + 1 - (((a + 1 : Nat) : Int) + 1) = t - (a + 1) by omega]
      omega
    · refine ⟨0, by omega, ?_⟩
      rw [show t + 1 - (((0 : Nat) : Int) + 1) = t by omega]
      omega
  · rintro ⟨a, ha, e⟩
    cases a with
    | zero =>
      rw [show t + 1 - (((0 : Nat) : Int) + 1) = t by omega] at e
      exact .inr (by omega)
    | succ a =>
      rw [show t + 1 - (((a + 1 : Nat) : Int) + 1) = t - (a + 1) by omega] at e
      exact .inl ⟨a, by omega, by omega⟩
/-- what is thrown at a turn is let there -/
theorem st_lets {r : List Int} (ok : OkR r) (g : Going r) (t : Int) :
    ((stA r t).testBit 0 = false → atF r t = 0) ∧ ((stA r t).testBit 0 = true → 1 ≤ atF r t ∧ (stA r t).testBit (atF r t).toNat = false) := by
  have hb := atF_b ok t
  constructor
  · intro h
    obtain ⟨s, hs⟩ := going_onto ok.pos g t
    have hb2 := atF_b ok s
    by_cases z : atF r s = 0
    · rw [show t = s by omega]
      exact z
    · have : (stA r t).testBit 0 = true := (sumN_bit r t 0 9).mpr ⟨(atF r s).toNat - 1, by omega, by
        rw [show t - ((((atF r s).toNat - 1 : Nat) : Int) + 1) = s by omega]
        omega⟩
      rw [h] at this
      cases this
  · intro h
    obtain ⟨a, ha, e⟩ := (sumN_bit r t 0 9).mp h
    refine ⟨?_, ?_⟩
    · refine Classical.byContradiction fun z => ?_
      have d := g (t - (a + 1)) t (by rw [show t - ((a : Int) + 1) + atF r (t - (a + 1)) - (t + atF r t) = 0 by omega]; exact Int.dvd_zero _)
      have := atF_mod r d
      omega
    · cases z : (stA r t).testBit (atF r t).toNat with
      | false => rfl
      | true =>
        obtain ⟨b, hb3, e2⟩ := (sumN_bit r t _ 9).mp z
        have d := g (t - (b + 1)) t (by rw [show t - ((b : Int) + 1) + atF r (t - (b + 1)) - (t + atF r t) = 0 by omega]; exact Int.dvd_zero _)
        have := atF_mod r d
        omega
end TW
namespace TW
open PySem PySem.Spec PyProof.Rows L2
/-! a def whose last parameter has a default -/
structure CalD (P : Program) (w : World) (K : PySem.W.Frag) (mg : Str → Option Value) (base : Heap) (CX : CXT) (k : Nat) (x : Str) (sp : Sp) (v : V) : Prop where
  ex : ∃ (f : Addr) (fd : FuncData) (ps : List Str) (ds : List Value), FnOk P w K mg base CX k f fd ps sp ∧ mg x = some (.ref f) ∧ PySem.W.keepIn K (.ref f) = true ∧ Binds K fd ps ds ∧ Vals [v] ds
structure DfnD (K : PySem.W.Frag) (mg : Str → Option Value) (x : Str) (st : Stmt) (ps : List Str) (v : V) : Prop where
  ex : ∃ (f : Addr) (fd : FuncData), FunD K x x (defArgs st) (defBody st) (defScope st) [v] [] f fd ∧ mg x = some (.ref f) ∧ Binds K fd ps [] ∧ ∃ ds, Vals [v] ds ∧ Binds K fd ps ds
section
variable {P : Program} {w : World} {K : PySem.W.Frag} {mg : Str → Option Value} {base : Heap}
theorem DfnD.calX {x : Str} {st : Stmt} {N ps : List Str} {k : Nat} {sp : Sp} {v : V} (D : DfnD K mg x st ps v) (S : FnScope N ps (defScope st)) (len : ∀ vs H Q E, sp vs H Q E → vs.length = ps.length)
    (hbody : ∀ (f : Addr) (cdv : Value) (A : Around) (outer : List Env) (s : Shared) (H : Hp) (vs : List V) (Q : VK) (E : XK), Room k (A.deeper (envOfC x (defScope st) s.heap.objs.size f cdv)) → sp vs H Q E →
      ∃ t, PSs (cxOf (L2.CX P w) P w K mg base N x (defScope st) f cdv A outer s H E) (defBody st) t ∧ t { nx := fun _ H' => Q .non H', rt := Q } (start N vs) H) :
    Cal P w K mg base (L2.CX P w) (k + 1) x sp ∧ CalD P w K mg base (L2.CX P w) (k + 1) x sp v := by
  obtain ⟨f, fd, F, hm, hb, ds, hv, hb2⟩ := D.ex
  have ok := F.ok (CX := L2.CX P w) S len (hbody f)
  exact ⟨⟨f, fd, ps, ok, hm, F.kp, hb⟩, ⟨f, fd, ps, ds, ok, hm, F.kp, hb2, hv⟩⟩
theorem dfnD_mk {h : Heap} {x : Str} {st : Stmt} {ps : List Str} {f T : Addr} {v : V} {u oc oT : Value} {od an oD : Option Addr} {osl tsl : Array (Option Value)} {kV doc pm cdv ct : Value} {nT : Nat} (X : K.In h) (G : h.Ns mainGlobals mg)
    (a : PySem.W.nsIn K mainGlobals x = some (some (.ref f))) (l : K.lookup f = some ⟨oc, od, .func (PySem.W.fnOf x x (defArgs st) (defBody st) (defScope st) (.ref T) kV doc pm an cdv ct), osl⟩) (c : PySem.W.codeIn K cdv x = true) (k : PySem.W.keepIn K (.ref f) = true)
    (lT : K.lookup T = some ⟨oT, oD, .seq #[u] nT, tsl⟩) (r : RelV v u)
    (hn : ∃ m, ps.length = m + 1)
    (b1 : ∀ (T : Addr) (kV doc pm : Value) (an : Option Addr) (cdv ct : Value) (us its : List Value), us.length = ps.length → its.length = 1 → ∃ k, bindArgs (PySem.W.fnOf x x (defArgs st) (defBody st) (defScope st) (.ref T) kV doc pm an cdv ct) ⟨us, []⟩ = seqItems? (.ref T) >>= k ∧ k (some its.toArray) = pure (ps.zip (us ++ its.drop 1)))
    (b0 : ∀ (T : Addr) (kV doc pm : Value) (an : Option Addr) (cdv ct : Value) (us its : List Value), us.length + 1 = ps.length → its.length = 1 → ∃ k, bindArgs (PySem.W.fnOf x x (defArgs st) (defBody st) (defScope st) (.ref T) kV doc pm an cdv ct) ⟨us, []⟩ = seqItems? (.ref T) >>= k ∧ k (some its.toArray) = pure (ps.zip (us ++ its.drop 0))) : DfnD K mg x st ps v := by
  have F : FunD K x x (defArgs st) (defBody st) (defScope st) [v] [] f (PySem.W.fnOf x x (defArgs st) (defBody st) (defScope st) (.ref T) kV doc pm an cdv ct) :=
    ⟨⟨oc, od, .ref T, kV, doc, pm, an, cdv, ct, osl, rfl, l, c, .inr ⟨fun z => (nomatch z), T, _, [u], nT, rfl, lT, rfl, .cons r .nil⟩, .inl rfl⟩, k⟩
  obtain ⟨m, hm⟩ := hn
  obtain ⟨ds1, v1, B1⟩ := F.binds1 (ps := ps) ps.length 1 (fun z => (nomatch z)) rfl b1
  obtain ⟨ds0, v0, B0⟩ := F.binds1 (ps := ps) m 0 (fun z => (nomatch z)) (by rw [hm]; rfl) (fun T kV doc pm an cdv ct us its h1 h2 => b0 T kV doc pm an cdv ct us its (by omega) h2)
  cases v1
  exact ⟨f, _, F, PySem.W.mg_of X G a, B1, ds0, v0, B0⟩
end
section
variable {X : Cx} {j k : Nat} {x : Str} {sp : Sp} {p pos : Pos} {e : Expr} {es : List Expr} {t : TA} {v : V}
theorem pcD (c : CalD X.prog X.w X.K X.mg X.base (L2.CX X.prog X.w) k x sp v) (hr : Room j X.A) (hk : k ≤ j) (ha : PA X (e :: es) t) (hg : Gl X x := by rfl)
    (hdb : (x == ("__debug__" : Str)) = false := by decide) (he : starEach (e :: es) X.env = (false, eval e X.env) :: starEach es X.env := by rfl) (hpl : (backTo pos (starEach es X.env)).any (·.1) = false := by rfl) :
    PE X (.Call (.Name x p) (e :: es) [] pos) (tCall sp [v] E0 t) := by
  obtain ⟨f, fd, ps, ds, F, hm, kp, b, hv⟩ := c.ex
  exact pe_call F (hr.mono hk) hg hm kp b hv passL ha hdb he hpl
end
/-- bits -/
theorem bitOr_nat (a b : Nat) : Builtin.bitOr (a : Int) (b : Int) = ((a ||| b : Nat) : Int) := by
  rw [bitOr_nn (Int.natCast_nonneg _) (Int.natCast_nonneg _), Int.toNat_natCast, Int.toNat_natCast]
end TW
open PySem PySem.Spec PyProof.Rows L2 TW
local macro_rules | `(tactic| walk_at "sq") => `(tactic| first
  | with_reducible assumption
  | (with_reducible exact SqL.of upd_same)
  | (with_reducible exact SqT.of upd_same)
  | (with_reducible exact SqL.of (by assumption))
  | (with_reducible exact SqT.of (by assumption))
  | (with_reducible refine sqn (by assumption) ?_; walk_at "sq")
  | (with_reducible refine stn (by assumption) ?_; walk_at "sq")
  | (with_reducible refine Same.seq (by assumption) ?_; walk_at "sq")
  | (with_reducible refine sts (by assumption) ?_; walk_at "sq"))
local macro_rules | `(tactic| walk_at "hl") => `(tactic| first
  | with_reducible assumption
  | (with_reducible exact upd_same)
  | (with_reducible refine hln (by assumption) ?_; walk_at "hl")
  | (with_reducible refine (by assumption : Same _ _) _ _ ?_; walk_at "hl"))
local macro_rules | `(tactic| walk_at "ar") => `(tactic| first
  | assumption
  | decide
  | (unfold CMul; first | exact .inl (by decide) | exact .inr (by decide) | exact .inl ⟨by omega, by omega⟩ | exact .inr ⟨by omega, by omega⟩)
  | (unfold CDiv; constructor <;> omega)
  | (unfold CPow; refine ⟨?_, ?_, ?_⟩ <;> first | decide | omega)
  | (dsimp only; omega)
  | omega)
local macro_rules | `(tactic| walk_at "sm") => `(tactic| first
  | with_reducible assumption
  | (with_reducible exact Same.refl _)
  | (with_reducible refine same_new (by assumption) ?_; walk_at "sm")
  | (with_reducible refine Same.trans ?_ (by assumption); walk_at "sm"))
local macro_rules | `(tactic| walk_at "TE") => `(tactic| first
  | ((with_reducible show tVar _ _ _ _); refine ⟨_, rfl, ?_⟩)
  | with_reducible refine w_c ?_
  | with_reducible refine w_op ?_
  | with_reducible refine w_call ?_
  | with_reducible refine w_cb ?_
  | with_reducible refine w_lst ?_
  | with_reducible refine w_un ?_
  | with_reducible refine w_callS ?_
  | with_reducible refine w_callF ?_
  | with_reducible refine w_callSD ?_
  | with_reducible refine w_star ?_
  | with_reducible refine w_fldV (f := "_turn") rfl (by walk_at "hl") (HallC.cl (by assumption)) (HallC.n1 (by assumption)) fl_turn ?_
  | with_reducible refine w_fldV (f := "_coming") rfl (by walk_at "hl") (HallC.cl (by assumption)) (HallC.n2 (by assumption)) fl_coming ?_
  | with_reducible refine w_fldV (f := "_start") rfl (by walk_at "hl") (HallC.cl (by assumption)) (HallC.n3 (by assumption)) fl_start ?_
  | with_reducible refine w_fldV (f := "_way") rfl (by walk_at "hl") (HallC.cl (by assumption)) (HallC.n4 (by assumption)) fl_way ?_
  | with_reducible refine w_fldV (f := "_row") rfl (by walk_at "hl") (HallC.cl (by assumption)) (HallC.n5 (by assumption)) fl_row ?_
  | with_reducible refine w_fldV (f := "_log") rfl (by walk_at "hl") (HallC.cl (by assumption)) (HallC.n6 (by assumption)) fl_log ?_
  | with_reducible refine w_meth ?_
  | with_reducible refine w_methS ?_
  | with_reducible refine w_andV ?_
  | with_reducible refine w_orV ?_
  | with_reducible refine w_notV ?_
  | with_reducible refine w_chain ?_
  | with_reducible refine w_slice ?_
  | with_reducible refine w_tup ?_
  | with_reducible refine w_bm ?_
  | with_reducible refine w_lstRg ?_
  | with_reducible refine w_dnew ?_
  | with_reducible refine w_din ?_
  | with_reducible refine w_dnotin ?_
  | with_reducible refine w_dget ?_
  | with_reducible refine w_lc ?_
  | with_reducible refine w_fmt ?_)
local macro_rules | `(tactic| walk_at "TS") => `(tactic| first
  | with_reducible refine w_seq ?_
  | with_reducible refine w_set ?_
  | with_reducible refine w_ret ?_
  | with_reducible refine w_if ?_
  | with_reducible refine w_drop ?_
  | with_reducible refine w_next ?_
  | with_reducible refine w_cont ?_
  | with_reducible refine w_brk ?_
  | with_reducible refine w_for ?_
  | with_reducible refine w_keep ?_
  | with_reducible refine w_only ?_
  | with_reducible refine w_dput ?_
  | with_reducible refine w_par ?_
  | with_reducible refine w_asg ?_
  | with_reducible refine w_sfld ?_)
local macro_rules | `(tactic| walk_at "TT") => `(tactic| first
  | with_reducible refine w_test ?_
  | with_reducible refine w_tB ?_
  | with_reducible refine w_not ?_
  | with_reducible refine w_and ?_
  | with_reducible refine w_or ?_
  | with_reducible refine w_yes ?_)
local macro_rules | `(tactic| walk_at "TA") => `(tactic| first
  | with_reducible refine w_cons ?_
  | with_reducible refine w_nil ?_)
local macro_rules | `(tactic| walk_at "R2") => `(tactic| first
  | with_reducible refine w_addI ?_
  | with_reducible refine w_I0 ?_
  | ((with_reducible show rMulA (V.int _) (V.int _) _ _); refine w_mulI (by walk_at "ar") ?_)
  | ((with_reducible show rI _ _ (V.int _) (V.int _) _ _); refine w_I (by walk_at "ar") ?_)
  | with_reducible refine w_eqAI ?_
  | with_reducible refine w_neAI ?_
  | ((with_reducible show rMulA (V.ref _) (V.int _) _ _); refine w_mulL (by walk_at "hl") (by walk_at "ar") (by walk_at "ar") ?_ ?_))
local macro_rules | `(tactic| walk_at "EX") => `(tactic| first
  | with_reducible refine w_exbl ?_
  | with_reducible refine w_exint ?_
  | with_reducible refine w_exstr ?_
  | with_reducible refine w_ex1 ?_
  | with_reducible refine w_ex2 ?_
  | with_reducible refine w_exvw ?_
  | with_reducible refine w_exsq (by walk_at "sq") ?_
  | with_reducible refine w_exrf (by walk_at "sq") ?_)
local macro_rules | `(tactic| walk_at "AND") => `(tactic| first
  | with_reducible refine w_notN ?_
  | ((with_reducible show (List.length _ ≤ sizeLine) ∧ _); refine ⟨by first | (with_unfolding_all exact Nat.le_of_ble_eq_true rfl) | decide, ?_⟩)
  | ((with_reducible show (Str.length _ ≤ sizeLine) ∧ _); refine ⟨by decide +kernel, ?_⟩)
  | with_reducible refine ⟨⟨by decide, by decide, by decide, by decide⟩, ?_⟩
  | with_reducible refine ⟨by decide, by decide, ?_⟩)
local macro_rules | `(tactic| walk_at "step") => `(tactic| first
  | ((with_reducible refine gTE ?_); walk_at "TE")
  | ((with_reducible refine gTA ?_); walk_at "TA")
  | ((with_reducible refine gR2 ?_); walk_at "R2")
  | ((with_reducible refine gTS ?_); walk_at "TS")
  | ((with_reducible refine gTT ?_); walk_at "TT")
  | ((with_reducible refine gEx ?_); walk_at "EX")
  | ((with_reducible refine gAnd ?_); walk_at "AND")
  | ((with_reducible show (if _ = true then _ else _)); first | refine iteT ?_ | refine iteF ?_)
  | with_reducible refine w_U ?_
  | with_reducible refine w_nopart ?_
  | with_reducible refine w_part ?_
  | with_reducible refine w_int1 ?_
  | with_reducible refine w_rg1 ?_
  | with_reducible refine w_rng1 ?_
  | with_reducible refine w_rng2 ?_
  | with_reducible refine w_list ?_
  | with_reducible refine w_enum ?_
  | with_reducible refine w_iseq ?_
  | with_reducible refine w_gname ?_
  | with_reducible refine w_enumA ?_
  | with_reducible refine w_js ?_
  | with_reducible refine w_js0 ?_
  | with_reducible refine w_fmtI (by decide +kernel) ?_)
local macro_rules | `(tactic| walk_at "go") => `(tactic| repeat (walk_at "step"))
local macro_rules | `(tactic| walk_at "EXn") => `(tactic| first
  | with_reducible refine w_exbl ?_
  | with_reducible refine w_exint ?_
  | with_reducible refine w_exstr ?_
  | with_reducible refine w_ex1 ?_
  | with_reducible refine w_ex2 ?_
  | with_reducible refine w_exvw ?_)
local macro_rules | `(tactic| walk_at "stepn") => `(tactic| first
  | ((with_reducible refine gTE ?_); walk_at "TE")
  | ((with_reducible refine gTA ?_); walk_at "TA")
  | ((with_reducible refine gR2 ?_); walk_at "R2")
  | ((with_reducible refine gTS ?_); walk_at "TS")
  | ((with_reducible refine gTT ?_); walk_at "TT")
  | ((with_reducible refine gEx ?_); walk_at "EXn")
  | ((with_reducible refine gAnd ?_); walk_at "AND")
  | ((with_reducible show (if _ = true then _ else _)); first | refine iteT ?_ | refine iteF ?_)
  | with_reducible refine w_U ?_
  | with_reducible refine w_nopart ?_
  | with_reducible refine w_part ?_
  | with_reducible refine w_int1 ?_
  | with_reducible refine w_rg1 ?_
  | with_reducible refine w_rng1 ?_
  | with_reducible refine w_rng2 ?_
  | with_reducible refine w_list ?_
  | with_reducible refine w_enum ?_
  | with_reducible refine w_iseq ?_
  | with_reducible refine w_gname ?_
  | with_reducible refine w_enumA ?_
  | with_reducible refine w_js ?_
  | with_reducible refine w_js0 ?_
  | with_reducible refine w_fmtI (by decide +kernel) ?_)
local macro_rules | `(tactic| walk_at "gn") => `(tactic| repeat (walk_at "stepn"))
section
namespace K6
def topS (i : Nat) : Stmt := PySem.Challenge.pw_tossrow_k06_states_of_rows.main.body.getD i (.Pass ⟨0, 0, 0, 0⟩)
abbrev s_is_whole : Stmt := topS 8
abbrev N_is_whole : List Str := ["thing"]
theorem sc_is_whole : FnScope N_is_whole ["thing"] (defScope s_is_whole) := ⟨rfl, rfl, rfl, by decide +kernel, rfl, by decide +kernel, by decide +kernel⟩
abbrev s_need_row : Stmt := topS 12
abbrev N_need_row : List Str := ["thing", "height"]
theorem sc_need_row : FnScope N_need_row ["thing"] (defScope s_need_row) := ⟨rfl, rfl, rfl, by decide +kernel, rfl, by decide +kernel, by decide +kernel⟩
abbrev s_clash : Stmt := topS 13
abbrev N_clash : List Str := ["row", "thrower", "other", "height", "rest"]
theorem sc_clash : FnScope N_clash ["row"] (defScope s_clash) := ⟨rfl, rfl, rfl, by decide +kernel, rfl, by decide +kernel, by decide +kernel⟩
abbrev s_need_going : Stmt := topS 14
abbrev N_need_going : List Str := ["row", "pair", "one", "other"]
theorem sc_need_going : FnScope N_need_going ["row"] (defScope s_need_going) := ⟨rfl, rfl, rfl, by decide +kernel, rfl, by decide +kernel, by decide +kernel⟩
abbrev s_need_state : Stmt := topS 17
abbrev N_need_state : List Str := ["thing"]
theorem sc_need_state : FnScope N_need_state ["thing"] (defScope s_need_state) := ⟨rfl, rfl, rfl, by decide +kernel, rfl, by decide +kernel, by decide +kernel⟩
abbrev s_thrown : Stmt := topS 18
abbrev N_thrown : List Str := ["state", "height"]
theorem sc_thrown : FnScope N_thrown ["state", "height"] (defScope s_thrown) := ⟨rfl, rfl, rfl, by decide +kernel, rfl, by decide +kernel, by decide +kernel⟩
abbrev s_state_at : Stmt := topS 19
abbrev N_state_at : List Str := ["row", "turn", "state", "ago", "height"]
theorem sc_state_at : FnScope N_state_at ["row", "turn"] (defScope s_state_at) := ⟨rfl, rfl, rfl, by decide +kernel, rfl, by decide +kernel, by decide +kernel⟩
abbrev s_heights_let : Stmt := topS 20
abbrev N_heights_let : List Str := ["state", "height"]
theorem sc_heights_let : FnScope N_heights_let ["state"] (defScope s_heights_let) := ⟨rfl, rfl, rfl, by decide +kernel, rfl, by decide +kernel, by decide +kernel⟩
abbrev s_state_behind : Stmt := topS 21
abbrev N_state_behind : List Str := ["state", "height"]
theorem sc_state_behind : FnScope N_state_behind ["state", "height"] (defScope s_state_behind) := ⟨rfl, rfl, rfl, by decide +kernel, rfl, by decide +kernel, by decide +kernel⟩
abbrev s_comes_down : Stmt := topS 22
abbrev N_comes_down : List Str := ["state", "turns"]
theorem sc_comes_down : FnScope N_comes_down ["state", "turns"] (defScope s_comes_down) := ⟨rfl, rfl, rfl, by decide +kernel, rfl, by decide +kernel, by decide +kernel⟩
abbrev s__law_mixed : Stmt := topS 24
abbrev N__law_mixed : List Str := ["_law_cell", "_law_k", "_law_drawn"]
theorem sc__law_mixed : FnScope N__law_mixed ["_law_cell", "_law_k"] (defScope s__law_mixed) := ⟨rfl, rfl, rfl, by decide +kernel, rfl, by decide +kernel, by decide +kernel⟩
abbrev s__law_cell_at : Stmt := topS 25
abbrev N__law_cell_at : List Str := ["_law_script", "_law_k"]
theorem sc__law_cell_at : FnScope N__law_cell_at ["_law_script", "_law_k"] (defScope s__law_cell_at) := ⟨rfl, rfl, rfl, by decide +kernel, rfl, by decide +kernel, by decide +kernel⟩
abbrev s__law_any : Stmt := topS 26
abbrev N__law_any : List Str := ["_law_cell", "_law_many", "_law_k"]
theorem sc__law_any : FnScope N__law_any ["_law_cell", "_law_many"] (defScope s__law_any) := ⟨rfl, rfl, rfl, by decide +kernel, rfl, by decide +kernel, by decide +kernel⟩
abbrev s__law_mixed_up : Stmt := topS 27
abbrev N__law_mixed_up : List Str := ["_law_row", "_law_cell", "_law_many", "_law_k", "_law_draw", "_law_one", "_law_other", "_law_heights"]
theorem sc__law_mixed_up : FnScope N__law_mixed_up ["_law_row", "_law_cell"] (defScope s__law_mixed_up) := ⟨rfl, rfl, rfl, by decide +kernel, rfl, by decide +kernel, by decide +kernel⟩
abbrev s__law_going : Stmt := topS 28
abbrev N__law_going : List Str := ["_law_cell", "_law_many", "_law_row", "_law_k", "_law_by"]
theorem sc__law_going : FnScope N__law_going ["_law_cell", "_law_many"] (defScope s__law_going) := ⟨rfl, rfl, rfl, by decide +kernel, rfl, by decide +kernel, by decide +kernel⟩
abbrev s__law_long : Stmt := topS 29
abbrev N__law_long : List Str := ["_law_cell"]
theorem sc__law_long : FnScope N__law_long ["_law_cell"] (defScope s__law_long) := ⟨rfl, rfl, rfl, by decide +kernel, rfl, by decide +kernel, by decide +kernel⟩
abbrev s__law_due : Stmt := topS 30
abbrev N__law_due : List Str := ["_law_row", "_law_turn", "_law_found", "_law_back", "_law_wait"]
theorem sc__law_due : FnScope N__law_due ["_law_row", "_law_turn"] (defScope s__law_due) := ⟨rfl, rfl, rfl, by decide +kernel, rfl, by decide +kernel, by decide +kernel⟩
abbrev s__law_told : Stmt := topS 31
abbrev N__law_told : List Str := ["_law_row", "_law_turn", "_law_found"]
theorem sc__law_told : FnScope N__law_told ["_law_row", "_law_turn"] (defScope s__law_told) := ⟨rfl, rfl, rfl, by decide +kernel, rfl, by decide +kernel, by decide +kernel⟩
abbrev s_law : Stmt := topS 32
abbrev N_law : List Str := ["_law_script", "_law_k", "_law_cell", "_law_draw", "_law_row", "_law_turn", "_law_due_here", "_law_found", "_law_none"]
theorem sc_law : FnScope N_law ["_law_script"] (defScope s_law) := ⟨rfl, rfl, rfl, by decide +kernel, rfl, by decide +kernel, by decide +kernel⟩
end K6
end
section
namespace K6
section
variable {P : Program} {w : World} {K : PySem.W.Frag} {mg : Str → Option Value} {base : Heap}
/-! ### is_whole, need_row -/
def spWhole (K : PySem.W.Frag) : Sp := fun vs H Q _ => ∃ x t, vs = [x] ∧ Kd K H x t ∧ Q (.bl (wholeV x)) H
theorem ok_whole (D : Dfn K mg "is_whole" s_is_whole ["thing"]) (n_isinstance : mg "isinstance" = none) (n_int : mg "int" = none) (n_bool : mg "bool" = none) : Cal P w K mg base CX0 1 "is_whole" (spWhole K) := by
  refine D.cal sc_is_whole (fun vs H Q E h => ?_) (fun f cdv A outer s H vs Q E hr h => ?_)
  · obtain ⟨x, t, rfl, _⟩ := h
    rfl
  · obtain ⟨x, t, rfl, kd, q⟩ := h
    have nd := sc_is_whole.nd
    refine ⟨_, (pss_one (ps_ret (pe_and (pe_callB (call_isK_ K) (by rfl) n_isinstance (by decide +kernel) (pa_cons (pv 0) (pa_cons (pe_bltn (v := .ty "int") (by rfl) n_int (by decide +kernel) rfl) pa_nil))) (pe_one (pe_not (pe_callB (call_isK_ K) (by rfl) n_isinstance (by decide +kernel) (pa_cons (pv 0) (pa_cons (pe_bltn (v := .ty "bool") (by rfl) n_bool (by decide +kernel) rfl) pa_nil)))))))), ?_⟩
    rw [show L2.start N_is_whole [x] = [some (x)] from rfl]
    try dsimp only [cxOf]
    walk_at "go"
    refine w_isInt kd ?_
    cases kd
    all_goals (show (fun z => z) _; dsimp only [intV]; walk_at "go")
    all_goals first | exact q | (refine w_isBool (by first | exact .int _ | exact .bl _) ?_; walk_at "go"; exact q)
/-- need_row: items of plain kinds -/
def spNeedR (K : PySem.W.Frag) (C : Addr) : Sp := fun vs H Q E =>
  (∃ x t, vs = [x] ∧ Kd K H x t ∧ t ≠ "list" ∧ t ≠ "tuple" ∧ ∀ H', Same H H' → E (.ref C) none H') ∨
  (∃ (a : Addr) (xs : List V), vs = [.ref a] ∧ (SqL K H a xs ∨ SqT K H a xs) ∧ xs.length ≤ 100000 ∧ (∀ v ∈ xs, ∃ t, Kd K H v t) ∧
    ((∃ r, xs = r.map V.int ∧ OkR r) → ∀ H', Same H H' → Q .non H') ∧ ((¬ ∃ r, xs = r.map V.int ∧ OkR r) → ∀ H', Same H H' → E (.ref C) none H'))
theorem ok_needR {C : Addr} (D : Dfn K mg "need_row" s_need_row ["thing"]) (c_is_whole : Cal P w K mg base CX0 1 "is_whole" (spWhole K)) (v_MOST_HEIGHTS : ∃ u, mg "MOST_HEIGHTS" = some u ∧ RelV (.int 40) u) (v_TOP_HEIGHT : ∃ u, mg "TOP_HEIGHT" = some u ∧ RelV (.int 9) u)
    (n_isinstance : mg "isinstance" = none) (n_list : mg "list" = none) (n_tuple : mg "tuple" = none) (n_len : mg "len" = none) (e_NoRow : Exn K mg "NoRow" C) : Cal P w K mg base (L2.CX P w) 2 "need_row" (spNeedR K C) := by
  refine D.calX sc_need_row (fun vs H Q E h => ?_) (fun f cdv A outer s H vs Q E hr h => ?_)
  · rcases h with ⟨x, t, rfl, _⟩ | ⟨a, xs, rfl, _⟩ <;> rfl
  · obtain ⟨x, rfl⟩ : ∃ x, vs = [x] := by
      rcases h with ⟨x, t, rfl, _⟩ | ⟨a, xs, rfl, _⟩ <;> exact ⟨_, rfl⟩
    have nd := sc_need_row.nd
    refine ⟨_, (pss_cons (ps_if (pt_not (pt_val (pe_callB (call_isK_ K) (by rfl) n_isinstance (by decide +kernel) (pa_cons (pv 0) (pa_cons (pe_tup (pa_cons (pe_bltn (v := .ty "list") (by rfl) n_list (by decide +kernel) rfl) (pa_cons (pe_bltn (v := .ty "tuple") (by rfl) n_tuple (by decide +kernel) rfl) pa_nil))) pa_nil)))))
  (pss_one (ps_raise rfl (takes_of rfl rfl rfl rfl) (pmk_ownA PySem.F.excBase_ValueError e_NoRow.x e_NoRow.g e_NoRow.k (raises_own e_NoRow.b e_NoRow.t) (by rfl) (pa_cons pe_str pa_nil))))
  pss_nil)
  (pss_cons (ps_if (pt_not (pt_chain op_le op_le pe_int (pe_callB (call_lenK K) (by rfl) n_len PySem.boot_len (pa_cons (pv 0) pa_nil)) (pgl v_MOST_HEIGHTS)))
  (pss_one (ps_raise rfl (takes_of rfl rfl rfl rfl) (pmk_ownA PySem.F.excBase_ValueError e_NoRow.x e_NoRow.g e_NoRow.k (raises_own e_NoRow.b e_NoRow.t) (by rfl) (pa_cons (pe_joined (.cons pe_str (.cons (pe_fmt (pgl v_MOST_HEIGHTS)) (.cons pe_str .nil)))) pa_nil))))
  pss_nil)
  (pss_one (ps_for (passes_of rfl) rfl (pi_seq (pv 0)) (pg_name (i := 1) nd rfl (.inl rfl))
  (pss_one (ps_if (PW.pt (pw_or (pt_not (pt_val (pc0 c_is_whole hr (by decide) (pa_cons (pv 1) pa_nil)))) (pw_or1 (pt_not (pt_chain op_le op_le pe_int (pv 1) (pgl v_TOP_HEIGHT))))))
  (pss_one (ps_raise rfl (takes_of rfl rfl rfl rfl) (pmk_ownA PySem.F.excBase_ValueError e_NoRow.x e_NoRow.g e_NoRow.k (raises_own e_NoRow.b e_NoRow.t) (by rfl) (pa_cons (pe_joined (.cons pe_str (.cons (pe_fmt (pgl v_TOP_HEIGHT)) .nil))) pa_nil))))
  pss_nil)))))), ?_⟩
    rw [show L2.start N_need_row [x] = [some (x), none] from rfl]
    try dsimp only [cxOf]
    walk_at "go"
    intro p hp
    generalize hX : upd H p _ = H1
    obtain ⟨s1, l1⟩ := new_at hp hX
    clear hX
    walk_at "go"
    rcases h with ⟨x, t, e, kd, h1, h2, q⟩ | ⟨a, xs, e, hq, hz, hk, q1, q2⟩
    · cases e
      refine w_isListTup (kd.same s1) l1 ?_
      rw [show (t == "list" || t == "tuple") = false by simp [h1, h2]]
      walk_at "go"
      exact q _ s1
    · cases e
      have hq1 : SqL K H1 a xs ∨ SqT K H1 a xs := hq.elim (fun z => .inl (s1.seq z)) (fun z => .inr (sts s1 z))
      have hk1 : ∀ v ∈ xs, ∃ t, Kd K H1 v t := fun v hv => (hk v hv).elim fun t z => ⟨t, z.same s1⟩
      have len : ∀ {R : VK} {H2 : Hp}, Same H1 H2 → R (.int xs.length) H2 → rLenA K [.ref a] H2 R := fun s2 z => hq1.elim (fun y => w_lenL (s2.seq y) z) (fun y => w_lenT (sts s2 y) z)
      obtain ⟨t, kd, ht⟩ : ∃ t, Kd K H1 (.ref a) t ∧ (t == "list" || t == "tuple") = true := hq1.elim (fun y => ⟨_, .lst y, rfl⟩) (fun y => ⟨_, .tup y, rfl⟩)
      refine w_isListTup kd l1 ?_
      rw [ht]
      walk_at "go"
      refine len (Same.refl _) ?_
      walk_at "go"
      have badlen : ¬ (1 ≤ xs.length ∧ xs.length ≤ 40) → ¬ ∃ r, xs = r.map V.int ∧ OkR r := by
        rintro hn ⟨r, rfl, ok⟩
        rw [List.length_map] at hn
        exact hn ⟨ok.pos, ok.most⟩
      have baditem : ∀ v ∈ xs, (¬ ∃ h : Int, v = .int h ∧ 0 ≤ h ∧ h ≤ 9) → ¬ ∃ r, xs = r.map V.int ∧ OkR r := by
        rintro v hv hn ⟨r, rfl, ok⟩
        obtain ⟨h, hh, rfl⟩ := List.mem_map.mp hv
        exact hn ⟨h, rfl, ok.all h hh⟩
      refine iteD (fun g1 => ?_) (fun g1 => ?_)
      · walk_at "go"
        refine iteND (fun g2 => ?_) (fun g2 => ?_)
        · walk_at "go"
          exact q2 (badlen (by omega)) _ s1
        · walk_at "go"
          have loop : ∀ (σ : L2.St) (H' : Hp), (∃ y, Same H1 H' ∧ σ = [some (.ref a), y] ∧ ∀ j v, j < xs.length → xs[j]? = some v → ∃ h : Int, v = .int h ∧ 0 ≤ h ∧ h ≤ 9) → Q .non H' := by
            rintro σ H' ⟨y, s2, rfl, hall⟩
            refine q1 ?_ _ (s1.trans s2)
            obtain ⟨r, hr, hb⟩ := ints_of (xs := xs) fun v hv => by
              obtain ⟨j, hj, e⟩ := List.mem_iff_getElem.mp hv
              exact hall j v hj (by rw [List.getElem?_eq_getElem hj, e])
            refine ⟨r, hr, ⟨?_, ?_, hb⟩⟩
            · rw [hr, List.length_map] at g1
              omega
            · rw [hr, List.length_map] at g2
              omega
          rcases hq1 with y | y
          · refine .inl ⟨a, xs, rfl, y, for_list (fun i σ H' => ∃ z, Same H1 H' ∧ σ = [some (.ref a), z] ∧ ∀ j v, j < i → xs[j]? = some v → ∃ h : Int, v = .int h ∧ 0 ≤ h ∧ h ≤ 9) ⟨_, Same.refl _, rfl, fun j v hj => absurd hj (Nat.not_lt_zero _)⟩ (fun i σ H' _ hP => hP.elim fun z hz => hz.1.seq y) (fun i x σ H' hx hP => ?_) loop⟩
            obtain ⟨z, s2, rfl, hall⟩ := hP
            have hxm := List.mem_of_getElem? hx
            obtain ⟨tx, kx⟩ := hk1 x hxm
            walk_at "go"
            refine ⟨x, tx, rfl, kx.same s2, ?_⟩
            walk_at "go"
            refine iteNB (fun hw => ?_) (fun hw => ?_)
            · walk_at "go"
              exact q2 (baditem x hxm (fun ⟨h, e, _⟩ => by subst e; cases hw)) _ (s1.trans s2)
            · obtain ⟨h, rfl⟩ : ∃ i : Int, x = .int i := by
                cases x <;> first | exact ⟨_, rfl⟩ | cases hw
              walk_at "go"
              refine iteD (fun h0 => ?_) (fun h0 => ?_)
              · walk_at "go"
                refine iteND (fun h9 => ?_) (fun h9 => ?_)
                · walk_at "go"
                  exact q2 (baditem _ hxm (fun ⟨k, e, _, k9⟩ => by cases e; exact h9 k9)) _ (s1.trans s2)
                · walk_at "go"
                  refine ⟨_, s2, rfl, fun j v hj hv => ?_⟩
                  by_cases e : j = i
                  · subst e
                    rw [hx] at hv
                    cases hv
                    exact ⟨h, rfl, h0, h9⟩
                  · exact hall j v (by omega) hv
              · walk_at "go"
                exact q2 (baditem _ hxm (fun ⟨k, e, k0, _⟩ => by cases e; exact h0 k0)) _ (s1.trans s2)
          · refine .inr ⟨a, xs, rfl, y, for_tup (fun i σ H' => ∃ z, Same H1 H' ∧ σ = [some (.ref a), z] ∧ ∀ j v, j < i → xs[j]? = some v → ∃ h : Int, v = .int h ∧ 0 ≤ h ∧ h ≤ 9) ⟨_, Same.refl _, rfl, fun j v hj => absurd hj (Nat.not_lt_zero _)⟩ (fun i σ H' _ hP => hP.elim fun z hz => sts hz.1 y) (fun i x σ H' hx hP => ?_) loop⟩
            obtain ⟨z, s2, rfl, hall⟩ := hP
            have hxm := List.mem_of_getElem? hx
            obtain ⟨tx, kx⟩ := hk1 x hxm
            walk_at "go"
            refine ⟨x, tx, rfl, kx.same s2, ?_⟩
            walk_at "go"
            refine iteNB (fun hw => ?_) (fun hw => ?_)
            · walk_at "go"
              exact q2 (baditem x hxm (fun ⟨h, e, _⟩ => by subst e; cases hw)) _ (s1.trans s2)
            · obtain ⟨h, rfl⟩ : ∃ i : Int, x = .int i := by
                cases x <;> first | exact ⟨_, rfl⟩ | cases hw
              walk_at "go"
              refine iteD (fun h0 => ?_) (fun h0 => ?_)
              · walk_at "go"
                refine iteND (fun h9 => ?_) (fun h9 => ?_)
                · walk_at "go"
                  exact q2 (baditem _ hxm (fun ⟨k, e, _, k9⟩ => by cases e; exact h9 k9)) _ (s1.trans s2)
                · walk_at "go"
                  refine ⟨_, s2, rfl, fun j v hj hv => ?_⟩
                  by_cases e : j = i
                  · subst e
                    rw [hx] at hv
                    cases hv
                    exact ⟨h, rfl, h0, h9⟩
                  · exact hall j v (by omega) hv
              · walk_at "go"
                exact q2 (baditem _ hxm (fun ⟨k, e, k0, _⟩ => by cases e; exact h0 k0)) _ (s1.trans s2)
      · walk_at "go"
        exact q2 (badlen (by omega)) _ s1
end
end K6
end
section
namespace K6
section
variable {P : Program} {w : World} {K : PySem.W.Frag} {mg : Str → Option Value} {base : Heap}
/-! ### the law's rows -/
def spMixed : Sp := fun vs H Q _ => ∃ c k : Int, vs = [.int c, .int k] ∧ Q (.int (mixed c k)) H
theorem ok_mixed (D : Dfn K mg "_law_mixed" s__law_mixed ["_law_cell", "_law_k"]) : Cal P w K mg base CX0 1 "_law_mixed" spMixed := by
  refine D.cal sc__law_mixed (fun vs H Q E h => ?_) (fun f cdv A outer s H vs Q E hr h => ?_)
  · obtain ⟨c, k, rfl, _⟩ := h
    rfl
  · obtain ⟨c, k, rfl, q⟩ := h
    have nd := sc__law_mixed.nd
    refine ⟨_, (pss_cons (ps_set (i := 2) nd rfl (.inl rfl) (pe_op op_mod (pe_op op_mulA (pe_op (op_addK K) (pv 0) (pe_op op_mulA pe_int (pv 1))) pe_int) pe_int))
  (pss_one (ps_ret (pe_op op_mod (pe_op op_mulA (pv 2) (pe_op (op_addK K) (pe_op (op_addK K) (pv 2) (pe_op op_mulA pe_int (pv 1))) pe_int)) pe_int)))), ?_⟩
    rw [show L2.start N__law_mixed [V.int c, V.int k] = [some (V.int c), some (V.int k), none] from rfl]
    try dsimp only [cxOf]
    have b0 : 0 ≤ (c + 7919 * k) * 48271 % 2147483647 := Int.emod_nonneg _ (by decide)
    have b1 : (c + 7919 * k) * 48271 % 2147483647 < 2147483647 := Int.emod_lt_of_pos _ (by decide)
    walk_at "go"
    exact q
def spAny (K : PySem.W.Frag) : Sp := fun vs H Q _ => ∃ c m : Int, vs = [.int c, .int m] ∧ 0 ≤ m ∧ m ≤ 1000 ∧ ∀ H' p, Same H H' → H p = none → H' p = some (.lst ((anyL c m).map V.int)) → Q (.ref p) H'
theorem ok_any (D : Dfn K mg "_law_any" s__law_any ["_law_cell", "_law_many"]) (c__law_mixed : Cal P w K mg base CX0 1 "_law_mixed" spMixed) (n_range : mg "range" = none) : Cal P w K mg base CX0 2 "_law_any" (spAny K) := by
  refine D.cal sc__law_any (fun vs H Q E h => ?_) (fun f cdv A outer s H vs Q E hr h => ?_)
  · obtain ⟨c, m, rfl, _⟩ := h
    rfl
  · obtain ⟨c, m, rfl, m0, m1, q⟩ := h
    have nd := sc__law_any.nd
    refine ⟨_, (pss_one (ps_ret (pe_lc (own := [("_law_k", 2)]) (g := gName 2) (tt := tYes) rfl nd (pi_range1 (by rfl) n_range (pa_cons (pv 1) pa_nil)) (blkOk_by (N := ["_law_cell", "_law_many", "_law_k"]) (sc := defScope s__law_any) (by decide +kernel)) (fun _ _ _ _ _ => (pg_name (i := 2) nd rfl (.inl rfl))) (fun _ _ _ _ _ => pts_nil) (fun _ _ _ _ _ => (pe_op op_mod (pc0 c__law_mixed hr (by decide) (pa_cons (pv 0) (pa_cons (pv 2) pa_nil))) (pe_ix (ix_seqK K) (pe_lst (pa_cons pe_int (pa_cons pe_int (pa_cons pe_int pa_nil)))) (pe_op op_mod (pv 0) pe_int) (fun _ _ => rfl))))))), ?_⟩
    rw [show L2.start N__law_any [V.int c, V.int m] = [some (V.int c), some (V.int m), none] from rfl]
    try dsimp only [cxOf]
    walk_at "go"
    refine ⟨by omega, by omega, fun p hp => ?_⟩
    refine lcR (fun _ => true) (fun k => .int (mixed c k % anyM c)) hp (by omega) (fun k H1 hk sm B q => ?_) (fun k H1 hk _ sm R q => ?_) fun H' sm hl => ?_
    · simp only [wipe, List.set_cons_zero, List.set_cons_succ]
      walk_at "go"
      exact q _ (Same.refl _)
    · simp only [wipe, List.set_cons_zero, List.set_cons_succ]
      walk_at "go"
      refine ⟨c, _, rfl, ?_⟩
      walk_at "go"
      intro p2 hp2
      walk_at "go"
      refine w_ixAL (SqL.of upd_same) (any_at c) ?_
      have hb := anyM_b c
      refine w_I hb.1 ?_
      exact q _ (same_new hp2 (Same.refl _))
    · refine q _ p sm hp ?_
      rw [hl]
      have e : ((frm 0 m.toNat).filter fun _ => true).map (fun k => V.int (mixed c k % anyM c)) = (anyL c m).map V.int := by
        rw [List.filter_eq_self.mpr (fun _ _ => rfl)]
        unfold anyL
        rw [List.map_map]
        rfl
      rw [e]
def spLong : Sp := fun vs H Q _ => ∃ c : Int, vs = [.int c] ∧ ∀ H', Same H H' → Q (.int (longI c)) H'
theorem ok_long (D : Dfn K mg "_law_long" s__law_long ["_law_cell"]) : Cal P w K mg base CX0 1 "_law_long" spLong := by
  refine D.cal sc__law_long (fun vs H Q E h => ?_) (fun f cdv A outer s H vs Q E hr h => ?_)
  · obtain ⟨c, rfl, _⟩ := h
    rfl
  · obtain ⟨c, rfl, q⟩ := h
    have nd := sc__law_long.nd
    refine ⟨_, (pss_one (ps_ret (pe_ix (ix_seqK K) (pe_lst (pa_cons (pe_op (op_addK K) pe_int (pe_op op_mod (pe_op op_fdiv (pv 0) pe_int) pe_int)) (pa_cons (pe_op (op_addK K) pe_int (pe_op op_mod (pe_op op_fdiv (pv 0) pe_int) pe_int)) (pa_cons pe_int pa_nil)))) (pe_op op_mod (pv 0) pe_int) (fun _ _ => rfl)))), ?_⟩
    rw [show L2.start N__law_long [V.int c] = [some (V.int c)] from rfl]
    try dsimp only [cxOf]
    walk_at "go"
    intro p hp
    walk_at "go"
    refine w_ixAL (SqL.of upd_same) (long_at c) ?_
    exact q _ (same_new hp (Same.refl _))
def spMixUp : Sp := fun vs H Q _ => ∃ (a : Addr) (c : Int) (row : List Int), vs = [.ref a, .int c] ∧ H a = some (.lst (row.map V.int)) ∧ 1 ≤ row.length ∧ row.length ≤ 40 ∧ ∀ H', SameBut a H H' → H' a = some (.lst ((mixUp c row).map V.int)) → Q .non H'
theorem ok_mixUp (D : Dfn K mg "_law_mixed_up" s__law_mixed_up ["_law_row", "_law_cell"]) (c__law_mixed : Cal P w K mg base CX0 1 "_law_mixed" spMixed) (n_range : mg "range" = none) (n_len : mg "len" = none) (n_int : mg "int" = none) (n_min : mg "min" = none) (n_max : mg "max" = none) : Cal P w K mg base CX0 2 "_law_mixed_up" spMixUp := by
  refine D.cal sc__law_mixed_up (fun vs H Q E h => ?_) (fun f cdv A outer s H vs Q E hr h => ?_)
  · obtain ⟨a, c, row, rfl, _⟩ := h
    rfl
  · obtain ⟨a, c, row, rfl, ha, l1, l2, q⟩ := h
    have nd := sc__law_mixed_up.nd
    refine ⟨_, (pss_cons (ps_set (i := 2) nd rfl (.inl rfl) (pe_callB (call_lenK K) (by rfl) n_len PySem.boot_len (pa_cons (pv 0) pa_nil)))
  (pss_one (ps_for PassesOwn.never rfl (pi_range1 (by rfl) n_range (pa_cons (pe_op op_mulA (pe_op op_mulA pe_int (pv 2)) (pe_callTy call_int1 (by rfl) n_int (by decide +kernel) (pa_cons (pe_cmpR op_gt (pv 2) pe_int (nomark _)) pa_nil))) pa_nil)) (pg_name (i := 3) nd rfl (.inl rfl))
  (pss_cons (ps_set (i := 4) nd rfl (.inl rfl) (pc0 c__law_mixed hr (by decide) (pa_cons (pv 1) (pa_cons (pv 3) pa_nil))))
  (pss_cons (ps_set (i := 5) nd rfl (.inl rfl) (pe_op op_mod (pv 4) (pv 2)))
  (pss_cons (ps_set (i := 6) nd rfl (.inl rfl) (pe_op op_mod (pe_op (op_addK K) (pe_op (op_addK K) (pv 5) pe_int) (pe_op op_mod (pe_op op_fdiv (pv 4) pe_int) (pe_op op_sub (pv 2) pe_int))) (pv 2)))
  (C8.pss_cut (ps_if (pt_cmpR op_gt (pv 5) (pv 6) (nomark _))
  (pss_one (ps_par (i := 5) (j := 6) rfl nd rfl rfl (by decide) rfl rfl (pa_cons (pv 6) (pa_cons (pv 5) pa_nil)) rfl))
  pss_nil)
  (pss_cons (ps_set (i := 7) nd rfl (.inl rfl) (pe_tup (pa_cons (pe_op (op_addK K) (pe_op op_sub (pv 6) (pv 5)) (pe_ix (ix_seqK K) (pv 0) (pv 6) (fun _ _ => rfl))) (pa_cons (pe_op (op_addK K) (pe_op op_sub (pe_ix (ix_seqK K) (pv 0) (pv 5) (fun _ _ => rfl)) (pv 6)) (pv 5)) pa_nil))))
  (pss_one (ps_if (PW.pt (pw_and (pt_cmpR op_le pe_int (pe_callB (call_minT K rfl hr.units) (by rfl) n_min (by decide +kernel) (pa_cons (pv 7) pa_nil)) (nomark _)) (pw_and1 (pt_cmpR op_lt (pe_callB (call_maxT K rfl hr.units) (by rfl) n_max (by decide +kernel) (pa_cons (pv 7) pa_nil)) pe_int (nomark _)))))
  (pss_one (ps_asg (pv 7) (pg_tup rfl (pgs_cons (pg_sub (pv 0) (pv 5) set_list) (pgs_cons (pg_sub (pv 0) (pv 6) set_list) pgs_nil)))))
  pss_nil)))))))))), ?_⟩
    rw [show L2.start N__law_mixed_up [V.ref a, V.int c] = [some (V.ref a), some (V.int c), none, none, none, none, none, none] from rfl]
    try dsimp only [cxOf]
    walk_at "go"
    refine w_lenL (SqL.of ha) ?_
    rw [List.length_map]
    walk_at "go"
    have hR : (2 * (row.length : Int) * if decide (1 < (row.length : Int)) = true then 1 else 0).toNat = mixN row.length := by
      unfold mixN
      by_cases z : 1 < row.length
      · rw [if_pos z, decide_eq_true (show 1 < (row.length : Int) by omega), if_pos rfl]
        omega
      · rw [if_neg z, decide_eq_false (show ¬ 1 < (row.length : Int) by omega), if_neg Bool.false_ne_true]
        omega
    have hR2 : (2 * (row.length : Int) * if decide (1 < (row.length : Int)) = true then 1 else 0) ≤ 80 ∧ 0 ≤ (2 * (row.length : Int) * if decide (1 < (row.length : Int)) = true then 1 else 0) := by
      by_cases z : 1 < (row.length : Int)
      · rw [decide_eq_true z, if_pos rfl]
        omega
      · rw [decide_eq_false z, if_neg Bool.false_ne_true]
        omega
    refine ⟨by omega, by omega, ?_⟩
    rw [hR]
    refine for_range (fun i σ H' => SameBut a H H' ∧ H' a = some (.lst ((mixTo c row i).map V.int)) ∧ ∃ y3 y4 y5 y6 y7, σ = [some (.ref a), some (.int c), some (.int row.length), y3, y4, y5, y6, y7]) ⟨SameBut.refl a H, ha, _, _, _, _, _, rfl⟩ (fun i σ H' hi hP => ?_) (fun σ H' hP => ?_)
    · obtain ⟨sb, hl, y3, y4, y5, y6, y7, rfl⟩ := hP
      have n1 : 1 < (row.length : Int) := by
        unfold mixN at hi
        split at hi <;> omega
      walk_at "go"
      refine ⟨c, _, rfl, ?_⟩
      rw [show (0 : Int) + (i : Int) = (i : Int) by omega]
      obtain ⟨d, hd⟩ : ∃ d, d = mixed c (i : Int) := ⟨_, rfl⟩
      rw [← hd]
      walk_at "go"
      refine w_cut (fun σ' H'' => H'' = H' ∧ σ' = [some (.ref a), some (.int c), some (.int row.length), some (.int (i : Int)), some (.int d), some (.int (ends row.length d).1), some (.int (ends row.length d).2), y7]) ?_ (fun σ' H'' hM => ?_)
      · walk_at "go"
        refine iteD (fun g => ?_) (fun g => ?_)
        · walk_at "go"
          refine ⟨rfl, ?_⟩
          have e : ends row.length d = ((d % row.length + 1 + d / 64 % (row.length - 1)) % row.length, d % row.length) := if_pos g
          rw [e]
          rfl
        · walk_at "go"
          refine ⟨rfl, ?_⟩
          have e : ends row.length d = (d % row.length, (d % row.length + 1 + d / 64 % (row.length - 1)) % row.length) := if_neg g
          rw [e]
          rfl
      · obtain ⟨rfl, rfl⟩ := hM
        have lenI : (mixTo c row i).length = row.length := mixTo_length _ _ _
        obtain ⟨⟨b0, b1⟩, b2, b3⟩ := ends_b (m := row.length) (d := d) (by omega)
        walk_at "go"
        refine w_ixAL (SqL.of hl) (at_getD b2 (by rw [lenI]; exact b3)) ?_
        walk_at "go"
        refine w_ixAL (SqL.of hl) (at_getD b0 (by rw [lenI]; exact b1)) ?_
        walk_at "go"
        intro T hT
        generalize hX : upd _ T _ = H2
        obtain ⟨s2, l2⟩ := new_at hT hX
        clear hX
        walk_at "go"
        have sb2 : SameBut a H H2 := sb.trans (Same.but s2)
        have hl2 : H2 a = some (.lst ((mixTo c row i).map V.int)) := s2 _ _ hl
        have nxt : mixTo c row (i + 1) = exch (mixTo c row i) (ends row.length d).1 (ends row.length d).2 := by
          rw [mixTo_succ]
          unfold mixStep
          rw [lenI, ← hd]
        refine w_minT (SqT.of l2) ?_
        walk_at "go"
        refine iteD (fun g1 => ?_) (fun g1 => ?_)
        · walk_at "go"
          refine w_maxT (SqT.of l2) ?_
          walk_at "go"
          refine iteD (fun g2 => ?_) (fun g2 => ?_)
          · walk_at "go"
            refine w_gtupS2 (SqT.of l2) (w_gsub ?_)
            walk_at "go"
            refine w_setL hl2 (ixN_of b0 (by rw [List.length_map, lenI]; exact b1)) ?_
            refine w_gsub ?_
            walk_at "go"
            refine w_setL upd_same (ixN_of b2 (by rw [List.length_set, List.length_map, lenI]; exact b3)) ?_
            refine ⟨sb2.trans (SameBut.upd.trans SameBut.upd), ?_, _, _, _, _, _, rfl⟩
            rw [upd_same, map_set, map_set, nxt]
            unfold exch
            rw [if_pos ⟨g1, g2⟩]
          · walk_at "go"
            refine ⟨sb2, ?_, _, _, _, _, _, rfl⟩
            rw [hl2, nxt]
            unfold exch
            rw [if_neg (fun z => g2 z.2)]
        · walk_at "go"
          refine ⟨sb2, ?_, _, _, _, _, _, rfl⟩
          rw [hl2, nxt]
          unfold exch
          rw [if_neg (fun z => g1 z.1)]
    · obtain ⟨sb, hl, y3, y4, y5, y6, y7, rfl⟩ := hP
      exact q _ sb hl
def spGoing (K : PySem.W.Frag) : Sp := fun vs H Q _ => ∃ c m : Int, vs = [.int c, .int m] ∧ 1 ≤ m ∧ m ≤ 40 ∧ ∀ H' p, Same H H' → H p = none → H' p = some (.lst ((goingL c m).map V.int)) → Q (.ref p) H'
theorem ok_going (D : Dfn K mg "_law_going" s__law_going ["_law_cell", "_law_many"]) (c__law_mixed : Cal P w K mg base CX0 1 "_law_mixed" spMixed) (c__law_mixed_up : Cal P w K mg base CX0 2 "_law_mixed_up" spMixUp) (n_range : mg "range" = none) : Cal P w K mg base CX0 3 "_law_going" (spGoing K) := by
  refine D.cal sc__law_going (fun vs H Q E h => ?_) (fun f cdv A outer s H vs Q E hr h => ?_)
  · obtain ⟨c, m, rfl, _⟩ := h
    rfl
  · obtain ⟨c, m, rfl, m0, m1, q⟩ := h
    have nd := sc__law_going.nd
    refine ⟨_, (pss_cons (ps_set (i := 2) nd rfl (.inl rfl) (pe_op op_mulA (pe_lst (pa_cons (pe_op op_mod (pv 0) pe_int) pa_nil)) (pv 1)))
  (pss_cons (ps_for PassesOwn.never rfl (pi_range1 (by rfl) n_range (pa_cons pe_int pa_nil)) (pg_name (i := 3) nd rfl (.inl rfl))
  (pss_cons (ps_expr (pc0 c__law_mixed_up hr (by decide) (pa_cons (pv 2) (pa_cons (pc0 c__law_mixed hr (by decide) (pa_cons (pv 0) (pa_cons (pe_op (op_addK K) pe_int (pv 3)) pa_nil))) pa_nil))))
  (pss_cons (ps_set (i := 4) nd rfl (.inl rfl) (pe_op op_mod (pc0 c__law_mixed hr (by decide) (pa_cons (pv 0) (pa_cons (pe_op (op_addK K) pe_int (pv 3)) pa_nil))) (pv 1)))
  (pss_one (ps_set (i := 2) nd rfl (.inl rfl) (pe_op (op_addK K) (pe_slice (sl_listK K) (pv 2) (po_some (pv 4)) po_none) (pe_slice (sl_listK K) (pv 2) po_none (po_some (pv 4)))))))))
  (pss_one (ps_ret (pv 2))))), ?_⟩
    rw [show L2.start N__law_going [V.int c, V.int m] = [some (V.int c), some (V.int m), none, none, none] from rfl]
    try dsimp only [cxOf]
    walk_at "go"
    intro p hp
    generalize hX : upd H p _ = H1
    obtain ⟨s1, l1⟩ := new_at hp hX
    clear hX
    walk_at "go"
    · show 1 * m.toNat ≤ sizeLine
      exact Nat.le_trans (show 1 * m.toNat ≤ 40 by omega) (by decide)
    · intro p2 hp2
      have e0 : (List.replicate m.toNat [V.int (c % 10)]).flatten = (List.replicate m.toNat (c % 10)).map V.int := by
        rw [List.map_replicate]
        generalize m.toNat = n
        induction n with
        | zero => rfl
        | succ n ih =>
          rw [List.replicate_succ, List.flatten_cons, ih, List.replicate_succ]
          rfl
      rw [e0]
      generalize hX : upd H1 p2 _ = H2
      obtain ⟨s2, l2⟩ := new_at hp2 hX
      clear hX
      have hp2' : H p2 = none := Same.free s1 hp2
      walk_at "go"
      refine for_range (fun i σ H' => ∃ (a : Addr) (row : List Int) (y3 y4 : Option V), σ = [some (.int c), some (.int m), some (.ref a), y3, y4] ∧ Same H H' ∧ H a = none ∧ H' a = some (.lst (row.map V.int)) ∧ row.length = m.toNat ∧
        row = (List.range i).foldl (turnS c) (List.replicate m.toNat (c % 10))) ⟨p2, _, _, _, rfl, s1.trans s2, hp2', l2, List.length_replicate .., rfl⟩ (fun i σ H' hi hP => ?_) (fun σ H' hP => ?_)
      · obtain ⟨a, row, y3, y4, rfl, sm, ha, hl, len, er⟩ := hP
        walk_at "go"
        refine ⟨c, _, rfl, ?_⟩
        walk_at "go"
        refine ⟨a, _, row, rfl, hl, by omega, by omega, fun H3 sb hl3 => ?_⟩
        walk_at "go"
        refine ⟨c, _, rfl, ?_⟩
        walk_at "go"
        obtain ⟨b, hb⟩ : ∃ b, b = mixed c (60 + (0 + (i : Int))) % m := ⟨_, rfl⟩
        have b0 : 0 ≤ b := by rw [hb]; exact Int.emod_nonneg _ (by omega)
        have b1 : b < m := by rw [hb]; exact Int.emod_lt_of_pos _ (by omega)
        rw [← hb]
        have len3 : ((mixUp (mixed c (50 + (0 + (i : Int)))) row).map V.int).length = m.toNat := by
          rw [List.length_map, mixUp_length, len]
        refine w_slL (SqL.of hl3) fun p3 hp3 => ?_
        rw [cut_from b0 (by rw [len3]; omega)]
        generalize hX : upd H3 p3 _ = H4
        obtain ⟨s4, l4⟩ := new_at hp3 hX
        clear hX
        walk_at "go"
        refine w_slL (SqL.of (s4 _ _ hl3)) fun p5 hp5 => ?_
        rw [cut_to b0 (by rw [len3]; omega)]
        generalize hX : upd H4 p5 _ = H5
        obtain ⟨s5, l5⟩ := new_at hp5 hX
        clear hX
        walk_at "go"
        refine w_addL (SqL.of (s5 _ _ l4)) (SqL.of l5) ?_ fun p6 hp6 => ?_
        · rw [List.length_drop, List.length_take, len3]
          exact Nat.le_trans (show _ ≤ 40 by omega) (by decide)
        · generalize hX : upd H5 p6 _ = H6
          obtain ⟨s6, l6⟩ := new_at hp6 hX
          clear hX
          have smA : Same H H3 := sb.same ha sm
          have smB : Same H H5 := (smA.trans s4).trans s5
          refine ⟨p6, turnS c row i, _, _, rfl, smB.trans s6, Same.free smB hp6, ?_, ?_, ?_⟩
          · rw [l6]
            unfold turnS rot
            rw [show (50 + (0 + (i : Int))) = 50 + (i : Int) by omega, show (60 + (0 + (i : Int))) = 60 + (i : Int) by omega] at *
            rw [show ((row.length : Nat) : Int) = m by rw [len]; omega, ← hb, List.map_append, List.map_drop, List.map_take]
          · rw [turnS_length, len]
          · rw [List.range_succ, List.foldl_append, ← er]
            rfl
      · obtain ⟨a, row, y3, y4, rfl, sm, ha, hl, len, er⟩ := hP
        walk_at "go"
        refine q _ a sm ha ?_
        rw [hl, er]
        rfl
end
end K6
end
section
namespace K6
section
variable {P : Program} {w : World} {K : PySem.W.Frag} {mg : Str → Option Value} {base : Heap}
/-! ### clash -/
/-- what is told of a row: its pair, or None -/
def ClashQ (r : List Int) (H : Hp) (Q : VK) : Prop := (clashL r = none → ∀ H', Same H H' → Q .non H') ∧ ∀ i j : Nat, clashL r = some (i, j) → ∀ H' p, Same H H' → H p = none → H' p = some (.tup [.int i, .int j]) → Q (.ref p) H'
def spClash (K : PySem.W.Frag) (C : Addr) : Sp := fun vs H Q E =>
  (∃ x t, vs = [x] ∧ Kd K H x t ∧ t ≠ "list" ∧ t ≠ "tuple" ∧ ∀ H', Same H H' → E (.ref C) none H') ∨
  (∃ (a : Addr) (xs : List V), vs = [.ref a] ∧ (SqL K H a xs ∨ SqT K H a xs) ∧ xs.length ≤ 100000 ∧ (∀ v ∈ xs, ∃ t, Kd K H v t) ∧
    (∀ r, xs = r.map V.int → OkR r → ClashQ r H Q) ∧ ((¬ ∃ r, xs = r.map V.int ∧ OkR r) → ∀ H', Same H H' → E (.ref C) none H'))
theorem ok_clash {C : Addr} (D : Dfn K mg "clash" s_clash ["row"]) (c_need_row : Cal P w K mg base (L2.CX P w) 2 "need_row" (spNeedR K C)) (n_enumerate : mg "enumerate" = none) (n_len : mg "len" = none) : Cal P w K mg base (L2.CX P w) 3 "clash" (spClash K C) := by
  refine D.calX sc_clash (fun vs H Q E h => ?_) (fun f cdv A outer s H vs Q E hr h => ?_)
  · rcases h with ⟨x, t, rfl, _⟩ | ⟨a, xs, rfl, _⟩ <;> rfl
  · obtain ⟨x, rfl⟩ : ∃ x, vs = [x] := by
      rcases h with ⟨x, t, rfl, _⟩ | ⟨a, xs, rfl, _⟩ <;> exact ⟨_, rfl⟩
    have nd := sc_clash.nd
    refine ⟨_, (pss_cons (ps_expr (pcS (W := fun cls d _ H => E cls d H) c_need_row hr (by decide) (takes_of rfl rfl rfl rfl) (pa_cons (pv 0) pa_nil)))
  (pss_cons (ps_set (i := 1) nd rfl (.inl rfl) pe_dnewK)
  (pss_cons (ps_for (passes_of rfl) rfl (pi_enumT (by rfl) n_enumerate (pa_cons (pv 0) pa_nil)) (pg_tup rfl (pgs_cons (pg_name (i := 2) nd rfl (.inl rfl)) (pgs_cons (pg_name (i := 3) nd rfl (.inl rfl)) pgs_nil)))
  (pss_cons (ps_set (i := 4) nd rfl (.inl rfl) (pe_op op_mod (pe_op (op_addK K) (pv 2) (pv 3)) (pe_callB (call_lenK K) (by rfl) n_len PySem.boot_len (pa_cons (pv 0) pa_nil))))
  (pss_cons (ps_if (pt_cmp (pc_din (hu_of hr) (pv 4) (pv 1)))
  (pss_one (ps_ret (pe_tup (pa_cons (pe_dget (hu_of hr) (pv 1) (pv 4) (fun _ _ => rfl)) (pa_cons (pv 2) pa_nil)))))
  pss_nil)
  (pss_one (ps_dput (hu_of hr) (pv 1) (pv 4) (pv 2) rfl)))))
  (pss_one (ps_ret pe_non))))), ?_⟩
    rw [show L2.start N_clash [x] = [some (x), none, none, none, none] from rfl]
    try dsimp only [cxOf]
    walk_at "go"
    rcases h with ⟨x, t, e, kd, h1, h2, q⟩ | ⟨a, xs, e, hq, hz, hk, q1, q2⟩
    · cases e
      exact .inl ⟨x, t, rfl, kd, h1, h2, q⟩
    · cases e
      refine .inr ⟨a, xs, rfl, hq, hz, hk, ?_, q2⟩
      rintro ⟨r, rfl, ok⟩ H1 s1
      have q3 := q1 r rfl ok
      walk_at "go"
      intro d hd
      generalize hX : upd H1 d _ = H2
      obtain ⟨s2, l2⟩ := new_at hd hX
      clear hX
      have hd' : H d = none := Same.free s1 hd
      have hs : SqL K H2 a (r.map V.int) ∨ SqT K H2 a (r.map V.int) := hq.elim (fun z => .inl (s2.seq (s1.seq z))) (fun z => .inr (sts s2 (sts s1 z)))
      have s12 := s1.trans s2
      clear s1 s2 hd q1 q2
      have zl : r.length ≤ 100000 := by
        rw [List.length_map] at hz
        exact hz
      have zs : (100000 : Nat) < sizeLine := by decide
      walk_at "go"
      clear hs
      rcases hq with y | y
      · refine .inl ⟨a, r.map V.int, rfl, Same.seq (s12) y, ?_⟩
        refine for_enum (xs := r.map V.int) (fun i σ H' => ∃ (kvs : List (Key × V)) (y2 y3 y4 : Option V), σ = [some (.ref a), some (.ref d), y2, y3, y4] ∧ SameBut d H2 H' ∧ H' d = some (.dK kvs) ∧ kvs.length ≤ i ∧ (∀ o, o < i → oneOf r o = none) ∧
          ∀ z : Int, valV kvs (.inl z) = ((List.range i).find? fun j => decide (landL r j = z)).map fun (j : Nat) => V.int (j : Int)) ⟨[], _, _, _, rfl, SameBut.refl _ _, l2, Nat.le_refl _, fun o ho => absurd ho (Nat.not_lt_zero _), fun z => rfl⟩ (fun i σ H' _ hP => ?_) (fun i x σ H' T hx hP hT => ?_) (fun σ H' hP => ?_)
        · obtain ⟨kvs, y2, y3, y4, _, sb, _⟩ := hP
          exact Same.seq (sb.same hd' s12) y
        · obtain ⟨kvs, y2, y3, y4, rfl, sb, hl, hz2, hn, hv⟩ := hP
          obtain ⟨n, hn2, rfl⟩ := at_ints hx
          have sH : Same H H' := sb.same hd' s12
          have hil : i < r.length := (List.getElem?_eq_some_iff.mp hn2).1
          refine w_gtup2 upd_same ?_
          have hlT : (upd H' T (.tup [.int (i : Nat), .int n])) d = some (.dK kvs) := hln hT hl
          have sT : Same H (upd H' T (.tup [.int (i : Nat), .int n])) := same_new hT sH
          have sbT : SameBut d H2 (upd H' T (.tup [.int (i : Nat), .int n])) := sb.trans (Same.but (same_new hT (Same.refl _)))
          generalize upd H' T _ = H3 at hlT sT sbT ⊢
          walk_at "go"
          refine w_lenL (Same.seq sT y) ?_
          rw [List.length_map]
          walk_at "go"
          have eland : ((i : Int) + n) % r.length = landL r i := by
            unfold landL
            rw [List.getD_eq_getElem?_getD, hn2]
            rfl
          rw [eland]
          refine ⟨d, _, rfl, DGet.k (k := .inl (landL r i)) hlT, ?_⟩
          rw [hv]
          cases hf : oneOf r i with
          | none =>
            have e : ((List.range i).find? fun j => decide (landL r j = landL r i)) = none := hf
            rw [e]
            walk_at "go"
            refine ⟨d, _, rfl, DPut.k (k := .inl (landL r i)) hlT (by omega), _, _, _, _, rfl, sbT.trans SameBut.upd, upd_same, ?_, ?_, ?_⟩
            · exact Nat.le_trans (length_putK _ _ _) (by omega)
            · intro o ho
              by_cases eo : o = i
              · rw [eo]
                exact hf
              · exact hn o (by omega)
            · intro z
              rw [valV_put, List.range_succ, List.find?_append, hv]
              by_cases ez : z = landL r i
              · rw [ez, e, if_pos rfl]
                simp
              · rw [if_neg (fun q => ez (Sum.inl.inj q))]
                have e3 : ([i] : List Nat).find? (fun j => decide (landL r j = z)) = none := by
                  rw [List.find?_cons_of_neg (by simpa using fun q : landL r i = z => ez q.symm)]
                  rfl
                rw [e3, Option.or_none]
          | some j =>
            have e : ((List.range i).find? fun j => decide (landL r j = landL r i)) = some j := hf
            rw [e]
            walk_at "go"
            refine ⟨d, .int (j : Int), rfl, ?_, ?_⟩
            · have g := DGet.k (k := .inl (landL r i)) hlT
              rw [hv, e] at g
              exact g
            · walk_at "go"
              intro p hp
              exact q3.2 j i (clash_at hil hn hf) _ p (same_new hp sT) (Same.free sT hp) upd_same
        · obtain ⟨kvs, y2, y3, y4, rfl, sb, hl, hz2, hn, hv⟩ := hP
          rw [List.length_map] at hn
          walk_at "go"
          exact q3.1 (clash_none hn) _ (sb.same hd' s12)
      · refine .inr ⟨a, r.map V.int, rfl, sts (s12) y, ?_⟩
        refine for_enumT (xs := r.map V.int) (fun i σ H' => ∃ (kvs : List (Key × V)) (y2 y3 y4 : Option V), σ = [some (.ref a), some (.ref d), y2, y3, y4] ∧ SameBut d H2 H' ∧ H' d = some (.dK kvs) ∧ kvs.length ≤ i ∧ (∀ o, o < i → oneOf r o = none) ∧
          ∀ z : Int, valV kvs (.inl z) = ((List.range i).find? fun j => decide (landL r j = z)).map fun (j : Nat) => V.int (j : Int)) ⟨[], _, _, _, rfl, SameBut.refl _ _, l2, Nat.le_refl _, fun o ho => absurd ho (Nat.not_lt_zero _), fun z => rfl⟩ (fun i σ H' _ hP => ?_) (fun i x σ H' T hx hP hT => ?_) (fun σ H' hP => ?_)
        · obtain ⟨kvs, y2, y3, y4, _, sb, _⟩ := hP
          exact sts (sb.same hd' s12) y
        · obtain ⟨kvs, y2, y3, y4, rfl, sb, hl, hz2, hn, hv⟩ := hP
          obtain ⟨n, hn2, rfl⟩ := at_ints hx
          have sH : Same H H' := sb.same hd' s12
          have hil : i < r.length := (List.getElem?_eq_some_iff.mp hn2).1
          refine w_gtup2 upd_same ?_
          have hlT : (upd H' T (.tup [.int (i : Nat), .int n])) d = some (.dK kvs) := hln hT hl
          have sT : Same H (upd H' T (.tup [.int (i : Nat), .int n])) := same_new hT sH
          have sbT : SameBut d H2 (upd H' T (.tup [.int (i : Nat), .int n])) := sb.trans (Same.but (same_new hT (Same.refl _)))
          generalize upd H' T _ = H3 at hlT sT sbT ⊢
          walk_at "go"
          refine w_lenT (sts sT y) ?_
          rw [List.length_map]
          walk_at "go"
          have eland : ((i : Int) + n) % r.length = landL r i := by
            unfold landL
            rw [List.getD_eq_getElem?_getD, hn2]
            rfl
          rw [eland]
          refine ⟨d, _, rfl, DGet.k (k := .inl (landL r i)) hlT, ?_⟩
          rw [hv]
          cases hf : oneOf r i with
          | none =>
            have e : ((List.range i).find? fun j => decide (landL r j = landL r i)) = none := hf
            rw [e]
            walk_at "go"
            refine ⟨d, _, rfl, DPut.k (k := .inl (landL r i)) hlT (by omega), _, _, _, _, rfl, sbT.trans SameBut.upd, upd_same, ?_, ?_, ?_⟩
            · exact Nat.le_trans (length_putK _ _ _) (by omega)
            · intro o ho
              by_cases eo : o = i
              · rw [eo]
                exact hf
              · exact hn o (by omega)
            · intro z
              rw [valV_put, List.range_succ, List.find?_append, hv]
              by_cases ez : z = landL r i
              · rw [ez, e, if_pos rfl]
                simp
              · rw [if_neg (fun q => ez (Sum.inl.inj q))]
                have e3 : ([i] : List Nat).find? (fun j => decide (landL r j = z)) = none := by
                  rw [List.find?_cons_of_neg (by simpa using fun q : landL r i = z => ez q.symm)]
                  rfl
                rw [e3, Option.or_none]
          | some j =>
            have e : ((List.range i).find? fun j => decide (landL r j = landL r i)) = some j := hf
            rw [e]
            walk_at "go"
            refine ⟨d, .int (j : Int), rfl, ?_, ?_⟩
            · have g := DGet.k (k := .inl (landL r i)) hlT
              rw [hv, e] at g
              exact g
            · walk_at "go"
              intro p hp
              exact q3.2 j i (clash_at hil hn hf) _ p (same_new hp sT) (Same.free sT hp) upd_same
        · obtain ⟨kvs, y2, y3, y4, rfl, sb, hl, hz2, hn, hv⟩ := hP
          rw [List.length_map] at hn
          walk_at "go"
          exact q3.1 (clash_none hn) _ (sb.same hd' s12)
end
end K6
end
section
namespace K6
section
variable {P : Program} {w : World} {K : PySem.W.Frag} {mg : Str → Option Value} {base : Heap}
/-! ### Clash, and what is refused by it -/
abbrev s_Clash_init : Stmt := (clsBody (topS 3)).getD 0 (.Pass ⟨0, 0, 0, 0⟩)
theorem nsc_Clash : NdefX.NScope ["self", "one", "other", "__class__"] ["self", "one", "other"] ["__class__"] (defScope s_Clash_init) := NdefX.nscope_by (by decide +kernel)
theorem ok_Clash {f cda cc C : Addr} {fd : FuncData} (S : SupC P K f cda cc C "Clash.__init__" s_Clash_init) (T : OexC K C) (hfd : ∃ o, K.lookup f = some o ∧ o.data = .func fd) (htop : (P.main.scope.names.lookup ("super" : Str)).isSome = false) (hsup : mg "super" = none)
    (h1 : PySem.W.findIn K (.ref C) "one" = some none) (h2 : PySem.W.findIn K (.ref C) "other" = some none) : FnOk P w K mg base CX0 1 f fd ["self", "one", "other"] (spTwo "one" "other" C) := by
  refine sup_ok (k := 0) S T nsc_Clash hfd rfl rfl rfl (by decide +kernel) (by decide +kernel) (by decide +kernel) htop hsup (fun X => ⟨rfl, rfl, rfl, _, rfl⟩) (fun vs H Q E h => ?_) (fun A outer s H vs Q E hr h => ?_)
  · obtain ⟨a, i, j, rfl, _⟩ := h
    rfl
  · obtain ⟨a, i, j, rfl, hi, hj, ha, q⟩ := h
    refine ⟨a, _, _, rfl, ha, (pa_cons (pe_joined (.cons pe_str (.cons (pe_fmt (pv 1)) (.cons pe_str (.cons (pe_fmt (pv 2)) (.cons pe_str .nil)))))) pa_nil), (pss_cons (ps_ost (pv 0) (pv 1))
  (pss_one (ps_ost (pv 0) (pv 2)))), ?_⟩
    rw [show NdefX.startF ["self", "one", "other", "__class__"] [V.ref a, V.int i, V.int j] [some (V.ref C)] = [some (V.ref a), some (V.int i), some (V.int j), some (V.ref C)] from rfl]
    walk_at "go"
    have l0 : Str.empty.length = 0 := by decide +kernel
    have l1 : (Str.ofString "turns ").length = 6 := by decide +kernel
    have l2 : (Str.ofString " and ").length = 5 := by decide +kernel
    have l3 : (Str.ofString " clash").length = 6 := by decide +kernel
    have n1 := (num_len hi).2
    have n2 := (num_len hj).2
    have big : 1000 ≤ sizeLine := by decide
    refine w_fmtI (num_log hi) ?_
    walk_at "go"
    refine ⟨by simp only [Str.length_append]; omega, ?_⟩
    walk_at "go"
    refine ⟨by simp only [Str.length_append]; omega, ?_⟩
    walk_at "go"
    refine w_fmtI (num_log hj) ?_
    walk_at "go"
    refine ⟨by simp only [Str.length_append]; omega, ?_⟩
    walk_at "go"
    refine ⟨by simp only [Str.length_append]; omega, ?_⟩
    walk_at "go"
    refine ⟨show 1 ≤ 1000 by decide, ha, ?_⟩
    dsimp only [NdefX.ncx]
    walk_at "go"
    refine w_ost ?_
    walk_at "go"
    refine ⟨a, C, rfl, T, h1, .inl ⟨ha, fun d hd ne => ?_⟩⟩
    obtain ⟨e1, e2, p⟩ := two_set (f := "one") (g := "other") (x := .int i) (y := .int j) (P := fun H' => Q .non H') ha q d hd ne
    refine w_ost ?_
    walk_at "go"
    exact ⟨a, C, rfl, T, h2, .inr ⟨d, _, e1, e2, (show 1 ≤ 900 by decide), p⟩⟩
/-- what goes on may be asked of further; a pair is told by Clash -/
def GoQ (CC : Addr) (r : List Int) (H : Hp) (Q : VK) (E : XK) : Prop := (clashL r = none → ∀ H', Same H H' → Q .non H') ∧ ∀ i j : Nat, clashL r = some (i, j) → ∀ H' d, Same H H' → H d = none → H' d = some (.xd [("other", .int j), ("one", .int i)]) → E (.ref CC) (some d) H'
def spGo (K : PySem.W.Frag) (C CC : Addr) : Sp := fun vs H Q E =>
  (∃ x t, vs = [x] ∧ Kd K H x t ∧ t ≠ "list" ∧ t ≠ "tuple" ∧ ∀ H', Same H H' → E (.ref C) none H') ∨
  (∃ (a : Addr) (xs : List V), vs = [.ref a] ∧ (SqL K H a xs ∨ SqT K H a xs) ∧ xs.length ≤ 100000 ∧ (∀ v ∈ xs, ∃ t, Kd K H v t) ∧
    (∀ r, xs = r.map V.int → OkR r → GoQ CC r H Q E) ∧ ((¬ ∃ r, xs = r.map V.int ∧ OkR r) → ∀ H', Same H H' → E (.ref C) none H'))
theorem clash_lt {r : List Int} {i j : Nat} (h : clashL r = some (i, j)) : i < j ∧ j < r.length := by
  unfold clashL at h
  obtain ⟨o, ho, h2⟩ := List.exists_of_findSome?_eq_some h
  cases e : oneOf r o with
  | none => rw [e] at h2; cases h2
  | some k =>
    rw [e] at h2
    cases h2
    refine ⟨?_, List.mem_range.mp ho⟩
    unfold oneOf at e
    exact List.mem_range.mp (List.mem_of_find?_eq_some e)
theorem ok_go {C CC : Addr} (D : Dfn K mg "need_going" s_need_going ["row"]) (c_clash : Cal P w K mg base (L2.CX P w) 3 "clash" (spClash K C)) (m_Clash : MkE P w K mg base 1 "Clash" CC (spTwo "one" "other" CC)) : Cal P w K mg base (L2.CX P w) 4 "need_going" (spGo K C CC) := by
  refine D.calX sc_need_going (fun vs H Q E h => ?_) (fun f cdv A outer s H vs Q E hr h => ?_)
  · rcases h with ⟨x, t, rfl, _⟩ | ⟨a, xs, rfl, _⟩ <;> rfl
  · obtain ⟨x, rfl⟩ : ∃ x, vs = [x] := by
      rcases h with ⟨x, t, rfl, _⟩ | ⟨a, xs, rfl, _⟩ <;> exact ⟨_, rfl⟩
    have nd := sc_need_going.nd
    refine ⟨_, (pss_cons (ps_set (i := 1) nd rfl (.inl rfl) (pcS (W := fun cls d _ H => E cls d H) c_clash hr (by decide) (takes_of rfl rfl rfl rfl) (pa_cons (pv 0) pa_nil)))
  (pss_one (ps_if (pt_cmpR op_notN (pv 1) pe_non (nomark _))
  (pss_cons (ps_asg (pv 1) (pg_tup rfl (pgs_cons (pg_name (i := 2) nd rfl (.inl rfl)) (pgs_cons (pg_name (i := 3) nd rfl (.inl rfl)) pgs_nil))))
  (pss_one (ps_raise rfl (takes_of rfl rfl rfl rfl) (pmE m_Clash hr (by decide) (pa_cons (pv 2) (pa_cons (pv 3) pa_nil))))))
  pss_nil))), ?_⟩
    rw [show L2.start N_need_going [x] = [some (x), none, none, none] from rfl]
    try dsimp only [cxOf]
    walk_at "go"
    rcases h with ⟨x, t, e, kd, h1, h2, q⟩ | ⟨a, xs, e, hq, hz, hk, q1, q2⟩
    · cases e
      exact .inl ⟨x, t, rfl, kd, h1, h2, q⟩
    · cases e
      refine .inr ⟨a, xs, rfl, hq, hz, hk, fun r er ok => ?_, q2⟩
      have q3 := q1 r er ok
      refine ⟨fun cn H' s1 => ?_, fun i j cn H' p s1 hp l1 => ?_⟩
      · walk_at "go"
        exact q3.1 cn _ s1
      · obtain ⟨lij, ljr⟩ := clash_lt cn
        have z2 := ok.most
        walk_at "go"
        refine w_gtup2 l1 ?_
        dsimp only [List.set_cons_zero, List.set_cons_succ]
        walk_at "go"
        refine w_mkO ?_
        walk_at "go"
        exact mk_two (by omega) (by omega) fun d H2 s2 hd e => q3.2 i j cn H2 d (s1.trans s2) (Same.free s1 hd) e
end
end K6
end
section
namespace K6
section
variable {P : Program} {w : World} {K : PySem.W.Frag} {mg : Str → Option Value} {base : Heap}
/-- a state -/
def okS (x : V) : Prop := ∃ i : Int, x = .int i ∧ 0 ≤ i ∧ i ≤ 511
def spNeedS (K : PySem.W.Frag) (C : Addr) : Sp := fun vs H Q E => ∃ x t, vs = [x] ∧ Kd K H x t ∧ (okS x → Q .non H) ∧ (¬ okS x → E (.ref C) none H)
theorem ok_needS {C : Addr} (D : Dfn K mg "need_state" s_need_state ["thing"]) (c_is_whole : Cal P w K mg base CX0 1 "is_whole" (spWhole K)) (v_TOP_STATE : ∃ u, mg "TOP_STATE" = some u ∧ RelV (.int 511) u) (e_NoState : Exn K mg "NoState" C) : Cal P w K mg base (L2.CX P w) 2 "need_state" (spNeedS K C) := by
  refine D.calX sc_need_state (fun vs H Q E h => ?_) (fun f cdv A outer s H vs Q E hr h => ?_)
  · obtain ⟨x, t, rfl, _⟩ := h
    rfl
  · obtain ⟨x, t, rfl, kd, q1, q2⟩ := h
    have nd := sc_need_state.nd
    refine ⟨_, (pss_one (ps_if (PW.pt (pw_or (pt_not (pt_val (pc0 c_is_whole hr (by decide) (pa_cons (pv 0) pa_nil)))) (pw_or1 (pt_not (pt_chain op_le op_le pe_int (pv 0) (pgl v_TOP_STATE))))))
  (pss_one (ps_raise rfl (takes_of rfl rfl rfl rfl) (pmk_ownA PySem.F.excBase_ValueError e_NoState.x e_NoState.g e_NoState.k (raises_own e_NoState.b e_NoState.t) (by rfl) (pa_cons (pe_joined (.cons pe_str (.cons (pe_fmt (pgl v_TOP_STATE)) .nil))) pa_nil))))
  pss_nil)), ?_⟩
    rw [show L2.start N_need_state [x] = [some (x)] from rfl]
    try dsimp only [cxOf]
    walk_at "go"
    refine ⟨x, t, rfl, kd, ?_⟩
    walk_at "go"
    refine iteNB (fun hw => ?_) (fun hw => ?_)
    · walk_at "go"
      refine q2 ?_
      rintro ⟨i, rfl, _⟩
      cases hw
    · obtain ⟨i, rfl⟩ : ∃ i : Int, x = .int i := by
        cases x <;> first | exact ⟨_, rfl⟩ | cases hw
      walk_at "go"
      refine iteD (fun h0 => ?_) (fun h0 => ?_)
      · walk_at "go"
        refine iteND (fun h1 => ?_) (fun h1 => ?_)
        · walk_at "go"
          refine q2 ?_
          rintro ⟨j, e, j0, j1⟩
          cases e
          exact h1 j1
        · walk_at "go"
          exact q1 ⟨i, rfl, h0, h1⟩
      · walk_at "go"
        refine q2 ?_
        rintro ⟨j, e, j0, j1⟩
        cases e
        exact h0 j0
/-! ### bits -/
def bitI (s k : Int) : Bool := decide (s / 2 ^ k.toNat % 2 = 1)
def spDown : Sp := fun vs H Q _ => ∃ s k : Int, vs = [.int s, .int k] ∧ 0 ≤ k ∧ Q (.bl (bitI s k)) H
theorem ok_down (D : Dfn K mg "comes_down" s_comes_down ["state", "turns"]) : Cal P w K mg base CX0 1 "comes_down" spDown := by
  refine D.cal sc_comes_down (fun vs H Q E h => ?_) (fun f cdv A outer s H vs Q E hr h => ?_)
  · obtain ⟨x, t, rfl, _⟩ := h
    rfl
  · obtain ⟨x, k, rfl, hk, q⟩ := h
    have nd := sc_comes_down.nd
    refine ⟨_, (pss_one (ps_ret (pe_cmpR (op_eqK K hr.units) (pe_op op_mod (pe_op op_shr (pv 0) (pv 1)) pe_int) pe_int (nomark _)))), ?_⟩
    rw [show L2.start N_comes_down [V.int x, V.int k] = [some (V.int x), some (V.int k)] from rfl]
    try dsimp only [cxOf]
    walk_at "go"
    exact q
/-! ### heights_let, state_behind -/
def letsL (s : Int) : List Int := if bitI s 0 = true then (frm 1 9).filter fun h => !bitI s h else [0]
def spHLets : Sp := fun vs H Q _ => ∃ i : Int, vs = [.int i] ∧ ∀ H' p, Same H H' → H p = none → H' p = some (.lst ((letsL i).map V.int)) → Q (.ref p) H'
theorem ok_hlets (D : Dfn K mg "heights_let" s_heights_let ["state"]) (c_comes_down : Cal P w K mg base CX0 1 "comes_down" spDown) (n_range : mg "range" = none) (v_TOP_HEIGHT : ∃ u, mg "TOP_HEIGHT" = some u ∧ RelV (.int 9) u) : Cal P w K mg base CX0 2 "heights_let" spHLets := by
  refine D.cal sc_heights_let (fun vs H Q E h => ?_) (fun f cdv A outer s H vs Q E hr h => ?_)
  · obtain ⟨x, rfl, _⟩ := h
    rfl
  · obtain ⟨i, rfl, q1⟩ := h
    have nd := sc_heights_let.nd
    refine ⟨_, (pss_cons (ps_if (pt_not (pt_val (pc0 c_comes_down hr (by decide) (pa_cons (pv 0) (pa_cons pe_int pa_nil)))))
  (pss_one (ps_ret (pe_lst (pa_cons pe_int pa_nil))))
  pss_nil)
  (pss_one (ps_ret (pe_lc (own := [("height", 1)]) (g := gName 1) rfl nd (pi_range2 (by rfl) n_range (pa_cons pe_int (pa_cons (pe_op (op_addK K) (pgl v_TOP_HEIGHT) pe_int) pa_nil))) (blkOk_by (N := ["state", "height"]) (sc := defScope s_heights_let) (by decide +kernel)) (fun _ _ _ _ _ => (pg_name (i := 1) nd rfl (.inl rfl))) (fun _ _ _ _ _ => pts_one (pt_not (pt_val (pc0 c_comes_down hr (by decide) (pa_cons (pv 0) (pa_cons (pv 1) pa_nil)))))) (fun _ _ _ _ _ => (pv 1)))))), ?_⟩
    rw [show L2.start N_heights_let [V.int i] = [some (V.int i), none] from rfl]
    try dsimp only [cxOf]
    walk_at "go"
    refine ⟨i, 0, rfl, by decide, ?_⟩
    walk_at "go"
    refine iteNB (fun hb => ?_) (fun hb => ?_)
    · walk_at "go"
      intro p hp
      refine q1 _ p (by walk_at "sm") hp ?_
      rw [upd_same]
      unfold letsL
      rw [if_neg (by rw [hb]; decide)]
      rfl
    · walk_at "go"
      intro p hp
      refine lcR (fun h => !bitI i h) V.int hp (by decide) (fun k H1 hk sm B q => ?_) (fun k H1 hk _ sm R q => ?_) fun H' sm hl => ?_
      · simp only [wipe, List.set_cons_zero, List.set_cons_succ]
        walk_at "go"
        refine ⟨i, _, rfl, by omega, ?_⟩
        walk_at "go"
        exact q _ (Same.refl _)
      · simp only [wipe, List.set_cons_zero, List.set_cons_succ]
        walk_at "go"
        exact q _ (Same.refl _)
      · refine q1 _ p sm hp ?_
        rw [hl]
        unfold letsL
        rw [if_pos hb]
        rfl
def spBhd : Sp := fun vs H Q _ => ∃ i h : Int, vs = [.int i, .int h] ∧ 0 ≤ h ∧ h ≤ 9 ∧ Q (.int (Builtin.bitOr i (2 ^ h.toNat) / 2)) H
theorem ok_bhd (D : Dfn K mg "state_behind" s_state_behind ["state", "height"]) : Cal P w K mg base CX0 1 "state_behind" spBhd := by
  refine D.cal sc_state_behind (fun vs H Q E h => ?_) (fun f cdv A outer s H vs Q E hr h => ?_)
  · obtain ⟨x, h, rfl, _⟩ := h
    rfl
  · obtain ⟨i, h, rfl, h0, h9, q⟩ := h
    have nd := sc_state_behind.nd
    refine ⟨_, (pss_one (ps_ret (pe_op op_shr (pe_op op_or (pv 0) (pe_op op_shl pe_int (pv 1))) pe_int))), ?_⟩
    rw [show L2.start N_state_behind [V.int i, V.int h] = [some (V.int i), some (V.int h)] from rfl]
    try dsimp only [cxOf]
    walk_at "go"
    have e : (1 : Int) * 2 ^ h.toNat = 2 ^ h.toNat := Int.one_mul _
    rw [e]
    exact q
/-! ### lets, thrown -/
theorem letsL_bound {s h : Int} (hm : h ∈ letsL s) : 0 ≤ h ∧ h ≤ 9 := by
  unfold letsL at hm
  split at hm
  · obtain ⟨h1, _⟩ := List.mem_filter.mp hm
    obtain ⟨j, h2, rfl⟩ := List.mem_map.mp h1
    have h3 := List.mem_range.mp h2
    exact ⟨by omega, by omega⟩
  · have e := List.mem_singleton.mp hm
    subst e
    exact ⟨by decide, by decide⟩
def spThrown (K : PySem.W.Frag) (CS CT : Addr) : Sp := fun vs H Q E => ∃ x t y u, vs = [x, y] ∧ Kd K H x t ∧ Kd K H y u ∧ flatV y = true ∧ (∀ i h : Int, x = .int i → 0 ≤ i → i ≤ 511 → y = .int h → h ∈ letsL i → ∀ H', Same H H' → Q (.int (Builtin.bitOr i (2 ^ h.toNat) / 2)) H') ∧
  (¬ okS x → ∀ H', Same H H' → E (.ref CS) none H') ∧ (∀ i : Int, x = .int i → 0 ≤ i → i ≤ 511 → (¬ ∃ h : Int, y = .int h ∧ h ∈ letsL i) → ∀ H', Same H H' → E (.ref CT) none H')
theorem ok_thrown {CS CT : Addr} (D : Dfn K mg "thrown" s_thrown ["state", "height"]) (c_need_state : Cal P w K mg base (L2.CX P w) 2 "need_state" (spNeedS K CS)) (c_heights_let : Cal P w K mg base CX0 2 "heights_let" spHLets) (c_is_whole : Cal P w K mg base CX0 1 "is_whole" (spWhole K)) (c_state_behind : Cal P w K mg base CX0 1 "state_behind" spBhd) (e_NoThrow : Exn K mg "NoThrow" CT) : Cal P w K mg base (L2.CX P w) 4 "thrown" (spThrown K CS CT) := by
  refine D.calX sc_thrown (fun vs H Q E h => ?_) (fun f cdv A outer s H vs Q E hr h => ?_)
  · obtain ⟨x, t, y, u, rfl, _⟩ := h
    rfl
  · obtain ⟨x, t, y, u, rfl, kx, ky, fy, q1, q2, q3⟩ := h
    have nd := sc_thrown.nd
    refine ⟨_, (pss_cons (ps_expr (pcS (W := fun cls d _ H => E cls d H) c_need_state hr (by decide) (takes_of rfl rfl rfl rfl) (pa_cons (pv 0) pa_nil)))
  (pss_cons (ps_if (PW.pt (pw_or (pt_not (pt_val (pc0 c_is_whole hr (by decide) (pa_cons (pv 1) pa_nil)))) (pw_or1 (pt_cmpR (op_notInK K) (pv 1) (pc0 c_heights_let hr (by decide) (pa_cons (pv 0) pa_nil)) (by rfl)))))
  (pss_one (ps_raise rfl (takes_of rfl rfl rfl rfl) (pmk_ownA PySem.F.excBase_ValueError e_NoThrow.x e_NoThrow.g e_NoThrow.k (raises_own e_NoThrow.b e_NoThrow.t) (by rfl) (pa_cons pe_str pa_nil))))
  pss_nil)
  (pss_one (ps_ret (pc0 c_state_behind hr (by decide) (pa_cons (pv 0) (pa_cons (pv 1) pa_nil))))))), ?_⟩
    rw [show L2.start N_thrown [x, y] = [some (x), some (y)] from rfl]
    try dsimp only [cxOf]
    walk_at "go"
    refine ⟨x, t, rfl, kx, fun hx => ?_, fun hx => q2 hx _ (Same.refl _)⟩
    obtain ⟨i, rfl, i0, i1⟩ := hx
    walk_at "go"
    refine ⟨y, u, rfl, ky, ?_⟩
    walk_at "go"
    refine iteNB (fun hw => ?_) (fun hw => ?_)
    · walk_at "go"
      refine q3 i rfl i0 i1 ?_ _ (Same.refl _)
      rintro ⟨h, rfl, _⟩
      cases hw
    · obtain ⟨h, rfl⟩ : ∃ i : Int, y = .int i := by
        cases y <;> first | exact ⟨_, rfl⟩ | cases hw
      walk_at "go"
      refine ⟨i, rfl, fun H1 p sm hp hl => ?_⟩
      walk_at "go"
      refine w_inL (SqL.of hl) rfl (flat_ints _) ?_
      walk_at "go"
      rw [inV_ints]
      refine iteND (fun hm => ?_) (fun hm => ?_)
      · walk_at "go"
        refine q3 i rfl i0 i1 ?_ _ sm
        rintro ⟨k, e, hk⟩
        cases e
        exact hm hk
      · have hb := letsL_bound hm
        walk_at "go"
        refine ⟨i, h, rfl, hb.1, hb.2, ?_⟩
        walk_at "go"
        exact q1 i h rfl i0 i1 rfl hm _ sm
end
end K6
end
section
namespace K6
section
variable {P : Program} {w : World} {K : PySem.W.Frag} {mg : Str → Option Value} {base : Heap}
/-! ### state_at -/
theorem w_lenS {H : Hp} {a : Addr} {xs : List V} {Q : VK} (hs : SqL K H a xs ∨ SqT K H a xs) (h : Q (.int xs.length) H) : rLenA K [.ref a] H Q := hs.elim (fun z => w_lenL z h) (fun z => w_lenT z h)
theorem w_ixS {H : Hp} {a : Addr} {xs : List V} {n : Int} {v : V} {Q : VK} (hs : SqL K H a xs ∨ SqT K H a xs) (hv : atI xs n = some v) (h : Q v H) : rIx K (.ref a) (.int n) H Q := hs.elim (fun z => w_ixAL z hv h) (fun z => w_ixAT z hv h)
def okT (y : V) : Prop := ∃ t : Int, y = .int t ∧ 0 ≤ t
def spState (K : PySem.W.Frag) (C CC CT : Addr) : Sp := fun vs H Q E => ∃ x y u, vs = [x, y] ∧ Kd K H y u ∧
  ((∃ t, Kd K H x t ∧ t ≠ "list" ∧ t ≠ "tuple" ∧ ∀ H', Same H H' → E (.ref C) none H') ∨
  (∃ (a : Addr) (xs : List V), x = .ref a ∧ (SqL K H a xs ∨ SqT K H a xs) ∧ xs.length ≤ 100000 ∧ (∀ v ∈ xs, ∃ t, Kd K H v t) ∧
    (∀ r, xs = r.map V.int → OkR r → (clashL r = none → (∀ t : Int, y = .int t → 0 ≤ t → ∀ H', Same H H' → Q (.int (stA r t : Nat)) H') ∧ (¬ okT y → ∀ H', Same H H' → E (.ref CT) none H')) ∧
      ∀ i j : Nat, clashL r = some (i, j) → ∀ H' d, Same H H' → H d = none → H' d = some (.xd [("other", .int j), ("one", .int i)]) → E (.ref CC) (some d) H') ∧
    ((¬ ∃ r, xs = r.map V.int ∧ OkR r) → ∀ H', Same H H' → E (.ref C) none H')))
theorem ok_state {C CC CT : Addr} (D : DfnD K mg "state_at" s_state_at ["row", "turn"] (.int 0)) (c_need_going : Cal P w K mg base (L2.CX P w) 4 "need_going" (spGo K C CC)) (c_is_whole : Cal P w K mg base CX0 1 "is_whole" (spWhole K)) (e_NoTurn : Exn K mg "NoTurn" CT)
    (v_TOP_HEIGHT : ∃ u, mg "TOP_HEIGHT" = some u ∧ RelV (.int 9) u) (n_range : mg "range" = none) (n_len : mg "len" = none) : Cal P w K mg base (L2.CX P w) 5 "state_at" (spState K C CC CT) ∧ CalD P w K mg base (L2.CX P w) 5 "state_at" (spState K C CC CT) (.int 0) := by
  refine D.calX sc_state_at (fun vs H Q E h => ?_) (fun f cdv A outer s H vs Q E hr h => ?_)
  · obtain ⟨x, y, u, rfl, _⟩ := h
    rfl
  · obtain ⟨x, y, u, rfl, ky, h⟩ := h
    have nd := sc_state_at.nd
    refine ⟨_, (pss_cons (ps_expr (pcS (W := fun cls d _ H => E cls d H) c_need_going hr (by decide) (takes_of rfl rfl rfl rfl) (pa_cons (pv 0) pa_nil)))
  (pss_cons (ps_if (PW.pt (pw_or (pt_not (pt_val (pc0 c_is_whole hr (by decide) (pa_cons (pv 1) pa_nil)))) (pw_or1 (pt_cmpR op_lt (pv 1) pe_int (nomark _)))))
  (pss_one (ps_raise rfl (takes_of rfl rfl rfl rfl) (pmk_ownA PySem.F.excBase_ValueError e_NoTurn.x e_NoTurn.g e_NoTurn.k (raises_own e_NoTurn.b e_NoTurn.t) (by rfl) (pa_cons pe_str pa_nil))))
  pss_nil)
  (pss_cons (ps_set (i := 2) nd rfl (.inl rfl) pe_int)
  (pss_cons (ps_for (passes_of rfl) rfl (pi_range2 (by rfl) n_range (pa_cons pe_int (pa_cons (pe_op (op_addK K) (pgl v_TOP_HEIGHT) pe_int) pa_nil))) (pg_name (i := 3) nd rfl (.inl rfl))
  (pss_cons (ps_set (i := 4) nd rfl (.inl rfl) (pe_ix (ix_seqK K) (pv 0) (pe_op op_mod (pe_op op_sub (pv 1) (pv 3)) (pe_callB (call_lenK K) (by rfl) n_len PySem.boot_len (pa_cons (pv 0) pa_nil))) (fun _ _ => rfl)))
  (pss_one (ps_if (pt_cmpR op_ge (pv 4) (pv 3) (nomark _))
  (pss_one (ps_set (i := 2) nd rfl (.inl rfl) (pe_op op_or (pv 2) (pe_op op_shl pe_int (pe_op op_sub (pv 4) (pv 3))))))
  pss_nil))))
  (pss_one (ps_ret (pv 2))))))), ?_⟩
    rw [show L2.start N_state_at [x, y] = [some (x), some (y), none, none, none] from rfl]
    try dsimp only [cxOf]
    walk_at "go"
    rcases h with ⟨t, kd, h1, h2, q⟩ | ⟨a, xs, rfl, hq, hz, hk, q1, q2⟩
    · exact .inl ⟨x, t, rfl, kd, h1, h2, q⟩
    · refine .inr ⟨a, xs, rfl, hq, hz, hk, fun r er ok => ?_, q2⟩
      subst er
      obtain ⟨q3, q4⟩ := q1 r rfl ok
      refine ⟨fun cn H1 s1 => ?_, q4⟩
      obtain ⟨q5, q6⟩ := q3 cn
      walk_at "go"
      refine ⟨y, u, rfl, ky.same s1, ?_⟩
      walk_at "go"
      refine iteNB (fun hw => ?_) (fun hw => ?_)
      · walk_at "go"
        refine q6 ?_ _ s1
        rintro ⟨t, rfl, _⟩
        cases hw
      · obtain ⟨t, rfl⟩ : ∃ i : Int, y = .int i := by
          cases y <;> first | exact ⟨_, rfl⟩ | cases hw
        walk_at "go"
        refine iteD (fun h0 => ?_) (fun h0 => ?_)
        · walk_at "go"
          refine q6 ?_ _ s1
          rintro ⟨t', e, h'⟩
          cases e
          omega
        · walk_at "go"
          have hq1 : SqL K H1 a (r.map V.int) ∨ SqT K H1 a (r.map V.int) := hq.elim (fun z => .inl (s1.seq z)) (fun z => .inr (sts s1 z))
          have z1 := ok.pos
          refine for_range (fun i σ H' => H' = H1 ∧ ∃ y3 y4, σ = [some (.ref a), some (.int t), some (.int (sumN r t i : Nat)), y3, y4]) ⟨rfl, _, _, rfl⟩ (fun i σ H' hi hP => ?_) (fun σ H' hP => ?_)
          · obtain ⟨rfl, y3, y4, rfl⟩ := hP
            have hi' : i < 9 := hi
            walk_at "go"
            refine w_lenS hq1 ?_
            rw [List.length_map]
            walk_at "go"
            have g1 : 0 ≤ (t - (1 + (i : Int))) % (r.length : Int) := Int.emod_nonneg _ (by omega)
            have g2 : (t - (1 + (i : Int))) % (r.length : Int) < r.length := Int.emod_lt_of_pos _ (by omega)
            refine w_ixS hq1 (at_getD g1 g2) ?_
            have eh : r.getD ((t - (1 + (i : Int))) % (r.length : Int)).toNat 0 = atF r (t - ((i : Int) + 1)) := by
              unfold atF
              rw [show t - (1 + (i : Int)) = t - ((i : Int) + 1) by omega]
            rw [eh]
            have hb := atF_b ok (t - ((i : Int) + 1))
            have ste : sumN r t (i + 1) = if ((i : Int) + 1) ≤ atF r (t - (i + 1)) then sumN r t i ||| 2 ^ (atF r (t - (i + 1)) - (i + 1)).toNat else sumN r t i := by
              conv => lhs; unfold sumN
            generalize atF r (t - ((i : Int) + 1)) = h at hb ste ⊢
            walk_at "go"
            refine iteD (fun e => ?_) (fun e => ?_)
            · walk_at "go"
              have eN : Builtin.bitOr ((sumN r t i : Nat) : Int) (1 * 2 ^ (h - (1 + (i : Int))).toNat) = ((sumN r t (i + 1) : Nat) : Int) := by
                rw [ste, if_pos (by omega), Int.one_mul, show ((2 : Int) ^ (h - (1 + (i : Int))).toNat) = ((2 ^ (h - (1 + (i : Int))).toNat : Nat) : Int) by rw [Int.natCast_pow]; rfl, bitOr_nat, show h - (1 + (i : Int)) = h - ((i : Int) + 1) by omega]
              rw [eN]
              exact ⟨rfl, _, _, rfl⟩
            · walk_at "go"
              rw [ste, if_neg (by omega)]
              exact ⟨rfl, _, _, rfl⟩
          · obtain ⟨rfl, y3, y4, rfl⟩ := hP
            walk_at "go"
            exact q5 t rfl (by omega) _ s1
end
end K6
end
section
namespace K6
section
variable {P : Program} {w : World} {K : PySem.W.Frag} {mg : Str → Option Value} {base : Heap}
def spDue (K : PySem.W.Frag) : Sp := fun vs H Q _ => ∃ (a : Addr) (r : List Int) (t : Int), vs = [.ref a, .int t] ∧ SqL K H a (r.map V.int) ∧ OkR r ∧ Q (.int (duN r t 30 : Nat)) H
theorem ok_due (D : Dfn K mg "_law_due" s__law_due ["_law_row", "_law_turn"]) (n_range : mg "range" = none) (n_len : mg "len" = none) : Cal P w K mg base CX0 1 "_law_due" (spDue K) := by
  refine D.cal sc__law_due (fun vs H Q E h => ?_) (fun f cdv A outer s H vs Q E hr h => ?_)
  · obtain ⟨a, r, t, rfl, _⟩ := h
    rfl
  · obtain ⟨a, r, t, rfl, hs, ok, q⟩ := h
    have z1 := ok.pos
    have nd := sc__law_due.nd
    refine ⟨_, (pss_cons (ps_set (i := 2) nd rfl (.inl rfl) pe_int)
  (pss_cons (ps_for PassesOwn.never rfl (pi_range2 (by rfl) n_range (pa_cons pe_int (pa_cons pe_int pa_nil))) (pg_name (i := 3) nd rfl (.inl rfl))
  (pss_cons (ps_set (i := 4) nd rfl (.inl rfl) (pe_op op_sub (pe_ix (ix_seqK K) (pv 0) (pe_op op_mod (pe_op op_sub (pv 1) (pv 3)) (pe_callB (call_lenK K) (by rfl) n_len PySem.boot_len (pa_cons (pv 0) pa_nil))) (fun _ _ => rfl)) (pv 3)))
  (pss_one (ps_if (pt_cmpR op_ge (pv 4) pe_int (nomark _))
  (pss_one (ps_set (i := 2) nd rfl (.inl rfl) (pe_op (op_addK K) (pv 2) (pe_op op_shl pe_int (pv 4)))))
  pss_nil))))
  (pss_one (ps_ret (pv 2))))), ?_⟩
    rw [show L2.start N__law_due [V.ref a, V.int t] = [some (V.ref a), some (V.int t), none, none, none] from rfl]
    try dsimp only [cxOf]
    walk_at "go"
    refine for_range (fun i σ H' => H' = H ∧ ∃ y3 y4, σ = [some (.ref a), some (.int t), some (.int (duN r t i : Nat)), y3, y4]) ⟨rfl, _, _, rfl⟩ (fun i σ H' hi hP => ?_) (fun σ H' hP => ?_)
    · obtain ⟨rfl, y3, y4, rfl⟩ := hP
      walk_at "go"
      refine w_lenL hs ?_
      rw [List.length_map]
      walk_at "go"
      have g1 : 0 ≤ (t - (1 + (i : Int))) % (r.length : Int) := Int.emod_nonneg _ (by omega)
      have g2 : (t - (1 + (i : Int))) % (r.length : Int) < r.length := Int.emod_lt_of_pos _ (by omega)
      refine w_ixAL hs (at_getD g1 g2) ?_
      have eh : r.getD ((t - (1 + (i : Int))) % (r.length : Int)).toNat 0 = atF r (t - ((i : Int) + 1)) := by
        unfold atF
        rw [show t - (1 + (i : Int)) = t - ((i : Int) + 1) by omega]
      rw [eh]
      have hb := atF_b ok (t - ((i : Int) + 1))
      have ste : duN r t (i + 1) = if 0 ≤ atF r (t - (i + 1)) - (i + 1) then duN r t i + 2 ^ (atF r (t - (i + 1)) - (i + 1)).toNat else duN r t i := by
        conv => lhs; unfold duN
      generalize atF r (t - ((i : Int) + 1)) = h at hb ste ⊢
      walk_at "go"
      refine iteD (fun e => ?_) (fun e => ?_)
      · walk_at "go"
        have eN : ((duN r t i : Nat) : Int) + 1 * 2 ^ (h - (1 + (i : Int))).toNat = ((duN r t (i + 1) : Nat) : Int) := by
          rw [ste, if_pos (by omega), Int.one_mul, show ((2 : Int) ^ (h - (1 + (i : Int))).toNat) = ((2 ^ (h - (1 + (i : Int))).toNat : Nat) : Int) by rw [Int.natCast_pow]; rfl, show h - (1 + (i : Int)) = h - ((i : Int) + 1) by omega, Int.natCast_add]
        rw [eN]
        exact ⟨rfl, _, _, rfl⟩
      · walk_at "go"
        rw [ste, if_neg (by omega)]
        exact ⟨rfl, _, _, rfl⟩
    · obtain ⟨rfl, y3, y4, rfl⟩ := hP
      walk_at "go"
      exact q
/-! ### what is refused -/
structure Errs (K : PySem.W.Frag) (mg : Str → Option Value) (C CC CT : Addr) : Prop where
  eR : Exn K mg "NoRow" C
  eT : Exn K mg "NoTurn" CT
  gC : mg "Clash" = some (.ref CC)
  rr : PySem.W.exmOne K (.ref C) (.ref C) = some true
  cr : PySem.W.exmOne K (.ref CC) (.ref C) = some false
  cc : PySem.W.exmOne K (.ref CC) (.ref CC) = some true
  tr : PySem.W.exmOne K (.ref CT) (.ref C) = some false
  tc : PySem.W.exmOne K (.ref CT) (.ref CC) = some false
  tt : PySem.W.exmOne K (.ref CT) (.ref CT) = some true
/-- told of a turn that is none -/
def spTold (K : PySem.W.Frag) : Sp := fun vs H Q _ => ∃ (a : Addr) (xs : List V) (y : V) (u : String), vs = [.ref a, y] ∧ Kd K H y u ∧ ¬ okT y ∧ SqL K H a xs ∧ xs.length ≤ 100000 ∧ (∀ v ∈ xs, ∃ t, Kd K H v t) ∧
  (∀ r, xs = r.map V.int → OkR r → (clashL r = none → ∀ H', Same H H' → Q (.str "turn") H') ∧ (clashL r ≠ none → ∀ H', Same H H' → Q (.str "clash") H')) ∧ ((¬ ∃ r, xs = r.map V.int ∧ OkR r) → ∀ H', Same H H' → Q (.str "row") H')
theorem ok_told {C CC CT : Addr} (D : Dfn K mg "_law_told" s__law_told ["_law_row", "_law_turn"]) (T : Errs K mg C CC CT) (c_state_at : Cal P w K mg base (L2.CX P w) 5 "state_at" (spState K C CC CT)) : Cal P w K mg base CX0 6 "_law_told" (spTold K) := by
  refine D.cal sc__law_told (fun vs H Q E h => ?_) (fun f cdv A outer s H vs Q E hr h => ?_)
  · obtain ⟨a, xs, y, u, rfl, _⟩ := h
    rfl
  · obtain ⟨a, xs, y, u, rfl, ky, ny, hs, hz, hk, q1, q2⟩ := h
    have e_NoRow := T.eR
    have e_NoTurn := T.eT
    have e_Clash : Exists fun u : Unit => mg "Clash" = some (.ref CC) := ⟨(), T.gC⟩
    have nd := sc__law_told.nd
    refine ⟨_, (pss_cons (ps_set (i := 2) nd rfl (.inl rfl) pe_non)
  (C8.pss_cut (ps_try_many rfl rfl takes_none5 (fun W pn xe tk _ => (pss_one (ps_set (i := 2) nd rfl (.inl rfl) (pcS c_state_at hr (by decide) tk (pa_cons (pv 0) (pa_cons (pv 1) pa_nil)))))) (.cons ⟨rfl, by decide, .inl e_NoRow.g⟩ (fun a oe cls d pn _ _ => (pss_one (ps_set (i := 2) nd rfl (.inl rfl) pe_str))) (.cons ⟨rfl, by decide, .inl T.gC⟩ (fun a oe cls d pn _ _ => (pss_one (ps_set (i := 2) nd rfl (.inl rfl) pe_str))) (.cons ⟨rfl, by decide, .inl e_NoTurn.g⟩ (fun a oe cls d pn _ _ => (pss_one (ps_set (i := 2) nd rfl (.inl rfl) pe_str))) .nil))))
  (pss_one (ps_ret (pv 2))))), ?_⟩
    rw [show L2.start N__law_told [V.ref a, y] = [some (V.ref a), some (y), none] from rfl]
    try dsimp only [cxOf]
    walk_at "go"
    refine w_cut (fun σ' H' => ∃ v, σ' = [some (.ref a), some y, some v] ∧ Q v H') ?_ (fun σ' H' hM => ?_)
    · walk_at "go"
      refine ⟨.ref a, y, u, rfl, ky, .inr ⟨a, xs, rfl, .inl hs, hz, hk, fun r er ok => ?_, fun hn H1 s1 => ?_⟩⟩
      · obtain ⟨q3, q4⟩ := q1 r er ok
        refine ⟨fun cn => ⟨fun t e0 h0 => absurd ⟨t, e0, h0⟩ ny, fun _ H1 s1 => ?_⟩, fun i j cn H1 d s1 hd l1 => ?_⟩
        · refine ⟨false, T.tr, fun z => (nomatch z), fun _ => ⟨false, T.tc, fun z => (nomatch z), fun _ => ⟨true, T.tt, fun _ b hb => ?_, fun z => (nomatch z)⟩⟩⟩
          walk_at "go"
          exact ⟨_, rfl, q3 cn _ s1⟩
        · refine ⟨false, T.cr, fun z => (nomatch z), fun _ => ⟨true, T.cc, fun _ b hb => ?_, fun z => (nomatch z)⟩⟩
          walk_at "go"
          exact ⟨_, rfl, q4 (by rw [cn]; exact fun z => (nomatch z)) _ s1⟩
      · refine ⟨true, T.rr, fun _ b hb => ?_, fun z => (nomatch z)⟩
        walk_at "go"
        exact ⟨_, rfl, q2 hn _ s1⟩
    · obtain ⟨v, rfl, q⟩ := hM
      walk_at "go"
      exact q
end
end K6
end
section
namespace K6
section
variable {P : Program} {w : World} {K : PySem.W.Frag} {mg : Str → Option Value} {base : Heap}
theorem bit_nat (n : Nat) (k : Int) : bitI (n : Int) k = n.testBit k.toNat := by
  unfold bitI
  rw [Nat.testBit_eq_decide_div_mod_eq, decide_eq_decide, show (2 : Int) ^ k.toNat = ((2 ^ k.toNat : Nat) : Int) by rw [Int.natCast_pow]; rfl, ← Int.natCast_ediv]
  omega
theorem st_mem {r : List Int} (ok : OkR r) (g : Going r) (t : Int) : atF r t ∈ letsL (stA r t : Nat) := by
  have hb := atF_b ok t
  obtain ⟨h1, h2⟩ := st_lets ok g t
  unfold letsL
  rw [bit_nat]
  cases z : (stA r t).testBit (Int.toNat 0) with
  | false =>
    rw [if_neg Bool.false_ne_true, h1 z]
    exact List.mem_singleton.mpr rfl
  | true =>
    obtain ⟨h3, h4⟩ := h2 z
    rw [if_pos rfl]
    refine List.mem_filter.mpr ⟨List.mem_map.mpr ⟨(atF r t).toNat - 1, List.mem_range.mpr (by omega), by omega⟩, ?_⟩
    rw [bit_nat, h4]
    rfl
theorem st_thrown {r : List Int} (ok : OkR r) (t : Int) : Builtin.bitOr ((stA r t : Nat) : Int) (2 ^ (atF r t).toNat) / 2 = ((stA r (t + 1) : Nat) : Int) := by
  rw [show ((2 : Int) ^ (atF r t).toNat) = ((2 ^ (atF r t).toNat : Nat) : Int) by rw [Int.natCast_pow]; rfl, bitOr_nat, ← st_next ok t, Int.natCast_ediv]
  rfl
theorem st_lt {r : List Int} (ok : OkR r) (t : Int) : stA r t ≤ 511 := by
  have := sumN_lt ok t 9
  have e : (2 : Nat) ^ 9 = 512 := by decide
  unfold stA
  omega
theorem du_st {r : List Int} (ok : OkR r) (g : Going r) (t : Int) : duN r t 30 = stA r t := by
  rw [duN_is ok g t, sumN_more ok t 30 (by decide)]
  rfl
theorem kd_ints {r : List Int} {H : Hp} : ∀ v ∈ r.map V.int, ∃ t, Kd K H v t := fun v hv => by
  obtain ⟨z, _, rfl⟩ := List.mem_map.mp hv
  exact ⟨_, .int z⟩
theorem map_inj {r r' : List Int} (e : r.map V.int = r'.map V.int) : r = r' := List.map_inj_right (fun _ _ h => by cases h; rfl) |>.mp e
def spLaw (K : PySem.W.Frag) : Sp := fun vs H Q _ => ∃ (a : Addr) (ns : List Int), vs = [.ref a] ∧ SqL K H a (ns.map V.int) ∧ ns.length ≤ 63 ∧ ∀ H', Q (.bl true) H'
theorem ok_law {C CC CT CS CH : Addr} {f : Addr} {fd : FuncData} (F : Fun K "law" "law" s_law f fd) (c__law_mixed : Cal P w K mg base CX0 1 "_law_mixed" spMixed) (c__law_long : Cal P w K mg base CX0 1 "_law_long" spLong) (c__law_going : Cal P w K mg base CX0 3 "_law_going" (spGoing K)) (c__law_due : Cal P w K mg base CX0 1 "_law_due" (spDue K))
    (c_state_at : Cal P w K mg base (L2.CX P w) 5 "state_at" (spState K C CC CT)) (cd_state_at : CalD P w K mg base (L2.CX P w) 5 "state_at" (spState K C CC CT) (.int 0)) (c_thrown : Cal P w K mg base (L2.CX P w) 4 "thrown" (spThrown K CS CH)) (c_clash : Cal P w K mg base (L2.CX P w) 3 "clash" (spClash K C)) (c__law_told : Cal P w K mg base CX0 6 "_law_told" (spTold K))
    (n_isinstance : mg "isinstance" = none) (n_bool : mg "bool" = none) (n_tuple : mg "tuple" = none) (n_enumerate : mg "enumerate" = none) (n_len : mg "len" = none) : FnOk P w K mg base CX0 7 f fd ["_law_script"] (spLaw K) := by
  refine F.ok sc_law (fun vs H Q E h => ?_) (fun cdv A outer s H vs Q E hr h => ?_)
  · obtain ⟨a, ns, rfl, _⟩ := h
    rfl
  · obtain ⟨a, ns, rfl, hs, hl, q⟩ := h
    have nd := sc_law.nd
    refine ⟨_, (pss_cons (ps_for PassesOwn.never rfl (pi_enum (by rfl) n_enumerate (pa_cons (pe_op (op_addK K) (pv 0) (pe_lst (pa_cons pe_int (pa_cons pe_int (pa_cons pe_int pa_nil))))) pa_nil)) (pg_tup rfl (pgs_cons (pg_name (i := 1) nd rfl (.inl rfl)) (pgs_cons (pg_name (i := 2) nd rfl (.inl rfl)) pgs_nil)))
  (pss_cons (ps_set (i := 3) nd rfl (.inl rfl) (pc0 c__law_mixed hr (by decide) (pa_cons (pv 2) (pa_cons (pv 1) pa_nil))))
  (pss_cons (ps_set (i := 4) nd rfl (.inl rfl) (pc0 c__law_going hr (by decide) (pa_cons (pv 3) (pa_cons (pc0 c__law_long hr (by decide) (pa_cons (pv 3) pa_nil)) pa_nil))))
  (pss_cons (ps_set (i := 5) nd rfl (.inl rfl) (pe_ix (ix_seqK K) (pe_lst (pa_cons (pe_op op_mod (pe_op op_fdiv (pv 3) pe_int) (pe_callB (call_lenK K) (by rfl) n_len PySem.boot_len (pa_cons (pv 4) pa_nil))) (pa_cons (pe_op op_mulA (pv 3) (pv 3)) pa_nil))) (pe_op op_mod (pv 3) pe_int) (fun _ _ => rfl)))
  (pss_cons (ps_set (i := 6) nd rfl (.inl rfl) (pc0 c__law_due hr (by decide) (pa_cons (pv 4) (pa_cons (pv 5) pa_nil))))
  (pss_cons (ps_set (i := 7) nd rfl (.inl rfl) (pcN c_state_at hr (by decide) (pa_cons (pv 4) (pa_cons (pv 5) pa_nil))))
  (pss_cons (ps_if (PW.pt (pw_or (pt_cmpR (op_neK K hr.units) (pv 7) (pv 6) (nomark _)) (pw_or (pt_val (pe_callB (call_isK_ K) (by rfl) n_isinstance (by decide +kernel) (pa_cons (pv 7) (pa_cons (pe_bltn (v := .ty "bool") (by rfl) n_bool (by decide +kernel) rfl) pa_nil)))) (pw_or1 (pt_cmpR (op_neK K hr.units) (pcD cd_state_at hr (by decide) (pa_cons (pe_callTy (call_tupK K) (by rfl) n_tuple (by decide +kernel) (pa_cons (pv 4) pa_nil)) pa_nil)) (pc0 c__law_due hr (by decide) (pa_cons (pv 4) (pa_cons pe_int pa_nil))) (nomark _))))))
  (pss_one (ps_ret pe_bl))
  pss_nil)
  (pss_cons (ps_if (pt_cmpR (op_neK K hr.units) (pcN c_thrown hr (by decide) (pa_cons (pv 7) (pa_cons (pe_ix (ix_seqK K) (pv 4) (pe_op op_mod (pv 5) (pe_callB (call_lenK K) (by rfl) n_len PySem.boot_len (pa_cons (pv 4) pa_nil))) (fun _ _ => rfl)) pa_nil))) (pcN c_state_at hr (by decide) (pa_cons (pv 4) (pa_cons (pe_op (op_addK K) (pv 5) pe_int) pa_nil))) (nomark _))
  (pss_one (ps_ret pe_bl))
  pss_nil)
  (pss_cons (ps_set (i := 8) nd rfl (.inl rfl) (pe_ix (ix_seqK K) (pe_lst (pa_cons (pe_un un_neg pe_int) (pa_cons (pe_op op_sub (pe_un un_neg pe_int) (pe_op op_mod (pv 3) (pe_op op_pow pe_int pe_int))) (pa_cons pe_bl (pa_cons pe_non (pa_cons pe_str (pa_cons (pe_lst (pa_cons pe_int pa_nil)) pa_nil))))))) (pe_op op_mod (pe_op op_fdiv (pv 3) pe_int) pe_int) (fun _ _ => rfl)))
  (pss_cons (ps_if (PW.pt (pw_or (pt_cmpR (op_neK K hr.units) (pc0 c__law_told hr (by decide) (pa_cons (pv 4) (pa_cons (pv 8) pa_nil))) pe_str (nomark _)) (pw_or1 (pt_cmpR (op_neK K hr.units) (pc0 c__law_told hr (by decide) (pa_cons (pe_op (op_addK K) (pv 4) (pe_lst (pa_cons pe_int pa_nil))) (pa_cons (pv 8) pa_nil))) pe_str (nomark _)))))
  (pss_one (ps_ret pe_bl))
  pss_nil)
  (pss_one (ps_if (PW.pt (pw_and (pt_cmpR op_lt (pe_callB (call_lenK K) (by rfl) n_len PySem.boot_len (pa_cons (pv 4) pa_nil)) pe_int (nomark _)) (pw_and (pt_cmpR op_notN (pcN c_clash hr (by decide) (pa_cons (pe_op (op_addK K) (pv 4) (pe_lst (pa_cons pe_int pa_nil))) pa_nil)) pe_non (nomark _)) (pw_and1 (pt_cmpR (op_neK K hr.units) (pc0 c__law_told hr (by decide) (pa_cons (pe_op (op_addK K) (pv 4) (pe_lst (pa_cons pe_int pa_nil))) (pa_cons (pv 8) pa_nil))) pe_str (nomark _))))))
  (pss_one (ps_ret pe_bl))
  pss_nil))))))))))))
  (pss_one (ps_ret pe_bl))), ?_⟩
    rw [show L2.start N_law [V.ref a] = [some (V.ref a), none, none, none, none, none, none, none, none] from rfl]
    try dsimp only [cxOf]
    walk_at "go"
    intro p0 hp0
    walk_at "go"
    refine w_addL (xs := ns.map V.int) (by walk_at "sq") (SqL.of upd_same) ?_ ?_
    · rw [List.length_map]
      exact Nat.le_trans (show _ ≤ 66 by show ns.length + 3 ≤ 66; omega) (by decide)
    · intro p1 hp1
      walk_at "go"
      refine for_enum (xs := ns.map V.int ++ [.int 0, .int 1, .int 2]) (fun i σ H' => Same H H' ∧ SqL K H' p1 (ns.map V.int ++ [.int 0, .int 1, .int 2]) ∧ ∃ y1 y2 y3 y4 y5 y6 y7 y8, σ = [some (.ref a), y1, y2, y3, y4, y5, y6, y7, y8]) ?_ (fun i σ H' _ hP => hP.2.1) (fun i x σ H' T' hx hP hT => ?_) (fun σ H' hP => ?_)
      · exact ⟨same_new hp1 (same_new hp0 (Same.refl _)), SqL.of upd_same, _, _, _, _, _, _, _, _, rfl⟩
      · obtain ⟨sm0, hq, y1, y2, y3, y4, y5, y6, y7, y8, rfl⟩ := hP
        obtain ⟨c, rfl⟩ : ∃ c : Int, x = .int c := by
          have e : ns.map V.int ++ [.int 0, .int 1, .int 2] = (ns ++ [0, 1, 2]).map V.int := by
            rw [List.map_append]
            rfl
          rw [e] at hx
          obtain ⟨c, _, e2⟩ := at_ints hx
          exact ⟨c, e2⟩
        refine w_gtup2 upd_same ?_
        dsimp only [List.set_cons_zero, List.set_cons_succ]
        walk_at "go"
        refine ⟨c, _, rfl, ?_⟩
        obtain ⟨d, hd⟩ : ∃ d, d = mixed c (i : Int) := ⟨_, rfl⟩
        have d0 : 0 ≤ d := by rw [hd]; exact mixed_nn _ _
        have d1 : d < 2147483629 := by rw [hd]; exact mixed_lt _ _
        rw [← hd]
        have sm1 : Same H (upd H' T' (.tup [.int (i : Int), .int c])) := same_new hT sm0
        have hq1 : SqL K (upd H' T' (.tup [.int (i : Int), .int c])) p1 (ns.map V.int ++ [.int 0, .int 1, .int 2]) := sqn hT hq
        generalize upd H' T' (.tup [.int (i : Int), .int c]) = H1 at sm1 hq1 ⊢
        have lb := longI_b d
        walk_at "go"
        refine ⟨d, rfl, fun H2 s2 => ?_⟩
        walk_at "go"
        refine ⟨d, _, rfl, by omega, by omega, fun H3 b s3 hb l3 => ?_⟩
        have okr := goingL_ok (c := d) lb.1 lb.2
        have gor := goingL_going (c := d) lb.1
        have cnr := going_none gor
        generalize goingL d (longI d) = r at okr gor cnr l3
        have z1 := okr.pos
        have z2 := okr.most
        walk_at "go"
        refine w_lenL (SqL.of l3) ?_
        rw [List.length_map]
        walk_at "go"
        intro p4 hp4
        generalize hX : upd H3 p4 _ = H4
        obtain ⟨s4, l4⟩ := new_at hp4 hX
        clear hX
        walk_at "go"
        obtain ⟨t, ht, t0⟩ : ∃ t : Int, atI ([V.int (d / 7 % (r.length : Int)), V.int (d * d)] : List V) (d % 2) = some (.int t) ∧ 0 ≤ t := by
          rcases (show d % 2 = 0 ∨ d % 2 = 1 by omega) with e | e <;> rw [e]
          · exact ⟨_, atI_nat (j := 0) rfl, Int.emod_nonneg _ (by omega)⟩
          · exact ⟨_, atI_nat (j := 1) rfl, Int.mul_nonneg d0 d0⟩
        refine w_ixAL (SqL.of l4) ht ?_
        have hb4 := s4 _ _ l3
        have sm4 := ((sm1.trans s2).trans s3).trans s4
        have hq4 := s4.seq (s3.seq (s2.seq hq1))
        clear l3 l4 hp4 s4 s3 s2 hq1 sm1 sm0 hb hp0 hp1
        have lz : (r.map V.int).length ≤ 100000 := by
          rw [List.length_map]
          omega
        have nz : ¬ ¬ ∃ r', r.map V.int = r'.map V.int ∧ OkR r' := fun z => z ⟨r, rfl, okr⟩
        walk_at "go"
        refine ⟨b, r, t, rfl, SqL.of hb4, okr, ?_⟩
        walk_at "go"
        rw [du_st okr gor]
        refine ⟨.ref b, .int t, _, rfl, .int _, .inr ⟨b, r.map V.int, rfl, .inl (SqL.of hb4), lz, kd_ints, fun r' e ok' => ?_, fun z => absurd z nz⟩⟩
        cases map_inj e
        refine ⟨fun _ => ⟨fun t' e0 h0 H5 s5 => ?_, fun z => absurd ⟨t, rfl, t0⟩ z⟩, fun i' j' cn' => absurd (cn'.symm.trans cnr) (fun z => nomatch z)⟩
        cases e0
        walk_at "go"
        rw [decide_eq_true rfl]
        walk_at "go"
        refine w_isBool (.int _) ?_
        dsimp only [boolV]
        walk_at "go"
        have hb5 := s5 _ _ hb4
        refine w_tupL (SqL.of hb5) fun p6 hp6 => ?_
        generalize hX : upd H5 p6 _ = H6
        obtain ⟨s6, l6⟩ := new_at hp6 hX
        clear hX
        walk_at "go"
        refine ⟨.ref p6, .int 0, _, rfl, .int _, .inr ⟨p6, r.map V.int, rfl, .inr (SqT.of l6), lz, kd_ints, fun r' e ok' => ?_, fun z => absurd z nz⟩⟩
        cases map_inj e
        refine ⟨fun _ => ⟨fun t' e0 h0 H7 s7 => ?_, fun z => absurd ⟨0, rfl, Int.le_refl 0⟩ z⟩, fun i' j' cn' => absurd (cn'.symm.trans cnr) (fun z => nomatch z)⟩
        cases e0
        have hb7 := s7 _ _ (s6 _ _ hb5)
        have sm7 := ((sm4.trans s5).trans s6).trans s7
        have hq7 := s7.seq (s6.seq (s5.seq hq4))
        clear s7 s6 s5 l6 hp6 hb5 hb4 sm4 hq4
        walk_at "go"
        refine ⟨b, r, 0, rfl, SqL.of hb7, okr, ?_⟩
        rw [du_st okr gor]
        walk_at "go"
        rw [decide_eq_true rfl]
        walk_at "go"
        refine w_lenL (SqL.of hb7) ?_
        rw [List.length_map]
        walk_at "go"
        have g1 : 0 ≤ t % (r.length : Int) := Int.emod_nonneg _ (by omega)
        have g2 : t % (r.length : Int) < r.length := Int.emod_lt_of_pos _ (by omega)
        refine w_ixAL (SqL.of hb7) (at_getD g1 g2) ?_
        walk_at "go"
        have eh : r.getD (t % (r.length : Int)).toNat 0 = atF r t := rfl
        rw [eh]
        have b0 := st_lt okr t
        refine ⟨.int (stA r t : Nat), _, .int (atF r t), _, rfl, .int _, .int _, rfl, fun i' h' e1 i0 i1 e2 hm H8 s8 => ?_, fun z => absurd ⟨((stA r t : Nat) : Int), rfl, by omega, by omega⟩ z, fun i' e1 i0 i1 hn => absurd ⟨atF r t, rfl, by cases e1; exact st_mem okr gor t⟩ hn⟩
        cases e1
        cases e2
        rw [st_thrown okr t]
        have hb8 := s8 _ _ hb7
        walk_at "go"
        refine ⟨.ref b, .int (t + 1), _, rfl, .int _, .inr ⟨b, r.map V.int, rfl, .inl (SqL.of hb8), lz, kd_ints, fun r' e ok' => ?_, fun z => absurd z nz⟩⟩
        cases map_inj e
        refine ⟨fun _ => ⟨fun t' e0 h0 H9 s9 => ?_, fun z => absurd ⟨t + 1, rfl, by omega⟩ z⟩, fun i' j' cn' => absurd (cn'.symm.trans cnr) (fun z => nomatch z)⟩
        cases e0
        have hb9 := s9 _ _ hb8
        have sm9 := (sm7.trans s8).trans s9
        have hq9 := s9.seq (s8.seq hq7)
        clear s9 s8 hb8 hb7 sm7 hq7 hm eh
        walk_at "go"
        rw [decide_eq_true rfl]
        walk_at "go"
        intro p10 hp10
        generalize hX : upd H9 p10 _ = H10
        obtain ⟨s10, l10⟩ := new_at hp10 hX
        clear hX
        walk_at "go"
        intro p11 hp11
        generalize hX : upd H10 p11 _ = H11
        obtain ⟨s11, l11⟩ := new_at hp11 hX
        clear hX
        walk_at "go"
        have l10' := s11 _ _ l10
        obtain ⟨y, hy, my⟩ := pick (xs := [V.int (-1), V.int (-1 - d % 10 ^ Int.toNat 15), V.bl true, V.non, V.str "0", V.ref p10]) (n := d / 9 % 6) (by omega) (by show _ < (6 : Int); omega)
        obtain ⟨u, ky, ny⟩ : ∃ u, Kd K H11 y u ∧ ¬ okT y := by
          have hm15 := Int.emod_nonneg d (b := 10 ^ Int.toNat 15) (by decide)
          simp only [List.mem_cons, List.not_mem_nil, or_false] at my
          rcases my with rfl | rfl | rfl | rfl | rfl | rfl
          · exact ⟨_, .int _, fun ⟨t, e, z⟩ => by cases e; omega⟩
          · exact ⟨_, .int _, fun ⟨t, e, z⟩ => by cases e; omega⟩
          · exact ⟨_, .bl _, fun ⟨t, e, z⟩ => by cases e⟩
          · exact ⟨_, .non, fun ⟨t, e, z⟩ => by cases e⟩
          · exact ⟨_, .str _, fun ⟨t, e, z⟩ => by cases e⟩
          · exact ⟨_, .lst (SqL.of l10'), fun ⟨t, e, z⟩ => by cases e⟩
        refine w_ixAL (SqL.of l11) hy ?_
        have hb11 := s11 _ _ (s10 _ _ hb9)
        have sm11 := (sm9.trans s10).trans s11
        have hq11 := s11.seq (s10.seq hq9)
        clear s11 s10 l11 l10 l10' hp10 hp11 hb9 sm9 hq9 my hy
        walk_at "go"
        refine ⟨b, r.map V.int, y, u, rfl, ky, ny, SqL.of hb11, lz, kd_ints, fun r' e ok' => ?_, fun z => absurd z nz⟩
        cases map_inj e
        refine ⟨fun _ H12 s12 => ?_, fun z => absurd cnr z⟩
        have hb12 := s12 _ _ hb11
        have sm12 := sm11.trans s12
        have hq12 := s12.seq hq11
        have ky12 := ky.same s12
        clear s12 hb11 sm11 hq11 ky
        walk_at "go"
        refine w_neAS rfl ?_
        rw [decide_eq_true rfl]
        walk_at "go"
        intro p13 hp13
        generalize hX : upd H12 p13 _ = H13
        obtain ⟨s13, l13⟩ := new_at hp13 hX
        clear hX
        walk_at "go"
        have add : ∀ x : Int, r.map V.int ++ [V.int x] = (r ++ [x]).map V.int := fun x => by
          rw [List.map_append]
          rfl
        have big : 1000 ≤ sizeLine := by decide
        refine w_addL (SqL.of (s13 _ _ hb12)) (SqL.of l13) (by rw [List.length_map]; show r.length + 1 ≤ _; omega) fun p14 hp14 => ?_
        rw [add]
        generalize hX : upd H13 p14 _ = H14
        obtain ⟨s14, l14⟩ := new_at hp14 hX
        clear hX
        walk_at "go"
        have sx := s13.trans s14
        refine ⟨p14, _, y, u, rfl, ky12.same sx, ny, SqL.of l14, by rw [List.length_map, List.length_append]; show r.length + 1 ≤ _; omega, kd_ints, fun r' e ok' => ?_, fun _ H15 s15 => ?_⟩
        · cases map_inj e
          have := ok'.all 10 (List.mem_append_right _ (List.mem_singleton.mpr rfl))
          omega
        have sy := sx.trans s15
        have hb15 := sy _ _ hb12
        have sm15 := sm12.trans sy
        have hq15 := sy.seq hq12
        have ky15 := ky12.same sy
        clear s13 s14 s15 sx sy l13 l14 hb12 sm12 hq12 ky12 hp13 hp14
        walk_at "go"
        refine w_neAS rfl ?_
        rw [decide_eq_true rfl]
        walk_at "go"
        refine w_lenL (SqL.of hb15) ?_
        rw [List.length_map]
        walk_at "go"
        refine iteD (fun e40 => ?_) (fun e40 => ?_)
        · walk_at "go"
          intro p16 hp16
          generalize hX : upd H15 p16 _ = H16
          obtain ⟨s16, l16⟩ := new_at hp16 hX
          clear hX
          walk_at "go"
          refine w_addL (SqL.of (s16 _ _ hb15)) (SqL.of l16) (by rw [List.length_map]; show r.length + 1 ≤ _; omega) fun p17 hp17 => ?_
          rw [add]
          generalize hX : upd H16 p17 _ = H17
          obtain ⟨s17, l17⟩ := new_at hp17 hX
          clear hX
          walk_at "go"
          have ok3 : OkR (r ++ [3]) := ⟨by rw [List.length_append]; omega, by rw [List.length_append]; show r.length + 1 ≤ 40; omega, fun h hh => by
            rcases List.mem_append.mp hh with z | z
            · exact okr.all h z
            · rw [List.mem_singleton.mp z]
              decide⟩
          have nz3 : ¬ ¬ ∃ r', (r ++ [3]).map V.int = r'.map V.int ∧ OkR r' := fun z => z ⟨_, rfl, ok3⟩
          have lz3 : ((r ++ [3]).map V.int).length ≤ 100000 := by
            rw [List.length_map, List.length_append]
            show r.length + 1 ≤ _
            omega
          have sx := s16.trans s17
          have fin : ∀ H', Same H17 H' → Same H H' ∧ SqL K H' p1 (ns.map V.int ++ [.int 0, .int 1, .int 2]) := fun H' s' => ⟨(sm15.trans sx).trans s', (sx.trans s').seq hq15⟩
          refine .inr ⟨p17, _, rfl, .inl (SqL.of l17), lz3, kd_ints, fun r' e ok' => ?_, fun z => absurd z nz3⟩
          cases map_inj e
          refine ⟨fun _ H18 s18 => ?_, fun i' j' cn' H18 p18 s18 hp18 l18 => ?_⟩
          · walk_at "go"
            obtain ⟨f1, f2⟩ := fin H18 s18
            exact ⟨f1, f2, _, _, _, _, _, _, _, _, rfl⟩
          · walk_at "go"
            intro p19 hp19
            generalize hX : upd H18 p19 _ = H19
            obtain ⟨s19, l19⟩ := new_at hp19 hX
            clear hX
            walk_at "go"
            have sz := (sx.trans s18).trans s19
            refine w_addL (SqL.of (sz _ _ hb15)) (SqL.of l19) (by rw [List.length_map]; show r.length + 1 ≤ _; omega) fun p20 hp20 => ?_
            rw [add]
            generalize hX : upd H19 p20 _ = H20
            obtain ⟨s20, l20⟩ := new_at hp20 hX
            clear hX
            walk_at "go"
            refine ⟨p20, _, y, u, rfl, (ky15.same sz).same s20, ny, SqL.of l20, lz3, kd_ints, fun r' e ok' => ?_, fun z => absurd z nz3⟩
            cases map_inj e
            refine ⟨fun cn => absurd (cn'.symm.trans cn) (fun z => nomatch z), fun _ H21 s21 => ?_⟩
            walk_at "go"
            refine w_neAS rfl ?_
            rw [decide_eq_true rfl]
            walk_at "go"
            obtain ⟨f1, f2⟩ := fin H21 (((s18.trans s19).trans s20).trans s21)
            exact ⟨f1, f2, _, _, _, _, _, _, _, _, rfl⟩
        · walk_at "go"
          exact ⟨sm15, hq15, _, _, _, _, _, _, _, _, rfl⟩
      · obtain ⟨sm, hq, y1, y2, y3, y4, y5, y6, y7, y8, rfl⟩ := hP
        walk_at "go"
        exact q _
end
end K6
end
section
/-! ### what the top has written; the law's own head -/
theorem K6.all_mk {l : PySem.W.OpenLaw} {w : World} {K : PySem.W.Frag} {h : Heap} {mg : Str → Option Value} {fa : Addr} (X : K.In h) (G : h.Ns mainGlobals mg) (hfa : mg "law" = some (.ref fa))
    {f0 : Addr} {oc0 kV0 doc0 pm0 cd0 ct0 : Value} {od0 an0 : Option Addr} {sl0 : Array (Option Value)} {f1 : Addr} {oc1 kV1 doc1 pm1 cd1 ct1 : Value} {od1 an1 : Option Addr} {sl1 : Array (Option Value)} {f2 : Addr} {oc2 kV2 doc2 pm2 cd2 ct2 : Value} {od2 an2 : Option Addr} {sl2 : Array (Option Value)} {f3 : Addr} {oc3 kV3 doc3 pm3 cd3 ct3 : Value} {od3 an3 : Option Addr} {sl3 : Array (Option Value)} {f4 : Addr} {oc4 kV4 doc4 pm4 cd4 ct4 : Value} {od4 an4 : Option Addr} {sl4 : Array (Option Value)} {f5 : Addr} {oc5 kV5 doc5 pm5 cd5 ct5 : Value} {od5 an5 : Option Addr} {sl5 : Array (Option Value)} {f6 : Addr} {oc6 kV6 doc6 pm6 cd6 ct6 : Value} {od6 an6 : Option Addr} {sl6 : Array (Option Value)} {T6 : Addr} {u6T oT6 : Value} {oD6 : Option Addr} {nT6 : Nat} {tl6 : Array (Option Value)} {f7 : Addr} {oc7 kV7 doc7 pm7 cd7 ct7 : Value} {od7 an7 : Option Addr} {sl7 : Array (Option Value)} {f8 : Addr} {oc8 kV8 doc8 pm8 cd8 ct8 : Value} {od8 an8 : Option Addr} {sl8 : Array (Option Value)} {f9 : Addr} {oc9 kV9 doc9 pm9 cd9 ct9 : Value} {od9 an9 : Option Addr} {sl9 : Array (Option Value)} {f10 : Addr} {oc10 kV10 doc10 pm10 cd10 ct10 : Value} {od10 an10 : Option Addr} {sl10 : Array (Option Value)} {f11 : Addr} {oc11 kV11 doc11 pm11 cd11 ct11 : Value} {od11 an11 : Option Addr} {sl11 : Array (Option Value)} {f12 : Addr} {oc12 kV12 doc12 pm12 cd12 ct12 : Value} {od12 an12 : Option Addr} {sl12 : Array (Option Value)} {f13 : Addr} {oc13 kV13 doc13 pm13 cd13 ct13 : Value} {od13 an13 : Option Addr} {sl13 : Array (Option Value)} {f14 : Addr} {oc14 kV14 doc14 pm14 cd14 ct14 : Value} {od14 an14 : Option Addr} {sl14 : Array (Option Value)} {f15 : Addr} {oc15 kV15 doc15 pm15 cd15 ct15 : Value} {od15 an15 : Option Addr} {sl15 : Array (Option Value)} {f16 : Addr} {oc16 kV16 doc16 pm16 cd16 ct16 : Value} {od16 an16 : Option Addr} {sl16 : Array (Option Value)} {C : Addr} {CT : Addr} {CS : Addr} {CH : Addr} {CC fICC daCC ceCC NCC : Addr} {nmCC qCC : Str} {bsCC bmCC sbCC : List Value} {snCC : List Str} {abCC : Bool} {colCC : Option Bool} {ddCC : Option Addr} {kaCC kbCC kcCC kdCC keCC : Option Value} {ocCC kVCC docCC pmCC ctCC ccCC clCC : Value} {odCC anCC cddCC cldCC : Option Addr} {slCC ccsCC cslCC : Array (Option Value)} {vsCC : Array Value} {filCC : Str} {tfCC : Tok} {u0 : Value} {u1 : Value} {u2 : Value}
    (a0 : PySem.W.nsIn K mainGlobals "is_whole" = some (some (.ref f0)))
    (l0 : K.lookup f0 = some ⟨oc0, od0, .func (PySem.W.fnOf "is_whole" "is_whole" (defArgs K6.s_is_whole) (defBody K6.s_is_whole) (defScope K6.s_is_whole) .none kV0 doc0 pm0 an0 cd0 ct0), sl0⟩)
    (c0 : PySem.W.codeIn K cd0 "is_whole" = true)
    (k0 : PySem.W.keepIn K (.ref f0) = true)
    (a1 : PySem.W.nsIn K mainGlobals "need_row" = some (some (.ref f1)))
    (l1 : K.lookup f1 = some ⟨oc1, od1, .func (PySem.W.fnOf "need_row" "need_row" (defArgs K6.s_need_row) (defBody K6.s_need_row) (defScope K6.s_need_row) .none kV1 doc1 pm1 an1 cd1 ct1), sl1⟩)
    (c1 : PySem.W.codeIn K cd1 "need_row" = true)
    (k1 : PySem.W.keepIn K (.ref f1) = true)
    (a2 : PySem.W.nsIn K mainGlobals "clash" = some (some (.ref f2)))
    (l2 : K.lookup f2 = some ⟨oc2, od2, .func (PySem.W.fnOf "clash" "clash" (defArgs K6.s_clash) (defBody K6.s_clash) (defScope K6.s_clash) .none kV2 doc2 pm2 an2 cd2 ct2), sl2⟩)
    (c2 : PySem.W.codeIn K cd2 "clash" = true)
    (k2 : PySem.W.keepIn K (.ref f2) = true)
    (a3 : PySem.W.nsIn K mainGlobals "need_going" = some (some (.ref f3)))
    (l3 : K.lookup f3 = some ⟨oc3, od3, .func (PySem.W.fnOf "need_going" "need_going" (defArgs K6.s_need_going) (defBody K6.s_need_going) (defScope K6.s_need_going) .none kV3 doc3 pm3 an3 cd3 ct3), sl3⟩)
    (c3 : PySem.W.codeIn K cd3 "need_going" = true)
    (k3 : PySem.W.keepIn K (.ref f3) = true)
    (a4 : PySem.W.nsIn K mainGlobals "need_state" = some (some (.ref f4)))
    (l4 : K.lookup f4 = some ⟨oc4, od4, .func (PySem.W.fnOf "need_state" "need_state" (defArgs K6.s_need_state) (defBody K6.s_need_state) (defScope K6.s_need_state) .none kV4 doc4 pm4 an4 cd4 ct4), sl4⟩)
    (c4 : PySem.W.codeIn K cd4 "need_state" = true)
    (k4 : PySem.W.keepIn K (.ref f4) = true)
    (a5 : PySem.W.nsIn K mainGlobals "thrown" = some (some (.ref f5)))
    (l5 : K.lookup f5 = some ⟨oc5, od5, .func (PySem.W.fnOf "thrown" "thrown" (defArgs K6.s_thrown) (defBody K6.s_thrown) (defScope K6.s_thrown) .none kV5 doc5 pm5 an5 cd5 ct5), sl5⟩)
    (c5 : PySem.W.codeIn K cd5 "thrown" = true)
    (k5 : PySem.W.keepIn K (.ref f5) = true)
    (a6 : PySem.W.nsIn K mainGlobals "state_at" = some (some (.ref f6)))
    (l6 : K.lookup f6 = some ⟨oc6, od6, .func (PySem.W.fnOf "state_at" "state_at" (defArgs K6.s_state_at) (defBody K6.s_state_at) (defScope K6.s_state_at) (.ref T6) kV6 doc6 pm6 an6 cd6 ct6), sl6⟩)
    (c6 : PySem.W.codeIn K cd6 "state_at" = true)
    (k6 : PySem.W.keepIn K (.ref f6) = true)
    (t6 : K.lookup T6 = some ⟨oT6, oD6, .seq #[u6T] nT6, tl6⟩)
    (wr6 : RelV (.int 0) u6T)
    (a7 : PySem.W.nsIn K mainGlobals "heights_let" = some (some (.ref f7)))
    (l7 : K.lookup f7 = some ⟨oc7, od7, .func (PySem.W.fnOf "heights_let" "heights_let" (defArgs K6.s_heights_let) (defBody K6.s_heights_let) (defScope K6.s_heights_let) .none kV7 doc7 pm7 an7 cd7 ct7), sl7⟩)
    (c7 : PySem.W.codeIn K cd7 "heights_let" = true)
    (k7 : PySem.W.keepIn K (.ref f7) = true)
    (a8 : PySem.W.nsIn K mainGlobals "state_behind" = some (some (.ref f8)))
    (l8 : K.lookup f8 = some ⟨oc8, od8, .func (PySem.W.fnOf "state_behind" "state_behind" (defArgs K6.s_state_behind) (defBody K6.s_state_behind) (defScope K6.s_state_behind) .none kV8 doc8 pm8 an8 cd8 ct8), sl8⟩)
    (c8 : PySem.W.codeIn K cd8 "state_behind" = true)
    (k8 : PySem.W.keepIn K (.ref f8) = true)
    (a9 : PySem.W.nsIn K mainGlobals "comes_down" = some (some (.ref f9)))
    (l9 : K.lookup f9 = some ⟨oc9, od9, .func (PySem.W.fnOf "comes_down" "comes_down" (defArgs K6.s_comes_down) (defBody K6.s_comes_down) (defScope K6.s_comes_down) .none kV9 doc9 pm9 an9 cd9 ct9), sl9⟩)
    (c9 : PySem.W.codeIn K cd9 "comes_down" = true)
    (k9 : PySem.W.keepIn K (.ref f9) = true)
    (a10 : PySem.W.nsIn K mainGlobals "_law_mixed" = some (some (.ref f10)))
    (l10 : K.lookup f10 = some ⟨oc10, od10, .func (PySem.W.fnOf "_law_mixed" "_law_mixed" (defArgs K6.s__law_mixed) (defBody K6.s__law_mixed) (defScope K6.s__law_mixed) .none kV10 doc10 pm10 an10 cd10 ct10), sl10⟩)
    (c10 : PySem.W.codeIn K cd10 "_law_mixed" = true)
    (k10 : PySem.W.keepIn K (.ref f10) = true)
    (a11 : PySem.W.nsIn K mainGlobals "_law_mixed_up" = some (some (.ref f11)))
    (l11 : K.lookup f11 = some ⟨oc11, od11, .func (PySem.W.fnOf "_law_mixed_up" "_law_mixed_up" (defArgs K6.s__law_mixed_up) (defBody K6.s__law_mixed_up) (defScope K6.s__law_mixed_up) .none kV11 doc11 pm11 an11 cd11 ct11), sl11⟩)
    (c11 : PySem.W.codeIn K cd11 "_law_mixed_up" = true)
    (k11 : PySem.W.keepIn K (.ref f11) = true)
    (a12 : PySem.W.nsIn K mainGlobals "_law_going" = some (some (.ref f12)))
    (l12 : K.lookup f12 = some ⟨oc12, od12, .func (PySem.W.fnOf "_law_going" "_law_going" (defArgs K6.s__law_going) (defBody K6.s__law_going) (defScope K6.s__law_going) .none kV12 doc12 pm12 an12 cd12 ct12), sl12⟩)
    (c12 : PySem.W.codeIn K cd12 "_law_going" = true)
    (k12 : PySem.W.keepIn K (.ref f12) = true)
    (a13 : PySem.W.nsIn K mainGlobals "_law_long" = some (some (.ref f13)))
    (l13 : K.lookup f13 = some ⟨oc13, od13, .func (PySem.W.fnOf "_law_long" "_law_long" (defArgs K6.s__law_long) (defBody K6.s__law_long) (defScope K6.s__law_long) .none kV13 doc13 pm13 an13 cd13 ct13), sl13⟩)
    (c13 : PySem.W.codeIn K cd13 "_law_long" = true)
    (k13 : PySem.W.keepIn K (.ref f13) = true)
    (a14 : PySem.W.nsIn K mainGlobals "_law_due" = some (some (.ref f14)))
    (l14 : K.lookup f14 = some ⟨oc14, od14, .func (PySem.W.fnOf "_law_due" "_law_due" (defArgs K6.s__law_due) (defBody K6.s__law_due) (defScope K6.s__law_due) .none kV14 doc14 pm14 an14 cd14 ct14), sl14⟩)
    (c14 : PySem.W.codeIn K cd14 "_law_due" = true)
    (k14 : PySem.W.keepIn K (.ref f14) = true)
    (a15 : PySem.W.nsIn K mainGlobals "_law_told" = some (some (.ref f15)))
    (l15 : K.lookup f15 = some ⟨oc15, od15, .func (PySem.W.fnOf "_law_told" "_law_told" (defArgs K6.s__law_told) (defBody K6.s__law_told) (defScope K6.s__law_told) .none kV15 doc15 pm15 an15 cd15 ct15), sl15⟩)
    (c15 : PySem.W.codeIn K cd15 "_law_told" = true)
    (k15 : PySem.W.keepIn K (.ref f15) = true)
    (a16 : PySem.W.nsIn K mainGlobals "law" = some (some (.ref f16)))
    (l16 : K.lookup f16 = some ⟨oc16, od16, .func (PySem.W.fnOf "law" "law" (defArgs K6.s_law) (defBody K6.s_law) (defScope K6.s_law) .none kV16 doc16 pm16 an16 cd16 ct16), sl16⟩)
    (c16 : PySem.W.codeIn K cd16 "law" = true)
    (k16 : PySem.W.keepIn K (.ref f16) = true)
    (xCa : PySem.W.nsIn K mainGlobals "NoRow" = some (some (.ref C)))
    (xCx : PySem.W.excIn K C [.type "ValueError", .type "Exception", .type "BaseException", .type "object"] "ValueError.__new__" = true)
    (xCk : PySem.W.keepIn K (.ref C) = true)
    (xCb : PySem.W.subIn K (.ref C) (.type "BaseException") = some true)
    (xCt : PySem.W.typeIn K (.ref C) = some (.type "type"))
    (xCg : PySem.W.findIn K (.ref C) "__getattribute__" = some (some (.builtin "BaseException.__getattribute__")))
    (xCh : PySem.W.findIn K (.ref C) "__getattr__" = some none)
    (xCd : PySem.W.hasDictIn K C = true)
    (xCc : PySem.W.findIn K (.ref C) "__class__" = some (some (.builtin "object.__class__")))
    (xCm : PySem.W.mroIn K C (.type "object") = some true)
    (xCTa : PySem.W.nsIn K mainGlobals "NoTurn" = some (some (.ref CT)))
    (xCTx : PySem.W.excIn K CT [.type "ValueError", .type "Exception", .type "BaseException", .type "object"] "ValueError.__new__" = true)
    (xCTk : PySem.W.keepIn K (.ref CT) = true)
    (xCTb : PySem.W.subIn K (.ref CT) (.type "BaseException") = some true)
    (xCTt : PySem.W.typeIn K (.ref CT) = some (.type "type"))
    (xCTg : PySem.W.findIn K (.ref CT) "__getattribute__" = some (some (.builtin "BaseException.__getattribute__")))
    (xCTh : PySem.W.findIn K (.ref CT) "__getattr__" = some none)
    (xCTd : PySem.W.hasDictIn K CT = true)
    (xCTc : PySem.W.findIn K (.ref CT) "__class__" = some (some (.builtin "object.__class__")))
    (xCTm : PySem.W.mroIn K CT (.type "object") = some true)
    (xCSa : PySem.W.nsIn K mainGlobals "NoState" = some (some (.ref CS)))
    (xCSx : PySem.W.excIn K CS [.type "ValueError", .type "Exception", .type "BaseException", .type "object"] "ValueError.__new__" = true)
    (xCSk : PySem.W.keepIn K (.ref CS) = true)
    (xCSb : PySem.W.subIn K (.ref CS) (.type "BaseException") = some true)
    (xCSt : PySem.W.typeIn K (.ref CS) = some (.type "type"))
    (xCSg : PySem.W.findIn K (.ref CS) "__getattribute__" = some (some (.builtin "BaseException.__getattribute__")))
    (xCSh : PySem.W.findIn K (.ref CS) "__getattr__" = some none)
    (xCSd : PySem.W.hasDictIn K CS = true)
    (xCSc : PySem.W.findIn K (.ref CS) "__class__" = some (some (.builtin "object.__class__")))
    (xCSm : PySem.W.mroIn K CS (.type "object") = some true)
    (xCHa : PySem.W.nsIn K mainGlobals "NoThrow" = some (some (.ref CH)))
    (xCHx : PySem.W.excIn K CH [.type "ValueError", .type "Exception", .type "BaseException", .type "object"] "ValueError.__new__" = true)
    (xCHk : PySem.W.keepIn K (.ref CH) = true)
    (xCHb : PySem.W.subIn K (.ref CH) (.type "BaseException") = some true)
    (xCHt : PySem.W.typeIn K (.ref CH) = some (.type "type"))
    (xCHg : PySem.W.findIn K (.ref CH) "__getattribute__" = some (some (.builtin "BaseException.__getattribute__")))
    (xCHh : PySem.W.findIn K (.ref CH) "__getattr__" = some none)
    (xCHd : PySem.W.hasDictIn K CH = true)
    (xCHc : PySem.W.findIn K (.ref CH) "__class__" = some (some (.builtin "object.__class__")))
    (xCHm : PySem.W.mroIn K CH (.type "object") = some true)
    (xn : PySem.W.specialIn K (.builtin "object.__class__") "__get__" = some (some (.builtin "getset_descriptor.__get__")))
    (xt : PySem.W.takesIn K (.builtin "object.__class__") = some true)
    (zCCa : PySem.W.nsIn K mainGlobals "Clash" = some (some (.ref CC)))
    (zCCl : K.lookup CC = some (excClassObj nmCC qCC CC NCC bsCC bmCC true snCC sbCC abCC colCC ddCC kaCC kbCC kcCC kdCC keCC "ValueError.__new__"))
    (wzCCr : PySem.HandSPX.refsVE bmCC = true)
    (zCCs : PySem.W.findIn K (.ref CC) "__setattr__" = some (some (.builtin "object.__setattr__")))
    (zCCb : PySem.W.subIn K (.ref CC) (.type "BaseException") = some true)
    (zCCt : PySem.W.typeIn K (.ref CC) = some (.type "type"))
    (zCCk : PySem.W.keepIn K (.ref CC) = true)
    (zCCi : PySem.W.findIn K (.ref CC) "__init__" = some (some (.ref fICC)))
    (zCCf : PySem.W.typeIn K (.ref fICC) = some (.type "function"))
    (zCCF : K.lookup fICC = some ⟨ocCC, odCC, .func (PySem.W.fnX "__init__" "Clash.__init__" (defArgs K6.s_Clash_init) (defBody K6.s_Clash_init) (defScope K6.s_Clash_init) [("__class__", ceCC)] .none kVCC docCC pmCC anCC (.ref daCC) ctCC), slCC⟩)
    (zCCc : PySem.W.codeIn K (.ref daCC) "Clash.__init__" = true)
    (zCCd : K.lookup daCC = some ⟨ccCC, cddCC, .fields vsCC, ccsCC⟩)
    (wzCCv : vsCC[2]? = some (.str filCC tfCC))
    (wzCCg : ((l.prog.main.file : Str) == filCC) = true)
    (zCCe : K.lookup ceCC = some ⟨clCC, cldCC, .cell (some (.ref CC)), cslCC⟩)
    (SCC : PySem.W.ks_superIn K CC CC "__init__" = some (some (.builtin "ValueError.__init__")))
    (zCCm : PySem.W.mroIn K CC (.ref CC) = some true)
    (zCCV : PySem.W.subIn K (.ref CC) (.type "ValueError") = some true)
    (zCCn0 : PySem.W.findIn K (.ref CC) "one" = some none)
    (zCCn1 : PySem.W.findIn K (.ref CC) "other" = some none)
    (znop : PySem.W.nsIn K PySem.cStatics "thirdparty.any" = some none)
    (wtop : (l.prog.main.scope.names.lookup ("super" : Str)).isSome = false)
    (v0 : PySem.W.nsIn K mainGlobals "MOST_HEIGHTS" = some (some u0))
    (w0 : RelV (.int 40) u0)
    (v1 : PySem.W.nsIn K mainGlobals "TOP_HEIGHT" = some (some u1))
    (w1 : RelV (.int 9) u1)
    (v2 : PySem.W.nsIn K mainGlobals "TOP_STATE" = some (some u2))
    (w2 : RelV (.int 511) u2)
    (n_isinstance : PySem.W.nsIn K mainGlobals "isinstance" = some none)
    (n_int : PySem.W.nsIn K mainGlobals "int" = some none)
    (n_bool : PySem.W.nsIn K mainGlobals "bool" = some none)
    (n_list : PySem.W.nsIn K mainGlobals "list" = some none)
    (n_tuple : PySem.W.nsIn K mainGlobals "tuple" = some none)
    (n_enumerate : PySem.W.nsIn K mainGlobals "enumerate" = some none)
    (n_range : PySem.W.nsIn K mainGlobals "range" = some none)
    (n_len : PySem.W.nsIn K mainGlobals "len" = some none)
    (n_min : PySem.W.nsIn K mainGlobals "min" = some none)
    (n_max : PySem.W.nsIn K mainGlobals "max" = some none)
    (n_super : PySem.W.nsIn K mainGlobals "super" = some none)
    (q1 : PySem.W.subIn K (.ref C) (.ref C) = some true)
    (q2 : PySem.W.subIn K (.ref CC) (.ref C) = some false)
    (q3 : PySem.W.subIn K (.ref CC) (.ref CC) = some true)
    (q4 : PySem.W.subIn K (.ref CT) (.ref C) = some false)
    (q5 : PySem.W.subIn K (.ref CT) (.ref CC) = some false)
    (q6 : PySem.W.subIn K (.ref CT) (.ref CT) = some true)
    (q7 : PySem.W.hasDictIn K CC = true) :
    ∃ fd : FuncData, (∀ (s : Shared) (v : Value), BindsTo s fd ⟨[v], []⟩ [("_law_script", v)]) ∧ ∀ base : Heap, K.In base → base.Ns mainGlobals mg → FnOk l.prog w K mg base CX0 7 fa fd ["_law_script"] (K6.spLaw K) := by
  have e := hfa.symm.trans (PySem.W.mg_of X G a16)
  cases e
  have D_is_whole : Dfn K mg "is_whole" K6.s_is_whole ["thing"] := dfn_mk X G a0 l0 c0 k0 (fun _ _ _ _ _ _ us hl => match us, hl with | [_], _ => rfl)
  have D_need_row : Dfn K mg "need_row" K6.s_need_row ["thing"] := dfn_mk X G a1 l1 c1 k1 (fun _ _ _ _ _ _ us hl => match us, hl with | [_], _ => rfl)
  have D_clash : Dfn K mg "clash" K6.s_clash ["row"] := dfn_mk X G a2 l2 c2 k2 (fun _ _ _ _ _ _ us hl => match us, hl with | [_], _ => rfl)
  have D_need_going : Dfn K mg "need_going" K6.s_need_going ["row"] := dfn_mk X G a3 l3 c3 k3 (fun _ _ _ _ _ _ us hl => match us, hl with | [_], _ => rfl)
  have D_need_state : Dfn K mg "need_state" K6.s_need_state ["thing"] := dfn_mk X G a4 l4 c4 k4 (fun _ _ _ _ _ _ us hl => match us, hl with | [_], _ => rfl)
  have D_thrown : Dfn K mg "thrown" K6.s_thrown ["state", "height"] := dfn_mk X G a5 l5 c5 k5 (fun _ _ _ _ _ _ us hl => match us, hl with | [_, _], _ => rfl)
  have D_state_at : DfnD K mg "state_at" K6.s_state_at ["row", "turn"] (.int 0) := dfnD_mk X G a6 l6 c6 k6 t6 wr6 ⟨_, rfl⟩ (fun _ _ _ _ _ _ _ us its h1 h2 => match us, its, h1, h2 with | [_, _], [_], _, _ => ⟨_, rfl, rfl⟩) (fun _ _ _ _ _ _ _ us its h1 h2 => match us, its, h1, h2 with | [_], [_], _, _ => ⟨_, rfl, rfl⟩)
  have D_heights_let : Dfn K mg "heights_let" K6.s_heights_let ["state"] := dfn_mk X G a7 l7 c7 k7 (fun _ _ _ _ _ _ us hl => match us, hl with | [_], _ => rfl)
  have D_state_behind : Dfn K mg "state_behind" K6.s_state_behind ["state", "height"] := dfn_mk X G a8 l8 c8 k8 (fun _ _ _ _ _ _ us hl => match us, hl with | [_, _], _ => rfl)
  have D_comes_down : Dfn K mg "comes_down" K6.s_comes_down ["state", "turns"] := dfn_mk X G a9 l9 c9 k9 (fun _ _ _ _ _ _ us hl => match us, hl with | [_, _], _ => rfl)
  have D__law_mixed : Dfn K mg "_law_mixed" K6.s__law_mixed ["_law_cell", "_law_k"] := dfn_mk X G a10 l10 c10 k10 (fun _ _ _ _ _ _ us hl => match us, hl with | [_, _], _ => rfl)
  have D__law_mixed_up : Dfn K mg "_law_mixed_up" K6.s__law_mixed_up ["_law_row", "_law_cell"] := dfn_mk X G a11 l11 c11 k11 (fun _ _ _ _ _ _ us hl => match us, hl with | [_, _], _ => rfl)
  have D__law_going : Dfn K mg "_law_going" K6.s__law_going ["_law_cell", "_law_many"] := dfn_mk X G a12 l12 c12 k12 (fun _ _ _ _ _ _ us hl => match us, hl with | [_, _], _ => rfl)
  have D__law_long : Dfn K mg "_law_long" K6.s__law_long ["_law_cell"] := dfn_mk X G a13 l13 c13 k13 (fun _ _ _ _ _ _ us hl => match us, hl with | [_], _ => rfl)
  have D__law_due : Dfn K mg "_law_due" K6.s__law_due ["_law_row", "_law_turn"] := dfn_mk X G a14 l14 c14 k14 (fun _ _ _ _ _ _ us hl => match us, hl with | [_, _], _ => rfl)
  have D__law_told : Dfn K mg "_law_told" K6.s__law_told ["_law_row", "_law_turn"] := dfn_mk X G a15 l15 c15 k15 (fun _ _ _ _ _ _ us hl => match us, hl with | [_, _], _ => rfl)
  have e_NoRow : Exn K mg "NoRow" C := exn_mk X G xCa xCx xCk xCb xCt xCg xCh xCd xCc xn xt xCm
  have e_NoTurn : Exn K mg "NoTurn" CT := exn_mk X G xCTa xCTx xCTk xCTb xCTt xCTg xCTh xCTd xCTc xn xt xCTm
  have e_NoState : Exn K mg "NoState" CS := exn_mk X G xCSa xCSx xCSk xCSb xCSt xCSg xCSh xCSd xCSc xn xt xCSm
  have e_NoThrow : Exn K mg "NoThrow" CH := exn_mk X G xCHa xCHx xCHk xCHb xCHt xCHg xCHh xCHd xCHc xn xt xCHm
  have v_MOST_HEIGHTS : ∃ u, mg "MOST_HEIGHTS" = some u ∧ RelV (.int 40) u := const_mk X G v0 w0
  have v_TOP_HEIGHT : ∃ u, mg "TOP_HEIGHT" = some u ∧ RelV (.int 9) u := const_mk X G v1 w1
  have v_TOP_STATE : ∃ u, mg "TOP_STATE" = some u ∧ RelV (.int 511) u := const_mk X G v2 w2
  have m_isinstance : mg "isinstance" = none := PySem.W.mg_none_of X G n_isinstance
  have m_int : mg "int" = none := PySem.W.mg_none_of X G n_int
  have m_bool : mg "bool" = none := PySem.W.mg_none_of X G n_bool
  have m_list : mg "list" = none := PySem.W.mg_none_of X G n_list
  have m_tuple : mg "tuple" = none := PySem.W.mg_none_of X G n_tuple
  have m_enumerate : mg "enumerate" = none := PySem.W.mg_none_of X G n_enumerate
  have m_range : mg "range" = none := PySem.W.mg_none_of X G n_range
  have m_len : mg "len" = none := PySem.W.mg_none_of X G n_len
  have m_min : mg "min" = none := PySem.W.mg_none_of X G n_min
  have m_max : mg "max" = none := PySem.W.mg_none_of X G n_max
  have m_super : mg "super" = none := PySem.W.mg_none_of X G n_super
  have F := fun_mk (st := K6.s_law) l16 c16 k16
  refine ⟨PySem.W.fnOf "law" "law" (defArgs K6.s_law) (defBody K6.s_law) (defScope K6.s_law) .none kV16 doc16 pm16 an16 cd16 ct16, fun s v => .of_eq rfl, fun base _ _ => ?_⟩
  have X_Clash : OexC K CC := ⟨⟨_, _, _, _, _, _, _, _, _, _, _, _, _, _, _, zCCl, wzCCr⟩, zCCs, zCCb, zCCt, zCCk⟩
  have S_Clash : SupC l.prog K fICC daCC ceCC CC "Clash.__init__" K6.s_Clash_init := ⟨⟨_, _, _, _, _, _, _, _, zCCF⟩, zCCc, ⟨_, _, _, _, _, _, zCCd, wzCCv, wzCCg⟩, ⟨_, _, _, zCCe⟩, SCC, zCCm, zCCV, znop⟩
  have m_Clash : MkE l.prog w K mg base 1 "Clash" CC (spTwo "one" "other" CC) := ⟨fICC, _, _, X_Clash, zCCi, zCCf, K6.ok_Clash S_Clash X_Clash ⟨_, zCCF, rfl⟩ wtop m_super zCCn0 zCCn1, .all (fun us hl => match us, hl with | [_, _, _], _ => rfl), PySem.W.mg_of X G zCCa⟩
  have T : K6.Errs K mg C CC CT := ⟨e_NoRow, e_NoTurn, PySem.W.mg_of X G zCCa, PySem.W.exm_ref xCb xCd xCt q1, PySem.W.exm_ref xCb xCd xCt q2, PySem.W.exm_ref zCCb q7 zCCt q3, PySem.W.exm_ref xCb xCd xCt q4, PySem.W.exm_ref zCCb q7 zCCt q5, PySem.W.exm_ref xCTb xCTd xCTt q6⟩
  have c1 := K6.ok_mixed (P := l.prog) (w := w) (base := base) D__law_mixed
  have c2 := K6.ok_whole (P := l.prog) (w := w) (base := base) D_is_whole m_isinstance m_int m_bool
  have c3 := K6.ok_needR D_need_row c2 v_MOST_HEIGHTS v_TOP_HEIGHT m_isinstance m_list m_tuple m_len e_NoRow
  have c5 := K6.ok_long (P := l.prog) (w := w) (base := base) D__law_long
  have c6 := K6.ok_mixUp (P := l.prog) (w := w) (base := base) D__law_mixed_up c1 m_range m_len m_int m_min m_max
  have c7 := K6.ok_going (P := l.prog) (w := w) (base := base) D__law_going c1 c6 m_range
  have c8 := K6.ok_clash D_clash c3 m_enumerate m_len
  have c9 := K6.ok_go D_need_going c8 m_Clash
  have c10 := K6.ok_needS D_need_state c2 v_TOP_STATE e_NoState
  have c11 := K6.ok_down (P := l.prog) (w := w) (base := base) D_comes_down
  have c11a := K6.ok_hlets (P := l.prog) (w := w) (base := base) D_heights_let c11 m_range v_TOP_HEIGHT
  have c11b := K6.ok_bhd (P := l.prog) (w := w) (base := base) D_state_behind
  have c13 := K6.ok_thrown D_thrown c10 c11a c2 c11b e_NoThrow
  obtain ⟨c14, cd14⟩ := K6.ok_state D_state_at c9 c2 e_NoTurn v_TOP_HEIGHT m_range m_len
  have c15 := K6.ok_due (P := l.prog) (w := w) (base := base) D__law_due m_range m_len
  have c16 := K6.ok_told D__law_told T c14
  exact K6.ok_law F c1 c5 c7 c15 c14 cd14 c13 c8 c16 m_isinstance m_bool m_tuple m_enumerate m_len
open PySem PySem.W PyProof.Rows
set_option maxRecDepth 100000 in
set_option maxHeartbeats 0 in
theorem PySem.Challenge.cw_tossrow_k06_states_of_rows_holds : PySem.Challenge.rw_tossrow_k06_states_of_rows.Holds := by
  w_on; o_law; k_head; (case hw => w_witness2)
  k_fill
  refine L2.walk_of (l := PySem.Challenge.rw_tossrow_k06_states_of_rows) (n := 63) (k := 7) (x := "_law_script") (CX := fun _ => L2.CX0) (sp := fun w => K6.spLaw _) rfl (by decide) rfl ⟨rfl, by decide, by decide⟩ (fun w h Y => PySem.W.kIn_of Y) ?F (fun _ _ a ns hl _ hS => ⟨a, ns, rfl, hS, hl, fun _ => rfl⟩) (fun _ _ _ _ _ h => h)
  case F =>
    intro w mg fa h KX G hmg
    refine' K6.all_mk KX G hmg ?a0 ?l0 ?c0 ?k0 ?a1 ?l1 ?c1 ?k1 ?a2 ?l2 ?c2 ?k2 ?a3 ?l3 ?c3 ?k3 ?a4 ?l4 ?c4 ?k4 ?a5 ?l5 ?c5 ?k5 ?a6 ?l6 ?c6 ?k6 ?t6 ?wr6 ?a7 ?l7 ?c7 ?k7 ?a8 ?l8 ?c8 ?k8 ?a9 ?l9 ?c9 ?k9 ?a10 ?l10 ?c10 ?k10 ?a11 ?l11 ?c11 ?k11 ?a12 ?l12 ?c12 ?k12 ?a13 ?l13 ?c13 ?k13 ?a14 ?l14 ?c14 ?k14 ?a15 ?l15 ?c15 ?k15 ?a16 ?l16 ?c16 ?k16 ?xCa ?xCx ?xCk ?xCb ?xCt ?xCg ?xCh ?xCd ?xCc ?xCm ?xCTa ?xCTx ?xCTk ?xCTb ?xCTt ?xCTg ?xCTh ?xCTd ?xCTc ?xCTm ?xCSa ?xCSx ?xCSk ?xCSb ?xCSt ?xCSg ?xCSh ?xCSd ?xCSc ?xCSm ?xCHa ?xCHx ?xCHk ?xCHb ?xCHt ?xCHg ?xCHh ?xCHd ?xCHc ?xCHm ?xn ?xt ?zCCa ?zCCl ?wzCCr ?zCCs ?zCCb ?zCCt ?zCCk ?zCCi ?zCCf ?zCCF ?zCCc ?zCCd ?wzCCv ?wzCCg ?zCCe ?SCC ?zCCm ?zCCV ?zCCn0 ?zCCn1 ?znop ?wtop ?v0 ?w0 ?v1 ?w1 ?v2 ?w2 ?n_isinstance ?n_int ?n_bool ?n_list ?n_tuple ?n_enumerate ?n_range ?n_len ?n_min ?n_max ?n_super ?q1 ?q2 ?q3 ?q4 ?q5 ?q6 ?q7
    (case a0 => k_is)
    (case l0 => k_is)
    (case c0 => k_is)
    (case k0 => k_is)
    (case a1 => k_is)
    (case l1 => k_is)
    (case c1 => k_is)
    (case k1 => k_is)
    (case a2 => k_is)
    (case l2 => k_is)
    (case c2 => k_is)
    (case k2 => k_is)
    (case a3 => k_is)
    (case l3 => k_is)
    (case c3 => k_is)
    (case k3 => k_is)
    (case a4 => k_is)
    (case l4 => k_is)
    (case c4 => k_is)
    (case k4 => k_is)
    (case a5 => k_is)
    (case l5 => k_is)
    (case c5 => k_is)
    (case k5 => k_is)
    (case a6 => k_is)
    (case l6 => k_is)
    (case c6 => k_is)
    (case k6 => k_is)
    (case t6 => k_is)
    (case wr6 => first | k_is | rfl | exact ⟨_, rfl⟩ | decide +kernel)
    (case a7 => k_is)
    (case l7 => k_is)
    (case c7 => k_is)
    (case k7 => k_is)
    (case a8 => k_is)
    (case l8 => k_is)
    (case c8 => k_is)
    (case k8 => k_is)
    (case a9 => k_is)
    (case l9 => k_is)
    (case c9 => k_is)
    (case k9 => k_is)
    (case a10 => k_is)
    (case l10 => k_is)
    (case c10 => k_is)
    (case k10 => k_is)
    (case a11 => k_is)
    (case l11 => k_is)
    (case c11 => k_is)
    (case k11 => k_is)
    (case a12 => k_is)
    (case l12 => k_is)
    (case c12 => k_is)
    (case k12 => k_is)
    (case a13 => k_is)
    (case l13 => k_is)
    (case c13 => k_is)
    (case k13 => k_is)
    (case a14 => k_is)
    (case l14 => k_is)
    (case c14 => k_is)
    (case k14 => k_is)
    (case a15 => k_is)
    (case l15 => k_is)
    (case c15 => k_is)
    (case k15 => k_is)
    (case a16 => k_is)
    (case l16 => k_is)
    (case c16 => k_is)
    (case k16 => k_is)
    (case xCa => k_is)
    (case xCx => k_exc)
    (case xCk => k_is)
    (case xCb => k_is)
    (case xCt => k_is)
    (case xCg => k_is)
    (case xCh => k_is)
    (case xCd => k_is)
    (case xCc => k_is)
    (case xCm => k_is)
    (case xCTa => k_is)
    (case xCTx => k_exc)
    (case xCTk => k_is)
    (case xCTb => k_is)
    (case xCTt => k_is)
    (case xCTg => k_is)
    (case xCTh => k_is)
    (case xCTd => k_is)
    (case xCTc => k_is)
    (case xCTm => k_is)
    (case xCSa => k_is)
    (case xCSx => k_exc)
    (case xCSk => k_is)
    (case xCSb => k_is)
    (case xCSt => k_is)
    (case xCSg => k_is)
    (case xCSh => k_is)
    (case xCSd => k_is)
    (case xCSc => k_is)
    (case xCSm => k_is)
    (case xCHa => k_is)
    (case xCHx => k_exc)
    (case xCHk => k_is)
    (case xCHb => k_is)
    (case xCHt => k_is)
    (case xCHg => k_is)
    (case xCHh => k_is)
    (case xCHd => k_is)
    (case xCHc => k_is)
    (case xCHm => k_is)
    (case xn => k_is)
    (case xt => k_is)
    (case zCCa => k_is)
    (case zCCl => k_is)
    (case wzCCr => first | k_is | rfl | exact ⟨_, rfl⟩ | decide +kernel)
    (case zCCs => k_is)
    (case zCCb => k_is)
    (case zCCt => k_is)
    (case zCCk => k_is)
    (case zCCi => k_is)
    (case zCCf => k_is)
    (case zCCF => k_is)
    (case zCCc => k_is)
    (case zCCd => k_is)
    (case wzCCv => first | k_is | rfl | exact ⟨_, rfl⟩ | decide +kernel)
    (case wzCCg => first | k_is | rfl | exact ⟨_, rfl⟩ | decide +kernel)
    (case zCCe => k_is)
    (case SCC => ks_is)
    (case zCCm => k_is)
    (case zCCV => k_is)
    (case zCCn0 => k_is)
    (case zCCn1 => k_is)
    (case znop => k_is)
    (case wtop => first | k_is | rfl | exact ⟨_, rfl⟩ | decide +kernel)
    (case v0 => k_is)
    (case w0 => first | k_is | rfl | exact ⟨_, rfl⟩ | decide +kernel)
    (case v1 => k_is)
    (case w1 => first | k_is | rfl | exact ⟨_, rfl⟩ | decide +kernel)
    (case v2 => k_is)
    (case w2 => first | k_is | rfl | exact ⟨_, rfl⟩ | decide +kernel)
    (case n_isinstance => k_is)
    (case n_int => k_is)
    (case n_bool => k_is)
    (case n_list => k_is)
    (case n_tuple => k_is)
    (case n_enumerate => k_is)
    (case n_range => k_is)
    (case n_len => k_is)
    (case n_min => k_is)
    (case n_max => k_is)
    (case n_super => k_is)
    (case q1 => k_is)
    (case q2 => k_is)
    (case q3 => k_is)
    (case q4 => k_is)
    (case q5 => k_is)
    (case q6 => k_is)
    (case q7 => k_is)
end
