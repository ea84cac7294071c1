import PyProof.Rows.All
import Wide.All
import OpenK.AllK
import Wide.FinOn
import PyProof.EqAt
import PyProof.EqKinds
import PyProof.TupleCall
import HandS.Base
import HandS.Call
import HandS.List
import HandS.Comp
import HandS.Ends
import HandS.Words
import HandS.Exc
import HandS.TryOnly
import HandS.ExcIs
import HandS.IsInst
import HandS.WordsExc
import HandS.Iter
import HandS.Conv
import HandS.Small
import HandS.FStr
import HandS.CallLocal
import HandS.Codes
import PySem.Challenge.RW_tossrow_k05_throws_let
set_option Elab.async false
set_option linter.all false
set_option maxRecDepth 100000
set_option maxHeartbeats 4000000
namespace TW
open PySem PySem.Spec PyProof.Rows L2
section
variable {X : Cx}
/-- a list that may be read + another -/
def rCatL (K : PySem.W.Frag) : R2 := fun x y H Q => ∃ l b xs zs, x = .ref l ∧ y = .ref b ∧ SqL K H l xs ∧ SqL K H b zs ∧ xs.length + zs.length ≤ sizeLine ∧ ∀ p, H p = none → Q (.ref p) (upd H p (.lst (xs ++ zs)))
theorem op_catL : OpR X (binaryOp .Add) (rCatL X.K) := by
  intro pins s σ H x y v u Q I rx ry h
  obtain ⟨l, b, xs, zs, rfl, rfl, hH, hB, hz, q⟩ := h
  cases rx
  cases ry
  obtain ⟨its, r, pl, hl1⟩ := I.list hH
  obtain ⟨its2, r2, pl2, hl2⟩ := I.list hB
  have e1 := r.length
  have e2 := r2.length
  obtain ⟨⟨cls, dd, data, sl⟩, ho, hc, n, hd⟩ := pl.isList
  obtain ⟨⟨cls2, dd2, data2, sl2⟩, ho2, hc2, n2, hd2⟩ := pl2.isList
  simp only at hc hd hc2 hd2
  subst hc hd hc2 hd2
  have e : its.toArray ++ its2.toArray = (its ++ its2).toArray := by simp
  refine concat_meets ⟨_, ho, rfl⟩ ⟨_, ho2, rfl⟩ noFill_list_add seq_list_add PySem.F.slot_list_add PySem.F.entry_list_add (PySem.F.args_list_add_2 _ _) (list_addW l b its.toArray its2.toArray n n2 dd dd2 sl sl2 (by simp only [List.size_toArray]; omega)) ⟨ho, ho2, ?_⟩
  rw [e]
  exact ⟨.ref _, _, I.lnew (t' := s.toks) (r.append r2) (by rw [List.length_append]; omega), rfl, q _ I.fresh⟩
end
end TW
namespace TW
open PySem PySem.Spec PyProof.Rows L2

/-- an exception that was caught and is kept, at a -/
def ExK (cls : Value) (d : Option Addr) (a : Addr) : HO :=
  .ext fun h => ∃ (oe : Obj) (vs : Array Value), h.get? a = some oe ∧ Zc cls d oe ∧ oe.data = .fields vs

section
variable {X : Cx} {pins : List (Addr × Obj)} {σ : L2.St} {H : Hp} {s : Shared} {a : Addr} {oe : Obj} {vs : Array Value} {cls : Value} {d : Option Addr}

/-- a pinned exception is tracked from now on -/
theorem keep_exc (I : Inv X ((a, oe) :: pins) σ H s) (h0 : X.s_0.heap.get? a = none) (hp : ∀ p ∈ X.pn ++ pins, p.1 ≠ a) (hz : Zc cls d oe) (hd : oe.data = .fields vs) :
    Inv X pins σ (upd H a (ExK cls d a)) s := by
  obtain ⟨p1, p2, p3, p4, p5⟩ := I.pin (a, oe) (List.mem_append.mpr (.inr List.mem_cons_self))
  have ne : ∀ {b : Addr} {o : HO}, H b = some o → b ≠ a := fun e z => by
    rw [z] at e
    exact absurd (e.symm.trans p2) (by simp)
  refine { ok := I.ok, os := I.os, bare := I.bare, base := ?_, loc := I.loc, cell := I.cell, free := ?_, freeC := ?_, pin := ?_, hok := ?_, len := I.len }
  · refine { keep := I.base.keep, slot := I.base.slot, free := ?_, there := I.base.there, tups := ?_, frzs := ?_, tbls := ?_ }
    · intro b u e n hx
      rw [upd_ne (fun z => by rw [z, h0] at e; cases e)]
      exact I.base.free b u e n hx
    · intro b xs e
      have q := I.base.tups b xs e
      rw [upd_ne (ne q)]
      exact q
    · intro b u xs e
      have q := I.base.frzs b u xs e
      rw [upd_ne (ne q)]
      exact q
    · intro b ps e
      obtain ⟨m, q⟩ := I.base.tbls b ps e
      exact ⟨m, by rw [upd_ne (ne q)]; exact q⟩
  · rw [upd_ne (fun z => p3 z.symm)]
    exact I.free
  · intro x c e
    have z : c ≠ a := fun z => by
      obtain ⟨v, o, ho, hc⟩ := I.cell x c e
      rw [z] at ho
      have w := ho.symm.trans p1
      cases w
      exact p5 v hc
    rw [upd_ne z]
    exact I.freeC x c e
  · intro p hm
    obtain ⟨q1, q2, q3⟩ := I.pin p (by
      rcases List.mem_append.mp hm with z | z
      · exact List.mem_append.mpr (.inl z)
      · exact List.mem_append.mpr (.inr (List.mem_cons_of_mem _ z)))
    exact ⟨q1, by rw [upd_ne (hp p hm)]; exact q2, q3⟩
  · intro b u e
    by_cases hb : b = a
    · subst hb
      rw [upd_same] at e
      cases e
      exact ⟨⟨oe, vs, p1, hz, hd⟩, ⟨oe, p1⟩, fun _ _ ⟨o, v, q, r⟩ k => ⟨o, v, k o q, r⟩⟩
    · rw [upd_ne hb] at e
      refine (I.hok b u e).stay (fun _ _ _ q => q) (fun c q => ?_) fun c xs q => ?_
      · rw [upd_ne (ne q)]
        exact q
      · rw [upd_ne (ne q)]
        exact q

/-- what «except x as n: suite» wishes, where each error of the body is of that class, and the error is kept behind the suite -/
def wKeep (K : PySem.W.Frag) (c : Value) (i : Nat) (ts : Addr → Value → Option Addr → TS) (D : Ends) : WX := fun cls d σ H =>
  PySem.W.exmOne K cls c = some true ∧ ∀ a, H a = none →
    ts a cls d ⟨fun σ' H' => H' a = none → D.nx (σ'.set i none) (upd H' a (ExK cls d a)), D.rt, fun σ' H' => D.bk (σ'.set i none) H', fun σ' H' => D.ct (σ'.set i none) H'⟩ (σ.set i (some (.ref a))) H
def tKeep (K : PySem.W.Frag) (c : Value) (i : Nat) (tb : WX → TS) (ts : Addr → Value → Option Addr → TS) : TS := fun D σ H => tb (wKeep K c i ts D) D σ H
end

section
variable {X : Cx} {x n : Str} {c : Value} {i : Nat} {body suite : List Stmt} {b0 : Stmt} {np pos pos' : Pos} {tb : WX → TS} {ts : Addr → Value → Option Addr → TS}
theorem ps_try_keep (hst : X.stack = X.env :: X.outer) (hfr : X.env.frame = some X.env.locals) (hex : X.ex = []) (hN : X.N.Nodup) (hi : X.N[i]? = some n) (hln : X.env.kindOf n = some .local) (hc : Names X x c)
    (hb : ∀ (W : WX) (pn : List (Addr × Obj)) (xe : Value → Shared → Prop), Takes (X.tr pn xe) W → PSs (X.tr pn xe) body (tb W))
    (hsu : ∀ (a : Addr) (oe : Obj) (cls : Value) (d : Option Addr) (pn : List (Addr × Obj)), Zc cls d oe → (∃ vs, oe.data = .fields vs) → PSs (X.suite a ((a, oe) :: pn)) (b0 :: suite) (ts a cls d)) :
    PS X (.Try body [.ExceptHandler (some (.Name x np)) (some n) (b0 :: suite) pos'] [] [] pos) (tKeep X.K c i tb ts) := by
  constructor
  intro pins s σ H D I h
  have ok := I.ok
  refine wpAny_Try_except ?_
  let after : Value → Shared → Prop := fun u s1 =>
    wpAny (model X.prog X.w) X.A (noteFrame u X.env) (fun _ s2 =>
      wpAny (model X.prog X.w) X.A (setFlight u none) (fun _ s3 =>
        wpAny (model X.prog X.w) X.A (handleBy u X.env [.ExceptHandler (some (.Name x np)) (some n) (b0 :: suite) pos'])
          (SP X pins D) X.xe s3) X.xe s2) X.xe s1
  have tk : Takes (X.tr (X.pn ++ pins) after) (wKeep X.K c i ts D) := by
    rintro u s' ⟨a, B, sI, pins', σ', H', cls, d, rfl, J0, nb, up, sky, na, os, ag, hm, hyes⟩
    have J : Inv X pins σ' H' sI := J0.ofTry ok
    rw [show (X.tr (X.pn ++ pins) after).stack = X.env :: X.outer from hst] at sky
    have gone : B.get? a = none := by
      rcases sky with z | z | z
      · exact z.2.1
      · exact z.2.1
      · exact z.2.1
    have nbX : ∀ b o, sI.heap.get? b = some o → b ∉ frs (X.env :: X.outer) → B.get? b = some o := fun b o e q => nb b o e (by
      rw [show (X.tr (X.pn ++ pins) after).stack = X.env :: X.outer from hst]
      exact q)
    show wpAny (model X.prog X.w) X.A (noteFrame (.ref a) X.env) _ _ s'
    refine Sky.land Zc.steady (ok.frames.trans (by rw [hst])) hfr sky fun h3 fl3 up3 => ?_
    have J3 : Inv X pins σ' H' { s' with heap := h3 } := J.landed nb fl3.1 (up.trans up3) os ag
    obtain ⟨oe3, vs3, he3, hz3, hd3⟩ := fl3.there
    have nfr : a ∉ frs (X.env :: X.outer) := fun q => by
      obtain ⟨_, o', e', hnf⟩ := fl3.2.2.1.mem q
      have z := he3.symm.trans e'
      cases z
      exact hnf _ hd3
    have inF : ∀ b, b = X.env.locals ∨ b ∈ X.fs → b ∈ frs (X.env :: X.outer) := by
      rintro b (q | q)
      · exact List.mem_filterMap.mpr ⟨X.env, List.mem_cons_self, by rw [hfr, q]⟩
      · obtain ⟨e1, q1, q2⟩ := List.mem_filterMap.mp q
        exact List.mem_filterMap.mpr ⟨e1, List.mem_cons_of_mem _ q1, q2⟩
    have nL : a ≠ X.env.locals := fun z => nfr (inF a (.inl z))
    have nF : a ∉ X.fs := fun z => nfr (inF a (.inr z))
    have fresh : sI.heap.get? a = none := by
      cases e : sI.heap.get? a with
      | none => rfl
      | some o =>
        have z := nbX a o e nfr
        rw [gone] at z
        cases z
    have new0 : X.s_0.heap.get? a = none := by
      cases e : X.s_0.heap.get? a with
      | none => rfl
      | some o =>
        obtain ⟨o', z⟩ := J.base.there a o e (by rw [hex]; exact fun z => nomatch z)
        rw [fresh] at z
        cases z
    have apart : ∀ p ∈ X.pn ++ pins, p.1 ≠ a := fun p q z => by
      have e := (J.pin p q).1
      rw [z, fresh] at e
      cases e
    have S3 := J3.suite he3 hd3 na nL nF
    refine wpAny_handleBy_cons (codeAny_handlers_test ?_) (by intro q; cases q)
    have LT : PySem.W.Looks (model X.prog X.w) h3 (typeOf (.ref a)) cls := fun A Q E t k q =>
      wpAny_typeOf_ref (k _ _ he3) (by rw [hz3.1]; exact q)
    have LM := PySem.W.exm_one (M := model X.prog X.w) J3.kIn LT hm
    have test : ∀ {Q E : Value → Shared → Prop}, Q c { s' with heap := h3 } →
        wpAny (model X.prog X.w) (X.A.mark (some (.ref a))) (eval (.Name x np) X.env) Q E { s' with heap := h3 } := by
      intro Q E q
      obtain ⟨hg, hdb, e | ⟨e1, e2, e3⟩⟩ := hc
      · exact ld_glob (X := X.suite a ((a, oe3) :: (X.pn ++ pins))) S3 hg e q hdb
      · exact ld_blt (X := X.suite a ((a, oe3) :: (X.pn ++ pins))) S3 hg e1 e2 q e3 hdb
    refine test (LM.here (codeAny_handlers_suite_as ?_))
    refine HandSPX.lands_againZ fl3 fun h4 fl4 up4 => ?_
    have J4 : Inv X pins σ' H' { s' with heap := h4 } := J.landed nb fl4.1 ((up.trans up3).trans up4) os ag
    obtain ⟨oe4, vs4, he4, hz4, hd4⟩ := fl4.there
    have S4 := J4.suite he4 hd4 na nL nF
    refine store_ok (X := X.suite a ((a, oe4) :: (X.pn ++ pins))) (v := .ref a) S4 hN hi (.inl hln) rfl (fun s5 S5 => ?_) (.inr hln)
    have body := (hsu a oe4 cls d (X.pn ++ pins) hz4 ⟨vs4, hd4⟩).run [] s5 _ H' _ S5 (hyes a na)
    refine wpAny_mono body (fun f s6 hsp => ?_) (fun _ _ z => z.elim)
    have goes : ∀ {σ6 : L2.St} {H6 : Hp} {Q : Shared → Prop}, Inv (X.suite a ((a, oe4) :: (X.pn ++ pins))) [] σ6 H6 s6 →
        (∀ s7, Inv X ((a, oe4) :: pins) (σ6.set i none) H6 s7 → Q s7) →
        wpAny (model X.prog X.w) X.A (do bindName X.env n .none; unbindBehindTheSuite X.env n pos') (fun _ s7 => Q s7) X.xe s6 := by
      intro σ6 H6 Q S6 hq
      have P6 : Inv X ((a, oe4) :: pins) σ6 H6 s6 :=
        { ok := ok, os := S6.os, bare := S6.bare, base := S6.base, loc := S6.loc, cell := S6.cell, free := S6.free, freeC := S6.freeC, hok := S6.hok, len := S6.len,
          pin := fun p q => S6.pin p (List.mem_append.mpr (.inl (by
            rcases List.mem_append.mp q with z | z
            · exact List.mem_cons_of_mem _ (List.mem_append.mpr (.inl z))
            · rcases List.mem_cons.mp z with z | z
              · rw [z]
                exact List.mem_cons_self
              · exact List.mem_cons_of_mem _ (List.mem_append.mpr (.inr z))))) }
      exact gone_ok P6 hN hi hln hq
    have drop : ∀ {σ6 : L2.St} {H6 : Hp} {s7 : Shared}, Inv X ((a, oe4) :: pins) σ6 H6 s7 → Inv X pins σ6 H6 s7 := fun J7 => J7.pins_of fun p q => J7.pin p (List.mem_append.mpr (.inr (List.mem_cons_of_mem _ q)))
    cases f with
    | next =>
      obtain ⟨σ6, H6, S6, q6⟩ := hsp
      refine goes S6 fun s7 J7 => ?_
      exact ⟨_, _, keep_exc J7 new0 apart hz4 hd4, q6 (J7.pin (a, oe4) (List.mem_append.mpr (.inr List.mem_cons_self))).2.1⟩
    | brk =>
      obtain ⟨σ6, H6, S6, q6⟩ := hsp
      exact goes S6 fun s7 J7 => ⟨_, _, drop J7, q6⟩
    | cont =>
      obtain ⟨σ6, H6, S6, q6⟩ := hsp
      exact goes S6 fun s7 J7 => ⟨_, _, drop J7, q6⟩
    | ret u =>
      obtain ⟨v6, σ6, H6, S6, r6, q6⟩ := hsp
      exact goes S6 fun s7 J7 => ⟨_, _, _, drop J7, r6, q6⟩
  refine wpAny_mono ((hb _ _ after tk).run [] s σ H D (I.toTry _) h) (fun f s1 hsp => ?_) (fun u s1 he => he)
  cases f with
  | next =>
    obtain ⟨σ1, H1, J1, q⟩ := hsp
    exact wpAny_execs_nil ⟨σ1, H1, J1.ofTry ok, q⟩
  | brk =>
    obtain ⟨σ1, H1, J1, q⟩ := hsp
    exact ⟨σ1, H1, J1.ofTry ok, q⟩
  | cont =>
    obtain ⟨σ1, H1, J1, q⟩ := hsp
    exact ⟨σ1, H1, J1.ofTry ok, q⟩
  | ret u =>
    obtain ⟨v, σ1, H1, J1, r, q⟩ := hsp
    exact ⟨v, σ1, H1, J1.ofTry ok, r, q⟩

/-- isinstance(e, C) of a kept error -/
def rIsK (K : PySem.W.Frag) : List V → Hp → VK → Prop := fun xs H Q =>
  ∃ (a C : Addr) (c : V) (u : Value) (b : Bool), xs = [.ref a, c] ∧ H a = some (ExK (.ref C) none a) ∧ ExcC K C ∧ ClsV c u ∧ PySem.W.kitOne K (.ref C) u = some b ∧ Q (.bl b) H
theorem call_isK : CallR X (.builtin "isinstance") (rIsK X.K) := by
  intro pins s σ H xs us Q I r h
  obtain ⟨a, C, c, u, b, rfl, ha, T, k, e, q⟩ := h
  obtain ⟨u1, u2, rfl, r1, r2⟩ := vals2 r
  have e1 : u1 = .ref a := r1
  subst e1
  have e2 := k.eq r2
  subst e2
  obtain ⟨⟨oe, vs, hget, hz, hd⟩, _, _⟩ := I.hok a _ ha
  have J : PySem.W.InstAt s.heap a oe C none := by
    obtain ⟨oc, od, oda, osl⟩ := oe
    obtain ⟨z1, z2⟩ := hz
    dsimp only at z1 z2 hd
    subst z1 z2 hd
    exact ⟨hget, rfl, rfl, trivial⟩
  exact PySem.W.kia_one (PySem.W.handS_kitx_exc T.hg T.hk T.hs T.hd T.ha T.hn T.ht T.hm) I.kIn J e (fun z => nomatch z) fun tk => ⟨.bl b, H, I.kept (t' := tk) fun _ _ z => z, rfl, q⟩
/-- isinstance(e, (C, D ..)) of a kept error -/
def rIsKT (K : PySem.W.Frag) : List V → Hp → VK → Prop := fun xs H Q =>
  ∃ (a C tp : Addr) (cs : List V) (us : List Value) (b : Bool), xs = [.ref a, .ref tp] ∧ H a = some (ExK (.ref C) none a) ∧ ExcC K C ∧ H tp = some (.tup cs) ∧ Paired ClsV cs us ∧ PySem.W.kitAny K (.ref C) us = some b ∧ Q (.bl b) H
theorem call_isKT : CallR X (.builtin "isinstance") (rIsKT X.K) := by
  intro pins s σ H xs us Q I r h
  obtain ⟨a, C, tp, cs, ws, b, rfl, ha, T, hT, k, e, q⟩ := h
  obtain ⟨u1, u2, rfl, r1, r2⟩ := vals2 r
  have e1 : u1 = .ref a := r1
  subst e1
  have e2 : u2 = .ref tp := r2
  subst e2
  obtain ⟨⟨oe, vs, hget, hz, hd⟩, _, _⟩ := I.hok a _ ha
  have J : PySem.W.InstAt s.heap a oe C none := by
    obtain ⟨oc, od, oda, osl⟩ := oe
    obtain ⟨z1, z2⟩ := hz
    dsimp only at z1 z2 hd
    subst z1 z2 hd
    exact ⟨hget, rfl, rfl, trivial⟩
  obtain ⟨_, its, rv, o, h1, h2, n, h3⟩ := (show ObjOk X.prog X.w H s.heap tp (.tup cs) from I.hok tp _ hT)
  have e3 := ClsV.all k rv
  subst e3
  obtain ⟨oc, od, dt, sl⟩ := o
  simp only at h2 h3
  subst h2 h3
  exact PySem.W.kia_tup (PySem.W.handS_kitx_exc T.hg T.hk T.hs T.hd T.ha T.hn T.ht T.hm) I.kIn J h1 e (fun z => nomatch z) fun tk => ⟨.bl b, H, I.kept (t' := tk) fun _ _ z => z, rfl, q⟩
end
end TW
namespace TW
open PySem PySem.Spec PyProof.Rows L2

/-! ### readings, from the left -/
section
variable {σ : L2.St} {H : Hp} {nx bk ct : L2.St → Hp → Prop} {rt : VK} {t u ts : TS} {te ta tb tl : TE} {tt c1 c2 : TT} {g : TG} {i : Nat} {v x y : V} {Q : VK} {B : Bool → Hp → Prop} {r : R2} {A : TA} {R : List V → Hp → Prop} {K : PySem.W.Frag} {a b l : Addr} {xs ys : List V} {m n : Int}
theorem w_seq (h : t ⟨u ⟨nx, rt, bk, ct⟩, rt, bk, ct⟩ σ H) : tSeq t u ⟨nx, rt, bk, ct⟩ σ H := h
theorem w_set (h : te σ H fun x H1 => nx (σ.set i (some x)) H1) : tAsg te (gName i) ⟨nx, rt, bk, ct⟩ σ H := h
theorem w_asg (h : te σ H fun x H1 => g x σ H1 nx) : tAsg te g ⟨nx, rt, bk, ct⟩ σ H := h
theorem w_ret (h : te σ H rt) : tRet te ⟨nx, rt, bk, ct⟩ σ H := h
theorem w_next (h : nx σ H) : tNext ⟨nx, rt, bk, ct⟩ σ H := h
theorem w_cont (h : ct σ H) : tCont ⟨nx, rt, bk, ct⟩ σ H := h
theorem w_brk (h : bk σ H) : tBreak ⟨nx, rt, bk, ct⟩ σ H := h
theorem w_drop (h : te σ H fun _ H1 => nx σ H1) : tDrop te ⟨nx, rt, bk, ct⟩ σ H := h
theorem w_if (h : tt σ H fun b H1 => if b = true then t ⟨nx, rt, bk, ct⟩ σ H1 else u ⟨nx, rt, bk, ct⟩ σ H1) : tIfS tt t u ⟨nx, rt, bk, ct⟩ σ H := h
theorem w_var (h : σ[i]? = some (some v)) (q : Q v H) : tVar i σ H Q := ⟨v, h, q⟩
theorem w_c (q : Q v H) : tC v σ H Q := q
theorem w_op (h : ta σ H fun x H1 => tb σ H1 fun y H2 => r x y H2 Q) : tOp r ta tb σ H Q := h
theorem w_un {r : V → Hp → VK → Prop} (h : ta σ H fun x H1 => r x H1 Q) : tUn r ta σ H Q := h
theorem w_nil (h : R [] H) : tNil σ H R := h
theorem w_cons (h : ta σ H fun x H1 => A σ H1 fun xs H2 => R (x :: xs) H2) : tCons ta A σ H R := h
theorem w_lst (h : A σ H fun xs H1 => xs.length ≤ sizeLine ∧ ∀ p, H1 p = none → Q (.ref p) (upd H1 p (.lst xs))) : tLst A σ H Q := h
theorem w_tup (h : A σ H fun xs H1 => xs.length ≤ sizeLine ∧ ∀ p, H1 p = none → Q (.ref p) (upd H1 p (.tup xs))) : tTup A σ H Q := h
theorem w_cb {r : List V → Hp → VK → Prop} (h : A σ H fun vs H1 => r vs H1 Q) : tCB r A σ H Q := h
theorem w_call {sp : Sp} {dvs : List V} {E : XK} (h : A σ H fun vs H1 => sp (vs ++ dvs) H1 Q E) : tCall sp dvs E A σ H Q := h
theorem w_test (h : te σ H fun x H1 => ∃ k, x = .bl k ∧ B k H1) : tTest te σ H B := h
theorem w_tB (h : te σ H fun x H1 => ∃ k, x = .bl k ∧ B k H1) : tB te σ H B := h
theorem w_exbl {k : Bool} {P : Bool → Prop} (h : P k) : ∃ k', V.bl k = V.bl k' ∧ P k' := ⟨k, rfl, h⟩
theorem w_not (h : tt σ H fun c H1 => B (!c) H1) : tNot tt σ H B := h
theorem w_and (h : c1 σ H fun c H1 => if c = true then c2 σ H1 B else B false H1) : tAnd c1 c2 σ H B := h
theorem w_or (h : c1 σ H fun c H1 => if c = true then B true H1 else c2 σ H1 B) : tOr c1 c2 σ H B := h
theorem w_andV (h : ta σ H fun x H1 => ∃ c, x = .bl c ∧ if c = true then tb σ H1 Q else Q (.bl false) H1) : tAndV ta tb σ H Q := h
theorem w_orV (h : ta σ H fun x H1 => ∃ c, x = .bl c ∧ if c = true then Q (.bl true) H1 else tb σ H1 Q) : tOrV ta tb σ H Q := h
theorem w_notV (h : ta σ H fun x H1 => ∃ c, x = .bl c ∧ Q (.bl (!c)) H1) : tNotV ta σ H Q := h
theorem w_chain {r' : R2} {tc : TE} (h : ta σ H fun x H1 => tb σ H1 fun y H2 => r x y H2 fun z H3 => ∃ k, z = .bl k ∧ (if k = true then tc σ H3 fun w' H4 => r' y w' H4 Q else Q (.bl false) H3)) : tChain r r' ta tb tc σ H Q := h
theorem w_slice {r : V → Option Int → Option Int → Hp → VK → Prop} {tl th : TO} (h : te σ H fun x H1 => tl σ H1 fun l H2 => th σ H2 fun u H3 => r x l u H3 Q) : tSl r te tl th σ H Q := h
theorem w_nopart {P : Option Int → Hp → Prop} (h : P none H) : tNoPart σ H P := h
theorem w_part {P : Option Int → Hp → Prop} (h : te σ H fun x H1 => ∃ i, x = .int i ∧ P (some i) H1) : tPart te σ H P := h
theorem w_exint {k : Int} {P : Int → Prop} (h : P k) : ∃ k', V.int k = V.int k' ∧ P k' := ⟨k, rfl, h⟩

/-! ### operators by their values -/
theorem w_I0 {f : Int → Int → V} (h : Q (f m n) H) : rI0 f (.int m) (.int n) H Q := ⟨m, n, rfl, rfl, h⟩
theorem w_I {C : Int → Int → Prop} {f : Int → Int → V} (hc : C m n) (h : Q (f m n) H) : rI C f (.int m) (.int n) H Q := ⟨m, n, rfl, rfl, hc, h⟩
theorem w_U {f : Int → V} (h : Q (f m) H) : rU f (.int m) H Q := ⟨m, rfl, h⟩
theorem w_ixL (hs : SqL K H a xs) (hv : atI xs n = some v) (h : Q v H) : rIxL K (.ref a) (.int n) H Q := ⟨a, xs, n, v, rfl, rfl, hs, hv, h⟩
theorem w_ixT (hs : SqT K H a xs) (hv : atI xs n = some v) (h : Q v H) : rIxT K (.ref a) (.int n) H Q := ⟨a, xs, n, v, rfl, rfl, hs, hv, h⟩
theorem w_catL (h1 : SqL K H a xs) (h2 : SqL K H b ys) (hz : xs.length + ys.length ≤ sizeLine) (h : ∀ p, H p = none → Q (.ref p) (upd H p (.lst (xs ++ ys)))) : rCatL K (.ref a) (.ref b) H Q := ⟨a, b, xs, ys, rfl, rfl, h1, h2, hz, h⟩
theorem w_rep (h1 : H a = some (.lst xs)) (n0 : 0 ≤ n) (n1 : n ≤ 1000000) (hz : xs.length * n.toNat ≤ sizeLine) (h : ∀ p, H p = none → Q (.ref p) (upd H p (.lst (List.replicate n.toNat xs).flatten))) : rRep (.ref a) (.int n) H Q := ⟨a, n, xs, rfl, rfl, h1, by omega, by omega, hz, h⟩
theorem w_inL {neg : Bool} (hs : SqL K H a xs) (hx : flatV x = true) (hf : xs.all flatV = true) (h : Q (.bl (if neg then !inV x xs else inV x xs)) H) : rIn K neg x (.ref a) H Q := ⟨a, xs, rfl, .inl hs, hx, hf, h⟩
theorem w_eqD {d e : PyData} (hd : Dp K H x d) (he : Dp K H y e) (sd : SeqAt.shaped d = true) (se : SeqAt.shaped e = true) (h : Q (.bl (PyData.eqv d e)) H) : rEqD K x y H Q := ⟨d, e, hd, he, sd, se, h⟩
theorem w_neD {d e : PyData} (hd : Dp K H x d) (he : Dp K H y e) (sd : SeqAt.shaped d = true) (se : SeqAt.shaped e = true) (h : Q (.bl (!PyData.eqv d e)) H) : rNeD K x y H Q := ⟨d, e, hd, he, sd, se, h⟩
theorem w_eqI (h : Q (.bl (decide (m = n))) H) : rEq (.int m) (.int n) H Q := ⟨rfl, by rw [show decide (V.int m = V.int n) = decide (m = n) by simp]; exact h⟩
theorem w_neI (h : Q (.bl (!decide (m = n))) H) : rNe (.int m) (.int n) H Q := ⟨rfl, by rw [show decide (V.int m = V.int n) = decide (m = n) by simp]; exact h⟩
theorem w_slL {lo hi : Option Int} (hs : SqL K H a xs) (h : ∀ p, H p = none → Q (.ref p) (upd H p (.lst (cutV xs lo hi)))) : rSlL K (.ref a) lo hi H Q := ⟨a, xs, rfl, hs, h⟩
end

/-! ### what is read stays read -/
section
variable {K : PySem.W.Frag} {H H' : Hp} {a p : Addr} {xs : List V} {o o' : HO}
theorem sqn (hp : H p = none) (h : SqL K H a xs) : SqL K (upd H p o) a xs := by
  rcases h with (h | ⟨ob, h⟩) | h
  · exact .inl (.inl (by rw [upd_ne (ne_of_none h hp)]; exact h))
  · exact .inl (.inr ⟨ob, by rw [upd_ne (ne_of_none h hp)]; exact h⟩)
  · exact .inr h
theorem stn (hp : H p = none) (h : SqT K H a xs) : SqT K (upd H p o) a xs := by
  rcases h with (h | ⟨ob, h⟩) | h
  · exact .inl (.inl (by rw [upd_ne (ne_of_none h hp)]; exact h))
  · exact .inl (.inr ⟨ob, by rw [upd_ne (ne_of_none h hp)]; exact h⟩)
  · exact .inr h
theorem sts (e : Same H H') (h : SqT K H a xs) : SqT K H' a xs := by
  rcases h with (h | ⟨ob, h⟩) | h
  · exact .inl (.inl (e _ _ h))
  · exact .inl (.inr ⟨ob, e _ _ h⟩)
  · exact .inr h
theorem hln (hp : H p = none) (h : H a = some o') : upd H p o a = some o' := by
  rw [upd_ne (ne_of_none h hp)]
  exact h
theorem same_new (hp : H p = none) (e : Same H' H) : Same H' (upd H p o) := fun b u q => hln hp (e b u q)
theorem free_new (h : upd H p o a = none) : H a = none := by
  by_cases e : a = p
  · rw [e, upd_same] at h
    cases h
  · rwa [upd_ne e] at h
end
end TW
namespace TW
open PySem PySem.Spec PyProof.Rows L2
/-- a def that is called by its name: what it promises -/
structure Cal (P : Program) (w : World) (K : PySem.W.Frag) (mg : Str → Option Value) (base : Heap) (CX : CXT) (k : Nat) (x : Str) (sp : Sp) : Prop where
  ex : ∃ (f : Addr) (fd : FuncData) (ps : List Str), FnOk P w K mg base CX k f fd ps sp ∧ mg x = some (.ref f) ∧ PySem.W.keepIn K (.ref f) = true ∧ Binds K fd ps []
/-- one of the defs that a value may be -/
structure CalAt (P : Program) (w : World) (K : PySem.W.Frag) (mg : Str → Option Value) (base : Heap) (k : Nat) (f : Addr) (sp : Sp) : Prop where
  ex : ∃ (fd : FuncData) (ps : List Str), FnOk P w K mg base CX0 k f fd ps sp ∧ PySem.W.keepIn K (.ref f) = true ∧ Binds K fd ps []
section
variable {X : Cx} {j k : Nat} {x : Str} {sp : Sp} {p pos : Pos} {e fe : Expr} {es : List Expr} {t : TA} {tf : TE}
/-- a call of a def that raises nothing, anywhere -/
theorem pc0 (c : Cal X.prog X.w X.K X.mg X.base CX0 k x sp) (hr : Room j X.A) (hk : k ≤ j) (ha : PA X (e :: es) t) (hg : Gl X x := by rfl)
    (hdb : (x == ("__debug__" : Str)) = false := by decide) (he : starEach (e :: es) X.env = (false, eval e X.env) :: starEach es X.env := by rfl) (hpl : (backTo pos (starEach es X.env)).any (·.1) = false := by rfl) :
    PE X (.Call (.Name x p) (e :: es) [] pos) (tCall sp [] E0 t) := by
  obtain ⟨f, fd, ps, F, hm, kp, b⟩ := c.ex
  exact pe_call F (hr.mono hk) hg hm kp b .nil pass0 ha hdb he hpl
/-- a call of a def that may raise, where it does not -/
theorem pcN (c : Cal X.prog X.w X.K X.mg X.base (L2.CX X.prog X.w) k x sp) (hr : Room j X.A) (hk : k ≤ j) (ha : PA X (e :: es) t) (hg : Gl X x := by rfl)
    (hdb : (x == ("__debug__" : Str)) = false := by decide) (he : starEach (e :: es) X.env = (false, eval e X.env) :: starEach es X.env := by rfl) (hpl : (backTo pos (starEach es X.env)).any (·.1) = false := by rfl) :
    PE X (.Call (.Name x p) (e :: es) [] pos) (tCall sp [] E0 t) := by
  obtain ⟨f, fd, ps, F, hm, kp, b⟩ := c.ex
  exact pe_call F (hr.mono hk) hg hm kp b .nil passL ha hdb he hpl
/-- a call of a def that may raise: what it lets out goes by W -/
theorem pcS {W : WX} (c : Cal X.prog X.w X.K X.mg X.base (L2.CX X.prog X.w) k x sp) (hr : Room j X.A) (hk : k ≤ j) (tk : Takes X W) (ha : PA X (e :: es) t) (hg : Gl X x := by rfl)
    (hdb : (x == ("__debug__" : Str)) = false := by decide) (he : starEach (e :: es) X.env = (false, eval e X.env) :: starEach es X.env := by rfl) (hpl : (backTo pos (starEach es X.env)).any (·.1) = false := by rfl) :
    PE X (.Call (.Name x p) (e :: es) [] pos) (tCallS sp (WE W) t) := by
  obtain ⟨f, fd, ps, F, hm, kp, b⟩ := c.ex
  exact pe_callS F (hr.mono hk) hg hm kp b (fun σ => passAt tk σ) ha hdb he hpl
theorem w_callS {σ : L2.St} {H : Hp} {Q : VK} {E : L2.St → XK} (h : t σ H fun vs H1 => sp vs H1 Q (E σ)) : tCallS sp E t σ H Q := h
/-- a call of what an expression gives -/
def tCallF (S : Addr → Sp → Prop) (tf : TE) (t : TA) : TE := fun σ H Q => tf σ H fun v H1 => ∃ f sp, v = .ref f ∧ S f sp ∧ t σ H1 fun vs H2 => sp vs H2 Q E0
theorem pcF {S : Addr → Sp → Prop} (c : ∀ f sp, S f sp → CalAt X.prog X.w X.K X.mg X.base k f sp) (hr : Room j X.A) (hk : k ≤ j) (hf : PE X fe tf) (ha : PA X (e :: es) t)
    (hc : eval (.Call fe (e :: es) [] pos) X.env = (do
      let f ← eval fe X.env
      callWith pos f [] (backTo pos (starEach (e :: es) X.env)) (backToKw pos (keywordEach [] X.env))) := by rfl)
    (he : starEach (e :: es) X.env = (false, eval e X.env) :: starEach es X.env := by rfl) (hpl : (backTo pos (starEach es X.env)).any (·.1) = false := by rfl) :
    PE X (.Call fe (e :: es) [] pos) (tCallF S tf t) := by
  constructor
  intro pins s σ H Q I h
  rw [hc]
  refine wpAny_bind (thn (hf.run pins s σ H _ I h) fun u s1 h1 => ?_)
  obtain ⟨v, H1, I1, r1, f, sp, rfl, hs, q⟩ := h1
  have e1 : u = .ref f := r1
  subst e1
  obtain ⟨fd, ps, F, hk1, hb⟩ := (c f sp hs).ex
  refine PySem.W.callWith_K (h₀ := X.base) I1.ok.mod.kin hk1 (thn (ha.run pos pins s1 σ H1 _ I1 q) fun us s2 h2 => ?_) he hpl
  obtain ⟨vs, H2, I2, r2, q2⟩ := h2
  exact ⟨I2.kIn, run_fn F (hr.mono hk) hb .nil pass0 I2 r2 (by rw [List.append_nil]; exact q2)⟩
theorem w_callF {S : Addr → Sp → Prop} {σ : L2.St} {H : Hp} {Q : VK} (h : tf σ H fun v H1 => ∃ f sp, v = .ref f ∧ S f sp ∧ t σ H1 fun vs H2 => sp vs H2 Q E0) : tCallF S tf t σ H Q := h
/-- a module's name as a value -/
theorem pgl {v : V} (h : ∃ u, X.mg x = some u ∧ RelV v u) (hg : Gl X x := by rfl) (hd : (x == ("__debug__" : Str)) = false := by decide) : PE X (.Name x p) (tC v) := by
  obtain ⟨u, hm, r⟩ := h
  exact pe_glob hg hm r hd
end
section
variable {P : Program} {w : World} {K : PySem.W.Frag} {mg : Str → Option Value} {base : Heap}
/-- a def of the module under its name, as it stands behind the top -/
structure Dfn (K : PySem.W.Frag) (mg : Str → Option Value) (x : Str) (st : Stmt) (ps : List Str) : Prop where
  ex : ∃ (f : Addr) (fd : FuncData), Fun K x x st f fd ∧ mg x = some (.ref f) ∧ Binds K fd ps []
theorem Dfn.cal {x : Str} {st : Stmt} {N ps : List Str} {k : Nat} {sp : Sp} (D : Dfn K mg x st ps) (S : FnScope N ps (defScope st)) (len : ∀ vs H Q E, sp vs H Q E → vs.length = ps.length)
    (hbody : ∀ (f : Addr) (cdv : Value) (A : Around) (outer : List Env) (s : Shared) (H : Hp) (vs : List V) (Q : VK) (E : XK), Room k (A.deeper (envOfC x (defScope st) s.heap.objs.size f cdv)) → sp vs H Q E →
      ∃ t, PSs (cxOf CX0 P w K mg base N x (defScope st) f cdv A outer s H E).nox (defBody st) t ∧ t { nx := fun _ H' => Q .non H', rt := Q } (start N vs) H) : Cal P w K mg base CX0 (k + 1) x sp := by
  obtain ⟨f, fd, F, hm, hb⟩ := D.ex
  exact ⟨f, fd, ps, F.ok S len (hbody f), hm, F.kp, hb⟩
theorem Dfn.calX {x : Str} {st : Stmt} {N ps : List Str} {k : Nat} {sp : Sp} (D : Dfn K mg x st ps) (S : FnScope N ps (defScope st)) (len : ∀ vs H Q E, sp vs H Q E → vs.length = ps.length)
    (hbody : ∀ (f : Addr) (cdv : Value) (A : Around) (outer : List Env) (s : Shared) (H : Hp) (vs : List V) (Q : VK) (E : XK), Room k (A.deeper (envOfC x (defScope st) s.heap.objs.size f cdv)) → sp vs H Q E →
      ∃ t, PSs (cxOf (L2.CX P w) P w K mg base N x (defScope st) f cdv A outer s H E) (defBody st) t ∧ t { nx := fun _ H' => Q .non H', rt := Q } (start N vs) H) : Cal P w K mg base (L2.CX P w) (k + 1) x sp := by
  obtain ⟨f, fd, F, hm, hb⟩ := D.ex
  exact ⟨f, fd, ps, F.okX S len (hbody f), hm, F.kp, hb⟩
end
end TW
namespace TW
open PySem PySem.Spec PyProof.Rows L2
/-! ### rules for several kinds at once -/
def rAddA (K : PySem.W.Frag) : R2 := fun x y H Q => rI0 (fun i j => .int (i + j)) x y H Q ∨ rCatL K x y H Q
def rMulA : R2 := fun x y H Q => rI CMul (fun i j => .int (i * j)) x y H Q ∨ rRep x y H Q
def rEqA (K : PySem.W.Frag) : R2 := fun x y H Q => rEq x y H Q ∨ rEqD K x y H Q
def rNeA (K : PySem.W.Frag) : R2 := fun x y H Q => rNe x y H Q ∨ rNeD K x y H Q
def rIsA (K : PySem.W.Frag) : List V → Hp → VK → Prop := fun xs H Q => rIsi K xs H Q ∨ rIsiT K xs H Q ∨ rIsK K xs H Q ∨ rIsKT K xs H Q
def rLenA (K : PySem.W.Frag) : List V → Hp → VK → Prop := fun xs H Q => (∃ p ys, xs = [.ref p] ∧ (SqL K H p ys ∨ SqT K H p ys) ∧ Q (.int ys.length) H) ∨ ∃ z, xs = [.str z] ∧ z.length ≤ sizeLine ∧ Q (.int z.length) H
section
variable {X : Cx}
theorem op_addA : OpR X (binaryOp .Add) (rAddA X.K) := op_add.or op_catL
theorem op_mulA : OpR X (binaryOp .Mult) rMulA := op_mul.or op_rep
theorem op_eqA (hu : X.A.units + 64 < cLine) : OpR X (compareOp .Eq) (rEqA X.K) := op_eq.or (op_eqD hu)
theorem op_neA (hu : X.A.units + 64 < cLine) : OpR X (compareOp .NotEq) (rNeA X.K) := op_ne.or (op_neD hu)
theorem call_isA : CallR X (.builtin "isinstance") (rIsA X.K) := call_isi.or (call_isiT.or (call_isK.or call_isKT))
theorem call_lenA : CallR X (.builtin "len") (rLenA X.K) := call_len_seq.or call_len_str
end
section
variable {K : PySem.W.Frag} {H : Hp} {Q : VK} {m n : Int} {x y v : V} {a b : Addr} {xs ys : List V}
theorem w_addI (h : Q (.int (m + n)) H) : rAddA K (.int m) (.int n) H Q := .inl (w_I0 h)
theorem w_addL (h1 : SqL K H a xs) (h2 : SqL K H b ys) (hz : xs.length + ys.length ≤ sizeLine) (h : ∀ p, H p = none → Q (.ref p) (upd H p (.lst (xs ++ ys)))) : rAddA K (.ref a) (.ref b) H Q := .inr (w_catL h1 h2 hz h)
theorem w_mulI (hc : CMul m n) (h : Q (.int (m * n)) H) : rMulA (.int m) (.int n) H Q := .inl (w_I hc h)
theorem w_mulL (h1 : H a = some (.lst xs)) (n0 : 0 ≤ n) (n1 : n ≤ 1000000) (hz : xs.length * n.toNat ≤ sizeLine) (h : ∀ p, H p = none → Q (.ref p) (upd H p (.lst (List.replicate n.toNat xs).flatten))) : rMulA (.ref a) (.int n) H Q := .inr (w_rep h1 n0 n1 hz h)
theorem w_eqAI (h : Q (.bl (decide (m = n))) H) : rEqA K (.int m) (.int n) H Q := .inl (w_eqI h)
theorem w_neAI (h : Q (.bl (!decide (m = n))) H) : rNeA K (.int m) (.int n) H Q := .inl (w_neI h)
theorem w_eqAS (hs : scal x y = true) (h : Q (.bl (decide (x = y))) H) : rEqA K x y H Q := .inl ⟨hs, h⟩
theorem w_neAS (hs : scal x y = true) (h : Q (.bl (!decide (x = y))) H) : rNeA K x y H Q := .inl ⟨hs, h⟩
theorem w_lenL (hs : SqL K H a xs) (h : Q (.int xs.length) H) : rLenA K [.ref a] H Q := .inl ⟨a, xs, rfl, .inl hs, h⟩
theorem w_lenT (hs : SqT K H a xs) (h : Q (.int xs.length) H) : rLenA K [.ref a] H Q := .inl ⟨a, xs, rfl, .inr hs, h⟩
theorem w_ixAL (hs : SqL K H a xs) (hv : atI xs n = some v) (h : Q v H) : rIx K (.ref a) (.int n) H Q := .inl (w_ixL hs hv h)
theorem w_ixAT (hs : SqT K H a xs) (hv : atI xs n = some v) (h : Q v H) : rIx K (.ref a) (.int n) H Q := .inr (.inl (w_ixT hs hv h))
/-- what kind of thing a value is -/
theorem ty_list (h : SqL K H a xs) : TyX K H (.ref a) (.type "list") := by
  rcases h with (h | ⟨o, h⟩) | ⟨o, its, n, hk, hc, _⟩
  · exact .base (.lst h)
  · exact .base (.frz h)
  · exact .kList hk hc
theorem ty_tup (h : SqT K H a xs) : TyX K H (.ref a) (.type "tuple") := by
  rcases h with (h | ⟨o, h⟩) | ⟨o, its, n, hk, hc, _⟩
  · exact .base (.tup h)
  · exact .fTuple h
  · exact .kTuple hk hc
/-- isinstance(x, T), x plain, T a built-in class -/
theorem w_isTy {s t : String} {k : Bool} (ht : TyX K H x (.type s)) (hk : kitB s t = some k) (h : Q (.bl k) H) : rIsA K [x, .ty t] H Q := .inl ⟨x, .ty t, _, _, k, rfl, .ty t, ht, kit_ty hk, h⟩
/-- isinstance(x, (S, T)) -/
theorem w_isTy2 {s t u : String} {k1 k2 : Bool} (ht : TyX K H x (.type s)) (hT : H a = some (.tup [.ty t, .ty u])) (h1 : kitB s t = some k1) (h2 : kitB s u = some k2) (h : Q (.bl (k1 || k2)) H) : rIsA K [x, .ref a] H Q := by
  refine .inr (.inl ⟨x, a, _, _, _, _, rfl, hT, .cons (.ty t) (.cons (.ty u) .nil), ht, ?_, h⟩)
  refine kitAny_cons (kit_ty h1) (fun e => kitAny_cons (kit_ty h2) (fun e' => ?_) fun e' => ?_) fun e => ?_
  · rw [e, e']
    exact kitAny_nil
  · rw [e', Bool.or_true]
  · rw [e, Bool.true_or]
/-- .. of a kept error -/
theorem w_isK {C : Addr} {u : Value} {k : Bool} (ha : H a = some (ExK (.ref C) none a)) (T : ExcC K C) (c : ClsV y u) (hk : PySem.W.kitOne K (.ref C) u = some k) (h : Q (.bl k) H) : rIsA K [.ref a, y] H Q := .inr (.inr (.inl ⟨a, C, y, u, k, rfl, ha, T, c, hk, h⟩))
theorem w_isK2 {C : Addr} {u1 u2 : Value} {k1 k2 : Bool} (ha : H a = some (ExK (.ref C) none a)) (T : ExcC K C) (hT : H b = some (.tup [x, y])) (c1 : ClsV x u1) (c2 : ClsV y u2) (h1 : PySem.W.kitOne K (.ref C) u1 = some k1) (h2 : PySem.W.kitOne K (.ref C) u2 = some k2) (h : Q (.bl (k1 || k2)) H) : rIsA K [.ref a, .ref b] H Q := by
  refine .inr (.inr (.inr ⟨a, C, b, _, _, _, rfl, ha, T, hT, .cons c1 (.cons c2 .nil), ?_, h⟩))
  refine kitAny_cons h1 (fun e => kitAny_cons h2 (fun e' => ?_) fun e' => ?_) fun e => ?_
  · rw [e, e']
    exact kitAny_nil
  · rw [e', Bool.or_true]
  · rw [e, Bool.true_or]
theorem w_int1 {k : Bool} {P1 : Int → Prop} {P2 : Bool → Prop} (h : P2 k) : (∃ i, [V.bl k] = [.int i] ∧ P1 i) ∨ ∃ j, [V.bl k] = [.bl j] ∧ P2 j := .inr ⟨k, rfl, h⟩
theorem w_append {l : Addr} (h1 : H l = some (.lst xs)) (hz : xs.length < sizeLine) (h : Q .non (upd H l (.lst (xs ++ [v])))) : rAppend (.ref l) [v] H Q := ⟨l, xs, v, rfl, rfl, h1, hz, h⟩
theorem w_bm {σ : L2.St} {T : String} {r : V → List V → Hp → VK → Prop} {to : TE} {t : TA} (h : to σ H fun x H1 => tyV K T x H1 ∧ t σ H1 fun xs H2 => r x xs H2 Q) : tBM K T r to t σ H Q := h
theorem tyV_list (h : SqL K H a xs) : tyV K "list" (.ref a) H := .inl ⟨rfl, _, h⟩
theorem w_sum {ns : List Int} (h : SqL K H a (ns.map V.int)) (q : Q (.int ns.sum) H) : rSum K [.ref a] H Q := ⟨a, ns, rfl, h, q⟩
theorem w_lstRg {σ : L2.St} {te : L2.St → Hp → (Int → Int → Hp → Prop) → Prop} (h : te σ H fun a b H1 => RgOk a b ∧ ∀ q, H1 q = none → Q (.ref q) (upd H1 q (.lst (rgV a b)))) : tLstRg te σ H Q := h
theorem w_rg1 {σ : L2.St} {ta : TE} {R : Int → Int → Hp → Prop} (h : ta σ H fun x H1 => ∃ n, x = .int n ∧ R 0 n H1) : tRg1 ta σ H R := h
end
/-- data that compare: a flat value, a list of flat values -/
def flD : V → PyData
  | .bl b => .bool b
  | .int i => .int i
  | .str x => .str x
  | _ => .none
theorem flD_of {K : PySem.W.Frag} {H : Hp} {v : V} (h : flatV v = true) : Dp K H v (flD v) := by
  cases v with
  | non => exact .non
  | bl b => exact .bl b
  | int i => exact .int i
  | str x => exact .str x
  | _ => cases h
theorem flD_all {K : PySem.W.Frag} {H : Hp} : ∀ {vs : List V}, vs.all flatV = true → DpAll K H vs (vs.map flD)
  | [], _ => .nil
  | v :: vs, h => by
    rw [List.all_cons, Bool.and_eq_true] at h
    exact .cons (flD_of h.1) (flD_all h.2)
/-- an error's class as the text has it -/
structure Exn (K : PySem.W.Frag) (mg : Str → Option Value) (n : Str) (C : Addr) : Prop where
  g : mg n = some (.ref C)
  x : PySem.W.excIn K C [.type "ValueError", .type "Exception", .type "BaseException", .type "object"] "ValueError.__new__" = true
  k : PySem.W.keepIn K (.ref C) = true
  b : PySem.W.subIn K (.ref C) (.type "BaseException") = some true
  t : PySem.W.typeIn K (.ref C) = some (.type "type")
  ec : ExcC K C
end TW
namespace TW
open PySem PySem.Spec PyProof.Rows L2
/-! ### comprehensions whose tests and items are told by functions -/
def frm (lo : Int) (n : Nat) : List Int := (List.range n).map fun (i : Nat) => lo + (i : Int)
theorem frm_succ (lo : Int) (n : Nat) : frm lo (n + 1) = frm lo n ++ [lo + (n : Int)] := by
  unfold frm
  rw [List.range_succ, List.map_append]
  rfl
theorem frm_length (lo : Int) (n : Nat) : (frm lo n).length = n := by
  unfold frm
  rw [List.length_map, List.length_range]
theorem fm_succ {α : Type} (l : List α) (a : α) (p : α → Bool) (f : α → V) : ((l ++ [a]).filter p).map f = if p a = true then (l.filter p).map f ++ [f a] else (l.filter p).map f := by
  rw [List.filter_append, List.map_append]
  by_cases h : p a = true
  · rw [if_pos h, List.filter_cons_of_pos h]
    rfl
  · rw [if_neg h, List.filter_cons_of_neg h]
    simp
section
variable {K : PySem.W.Frag} {lo : Int} {n j : Nat} {tt : TT} {te : TE} {σ : L2.St} {H1 : Hp} {D : Addr} {Q : VK} {a : Addr} {xs : List V}
/-- [te for j in range if tt] -/
theorem lcR {Qd : Hp → Prop} (p : Int → Bool) (f : Int → V) (hD : H1 D = none) (hn : n ≤ 100000)
    (ht : ∀ (i : Nat) (H : Hp), i < n → Same H1 H → ∀ B : Bool → Hp → Prop, (∀ H', Same H H' → B (p (lo + i)) H') → tt ((wipe σ [j]).set j (some (.int (lo + i)))) H B)
    (he : ∀ (i : Nat) (H : Hp), i < n → p (lo + i) = true → Same H1 H → ∀ R : VK, (∀ H', Same H H' → R (f (lo + i)) H') → te ((wipe σ [j]).set j (some (.int (lo + i)))) H R)
    (q : ∀ H', Same H1 H' → H' D = some (.lst (((frm lo n).filter p).map f)) → Qd H') :
    ∃ W : Nat → Nat → Hp → Prop, (∃ m, W 0 m (upd H1 D (.lst []))) ∧ ∀ i m H, W i m H →
      ((Itr lo n).stop i H ∧ Qd H) ∨ ((Itr lo n).go i H ∧ ∃ Nx : Hp → Prop, (∀ H', Nx H' → ∃ m', m' < m ∧ W (i + 1) m' H') ∧ ∀ x H', (Itr lo n).yld i H x H' → (gName j) x (wipe σ [j]) H' fun σ2 H2 => wipe σ2 [j] = wipe σ [j] ∧ tt σ2 H2 fun b H3 =>
        if b = true then te σ2 H3 fun y H4 => ∃ acc, H4 D = some (.lst acc) ∧ acc.length < sizeLine ∧ Nx (upd H4 D (.lst (acc ++ [y]))) else Nx H3) := by
  refine lc_range (fun i H => Same H1 H ∧ H D = some (.lst (((frm lo i).filter p).map f))) ⟨?_, ?_⟩ (fun i H hi hP => ?_) fun H hP => ?_
  · exact same_new hD (Same.refl _)
  · rw [upd_same]
    rfl
  · obtain ⟨sm, hl⟩ := hP
    refine ⟨?_, ?_⟩
    · show ((((σ).set j none).set j (some (.int (lo + i)))).set j none) = (σ.set j none)
      rw [List.set_set, List.set_set]
    · refine ht i H hi sm _ fun H' s1 => ?_
      by_cases hp : p (lo + i) = true
      · rw [hp]
        refine iteT ?_
        refine he i H' hi hp (sm.trans s1) _ fun H2 s2 => ?_
        have h2 := s2 _ _ (s1 _ _ hl)
        refine ⟨_, h2, ?_, ?_, ?_⟩
        · refine Nat.lt_of_le_of_lt (m := n) ?_ (Nat.lt_of_le_of_lt hn (by decide))
          rw [List.length_map]
          refine Nat.le_trans (List.length_filter_le _ _) ?_
          rw [frm_length]
          omega
        · intro b o e
          rw [upd_ne (ne_of_none e hD)]
          exact s2 _ _ (s1 _ _ (sm _ _ e))
        · rw [upd_same, frm_succ, fm_succ, if_pos hp]
      · rw [Bool.not_eq_true] at hp
        rw [hp]
        refine iteF ⟨sm.trans s1, ?_⟩
        rw [frm_succ, fm_succ, if_neg (by rw [hp]; decide)]
        exact s1 _ _ hl
  · exact q H hP.1 hP.2
/-- [te for j in list if tt] -/
theorem lcL {Qd : Hp → Prop} (p : V → Bool) (f : V → V) (hD : H1 D = none) (hn : xs.length ≤ 100000) (hx : SqL K H1 a xs)
    (ht : ∀ (i : Nat) (x : V) (H : Hp), xs[i]? = some x → Same H1 H → ∀ B : Bool → Hp → Prop, (∀ H', Same H H' → B (p x) H') → tt ((wipe σ [j]).set j (some x)) H B)
    (he : ∀ (i : Nat) (x : V) (H : Hp), xs[i]? = some x → p x = true → Same H1 H → ∀ R : VK, (∀ H', Same H H' → R (f x) H') → te ((wipe σ [j]).set j (some x)) H R)
    (q : ∀ H', Same H1 H' → H' D = some (.lst ((xs.filter p).map f)) → Qd H') :
    ∃ W : Nat → Nat → Hp → Prop, (∃ m, W 0 m (upd H1 D (.lst []))) ∧ ∀ i m H, W i m H →
      ((Itl K a).stop i H ∧ Qd H) ∨ ((Itl K a).go i H ∧ ∃ Nx : Hp → Prop, (∀ H', Nx H' → ∃ m', m' < m ∧ W (i + 1) m' H') ∧ ∀ x H', (Itl K a).yld i H x H' → (gName j) x (wipe σ [j]) H' fun σ2 H2 => wipe σ2 [j] = wipe σ [j] ∧ tt σ2 H2 fun b H3 =>
        if b = true then te σ2 H3 fun y H4 => ∃ acc, H4 D = some (.lst acc) ∧ acc.length < sizeLine ∧ Nx (upd H4 D (.lst (acc ++ [y]))) else Nx H3) := by
  refine lc_list (xs := xs) (fun i H => Same H1 H ∧ H D = some (.lst (((xs.take i).filter p).map f))) ⟨?_, ?_⟩ (fun i H _ hP => hP.1.seq hx) (fun i x H hi hP => ?_) fun H hP => ?_
  · exact same_new hD (Same.refl _)
  · rw [upd_same]
    rfl
  · obtain ⟨sm, hl⟩ := hP
    have hlt : i < xs.length := (List.getElem?_eq_some_iff.mp hi).1
    have tk : xs.take (i + 1) = xs.take i ++ [x] := by rw [List.take_add_one, hi]; rfl
    refine ⟨?_, ?_⟩
    · show ((((σ).set j none).set j (some x)).set j none) = (σ.set j none)
      rw [List.set_set, List.set_set]
    · refine ht i x H hi sm _ fun H' s1 => ?_
      by_cases hp : p x = true
      · rw [hp]
        refine iteT ?_
        refine he i x H' hi hp (sm.trans s1) _ fun H2 s2 => ?_
        have h2 := s2 _ _ (s1 _ _ hl)
        refine ⟨_, h2, ?_, ?_, ?_⟩
        · refine Nat.lt_of_le_of_lt (m := xs.length) ?_ (Nat.lt_of_le_of_lt hn (by decide))
          rw [List.length_map]
          refine Nat.le_trans (List.length_filter_le _ _) ?_
          rw [List.length_take]
          exact Nat.min_le_right _ _
        · intro b o e
          rw [upd_ne (ne_of_none e hD)]
          exact s2 _ _ (s1 _ _ (sm _ _ e))
        · rw [upd_same, tk, fm_succ, if_pos hp]
      · rw [Bool.not_eq_true] at hp
        rw [hp]
        refine iteF ⟨sm.trans s1, ?_⟩
        rw [tk, fm_succ, if_neg (by rw [hp]; decide)]
        exact s1 _ _ hl
  · rw [List.take_length] at hP
    exact q H hP.1 hP.2
/-- for j, x in enumerate(list) -/
theorem for_enum {g : TG} {tb : TS} {nx : L2.St → Hp → Prop} {rt : VK} {H : Hp} (Pv : Nat → L2.St → Hp → Prop) (h0 : Pv 0 σ H) (hl : ∀ i σ H, i ≤ xs.length → Pv i σ H → SqL K H a xs)
    (hs : ∀ i x σ H T, xs[i]? = some x → Pv i σ H → H T = none → g (.ref T) σ (upd H T (.tup [.int (i : Nat), x])) fun σ2 H2 => tb ⟨Pv (i + 1), rt, nx, Pv (i + 1)⟩ σ2 H2) (hd : ∀ σ H, Pv xs.length σ H → nx σ H) :
    ∃ W : Nat → Nat → L2.St → Hp → Prop, (∃ m, W 0 m σ H) ∧ ∀ i m σ H, W i m σ H →
      ((Ite K a).stop i H ∧ nx σ H) ∨ ((Ite K a).go i H ∧ ∃ N : L2.St → Hp → Prop, (∀ σ' H', N σ' H' → ∃ m', m' < m ∧ W (i + 1) m' σ' H') ∧ ∀ x H', (Ite K a).yld i H x H' → g x σ H' fun σ2 H2 => tb ⟨N, rt, nx, N⟩ σ2 H2) := by
  refine ⟨fun i m σ H => m = xs.length - i ∧ i ≤ xs.length ∧ Pv i σ H, ⟨xs.length, by simp, Nat.zero_le _, h0⟩, ?_⟩
  rintro i m σ H ⟨rfl, hi, p⟩
  have q := hl i σ H hi p
  by_cases hlt : i < xs.length
  · refine .inr ⟨⟨xs, xs[i], q, by simp [hlt]⟩, Pv (i + 1), fun σ' H' p' => ⟨xs.length - (i + 1), by omega, rfl, hlt, p'⟩, ?_⟩
    rintro v H' ⟨T, x, rfl, hT, rfl, hx⟩
    exact hs i x σ H T (hx xs q) p hT
  · have e : i = xs.length := by omega
    subst e
    exact .inl ⟨⟨xs, q, Nat.le_refl _⟩, hd σ H p⟩
theorem w_for {D : Ends} {wi : TI} {g : TG} {tb : TS} {H : Hp} (h : wi σ H fun J H1 => ∃ W : Nat → Nat → L2.St → Hp → Prop, (∃ m, W 0 m σ H1) ∧ ∀ i m σ H, W i m σ H →
    (J.stop i H ∧ D.nx σ H) ∨ (J.go i H ∧ ∃ N : L2.St → Hp → Prop, (∀ σ' H', N σ' H' → ∃ m', m' < m ∧ W (i + 1) m' σ' H') ∧ ∀ x H', J.yld i H x H' → g x σ H' fun σ2 H2 => tb { D with nx := N, ct := N, bk := D.nx } σ2 H2)) : tFor wi g tb D σ H := h
theorem w_enum {ta : TA} {R : It → Hp → Prop} {H : Hp} (h : ta σ H fun vs H1 => ∃ a xs, vs = [.ref a] ∧ SqL K H1 a xs ∧ R (Ite K a) H1) : iEnum K ta σ H R := h
theorem w_lc {wi : TI} {g : TG} {vs : List Nat} {H : Hp} (h : wi σ H fun J H1 => ∀ D, H1 D = none → ∃ W : Nat → Nat → Hp → Prop, (∃ m, W 0 m (upd H1 D (.lst []))) ∧ ∀ i m H, W i m H →
  (J.stop i H ∧ Q (.ref D) H) ∨ (J.go i H ∧ ∃ Nx : Hp → Prop, (∀ H', Nx H' → ∃ m', m' < m ∧ W (i + 1) m' H') ∧ ∀ x H', J.yld i H x H' → g x (wipe σ vs) H' fun σ2 H2 => wipe σ2 vs = wipe σ vs ∧ tt σ2 H2 fun b H3 =>
    if b = true then te σ2 H3 fun y H4 => ∃ acc, H4 D = some (.lst acc) ∧ acc.length < sizeLine ∧ Nx (upd H4 D (.lst (acc ++ [y]))) else Nx H3)) : tLc wi g tt te vs σ H Q := h
theorem w_rng1 {ta : TA} {R : It → Hp → Prop} {H : Hp} (h : ta σ H fun vs H1 => ∃ j : Int, vs = [.int j] ∧ -(2 ^ 62) ≤ j ∧ j < 2 ^ 62 ∧ R (Itr 0 j.toNat) H1) : iRng1 ta σ H R := h
theorem w_rng2 {ta : TA} {R : It → Hp → Prop} {H : Hp} (h : ta σ H fun vs H1 => ∃ i j : Int, vs = [.int i, .int j] ∧ (-(2 ^ 62) ≤ i ∧ i < 2 ^ 62 ∧ -(2 ^ 62) ≤ j ∧ j < 2 ^ 62) ∧ R (Itr i (j - i).toNat) H1) : iRng2 ta σ H R := h
theorem w_list {tl : TE} {R : It → Hp → Prop} {H : Hp} (h : tl σ H fun x H1 => ∃ a, x = .ref a ∧ (∃ xs, SqL K H1 a xs) ∧ R (Itl K a) H1) : iList K tl σ H R := h
end
/-- a plain value, by its kind -/
inductive Kd (K : PySem.W.Frag) (H : Hp) : V → String → Prop
  | non : Kd K H .non "NoneType"
  | bl (b : Bool) : Kd K H (.bl b) "bool"
  | int (i : Int) : Kd K H (.int i) "int"
  | str (x : Str) : Kd K H (.str x) "str"
  | lst {a : Addr} {xs : List V} (h : SqL K H a xs) : Kd K H (.ref a) "list"
  | tup {a : Addr} {xs : List V} (h : SqT K H a xs) : Kd K H (.ref a) "tuple"
  | dK {a : Addr} {kvs : List (Key × V)} (h : H a = some (.dK kvs)) : Kd K H (.ref a) "dict"
theorem Kd.ty {K : PySem.W.Frag} {H : Hp} {x : V} {t : String} (k : Kd K H x t) : TyX K H x (.type t) := by
  cases k with
  | non => exact .base .non
  | bl b => exact .base (.bl b)
  | int i => exact .base (.int i)
  | str x => exact .base (.str x)
  | lst h => exact ty_list h
  | tup h => exact ty_tup h
  | dK h => exact .base (.dK h)
theorem Kd.same {K : PySem.W.Frag} {H H' : Hp} {x : V} {t : String} (e : Same H H') (k : Kd K H x t) : Kd K H' x t := by
  cases k with
  | non => exact .non
  | bl b => exact .bl b
  | int i => exact .int i
  | str x => exact .str x
  | lst h => exact .lst (e.seq h)
  | tup h => exact .tup (sts e h)
  | dK h => exact .dK (e _ _ h)
def wholeV : V → Bool
  | .int _ => true
  | _ => false
def intV : V → Bool
  | .int _ => true
  | .bl _ => true
  | _ => false
def boolV : V → Bool
  | .bl _ => true
  | _ => false
theorem w_isInt {K : PySem.W.Frag} {H : Hp} {x : V} {t : String} {Q : VK} (k : Kd K H x t) (h : Q (.bl (intV x)) H) : rIsA K [x, .ty "int"] H Q := by
  refine w_isTy k.ty (k := intV x) ?_ h
  cases k <;> (dsimp only [intV, boolV]; decide +kernel)
theorem w_isBool {K : PySem.W.Frag} {H : Hp} {x : V} {t : String} {Q : VK} (k : Kd K H x t) (h : Q (.bl (boolV x)) H) : rIsA K [x, .ty "bool"] H Q := by
  refine w_isTy k.ty (k := boolV x) ?_ h
  cases k <;> (dsimp only [intV, boolV]; decide +kernel)
/-- isinstance(x, (int, list)), isinstance(x, (list, tuple)) -/
theorem w_isIntList {K : PySem.W.Frag} {H : Hp} {x : V} {t : String} {Q : VK} {a : Addr} (k : Kd K H x t) (hT : H a = some (.tup [.ty "int", .ty "list"])) (h : Q (.bl (intV x || t == "list")) H) : rIsA K [x, .ref a] H Q := by
  refine w_isTy2 k.ty hT (k1 := intV x) (k2 := t == "list") ?_ ?_ h
  · cases k <;> (dsimp only [intV, boolV]; decide +kernel)
  · cases k <;> decide +kernel
theorem w_isListTup {K : PySem.W.Frag} {H : Hp} {x : V} {t : String} {Q : VK} {a : Addr} (k : Kd K H x t) (hT : H a = some (.tup [.ty "list", .ty "tuple"])) (h : Q (.bl (t == "list" || t == "tuple")) H) : rIsA K [x, .ref a] H Q := by
  refine w_isTy2 k.ty hT (k1 := t == "list") (k2 := t == "tuple") ?_ ?_ h
  · cases k <;> decide +kernel
  · cases k <;> decide +kernel
/-! ### texts of errors -/
section
variable {σ : L2.St} {H : Hp} {te : TE} {ts : List TE} {acc : Str} {R : Str → Hp → Prop} {Q : VK} {i : Int}
theorem w_js (h : te σ H fun x H1 => ∃ y : Str, x = .str y ∧ (acc ++ y).length ≤ sizeLine ∧ tJs ts (acc ++ y) σ H1 R) : tJs (te :: ts) acc σ H R := h
theorem w_js0 (h : R acc H) : tJs [] acc σ H R := h
theorem w_fmt (h : te σ H fun x H1 => (∃ y : Str, x = .str y ∧ y.length ≤ sizeLine ∧ Q (.str y) H1) ∨ ∃ i : Int, x = .int i ∧ i.natAbs.log2 < 1920 ∧ Q (.str (toString i)) H1) : tFmt te σ H Q := h
theorem w_fmtI {P1 : Str → Prop} {P2 : Int → Prop} (hi : i.natAbs.log2 < 1920) (h : P2 i) : (∃ y : Str, V.int i = .str y ∧ y.length ≤ sizeLine ∧ P1 y) ∨ ∃ j : Int, V.int i = .int j ∧ j.natAbs.log2 < 1920 ∧ P2 j := .inr ⟨i, rfl, hi, h⟩
theorem w_exstr {s : Str} {P : Str → Prop} (h : P s) : ∃ y, V.str s = .str y ∧ P y := ⟨s, rfl, h⟩
end
theorem iteD {p A B : Prop} [Decidable p] (h1 : p → A) (h2 : ¬p → B) : if decide p = true then A else B := by
  by_cases h : p
  · rw [decide_eq_true h]
    exact iteT (h1 h)
  · rw [decide_eq_false h]
    exact iteF (h2 h)
theorem iteND {p A B : Prop} [Decidable p] (h1 : ¬p → A) (h2 : p → B) : if (!decide p) = true then A else B := by
  by_cases h : p
  · rw [decide_eq_true h]
    exact iteF (h2 h)
  · rw [decide_eq_false h]
    exact iteT (h1 h)
theorem iteB {b : Bool} {A B : Prop} (h1 : b = true → A) (h2 : b = false → B) : if b = true then A else B := by
  cases b with
  | true => exact iteT (h1 rfl)
  | false => exact iteF (h2 rfl)
theorem iteNB {b : Bool} {A B : Prop} (h1 : b = false → A) (h2 : b = true → B) : if (!b) = true then A else B := by
  cases b with
  | true => exact iteF (h2 rfl)
  | false => exact iteT (h1 rfl)
theorem w_ex1 {a : Int} {P : Int → Prop} (h : P a) : ∃ i, [V.int a] = [V.int i] ∧ P i := ⟨a, rfl, h⟩
theorem w_ex2 {a b : Int} {P : Int → Int → Prop} (h : P a b) : ∃ i j, [V.int a, V.int b] = [V.int i, V.int j] ∧ P i j := ⟨a, b, rfl, h⟩
theorem w_exsq {K : PySem.W.Frag} {H : Hp} {p : Addr} {xs : List V} {P : Addr → Prop} (hs : SqL K H p xs) (h : P p) : ∃ a xs, [V.ref p] = [V.ref a] ∧ SqL K H a xs ∧ P a := ⟨p, xs, rfl, hs, h⟩
theorem w_exrf {K : PySem.W.Frag} {H : Hp} {p : Addr} {xs : List V} {P : Addr → Prop} (hs : SqL K H p xs) (h : P p) : ∃ a, V.ref p = V.ref a ∧ (∃ xs, SqL K H a xs) ∧ P a := ⟨p, rfl, ⟨xs, hs⟩, h⟩
/-! ### lists of ints -/
theorem flat_ints : ∀ ns : List Int, (ns.map V.int).all flatV = true
  | [] => rfl
  | _ :: r => by
    rw [List.map_cons, List.all_cons, flat_ints r]
    rfl
theorem inV_ints {n : Int} : ∀ {ns : List Int}, inV (.int n) (ns.map V.int) = decide (n ∈ ns)
  | [] => by simp [inV]
  | a :: r => by
    have ih := inV_ints (n := n) (ns := r)
    unfold inV at ih ⊢
    rw [List.map_cons, List.any_cons, ih]
    show (a == n || decide (n ∈ r)) = decide (n ∈ a :: r)
    by_cases e : a = n
    · subst e
      simp
    · have e' : ¬ n = a := fun z => e z.symm
      simp [e, e']
/-- a value that is no int is not among ints, but True and False -/
theorem inV_not {v : V} (hv : intV v = false) : ∀ {ns : List Int}, inV v (ns.map V.int) = false
  | [] => rfl
  | a :: r => by
    have ih := inV_not (v := v) hv (ns := r)
    unfold inV at ih ⊢
    rw [List.map_cons, List.any_cons, ih, Bool.or_false]
    cases v <;> first | rfl | cases hv
theorem eqv_ints : ∀ ns ms : List Int, PyData.eqv (.list ((ns.map V.int).map flD)) (.list ((ms.map V.int).map flD)) = decide (ns = ms) := by
  have key : ∀ ns ms : List Int, PyData.eqvAll ((ns.map V.int).map flD) ((ms.map V.int).map flD) = decide (ns = ms) := by
    intro ns
    induction ns with
    | nil =>
      intro ms
      cases ms with
      | nil => rfl
      | cons b s => rfl
    | cons a r ih =>
      intro ms
      cases ms with
      | nil => rfl
      | cons b s =>
        show (PyData.eqv (.int a) (.int b) && PyData.eqvAll ((r.map V.int).map flD) ((s.map V.int).map flD)) = _
        rw [ih]
        show (a == b && decide (r = s)) = _
        by_cases e : a = b <;> simp [e]
  intro ns ms
  exact key ns ms
/-! ### the rules with the written part said -/
section
variable {X : Cx} (K : PySem.W.Frag)
theorem op_addK (h : X.K = K := by rfl) : OpR X (binaryOp .Add) (rAddA K) := h ▸ op_addA
theorem op_eqK (hu : X.A.units + 64 < cLine) (h : X.K = K := by rfl) : OpR X (compareOp .Eq) (rEqA K) := h ▸ op_eqA hu
theorem op_neK (hu : X.A.units + 64 < cLine) (h : X.K = K := by rfl) : OpR X (compareOp .NotEq) (rNeA K) := h ▸ op_neA hu
theorem op_inK (h : X.K = K := by rfl) : OpR X (compareOp .In) (rIn K false) := h ▸ op_in_seq
theorem op_notInK (h : X.K = K := by rfl) : OpR X (compareOp .NotIn) (rIn K true) := h ▸ op_notIn_seq
theorem ix_seqK (h : X.K = K := by rfl) : IxR X (rIx K) := h ▸ ix_seq
theorem sl_listK (h : X.K = K := by rfl) : SlR X (rSlL K) := h ▸ sl_list
theorem call_lenK (h : X.K = K := by rfl) : CallR X (.builtin "len") (rLenA K) := h ▸ call_lenA
theorem call_isK_ (h : X.K = K := by rfl) : CallR X (.builtin "isinstance") (rIsA K) := h ▸ call_isA
theorem cr_sumK (hc : X.calm = true) (h : X.K = K := by rfl) : CallR X (.builtin "sum") (rSum K) := h ▸ cr_sum hc
end
theorem w_cut {t u : TS} {nx bk ct : L2.St → Hp → Prop} {rt : VK} {σ : L2.St} {H : Hp} (M : L2.St → Hp → Prop) (h : t ⟨M, rt, bk, ct⟩ σ H) (k : ∀ σ' H', M σ' H' → u ⟨nx, rt, bk, ct⟩ σ' H') : C8.tCut t u ⟨nx, rt, bk, ct⟩ σ H := ⟨M, h, k⟩
theorem at_ints {ns : List Int} {i : Nat} {x : V} (h : (ns.map V.int)[i]? = some x) : ∃ n, ns[i]? = some n ∧ x = .int n := by
  rw [List.getElem?_map] at h
  cases e : ns[i]? with
  | none =>
    rw [e] at h
    cases h
  | some n =>
    rw [e] at h
    exact ⟨n, rfl, (Option.some.inj h).symm⟩
theorem w_yes {σ : L2.St} {H : Hp} {B : Bool → Hp → Prop} (h : B true H) : tYes σ H B := h
theorem w_keep {K : PySem.W.Frag} {c : Value} {i : Nat} {tb : WX → TS} {ts : Addr → Value → Option Addr → TS} {nx bk ct : L2.St → Hp → Prop} {rt : VK} {σ : L2.St} {H : Hp} (h : tb (wKeep K c i ts ⟨nx, rt, bk, ct⟩) ⟨nx, rt, bk, ct⟩ σ H) : tKeep K c i tb ts ⟨nx, rt, bk, ct⟩ σ H := h
theorem w_refs (h : Prop) : h → h := id
theorem w_gtup2 {K : PySem.W.Frag} {T : Addr} {x y : V} {i j : Nat} {σ : L2.St} {H : Hp} {Q : L2.St → Hp → Prop} (hT : H T = some (.tup [x, y])) (h : Q ((σ.set i (some x)).set j (some y)) H) : gTup K 2 (gCons (gName i) (gCons (gName j) gNil)) (.ref T) σ H Q :=
  ⟨T, [x, y], rfl, SqT.of hT, rfl, x, [y], rfl, y, [], rfl, rfl, h⟩
theorem w_gtupL2 {K : PySem.W.Frag} {T : Addr} {x y : V} {i j : Nat} {σ : L2.St} {H : Hp} {Q : L2.St → Hp → Prop} (hT : SqT K H T [x, y]) (h : Q ((σ.set i (some x)).set j (some y)) H) : gTup K 2 (gCons (gName i) (gCons (gName j) gNil)) (.ref T) σ H Q :=
  ⟨T, [x, y], rfl, hT, rfl, x, [y], rfl, y, [], rfl, rfl, h⟩
theorem pick {xs : List V} {n : Int} (h0 : 0 ≤ n) (h1 : n < xs.length) : ∃ v, atI xs n = some v ∧ v ∈ xs := by
  obtain ⟨j, rfl⟩ : ∃ j : Nat, n = (j : Int) := ⟨n.toNat, by omega⟩
  have hj : j < xs.length := by omega
  exact ⟨xs[j], atI_nat (List.getElem?_eq_getElem hj), List.getElem_mem hj⟩
theorem Kd.flat {K : PySem.W.Frag} {H : Hp} {v : V} (h : flatV v = true) : ∃ t, Kd K H v t := by
  cases v with
  | non => exact ⟨_, .non⟩
  | bl b => exact ⟨_, .bl b⟩
  | int i => exact ⟨_, .int i⟩
  | str x => exact ⟨_, .str x⟩
  | _ => cases h
theorem new_at {H H' : Hp} {p : Addr} {o : HO} (hp : H p = none) (h : upd H p o = H') : Same H H' ∧ H' p = some o := by
  subst h
  exact ⟨same_new hp (Same.refl _), upd_same⟩
/-! ### two lists of ints compared -/
theorem flD_ints (ns : List Int) : (ns.map V.int).map flD = ns.map PyData.int := by
  rw [List.map_map]
  rfl
theorem dp_ints {K : PySem.W.Frag} {H : Hp} {a : Addr} {ns : List Int} (h : SqL K H a (ns.map V.int)) : Dp K H (.ref a) (.list (ns.map PyData.int)) := .lst h (by
  have z := flD_all (K := K) (H := H) (flat_ints ns)
  rw [flD_ints] at z
  exact z)
theorem w_neAL {K : PySem.W.Frag} {H : Hp} {a b : Addr} {ns ms : List Int} {Q : VK} (h1 : SqL K H a (ns.map V.int)) (h2 : SqL K H b (ms.map V.int)) (h : Q (.bl (!decide (ns = ms))) H) : rNeA K (.ref a) (.ref b) H Q := by
  refine .inr (w_neD (dp_ints h1) (dp_ints h2) (PySem.W.ke_shaped_ints _) (PySem.W.ke_shaped_ints _) ?_)
  rw [← flD_ints, ← flD_ints, eqv_ints]
  exact h
theorem w_eqAL {K : PySem.W.Frag} {H : Hp} {a b : Addr} {ns ms : List Int} {Q : VK} (h1 : SqL K H a (ns.map V.int)) (h2 : SqL K H b (ms.map V.int)) (h : Q (.bl (decide (ns = ms))) H) : rEqA K (.ref a) (.ref b) H Q := by
  refine .inr (w_eqD (dp_ints h1) (dp_ints h2) (PySem.W.ke_shaped_ints _) (PySem.W.ke_shaped_ints _) ?_)
  rw [← flD_ints, ← flD_ints, eqv_ints]
  exact h
theorem same_mut {H H' : Hp} {p : Addr} {o : HO} (hp : H p = none) (e : Same H H') : Same H (upd H' p o) := fun b u q => by
  rw [upd_ne (ne_of_none q hp)]
  exact e b u q
/-! ### what kind of reading a goal is -/
theorem gTE {t : TE} {σ : L2.St} {H : Hp} {Q : VK} (h : t σ H Q) : t σ H Q := h
theorem gTA {t : TA} {σ : L2.St} {H : Hp} {Q : List V → Hp → Prop} (h : t σ H Q) : t σ H Q := h
theorem gTT {t : TT} {σ : L2.St} {H : Hp} {Q : Bool → Hp → Prop} (h : t σ H Q) : t σ H Q := h
theorem gTS {t : TS} {D : Ends} {σ : L2.St} {H : Hp} (h : t D σ H) : t D σ H := h
theorem gR2 {r : R2} {x y : V} {H : Hp} {Q : VK} (h : r x y H Q) : r x y H Q := h
theorem gEx {α : Type} {P : α → Prop} (h : ∃ x, P x) : ∃ x, P x := h
theorem gAnd {A B : Prop} (h : A ∧ B) : A ∧ B := h
/-! ### what the top leaves -/
theorem dfn_mk {K : PySem.W.Frag} {h : Heap} {mg : Str → Option Value} {x : Str} {st : Stmt} {ps : List Str} {f : Addr} {oc : Value} {od an : Option Addr} {osl : Array (Option Value)} {kV doc pm cdv ct : Value} (X : K.In h) (G : h.Ns mainGlobals mg)
    (a : PySem.W.nsIn K mainGlobals x = some (some (.ref f))) (l : K.lookup f = some ⟨oc, od, .func (PySem.W.fnOf x x (defArgs st) (defBody st) (defScope st) .none kV doc pm an cdv ct), osl⟩) (c : PySem.W.codeIn K cdv x = true) (k : PySem.W.keepIn K (.ref f) = true)
    (b : ∀ (kV doc pm : Value) (an : Option Addr) (cdv ct : Value) (us : List Value), us.length = ps.length → bindArgs (PySem.W.fnOf x x (defArgs st) (defBody st) (defScope st) .none kV doc pm an cdv ct) ⟨us, []⟩ = pure (ps.zip us)) : Dfn K mg x st ps := by
  have F := fun_mk (st := st) l c k
  exact ⟨f, _, F, PySem.W.mg_of X G a, F.binds b⟩
theorem exn_mk {K : PySem.W.Frag} {h : Heap} {mg : Str → Option Value} {n : Str} {C : Addr} (X : K.In h) (G : h.Ns mainGlobals mg) (a : PySem.W.nsIn K mainGlobals n = some (some (.ref C)))
    (x : PySem.W.excIn K C [.type "ValueError", .type "Exception", .type "BaseException", .type "object"] "ValueError.__new__" = true) (k : PySem.W.keepIn K (.ref C) = true) (b : PySem.W.subIn K (.ref C) (.type "BaseException") = some true) (t : PySem.W.typeIn K (.ref C) = some (.type "type"))
    (hg : PySem.W.findIn K (.ref C) "__getattribute__" = some (some (.builtin "BaseException.__getattribute__"))) (hk : PySem.W.findIn K (.ref C) "__getattr__" = some none) (hd : PySem.W.hasDictIn K C = true) (ha : PySem.W.findIn K (.ref C) "__class__" = some (some (.builtin "object.__class__")))
    (hn : PySem.W.specialIn K (.builtin "object.__class__") "__get__" = some (some (.builtin "getset_descriptor.__get__"))) (ht : PySem.W.takesIn K (.builtin "object.__class__") = some true) (hm : PySem.W.mroIn K C (.type "object") = some true) : Exn K mg n C :=
  ⟨PySem.W.mg_of X G a, x, k, b, t, ⟨hg, hk, b, hd, ha, hn, ht, hm⟩⟩
theorem const_mk {K : PySem.W.Frag} {h : Heap} {mg : Str → Option Value} {n : Str} {v : V} {u : Value} (X : K.In h) (G : h.Ns mainGlobals mg) (a : PySem.W.nsIn K mainGlobals n = some (some u)) (r : RelV v u) : ∃ u, mg n = some u ∧ RelV v u := ⟨u, PySem.W.mg_of X G a, r⟩
theorem kit_ct {K : PySem.W.Frag} {C : Addr} {T : String} {b : Bool} (hm : PySem.W.kitMeta T = true) (h : PySem.W.subIn K (.ref C) (.type T) = some b) : PySem.W.kitOne K (.ref C) (.type T) = some b := by
  show (if PySem.W.kitMeta T = true then PySem.W.subIn K (.ref C) (.type T) else none) = some b
  rw [if_pos hm]
  exact h
theorem kit_cc {K : PySem.W.Frag} {C : Addr} : PySem.W.kitOne K (.ref C) (.ref C) = some true := by
  unfold PySem.W.kitOne
  rw [if_pos (by simp)]
theorem kit_cd {K : PySem.W.Frag} {C D : Addr} {b : Bool} (hd : PySem.W.hasDictIn K D = true) (ht : PySem.W.typeIn K (.ref D) = some (.type "type")) (hs : PySem.W.subIn K (.ref D) (.ref D) = some true) (h : PySem.W.subIn K (.ref C) (.ref D) = some b) : PySem.W.kitOne K (.ref C) (.ref D) = some b := by
  by_cases e : C = D
  · subst e
    rw [kit_cc, ← hs, h]
  · obtain ⟨cd, hc, _⟩ := PySem.W.any_some hd
    have e1 : ((PySem.W.clsIn K D).isSome && PySem.W.typeIn K (.ref D) == some (.type "type")) = true := by rw [hc, ht] <;> rfl
    unfold PySem.W.kitOne
    rw [if_neg (by simpa using e)]
    show (if ((PySem.W.clsIn K D).isSome && PySem.W.typeIn K (.ref D) == some (.type "type")) = true then PySem.W.subIn K (.ref C) (.ref D) else none) = some b
    rw [if_pos e1]
    exact h
end TW
open PySem PySem.Spec PyProof.Rows L2 TW
local macro_rules | `(tactic| walk_at "sq") => `(tactic| first
  | with_reducible assumption
  | (with_reducible exact SqL.of upd_same)
  | (with_reducible exact SqT.of upd_same)
  | (with_reducible exact SqL.of (by assumption))
  | (with_reducible exact SqT.of (by assumption))
  | (with_reducible refine sqn (by assumption) ?_; walk_at "sq")
  | (with_reducible refine stn (by assumption) ?_; walk_at "sq")
  | (with_reducible refine Same.seq (by assumption) ?_; walk_at "sq")
  | (with_reducible refine sts (by assumption) ?_; walk_at "sq"))
local macro_rules | `(tactic| walk_at "hl") => `(tactic| first
  | with_reducible assumption
  | (with_reducible exact upd_same)
  | (with_reducible refine hln (by assumption) ?_; walk_at "hl")
  | (with_reducible refine (by assumption : Same _ _) _ _ ?_; walk_at "hl"))
local macro_rules | `(tactic| walk_at "ar") => `(tactic| first
  | assumption
  | decide
  | (unfold CMul; first | exact .inl (by decide) | exact .inr (by decide) | exact .inl ⟨by omega, by omega⟩ | exact .inr ⟨by omega, by omega⟩)
  | (unfold CDiv; constructor <;> omega)
  | (unfold CPow; refine ⟨?_, ?_, ?_⟩ <;> first | decide | omega)
  | (dsimp only; omega)
  | omega)
local macro_rules | `(tactic| walk_at "sm") => `(tactic| first
  | with_reducible assumption
  | (with_reducible exact Same.refl _)
  | (with_reducible refine same_new (by assumption) ?_; walk_at "sm")
  | (with_reducible refine Same.trans ?_ (by assumption); walk_at "sm"))
local macro_rules | `(tactic| walk_at "TE") => `(tactic| first
  | ((with_reducible show tVar _ _ _ _); refine ⟨_, rfl, ?_⟩)
  | with_reducible refine w_c ?_
  | with_reducible refine w_op ?_
  | with_reducible refine w_call ?_
  | with_reducible refine w_cb ?_
  | with_reducible refine w_lst ?_
  | with_reducible refine w_un ?_
  | with_reducible refine w_callS ?_
  | with_reducible refine w_callF ?_
  | with_reducible refine w_callSD ?_
  | with_reducible refine w_star ?_
  | with_reducible refine w_fldV (f := "_turn") rfl (by walk_at "hl") (HallC.cl (by assumption)) (HallC.n1 (by assumption)) fl_turn ?_
  | with_reducible refine w_fldV (f := "_coming") rfl (by walk_at "hl") (HallC.cl (by assumption)) (HallC.n2 (by assumption)) fl_coming ?_
  | with_reducible refine w_fldV (f := "_start") rfl (by walk_at "hl") (HallC.cl (by assumption)) (HallC.n3 (by assumption)) fl_start ?_
  | with_reducible refine w_fldV (f := "_way") rfl (by walk_at "hl") (HallC.cl (by assumption)) (HallC.n4 (by assumption)) fl_way ?_
  | with_reducible refine w_fldV (f := "_row") rfl (by walk_at "hl") (HallC.cl (by assumption)) (HallC.n5 (by assumption)) fl_row ?_
  | with_reducible refine w_fldV (f := "_log") rfl (by walk_at "hl") (HallC.cl (by assumption)) (HallC.n6 (by assumption)) fl_log ?_
  | with_reducible refine w_meth ?_
  | with_reducible refine w_methS ?_
  | with_reducible refine w_andV ?_
  | with_reducible refine w_orV ?_
  | with_reducible refine w_notV ?_
  | with_reducible refine w_chain ?_
  | with_reducible refine w_slice ?_
  | with_reducible refine w_tup ?_
  | with_reducible refine w_bm ?_
  | with_reducible refine w_lstRg ?_
  | with_reducible refine w_dnew ?_
  | with_reducible refine w_din ?_
  | with_reducible refine w_dnotin ?_
  | with_reducible refine w_dget ?_
  | with_reducible refine w_lc ?_
  | with_reducible refine w_fmt ?_)
local macro_rules | `(tactic| walk_at "TS") => `(tactic| first
  | with_reducible refine w_seq ?_
  | with_reducible refine w_set ?_
  | with_reducible refine w_ret ?_
  | with_reducible refine w_if ?_
  | with_reducible refine w_drop ?_
  | with_reducible refine w_next ?_
  | with_reducible refine w_cont ?_
  | with_reducible refine w_brk ?_
  | with_reducible refine w_for ?_
  | with_reducible refine w_keep ?_
  | with_reducible refine w_only ?_
  | with_reducible refine w_dput ?_
  | with_reducible refine w_par ?_
  | with_reducible refine w_asg ?_
  | with_reducible refine w_sfld ?_)
local macro_rules | `(tactic| walk_at "TT") => `(tactic| first
  | with_reducible refine w_test ?_
  | with_reducible refine w_tB ?_
  | with_reducible refine w_not ?_
  | with_reducible refine w_and ?_
  | with_reducible refine w_or ?_
  | with_reducible refine w_yes ?_)
local macro_rules | `(tactic| walk_at "TA") => `(tactic| first
  | with_reducible refine w_cons ?_
  | with_reducible refine w_nil ?_)
local macro_rules | `(tactic| walk_at "R2") => `(tactic| first
  | with_reducible refine w_addI ?_
  | with_reducible refine w_I0 ?_
  | ((with_reducible show rMulA (V.int _) (V.int _) _ _); refine w_mulI (by walk_at "ar") ?_)
  | ((with_reducible show rI _ _ (V.int _) (V.int _) _ _); refine w_I (by walk_at "ar") ?_)
  | with_reducible refine w_eqAI ?_
  | with_reducible refine w_neAI ?_
  | ((with_reducible show rMulA (V.ref _) (V.int _) _ _); refine w_mulL (by walk_at "hl") (by walk_at "ar") (by walk_at "ar") ?_ ?_))
local macro_rules | `(tactic| walk_at "EX") => `(tactic| first
  | with_reducible refine w_exbl ?_
  | with_reducible refine w_exint ?_
  | with_reducible refine w_exstr ?_
  | with_reducible refine w_ex1 ?_
  | with_reducible refine w_ex2 ?_
  | with_reducible refine w_exvw ?_
  | with_reducible refine w_exsq (by walk_at "sq") ?_
  | with_reducible refine w_exrf (by walk_at "sq") ?_)
local macro_rules | `(tactic| walk_at "AND") => `(tactic| first
  | with_reducible refine w_notN ?_
  | ((with_reducible show (List.length _ ≤ sizeLine) ∧ _); refine ⟨by first | (with_unfolding_all exact Nat.le_of_ble_eq_true rfl) | decide, ?_⟩)
  | ((with_reducible show (Str.length _ ≤ sizeLine) ∧ _); refine ⟨by decide +kernel, ?_⟩)
  | with_reducible refine ⟨⟨by decide, by decide, by decide, by decide⟩, ?_⟩
  | with_reducible refine ⟨by decide, by decide, ?_⟩)
local macro_rules | `(tactic| walk_at "step") => `(tactic| first
  | ((with_reducible refine gTE ?_); walk_at "TE")
  | ((with_reducible refine gTA ?_); walk_at "TA")
  | ((with_reducible refine gR2 ?_); walk_at "R2")
  | ((with_reducible refine gTS ?_); walk_at "TS")
  | ((with_reducible refine gTT ?_); walk_at "TT")
  | ((with_reducible refine gEx ?_); walk_at "EX")
  | ((with_reducible refine gAnd ?_); walk_at "AND")
  | ((with_reducible show (if _ = true then _ else _)); first | refine iteT ?_ | refine iteF ?_)
  | with_reducible refine w_U ?_
  | with_reducible refine w_nopart ?_
  | with_reducible refine w_part ?_
  | with_reducible refine w_int1 ?_
  | with_reducible refine w_rg1 ?_
  | with_reducible refine w_rng1 ?_
  | with_reducible refine w_rng2 ?_
  | with_reducible refine w_list ?_
  | with_reducible refine w_enum ?_
  | with_reducible refine w_iseq ?_
  | with_reducible refine w_gname ?_
  | with_reducible refine w_enumA ?_
  | with_reducible refine w_js ?_
  | with_reducible refine w_js0 ?_
  | with_reducible refine w_fmtI (by decide +kernel) ?_)
local macro_rules | `(tactic| walk_at "go") => `(tactic| repeat (walk_at "step"))
local macro_rules | `(tactic| walk_at "EXn") => `(tactic| first
  | with_reducible refine w_exbl ?_
  | with_reducible refine w_exint ?_
  | with_reducible refine w_exstr ?_
  | with_reducible refine w_ex1 ?_
  | with_reducible refine w_ex2 ?_
  | with_reducible refine w_exvw ?_)
local macro_rules | `(tactic| walk_at "stepn") => `(tactic| first
  | ((with_reducible refine gTE ?_); walk_at "TE")
  | ((with_reducible refine gTA ?_); walk_at "TA")
  | ((with_reducible refine gR2 ?_); walk_at "R2")
  | ((with_reducible refine gTS ?_); walk_at "TS")
  | ((with_reducible refine gTT ?_); walk_at "TT")
  | ((with_reducible refine gEx ?_); walk_at "EXn")
  | ((with_reducible refine gAnd ?_); walk_at "AND")
  | ((with_reducible show (if _ = true then _ else _)); first | refine iteT ?_ | refine iteF ?_)
  | with_reducible refine w_U ?_
  | with_reducible refine w_nopart ?_
  | with_reducible refine w_part ?_
  | with_reducible refine w_int1 ?_
  | with_reducible refine w_rg1 ?_
  | with_reducible refine w_rng1 ?_
  | with_reducible refine w_rng2 ?_
  | with_reducible refine w_list ?_
  | with_reducible refine w_enum ?_
  | with_reducible refine w_iseq ?_
  | with_reducible refine w_gname ?_
  | with_reducible refine w_enumA ?_
  | with_reducible refine w_js ?_
  | with_reducible refine w_js0 ?_
  | with_reducible refine w_fmtI (by decide +kernel) ?_)
local macro_rules | `(tactic| walk_at "gn") => `(tactic| repeat (walk_at "stepn"))
section
namespace K5
def topS (i : Nat) : Stmt := PySem.Challenge.pw_tossrow_k05_throws_let.main.body.getD i (.Pass ⟨0, 0, 0, 0⟩)
abbrev s_is_whole : Stmt := topS 5
abbrev N_is_whole : List Str := ["thing"]
theorem sc_is_whole : FnScope N_is_whole ["thing"] (defScope s_is_whole) := ⟨rfl, rfl, rfl, by decide +kernel, rfl, by decide +kernel, by decide +kernel⟩
abbrev s_need_state : Stmt := topS 9
abbrev N_need_state : List Str := ["thing"]
theorem sc_need_state : FnScope N_need_state ["thing"] (defScope s_need_state) := ⟨rfl, rfl, rfl, by decide +kernel, rfl, by decide +kernel, by decide +kernel⟩
abbrev s_lets : Stmt := topS 10
abbrev N_lets : List Str := ["state"]
theorem sc_lets : FnScope N_lets ["state"] (defScope s_lets) := ⟨rfl, rfl, rfl, by decide +kernel, rfl, by decide +kernel, by decide +kernel⟩
abbrev s_thrown : Stmt := topS 11
abbrev N_thrown : List Str := ["state", "height"]
theorem sc_thrown : FnScope N_thrown ["state", "height"] (defScope s_thrown) := ⟨rfl, rfl, rfl, by decide +kernel, rfl, by decide +kernel, by decide +kernel⟩
abbrev s_heights_let : Stmt := topS 12
abbrev N_heights_let : List Str := ["state", "height"]
theorem sc_heights_let : FnScope N_heights_let ["state"] (defScope s_heights_let) := ⟨rfl, rfl, rfl, by decide +kernel, rfl, by decide +kernel, by decide +kernel⟩
abbrev s_state_behind : Stmt := topS 13
abbrev N_state_behind : List Str := ["state", "height"]
theorem sc_state_behind : FnScope N_state_behind ["state", "height"] (defScope s_state_behind) := ⟨rfl, rfl, rfl, by decide +kernel, rfl, by decide +kernel, by decide +kernel⟩
abbrev s_comes_down : Stmt := topS 14
abbrev N_comes_down : List Str := ["state", "turns"]
theorem sc_comes_down : FnScope N_comes_down ["state", "turns"] (defScope s_comes_down) := ⟨rfl, rfl, rfl, by decide +kernel, rfl, by decide +kernel, by decide +kernel⟩
abbrev s__law_mixed : Stmt := topS 16
abbrev N__law_mixed : List Str := ["_law_cell", "_law_k", "_law_drawn"]
theorem sc__law_mixed : FnScope N__law_mixed ["_law_cell", "_law_k"] (defScope s__law_mixed) := ⟨rfl, rfl, rfl, by decide +kernel, rfl, by decide +kernel, by decide +kernel⟩
abbrev s__law_cell_at : Stmt := topS 17
abbrev N__law_cell_at : List Str := ["_law_script", "_law_k"]
theorem sc__law_cell_at : FnScope N__law_cell_at ["_law_script", "_law_k"] (defScope s__law_cell_at) := ⟨rfl, rfl, rfl, by decide +kernel, rfl, by decide +kernel, by decide +kernel⟩
abbrev s__law_waits : Stmt := topS 18
abbrev N__law_waits : List Str := ["_law_state", "_law_k"]
theorem sc__law_waits : FnScope N__law_waits ["_law_state"] (defScope s__law_waits) := ⟨rfl, rfl, rfl, by decide +kernel, rfl, by decide +kernel, by decide +kernel⟩
abbrev s__law_lets : Stmt := topS 19
abbrev N__law_lets : List Str := ["_law_waits_here", "_law_height"]
theorem sc__law_lets : FnScope N__law_lets ["_law_waits_here"] (defScope s__law_lets) := ⟨rfl, rfl, rfl, by decide +kernel, rfl, by decide +kernel, by decide +kernel⟩
abbrev s__law_behind : Stmt := topS 20
abbrev N__law_behind : List Str := ["_law_waits_here", "_law_height", "_law_rest", "_law_wait"]
theorem sc__law_behind : FnScope N__law_behind ["_law_waits_here", "_law_height"] (defScope s__law_behind) := ⟨rfl, rfl, rfl, by decide +kernel, rfl, by decide +kernel, by decide +kernel⟩
abbrev s__law_told : Stmt := topS 21
abbrev N__law_told : List Str := ["_law_by_way", "_law_state", "_law_height", "_law_found", "e"]
theorem sc__law_told : FnScope N__law_told ["_law_by_way", "_law_state", "_law_height"] (defScope s__law_told) := ⟨rfl, rfl, rfl, by decide +kernel, rfl, by decide +kernel, by decide +kernel⟩
abbrev s_law : Stmt := topS 22
abbrev N_law : List Str := ["_law_script", "_law_k", "_law_cell", "_law_draw", "_law_state", "_law_none", "_law_waits_here", "_law_due", "_law_height", "_law_found", "_law_good", "_law_behind_here"]
theorem sc_law : FnScope N_law ["_law_script"] (defScope s_law) := ⟨rfl, rfl, rfl, by decide +kernel, rfl, by decide +kernel, by decide +kernel⟩
end K5
end
section
namespace K5
/-! ### the draws -/
def mixed (c k : Int) : Int := (c + 7919 * k) * 48271 % 2147483647 * ((c + 7919 * k) * 48271 % 2147483647 + 2 * k + 1) % 2147483629
theorem mixed_nn (c k : Int) : 0 ≤ mixed c k := Int.emod_nonneg _ (by decide)
theorem mixed_lt (c k : Int) : mixed c k < 2147483629 := Int.emod_lt_of_pos _ (by decide)
section
variable {P : Program} {w : World} {K : PySem.W.Frag} {mg : Str → Option Value} {base : Heap}
def spMixed : Sp := fun vs H Q _ => ∃ c k : Int, vs = [.int c, .int k] ∧ Q (.int (mixed c k)) H
theorem ok_mixed (D : Dfn K mg "_law_mixed" s__law_mixed ["_law_cell", "_law_k"]) : Cal P w K mg base CX0 1 "_law_mixed" spMixed := by
  refine D.cal sc__law_mixed (fun vs H Q E h => ?_) (fun f cdv A outer s H vs Q E hr h => ?_)
  · obtain ⟨c, k, rfl, _⟩ := h
    rfl
  · obtain ⟨c, k, rfl, q⟩ := h
    have nd := sc__law_mixed.nd
    refine ⟨_, (pss_cons (ps_set (i := 2) nd rfl (.inl rfl) (pe_op op_mod (pe_op op_mulA (pe_op (op_addK K) (pv 0) (pe_op op_mulA pe_int (pv 1))) pe_int) pe_int))
  (pss_one (ps_ret (pe_op op_mod (pe_op op_mulA (pv 2) (pe_op (op_addK K) (pe_op (op_addK K) (pv 2) (pe_op op_mulA pe_int (pv 1))) pe_int)) pe_int)))), ?_⟩
    rw [show L2.start N__law_mixed [V.int c, V.int k] = [some (V.int c), some (V.int k), none] from rfl]
    try dsimp only [cxOf]
    have b0 : 0 ≤ (c + 7919 * k) * 48271 % 2147483647 := Int.emod_nonneg _ (by decide)
    have b1 : (c + 7919 * k) * 48271 % 2147483647 < 2147483647 := Int.emod_lt_of_pos _ (by decide)
    walk_at "go"
    exact q
/-! ### is_whole, need_state -/
def spWhole (K : PySem.W.Frag) : Sp := fun vs H Q _ => ∃ x t, vs = [x] ∧ Kd K H x t ∧ Q (.bl (wholeV x)) H
theorem ok_whole (D : Dfn K mg "is_whole" s_is_whole ["thing"]) (n_isinstance : mg "isinstance" = none) (n_int : mg "int" = none) (n_bool : mg "bool" = none) : Cal P w K mg base CX0 1 "is_whole" (spWhole K) := by
  refine D.cal sc_is_whole (fun vs H Q E h => ?_) (fun f cdv A outer s H vs Q E hr h => ?_)
  · obtain ⟨x, t, rfl, _⟩ := h
    rfl
  · obtain ⟨x, t, rfl, kd, q⟩ := h
    have nd := sc_is_whole.nd
    refine ⟨_, (pss_one (ps_ret (pe_and (pe_callB (call_isK_ K) (by rfl) n_isinstance (by decide +kernel) (pa_cons (pv 0) (pa_cons (pe_bltn (v := .ty "int") (by rfl) n_int (by decide +kernel) rfl) pa_nil))) (pe_one (pe_not (pe_callB (call_isK_ K) (by rfl) n_isinstance (by decide +kernel) (pa_cons (pv 0) (pa_cons (pe_bltn (v := .ty "bool") (by rfl) n_bool (by decide +kernel) rfl) pa_nil)))))))), ?_⟩
    rw [show L2.start N_is_whole [x] = [some (x)] from rfl]
    try dsimp only [cxOf]
    walk_at "go"
    refine w_isInt kd ?_
    cases kd
    all_goals (show (fun z => z) _; dsimp only [intV]; walk_at "go")
    all_goals first | exact q | (refine w_isBool (by first | exact .int _ | exact .bl _) ?_; walk_at "go"; exact q)
end
end K5
namespace K5
section
variable {P : Program} {w : World} {K : PySem.W.Frag} {mg : Str → Option Value} {base : Heap}
/-- a state -/
def okS (x : V) : Prop := ∃ i : Int, x = .int i ∧ 0 ≤ i ∧ i ≤ 511
def spNeedS (K : PySem.W.Frag) (C : Addr) : Sp := fun vs H Q E => ∃ x t, vs = [x] ∧ Kd K H x t ∧ (okS x → Q .non H) ∧ (¬ okS x → E (.ref C) none H)
theorem ok_needS {C : Addr} (D : Dfn K mg "need_state" s_need_state ["thing"]) (c_is_whole : Cal P w K mg base CX0 1 "is_whole" (spWhole K)) (v_TOP_STATE : ∃ u, mg "TOP_STATE" = some u ∧ RelV (.int 511) u) (e_NoState : Exn K mg "NoState" C) : Cal P w K mg base (L2.CX P w) 2 "need_state" (spNeedS K C) := by
  refine D.calX sc_need_state (fun vs H Q E h => ?_) (fun f cdv A outer s H vs Q E hr h => ?_)
  · obtain ⟨x, t, rfl, _⟩ := h
    rfl
  · obtain ⟨x, t, rfl, kd, q1, q2⟩ := h
    have nd := sc_need_state.nd
    refine ⟨_, (pss_one (ps_if (PW.pt (pw_or (pt_not (pt_val (pc0 c_is_whole hr (by decide) (pa_cons (pv 0) pa_nil)))) (pw_or1 (pt_not (pt_chain op_le op_le pe_int (pv 0) (pgl v_TOP_STATE))))))
  (pss_one (ps_raise rfl (takes_of rfl rfl rfl rfl) (pmk_ownA PySem.F.excBase_ValueError e_NoState.x e_NoState.g e_NoState.k (raises_own e_NoState.b e_NoState.t) (by rfl) (pa_cons (pe_joined (.cons pe_str (.cons (pe_fmt (pgl v_TOP_STATE)) .nil))) pa_nil))))
  pss_nil)), ?_⟩
    rw [show L2.start N_need_state [x] = [some (x)] from rfl]
    try dsimp only [cxOf]
    walk_at "go"
    refine ⟨x, t, rfl, kd, ?_⟩
    walk_at "go"
    refine iteNB (fun hw => ?_) (fun hw => ?_)
    · walk_at "go"
      refine q2 ?_
      rintro ⟨i, rfl, _⟩
      cases hw
    · obtain ⟨i, rfl⟩ : ∃ i : Int, x = .int i := by
        cases x <;> first | exact ⟨_, rfl⟩ | cases hw
      walk_at "go"
      refine iteD (fun h0 => ?_) (fun h0 => ?_)
      · walk_at "go"
        refine iteND (fun h1 => ?_) (fun h1 => ?_)
        · walk_at "go"
          refine q2 ?_
          rintro ⟨j, e, j0, j1⟩
          cases e
          exact h1 j1
        · walk_at "go"
          exact q1 ⟨i, rfl, h0, h1⟩
      · walk_at "go"
        refine q2 ?_
        rintro ⟨j, e, j0, j1⟩
        cases e
        exact h0 j0
/-! ### bits -/
def bitI (s k : Int) : Bool := decide (s / 2 ^ k.toNat % 2 = 1)
def spDown : Sp := fun vs H Q _ => ∃ s k : Int, vs = [.int s, .int k] ∧ 0 ≤ k ∧ Q (.bl (bitI s k)) H
theorem ok_down (D : Dfn K mg "comes_down" s_comes_down ["state", "turns"]) : Cal P w K mg base CX0 1 "comes_down" spDown := by
  refine D.cal sc_comes_down (fun vs H Q E h => ?_) (fun f cdv A outer s H vs Q E hr h => ?_)
  · obtain ⟨x, t, rfl, _⟩ := h
    rfl
  · obtain ⟨x, k, rfl, hk, q⟩ := h
    have nd := sc_comes_down.nd
    refine ⟨_, (pss_one (ps_ret (pe_cmpR (op_eqK K hr.units) (pe_op op_mod (pe_op op_shr (pv 0) (pv 1)) pe_int) pe_int (nomark _)))), ?_⟩
    rw [show L2.start N_comes_down [V.int x, V.int k] = [some (V.int x), some (V.int k)] from rfl]
    try dsimp only [cxOf]
    walk_at "go"
    exact q
/-! ### heights_let, state_behind -/
def letsL (s : Int) : List Int := if bitI s 0 = true then (frm 1 9).filter fun h => !bitI s h else [0]
def spHLets : Sp := fun vs H Q _ => ∃ i : Int, vs = [.int i] ∧ ∀ H' p, Same H H' → H p = none → H' p = some (.lst ((letsL i).map V.int)) → Q (.ref p) H'
theorem ok_hlets (D : Dfn K mg "heights_let" s_heights_let ["state"]) (c_comes_down : Cal P w K mg base CX0 1 "comes_down" spDown) (n_range : mg "range" = none) (v_TOP_HEIGHT : ∃ u, mg "TOP_HEIGHT" = some u ∧ RelV (.int 9) u) : Cal P w K mg base CX0 2 "heights_let" spHLets := by
  refine D.cal sc_heights_let (fun vs H Q E h => ?_) (fun f cdv A outer s H vs Q E hr h => ?_)
  · obtain ⟨x, rfl, _⟩ := h
    rfl
  · obtain ⟨i, rfl, q1⟩ := h
    have nd := sc_heights_let.nd
    refine ⟨_, (pss_cons (ps_if (pt_not (pt_val (pc0 c_comes_down hr (by decide) (pa_cons (pv 0) (pa_cons pe_int pa_nil)))))
  (pss_one (ps_ret (pe_lst (pa_cons pe_int pa_nil))))
  pss_nil)
  (pss_one (ps_ret (pe_lc (own := [("height", 1)]) (g := gName 1) rfl nd (pi_range2 (by rfl) n_range (pa_cons pe_int (pa_cons (pe_op (op_addK K) (pgl v_TOP_HEIGHT) pe_int) pa_nil))) (blkOk_by (N := ["state", "height"]) (sc := defScope s_heights_let) (by decide +kernel)) (fun _ _ _ _ _ => (pg_name (i := 1) nd rfl (.inl rfl))) (fun _ _ _ _ _ => pts_one (pt_not (pt_val (pc0 c_comes_down hr (by decide) (pa_cons (pv 0) (pa_cons (pv 1) pa_nil)))))) (fun _ _ _ _ _ => (pv 1)))))), ?_⟩
    rw [show L2.start N_heights_let [V.int i] = [some (V.int i), none] from rfl]
    try dsimp only [cxOf]
    walk_at "go"
    refine ⟨i, 0, rfl, by decide, ?_⟩
    walk_at "go"
    refine iteNB (fun hb => ?_) (fun hb => ?_)
    · walk_at "go"
      intro p hp
      refine q1 _ p (by walk_at "sm") hp ?_
      rw [upd_same]
      unfold letsL
      rw [if_neg (by rw [hb]; decide)]
      rfl
    · walk_at "go"
      intro p hp
      refine lcR (fun h => !bitI i h) V.int hp (by decide) (fun k H1 hk sm B q => ?_) (fun k H1 hk _ sm R q => ?_) fun H' sm hl => ?_
      · simp only [wipe, List.set_cons_zero, List.set_cons_succ]
        walk_at "go"
        refine ⟨i, _, rfl, by omega, ?_⟩
        walk_at "go"
        exact q _ (Same.refl _)
      · simp only [wipe, List.set_cons_zero, List.set_cons_succ]
        walk_at "go"
        exact q _ (Same.refl _)
      · refine q1 _ p sm hp ?_
        rw [hl]
        unfold letsL
        rw [if_pos hb]
        rfl
def spBhd : Sp := fun vs H Q _ => ∃ i h : Int, vs = [.int i, .int h] ∧ 0 ≤ h ∧ h ≤ 9 ∧ Q (.int (Builtin.bitOr i (2 ^ h.toNat) / 2)) H
theorem ok_bhd (D : Dfn K mg "state_behind" s_state_behind ["state", "height"]) : Cal P w K mg base CX0 1 "state_behind" spBhd := by
  refine D.cal sc_state_behind (fun vs H Q E h => ?_) (fun f cdv A outer s H vs Q E hr h => ?_)
  · obtain ⟨x, h, rfl, _⟩ := h
    rfl
  · obtain ⟨i, h, rfl, h0, h9, q⟩ := h
    have nd := sc_state_behind.nd
    refine ⟨_, (pss_one (ps_ret (pe_op op_shr (pe_op op_or (pv 0) (pe_op op_shl pe_int (pv 1))) pe_int))), ?_⟩
    rw [show L2.start N_state_behind [V.int i, V.int h] = [some (V.int i), some (V.int h)] from rfl]
    try dsimp only [cxOf]
    walk_at "go"
    have e : (1 : Int) * 2 ^ h.toNat = 2 ^ h.toNat := Int.one_mul _
    rw [e]
    exact q
/-! ### lets, thrown -/
def spLets (K : PySem.W.Frag) (C : Addr) : Sp := fun vs H Q E => ∃ x t, vs = [x] ∧ Kd K H x t ∧ (∀ i : Int, x = .int i → 0 ≤ i → i ≤ 511 → ∀ H' p, Same H H' → H p = none → H' p = some (.lst ((letsL i).map V.int)) → Q (.ref p) H') ∧ (¬ okS x → E (.ref C) none H)
theorem ok_lets {C : Addr} (D : Dfn K mg "lets" s_lets ["state"]) (c_need_state : Cal P w K mg base (L2.CX P w) 2 "need_state" (spNeedS K C)) (c_heights_let : Cal P w K mg base CX0 2 "heights_let" spHLets) : Cal P w K mg base (L2.CX P w) 3 "lets" (spLets K C) := by
  refine D.calX sc_lets (fun vs H Q E h => ?_) (fun f cdv A outer s H vs Q E hr h => ?_)
  · obtain ⟨x, t, rfl, _⟩ := h
    rfl
  · obtain ⟨x, t, rfl, kd, q1, q2⟩ := h
    have nd := sc_lets.nd
    refine ⟨_, (pss_cons (ps_expr (pcS (W := fun cls d _ H => E cls d H) c_need_state hr (by decide) (takes_of rfl rfl rfl rfl) (pa_cons (pv 0) pa_nil)))
  (pss_one (ps_ret (pc0 c_heights_let hr (by decide) (pa_cons (pv 0) pa_nil))))), ?_⟩
    rw [show L2.start N_lets [x] = [some (x)] from rfl]
    try dsimp only [cxOf]
    walk_at "go"
    refine ⟨x, t, rfl, kd, fun hx => ?_, q2⟩
    obtain ⟨i, rfl, i0, i1⟩ := hx
    walk_at "go"
    exact ⟨i, rfl, fun H' p s hp l => by walk_at "go"; exact q1 i rfl i0 i1 H' p s hp l⟩
theorem letsL_bound {s h : Int} (hm : h ∈ letsL s) : 0 ≤ h ∧ h ≤ 9 := by
  unfold letsL at hm
  split at hm
  · obtain ⟨h1, _⟩ := List.mem_filter.mp hm
    obtain ⟨j, h2, rfl⟩ := List.mem_map.mp h1
    have h3 := List.mem_range.mp h2
    exact ⟨by omega, by omega⟩
  · have e := List.mem_singleton.mp hm
    subst e
    exact ⟨by decide, by decide⟩
def spThrown (K : PySem.W.Frag) (CS CT : Addr) : Sp := fun vs H Q E => ∃ x t y u, vs = [x, y] ∧ Kd K H x t ∧ Kd K H y u ∧ flatV y = true ∧ (∀ i h : Int, x = .int i → 0 ≤ i → i ≤ 511 → y = .int h → h ∈ letsL i → ∀ H', Same H H' → Q (.int (Builtin.bitOr i (2 ^ h.toNat) / 2)) H') ∧
  (¬ okS x → ∀ H', Same H H' → E (.ref CS) none H') ∧ (∀ i : Int, x = .int i → 0 ≤ i → i ≤ 511 → (¬ ∃ h : Int, y = .int h ∧ h ∈ letsL i) → ∀ H', Same H H' → E (.ref CT) none H')
theorem ok_thrown {CS CT : Addr} (D : Dfn K mg "thrown" s_thrown ["state", "height"]) (c_need_state : Cal P w K mg base (L2.CX P w) 2 "need_state" (spNeedS K CS)) (c_heights_let : Cal P w K mg base CX0 2 "heights_let" spHLets) (c_is_whole : Cal P w K mg base CX0 1 "is_whole" (spWhole K)) (c_state_behind : Cal P w K mg base CX0 1 "state_behind" spBhd) (e_NoThrow : Exn K mg "NoThrow" CT) : Cal P w K mg base (L2.CX P w) 4 "thrown" (spThrown K CS CT) := by
  refine D.calX sc_thrown (fun vs H Q E h => ?_) (fun f cdv A outer s H vs Q E hr h => ?_)
  · obtain ⟨x, t, y, u, rfl, _⟩ := h
    rfl
  · obtain ⟨x, t, y, u, rfl, kx, ky, fy, q1, q2, q3⟩ := h
    have nd := sc_thrown.nd
    refine ⟨_, (pss_cons (ps_expr (pcS (W := fun cls d _ H => E cls d H) c_need_state hr (by decide) (takes_of rfl rfl rfl rfl) (pa_cons (pv 0) pa_nil)))
  (pss_cons (ps_if (PW.pt (pw_or (pt_not (pt_val (pc0 c_is_whole hr (by decide) (pa_cons (pv 1) pa_nil)))) (pw_or1 (pt_cmpR (op_notInK K) (pv 1) (pc0 c_heights_let hr (by decide) (pa_cons (pv 0) pa_nil)) (by rfl)))))
  (pss_one (ps_raise rfl (takes_of rfl rfl rfl rfl) (pmk_ownA PySem.F.excBase_ValueError e_NoThrow.x e_NoThrow.g e_NoThrow.k (raises_own e_NoThrow.b e_NoThrow.t) (by rfl) (pa_cons pe_str pa_nil))))
  pss_nil)
  (pss_one (ps_ret (pc0 c_state_behind hr (by decide) (pa_cons (pv 0) (pa_cons (pv 1) pa_nil))))))), ?_⟩
    rw [show L2.start N_thrown [x, y] = [some (x), some (y)] from rfl]
    try dsimp only [cxOf]
    walk_at "go"
    refine ⟨x, t, rfl, kx, fun hx => ?_, fun hx => q2 hx _ (Same.refl _)⟩
    obtain ⟨i, rfl, i0, i1⟩ := hx
    walk_at "go"
    refine ⟨y, u, rfl, ky, ?_⟩
    walk_at "go"
    refine iteNB (fun hw => ?_) (fun hw => ?_)
    · walk_at "go"
      refine q3 i rfl i0 i1 ?_ _ (Same.refl _)
      rintro ⟨h, rfl, _⟩
      cases hw
    · obtain ⟨h, rfl⟩ : ∃ i : Int, y = .int i := by
        cases y <;> first | exact ⟨_, rfl⟩ | cases hw
      walk_at "go"
      refine ⟨i, rfl, fun H1 p sm hp hl => ?_⟩
      walk_at "go"
      refine w_inL (SqL.of hl) rfl (flat_ints _) ?_
      walk_at "go"
      rw [inV_ints]
      refine iteND (fun hm => ?_) (fun hm => ?_)
      · walk_at "go"
        refine q3 i rfl i0 i1 ?_ _ sm
        rintro ⟨k, e, hk⟩
        cases e
        exact hm hk
      · have hb := letsL_bound hm
        walk_at "go"
        refine ⟨i, h, rfl, hb.1, hb.2, ?_⟩
        walk_at "go"
        exact q1 i h rfl i0 i1 rfl hm _ sm
end
end K5
namespace K5
section
variable {P : Program} {w : World} {K : PySem.W.Frag} {mg : Str → Option Value} {base : Heap}
/-! ### the law's own defs -/
def waitsL (s : Int) : List Int := (frm 0 9).filter fun k => bitI s k
def spWaits (K : PySem.W.Frag) : Sp := fun vs H Q _ => ∃ i : Int, vs = [.int i] ∧ 0 ≤ i ∧ ∀ H' p, Same H H' → H p = none → H' p = some (.lst ((waitsL i).map V.int)) → Q (.ref p) H'
theorem pow_at {k : Nat} (hk : k < 9) : atI ([.int 1, .int 2, .int 4, .int 8, .int 16, .int 32, .int 64, .int 128, .int 256] : List V) (k : Int) = some (.int (2 ^ k)) := by
  refine atI_nat ?_
  match k, hk with
  | 0, _ => rfl
  | 1, _ => rfl
  | 2, _ => rfl
  | 3, _ => rfl
  | 4, _ => rfl
  | 5, _ => rfl
  | 6, _ => rfl
  | 7, _ => rfl
  | 8, _ => rfl
theorem pow_b {k : Nat} (hk : k < 9) {i : Int} : CDiv i (2 ^ k) := by
  match k, hk with
  | 0, _ => exact ⟨by decide, by decide⟩
  | 1, _ => exact ⟨by decide, by decide⟩
  | 2, _ => exact ⟨by decide, by decide⟩
  | 3, _ => exact ⟨by decide, by decide⟩
  | 4, _ => exact ⟨by decide, by decide⟩
  | 5, _ => exact ⟨by decide, by decide⟩
  | 6, _ => exact ⟨by decide, by decide⟩
  | 7, _ => exact ⟨by decide, by decide⟩
  | 8, _ => exact ⟨by decide, by decide⟩
theorem ok_waits (D : Dfn K mg "_law_waits" s__law_waits ["_law_state"]) (n_range : mg "range" = none) : Cal P w K mg base CX0 1 "_law_waits" (spWaits K) := by
  refine D.cal sc__law_waits (fun vs H Q E h => ?_) (fun f cdv A outer s H vs Q E hr h => ?_)
  · obtain ⟨i, rfl, _⟩ := h
    rfl
  · obtain ⟨i, rfl, i0, q⟩ := h
    have nd := sc__law_waits.nd
    refine ⟨_, (pss_one (ps_ret (pe_lc (own := [("_law_k", 1)]) (g := gName 1) rfl nd (pi_range1 (by rfl) n_range (pa_cons pe_int pa_nil)) (blkOk_by (N := ["_law_state", "_law_k"]) (sc := defScope s__law_waits) (by decide +kernel)) (fun _ _ _ _ _ => (pg_name (i := 1) nd rfl (.inl rfl))) (fun _ _ _ _ _ => pts_one (pt_cmpR (op_eqK K hr.units) (pe_op op_mod (pe_op op_fdiv (pv 0) (pe_ix (ix_seqK K) (pe_lst (pa_cons pe_int (pa_cons pe_int (pa_cons pe_int (pa_cons pe_int (pa_cons pe_int (pa_cons pe_int (pa_cons pe_int (pa_cons pe_int (pa_cons pe_int pa_nil)))))))))) (pv 1) (fun _ _ => rfl))) pe_int) pe_int (nomark _))) (fun _ _ _ _ _ => (pv 1))))), ?_⟩
    rw [show L2.start N__law_waits [V.int i] = [some (V.int i), none] from rfl]
    try dsimp only [cxOf]
    walk_at "go"
    intro p hp
    refine lcR (fun k => bitI i k) V.int hp (by decide) (fun k H1 hk sm B q => ?_) (fun k H1 hk _ sm R q => ?_) fun H' sm hl => ?_
    · simp only [wipe, List.set_cons_zero, List.set_cons_succ]
      walk_at "go"
      intro p1 hp1
      walk_at "go"
      have hk9 : k < 9 := hk
      rw [show (0 : Int) + (k : Int) = (k : Int) by omega]
      refine w_ixAL (SqL.of upd_same) (pow_at hk9) ?_
      walk_at "go"
      refine w_I (C := CDiv) (pow_b hk9) ?_
      walk_at "go"
      have e : bitI i (0 + (k : Int)) = decide (i / 2 ^ k % 2 = 1) := by
        rw [show (0 : Int) + (k : Int) = (k : Int) by omega]
        rfl
      rw [e] at q
      exact q _ (by walk_at "sm")
    · simp only [wipe, List.set_cons_zero, List.set_cons_succ]
      walk_at "go"
      exact q _ (Same.refl _)
    · exact q _ p sm hp hl
theorem mem_waits {i h : Int} : h ∈ waitsL i ↔ (0 ≤ h ∧ h ≤ 8) ∧ bitI i h = true := by
  unfold waitsL
  rw [List.mem_filter]
  refine and_congr ⟨fun q => ?_, fun q => ?_⟩ Iff.rfl
  · obtain ⟨j, h2, rfl⟩ := List.mem_map.mp q
    have h3 := List.mem_range.mp h2
    exact ⟨by omega, by omega⟩
  · exact List.mem_map.mpr ⟨h.toNat, List.mem_range.mpr (by omega), by omega⟩
theorem bit9 {i : Int} (h0 : 0 ≤ i) (h1 : i ≤ 511) : bitI i 9 = false := by
  unfold bitI
  have e : i / 2 ^ (9 : Int).toNat = 0 := Int.ediv_eq_zero_of_lt h0 (by show i < 512; omega)
  rw [e]
  decide
def spLLets (K : PySem.W.Frag) : Sp := fun vs H Q _ => ∃ (a : Addr) (i : Int), vs = [.ref a] ∧ SqL K H a ((waitsL i).map V.int) ∧ 0 ≤ i ∧ i ≤ 511 ∧ ∀ H' p, Same H H' → H p = none → H' p = some (.lst ((letsL i).map V.int)) → Q (.ref p) H'
theorem ok_llets (D : Dfn K mg "_law_lets" s__law_lets ["_law_waits_here"]) (n_range : mg "range" = none) : Cal P w K mg base CX0 1 "_law_lets" (spLLets K) := by
  refine D.cal sc__law_lets (fun vs H Q E h => ?_) (fun f cdv A outer s H vs Q E hr h => ?_)
  · obtain ⟨a, i, rfl, _⟩ := h
    rfl
  · obtain ⟨a, i, rfl, hs, i0, i1, q⟩ := h
    have nd := sc__law_lets.nd
    refine ⟨_, (pss_cons (ps_if (pt_cmpR (op_notInK K) pe_int (pv 0) (by rfl))
  (pss_one (ps_ret (pe_lst (pa_cons pe_int pa_nil))))
  pss_nil)
  (pss_one (ps_ret (pe_lc (own := [("_law_height", 1)]) (g := gName 1) rfl nd (pi_range2 (by rfl) n_range (pa_cons pe_int (pa_cons pe_int pa_nil))) (blkOk_by (N := ["_law_waits_here", "_law_height"]) (sc := defScope s__law_lets) (by decide +kernel)) (fun _ _ _ _ _ => (pg_name (i := 1) nd rfl (.inl rfl))) (fun _ _ _ _ _ => pts_one (pt_cmpR (op_notInK K) (pv 1) (pv 0) (by rfl))) (fun _ _ _ _ _ => (pv 1)))))), ?_⟩
    rw [show L2.start N__law_lets [V.ref a] = [some (V.ref a), none] from rfl]
    try dsimp only [cxOf]
    walk_at "go"
    refine w_inL hs rfl (flat_ints _) ?_
    walk_at "go"
    rw [inV_ints]
    refine iteND (fun hm => ?_) (fun hm => ?_)
    · walk_at "go"
      intro p hp
      refine q _ p (by walk_at "sm") hp ?_
      rw [upd_same]
      unfold letsL
      rw [if_neg (fun hb => hm (mem_waits.mpr ⟨⟨by decide, by decide⟩, hb⟩))]
      rfl
    · walk_at "go"
      intro p hp
      refine lcR (fun h => !bitI i h) V.int hp (by decide) (fun k H1 hk sm B q => ?_) (fun k H1 hk _ sm R q => ?_) fun H' sm hl => ?_
      · simp only [wipe, List.set_cons_zero, List.set_cons_succ]
        walk_at "go"
        refine w_inL (sm.seq hs) rfl (flat_ints _) ?_
        walk_at "go"
        have hk9 : k < 9 := hk
        have e : (!inV (V.int (1 + (k : Int))) ((waitsL i).map V.int)) = !bitI i (1 + (k : Int)) := by
          rw [inV_ints]
          congr 1
          by_cases h8 : (k : Int) = 8
          · rw [h8]
            rw [show (1 : Int) + 8 = 9 by decide, bit9 i0 i1]
            exact decide_eq_false fun z => by have := (mem_waits.mp z).1.2; omega
          · cases hb : bitI i (1 + (k : Int)) with
            | true => exact decide_eq_true (mem_waits.mpr ⟨⟨by omega, by omega⟩, hb⟩)
            | false => exact decide_eq_false fun z => by rw [(mem_waits.mp z).2] at hb; cases hb
        rw [e]
        exact q _ (Same.refl _)
      · simp only [wipe, List.set_cons_zero, List.set_cons_succ]
        walk_at "go"
        exact q _ (Same.refl _)
      · refine q _ p sm hp ?_
        rw [hl]
        unfold letsL
        rw [if_pos (mem_waits.mp hm).2]
        rfl
end
end K5
end
section
namespace K5
theorem waits_len (i : Int) : (waitsL i).length ≤ 9 := by
  unfold waitsL
  refine Nat.le_trans (List.length_filter_le _ _) ?_
  rw [frm_length]
  exact Nat.le_refl _
def posV : V → Bool
  | .int n => decide (0 < n)
  | _ => false
section
variable {P : Program} {w : World} {K : PySem.W.Frag} {mg : Str → Option Value} {base : Heap}
/-- the state behind a throw, by waits -/
def restL (i h : Int) : List Int := (waitsL i).filter (fun w => decide (0 < w)) ++ if 0 < h then [h] else []
def behindI (i h : Int) : Int := ((restL i h).map fun w => (2 : Int) ^ (w - 1).toNat).sum
theorem rest_len (i h : Int) : (restL i h).length ≤ 10 := by
  unfold restL
  have hz : (waitsL i).length ≤ 9 := waits_len i
  have h1 : ((waitsL i).filter (fun w => decide (0 < w))).length ≤ (waitsL i).length := List.length_filter_le _ _
  have h2 : (if 0 < h then [h] else []).length ≤ 1 := by split <;> simp
  rw [List.length_append]
  omega
theorem rest_bound {i h n : Int} (h0 : 0 ≤ h) (h9 : h ≤ 9) (hn : n ∈ restL i h) : 1 ≤ n ∧ n ≤ 9 := by
  unfold restL at hn
  rcases List.mem_append.mp hn with q | q
  · obtain ⟨q1, q2⟩ := List.mem_filter.mp q
    have q3 := (mem_waits.mp q1).1
    have q4 := of_decide_eq_true q2
    exact ⟨by omega, by omega⟩
  · split at q
    · have e := List.mem_singleton.mp q
      subst e
      exact ⟨by omega, h9⟩
    · cases q
def powV : V → V
  | .int w => .int (2 ^ (w - 1).toNat)
  | v => v
def spBehind (K : PySem.W.Frag) : Sp := fun vs H Q _ => ∃ (a : Addr) (i h : Int), vs = [.ref a, .int h] ∧ SqL K H a ((waitsL i).map V.int) ∧ 0 ≤ h ∧ h ≤ 9 ∧ ∀ H', Same H H' → Q (.int (behindI i h)) H'
theorem ok_behind (D : Dfn K mg "_law_behind" s__law_behind ["_law_waits_here", "_law_height"]) (n_int : mg "int" = none) (n_sum : mg "sum" = none) : Cal P w K mg base CX0 1 "_law_behind" (spBehind K) := by
  refine D.cal sc__law_behind (fun vs H Q E h => ?_) (fun f cdv A outer s H vs Q E hr h => ?_)
  · obtain ⟨a, i, h, rfl, _⟩ := h
    rfl
  · obtain ⟨a, i, h, rfl, hs, h0, h9, q⟩ := h
    have nd := sc__law_behind.nd
    refine ⟨_, (pss_cons (ps_set (i := 2) nd rfl (.inl rfl) (pe_op (op_addK K) (pe_lc (own := [("_law_wait", 3)]) (g := gName 3) rfl nd (pi_list (pv 0)) (blkOk_by (N := ["_law_waits_here", "_law_height", "_law_rest", "_law_wait"]) (sc := defScope s__law_behind) (by decide +kernel)) (fun _ _ _ _ _ => (pg_name (i := 3) nd rfl (.inl rfl))) (fun _ _ _ _ _ => pts_one (pt_cmpR op_gt (pv 3) pe_int (nomark _))) (fun _ _ _ _ _ => (pv 3))) (pe_op op_mulA (pe_lst (pa_cons (pv 1) pa_nil)) (pe_callTy call_int1 (by rfl) n_int (by decide +kernel) (pa_cons (pe_cmpR op_gt (pv 1) pe_int (nomark _)) pa_nil)))))
  (pss_one (ps_ret (pe_callB (cr_sumK K rfl) (by rfl) n_sum (by decide +kernel) (pa_cons (pe_lc (own := [("_law_wait", 3)]) (g := gName 3) (tt := tYes) rfl nd (pi_list (pv 2)) (blkOk_by (N := ["_law_waits_here", "_law_height", "_law_rest", "_law_wait"]) (sc := defScope s__law_behind) (by decide +kernel)) (fun _ _ _ _ _ => (pg_name (i := 3) nd rfl (.inl rfl))) (fun _ _ _ _ _ => pts_nil) (fun _ _ _ _ _ => (pe_ix (ix_seqK K) (pe_lst (pa_cons pe_int (pa_cons pe_int (pa_cons pe_int (pa_cons pe_int (pa_cons pe_int (pa_cons pe_int (pa_cons pe_int (pa_cons pe_int (pa_cons pe_int pa_nil)))))))))) (pe_op op_sub (pv 3) pe_int) (fun _ _ => rfl)))) pa_nil))))), ?_⟩
    rw [show L2.start N__law_behind [V.ref a, V.int h] = [some (V.ref a), some (V.int h), none, none] from rfl]
    try dsimp only [cxOf]
    walk_at "go"
    intro p hp
    have hf : ((waitsL i).map V.int).filter posV = ((waitsL i).filter (fun w => decide (0 < w))).map V.int := by
      rw [List.filter_map]
      rfl
    refine lcL posV id hp ?_ hs (fun j x H1 hx sm B q => ?_) (fun j x H1 hx _ sm R q => ?_) fun H1 sm hl => ?_
    · rw [List.length_map]
      exact Nat.le_trans (waits_len i) (by decide)
    · simp only [wipe, List.set_cons_zero, List.set_cons_succ]
      obtain ⟨n, hn, rfl⟩ := at_ints hx
      walk_at "go"
      exact q _ (Same.refl _)
    · simp only [wipe, List.set_cons_zero, List.set_cons_succ]
      walk_at "go"
      exact q _ (Same.refl _)
    · rw [hf, List.map_id] at hl
      obtain ⟨n, hn, n0, n1, hrep⟩ : ∃ n : Int, (if decide (0 < h) = true then (1 : Int) else 0) = n ∧ 0 ≤ n ∧ n ≤ 1 ∧ (List.replicate n.toNat [V.int h]).flatten = (if 0 < h then [h] else []).map V.int := by
        by_cases z : 0 < h
        · exact ⟨1, by rw [decide_eq_true z]; rfl, by decide, by decide, by rw [if_pos z]; rfl⟩
        · exact ⟨0, by rw [decide_eq_false z]; rfl, by decide, by decide, by rw [if_neg z]; rfl⟩
      walk_at "go"
      intro p2 hp2
      walk_at "go"
      · rw [hn]
        show 1 * n.toNat ≤ sizeLine
        exact Nat.le_trans (show 1 * n.toNat ≤ 1 by omega) (by decide)
      · rw [hn, hrep]
        intro p3 hp3
        walk_at "go"
        refine w_addL (xs := ((waitsL i).filter (fun w => decide (0 < w))).map V.int) (ys := (if 0 < h then [h] else []).map V.int) (by walk_at "sq") (by walk_at "sq") ?_ ?_
        · have hz : (waitsL i).length ≤ 9 := waits_len i
          have h1 : ((waitsL i).filter (fun w => decide (0 < w))).length ≤ (waitsL i).length := List.length_filter_le _ _
          have h2 : (if 0 < h then [h] else []).length ≤ 1 := by split <;> simp
          rw [List.length_map, List.length_map]
          exact Nat.le_trans (show _ ≤ 10 by omega) (by decide)
        · intro p4 hp4
          rw [← List.map_append]
          walk_at "go"
          intro p5 hp5
          refine lcL (fun _ => true) powV hp5 (xs := (restL i h).map V.int) ?_ (SqL.of upd_same) (fun j x H2 hx sm2 B q => ?_) (fun j x H2 hx _ sm2 R q => ?_) fun H2 sm2 hl2 => ?_
          · rw [List.length_map]
            exact Nat.le_trans (rest_len i h) (by decide)
          · simp only [wipe, List.set_cons_zero, List.set_cons_succ]
            walk_at "go"
            exact q _ (Same.refl _)
          · simp only [wipe, List.set_cons_zero, List.set_cons_succ]
            obtain ⟨n, hn2, rfl⟩ := at_ints hx
            have hb := rest_bound h0 h9 (List.mem_of_getElem? hn2)
            walk_at "go"
            intro p6 hp6
            walk_at "go"
            obtain ⟨j2, hj, hj9⟩ : ∃ j2 : Nat, n - 1 = (j2 : Int) ∧ j2 < 9 := ⟨(n - 1).toNat, by omega, by omega⟩
            refine w_ixAL (SqL.of upd_same) (by rw [hj]; exact pow_at hj9) ?_
            have e : powV (V.int n) = V.int (2 ^ j2) := by
              show V.int (2 ^ (n - 1).toNat) = _
              rw [hj]
              rfl
            rw [e] at q
            exact q _ (same_new hp6 (Same.refl _))
          · have e : (((restL i h).map V.int).filter fun _ => true).map powV = ((restL i h).map fun w => (2 : Int) ^ (w - 1).toNat).map V.int := by
              rw [List.filter_eq_self.mpr (fun _ _ => rfl), List.map_map, List.map_map]
              rfl
            rw [e] at hl2
            walk_at "go"
            refine w_sum (SqL.of hl2) ?_
            refine q H2 (Same.trans sm (Same.trans ?_ sm2))
            exact same_new hp4 (same_new hp3 (same_new hp2 (Same.refl _)))
end
end K5
end
section
namespace K5
theorem behind_all : ((List.range 512).all fun i => (List.range 10).all fun h => !decide ((h : Int) ∈ letsL (i : Int)) || decide (behindI (i : Int) (h : Int) = Builtin.bitOr (i : Int) (2 ^ h) / 2)) = true := by decide +kernel
theorem behind_is {i h : Int} (i0 : 0 ≤ i) (i1 : i ≤ 511) (hm : h ∈ letsL i) : behindI i h = Builtin.bitOr i (2 ^ h.toNat) / 2 := by
  have hb := letsL_bound hm
  have h1 := List.all_eq_true.mp behind_all i.toNat (List.mem_range.mpr (by omega))
  have h2 := List.all_eq_true.mp h1 h.toNat (List.mem_range.mpr (by omega))
  have e1 : ((i.toNat : Nat) : Int) = i := by omega
  have e2 : ((h.toNat : Nat) : Int) = h := by omega
  rw [e1, e2] at h2
  rw [decide_eq_true hm] at h2
  simpa using h2
end K5
end
section
namespace K5
section
variable {P : Program} {w : World} {K : PySem.W.Frag} {mg : Str → Option Value} {base : Heap}
structure Errs (K : PySem.W.Frag) (mg : Str → Option Value) (C0 CS CT : Addr) : Prop where
  e0 : Exn K mg "TossError" C0
  eS : Exn K mg "NoState" CS
  eT : Exn K mg "NoThrow" CT
  xS : PySem.W.exmOne K (.ref CS) (.ref C0) = some true
  xT : PySem.W.exmOne K (.ref CT) (.ref C0) = some true
  iS : PySem.W.kitOne K (.ref CS) (.type "int") = some false
  iT : PySem.W.kitOne K (.ref CT) (.type "int") = some false
  lS : PySem.W.kitOne K (.ref CS) (.type "list") = some false
  lT : PySem.W.kitOne K (.ref CT) (.type "list") = some false
  sS : PySem.W.kitOne K (.ref CS) (.ref CS) = some true
  sT : PySem.W.kitOne K (.ref CT) (.ref CS) = some false
  tS : PySem.W.kitOne K (.ref CS) (.ref CT) = some false
  tT : PySem.W.kitOne K (.ref CT) (.ref CT) = some true
def spTold (K : PySem.W.Frag) : Sp := fun vs H Q _ => ∃ b x t y u, vs = [.int b, x, y] ∧ Kd K H x t ∧ Kd K H y u ∧ flatV y = true ∧ (b = 0 ∧ ¬ okS x ∨ b = 1) ∧
  (∀ i h : Int, x = .int i → 0 ≤ i → i ≤ 511 → y = .int h → h ∈ letsL i → ∀ H', Same H H' → Q (.int (Builtin.bitOr i (2 ^ h.toNat) / 2)) H') ∧
  (∀ i : Int, x = .int i → 0 ≤ i → i ≤ 511 → (¬ ∃ h : Int, y = .int h ∧ h ∈ letsL i) → ∀ H', Same H H' → Q (.str "throw") H') ∧
  (¬ okS x → ∀ H', Same H H' → Q (.str "state") H')
def ToldM (b : Int) (x y : V) (H : Hp) (CS CT : Addr) : L2.St → Hp → Prop := fun σ' H' => ∃ v, σ' = [some (V.int b), some x, some y, some v, none] ∧ Same H H' ∧
      ((∃ i h : Int, x = .int i ∧ 0 ≤ i ∧ i ≤ 511 ∧ y = .int h ∧ h ∈ letsL i ∧ v = .int (Builtin.bitOr i (2 ^ h.toNat) / 2)) ∨
       (∃ a, v = .ref a ∧ H' a = some (ExK (.ref CS) none a) ∧ ¬ okS x) ∨
       (∃ (a : Addr) (i : Int), v = .ref a ∧ H' a = some (ExK (.ref CT) none a) ∧ x = .int i ∧ 0 ≤ i ∧ i ≤ 511 ∧ ¬ ∃ h : Int, y = .int h ∧ h ∈ letsL i))
theorem ok_told {C0 CS CT : Addr} (D : Dfn K mg "_law_told" s__law_told ["_law_by_way", "_law_state", "_law_height"]) (T : Errs K mg C0 CS CT) (c_lets : Cal P w K mg base (L2.CX P w) 3 "lets" (spLets K CS)) (c_thrown : Cal P w K mg base (L2.CX P w) 4 "thrown" (spThrown K CS CT))
    (n_isinstance : mg "isinstance" = none) (n_int : mg "int" = none) (n_list : mg "list" = none) : Cal P w K mg base CX0 5 "_law_told" (spTold K) := by
  refine D.cal sc__law_told (fun vs H Q E h => ?_) (fun f cdv A outer s H vs Q E hr h => ?_)
  · obtain ⟨b, x, t, y, u, rfl, _⟩ := h
    rfl
  · obtain ⟨b, x, t, y, u, rfl, kx, ky, fy, hb, q1, q2, q3⟩ := h
    have e_TossError := T.e0
    have v_NoState : ∃ u, mg "NoState" = some u ∧ RelV (.ref CS) u := ⟨_, T.eS.g, rfl⟩
    have v_NoThrow : ∃ u, mg "NoThrow" = some u ∧ RelV (.ref CT) u := ⟨_, T.eT.g, rfl⟩
    have nd := sc__law_told.nd
    refine ⟨_, (pss_cons (ps_set (i := 3) nd rfl (.inl rfl) pe_non)
  (C8.pss_cut (ps_try_keep (i := 4) rfl rfl rfl nd rfl rfl ⟨rfl, by decide, .inl e_TossError.g⟩ (fun W pn xe tk => (pss_one (ps_if (pt_cmpR (op_eqK K hr.units) (pv 0) pe_int (nomark _))
  (pss_one (ps_set (i := 3) nd rfl (.inl rfl) (pcS c_lets hr (by decide) tk (pa_cons (pv 1) pa_nil))))
  (pss_one (ps_set (i := 3) nd rfl (.inl rfl) (pcS c_thrown hr (by decide) tk (pa_cons (pv 1) (pa_cons (pv 2) pa_nil)))))))) (fun a oe cls d pn _ _ => (pss_one (ps_set (i := 3) nd rfl (.inl rfl) (pv 4)))))
  (pss_cons (ps_if (pt_val (pe_callB (call_isK_ K) (by rfl) n_isinstance (by decide +kernel) (pa_cons (pv 3) (pa_cons (pe_tup (pa_cons (pe_bltn (v := .ty "int") (by rfl) n_int (by decide +kernel) rfl) (pa_cons (pe_bltn (v := .ty "list") (by rfl) n_list (by decide +kernel) rfl) pa_nil))) pa_nil))))
  (pss_one (ps_ret (pv 3)))
  pss_nil)
  (pss_one (ps_ret (pe_ix (ix_seqK K) (pe_lst (pa_cons pe_str (pa_cons pe_str (pa_cons pe_str pa_nil)))) (pe_op (op_addK K) (pe_callTy call_int1 (by rfl) n_int (by decide +kernel) (pa_cons (pe_callB (call_isK_ K) (by rfl) n_isinstance (by decide +kernel) (pa_cons (pv 3) (pa_cons (pgl v_NoState) pa_nil))) pa_nil)) (pe_op op_mulA pe_int (pe_callTy call_int1 (by rfl) n_int (by decide +kernel) (pa_cons (pe_callB (call_isK_ K) (by rfl) n_isinstance (by decide +kernel) (pa_cons (pv 3) (pa_cons (pgl v_NoThrow) pa_nil))) pa_nil)))) (fun _ _ => rfl))))))), ?_⟩
    rw [show L2.start N__law_told [V.int b, x, y] = [some (V.int b), some (x), some (y), none, none] from rfl]
    try dsimp only [cxOf]
    walk_at "go"
    refine w_cut (ToldM b x y H CS CT) ?_ (fun σ' H' hM => ?_)
    · walk_at "go"
      have keepS : ¬ okS x → ∀ H1, Same H H1 → wKeep K (Value.ref C0) 4 (fun a cls d => tAsg (tVar 4) (gName 3)) ⟨ToldM b x y H CS CT, Q, fun _ _ => False, fun _ _ => False⟩ (.ref CS) none [some (V.int b), some x, some y, some V.non, none] H1 := by
        intro hx H1 sm
        refine ⟨T.xS, fun a ha => ?_⟩
        dsimp only [List.set_cons_zero, List.set_cons_succ]
        walk_at "go"
        intro ha2
        exact ⟨_, rfl, same_new ha sm, .inr (.inl ⟨a, rfl, upd_same, hx⟩)⟩
      refine iteD (fun h0 => ?_) (fun h0 => ?_)
      · have hx : ¬ okS x := by
          rcases hb with hb | hb
          · exact hb.2
          · omega
        walk_at "go"
        refine ⟨x, t, rfl, kx, fun i e e0 e1 => absurd ⟨i, e, e0, e1⟩ hx, fun _ => ?_⟩
        exact keepS hx H (Same.refl _)
      · walk_at "go"
        refine ⟨x, t, y, u, rfl, kx, ky, fy, fun i h e i0 i1 e2 hm H1 sm => ?_, fun hx H1 sm => keepS hx H1 sm, fun i e i0 i1 hn H1 sm => ?_⟩
        · exact ⟨_, rfl, sm, .inl ⟨i, h, e, i0, i1, e2, hm, rfl⟩⟩
        · refine ⟨T.xT, fun a ha => ?_⟩
          dsimp only [List.set_cons_zero, List.set_cons_succ]
          walk_at "go"
          intro ha2
          exact ⟨_, rfl, same_new ha sm, .inr (.inr ⟨a, i, rfl, upd_same, e, i0, i1, hn⟩)⟩
    · obtain ⟨v, rfl, sm, hv⟩ := hM
      walk_at "go"
      intro p hp
      walk_at "go"
      rcases hv with ⟨i, h, e1, i0, i1, e2, hm, rfl⟩ | ⟨a, rfl, ha, hx⟩ | ⟨a, i, rfl, ha, e1, i0, i1, hn⟩
      · refine w_isIntList (.int _) upd_same ?_
        dsimp only [intV]
        walk_at "go"
        exact q1 i h e1 i0 i1 e2 hm _ (same_new hp sm)
      · refine w_isK2 (hln hp ha) T.eS.ec upd_same (.ty _) (.ty _) T.iS T.lS ?_
        walk_at "go"
        intro p2 hp2
        walk_at "go"
        refine w_isK (hln hp2 (hln hp ha)) T.eS.ec (.own _) T.sS ?_
        walk_at "go"
        refine w_isK (hln hp2 (hln hp ha)) T.eS.ec (.own _) T.tS ?_
        walk_at "go"
        refine w_ixAL (SqL.of upd_same) (v := .str "state") rfl ?_
        exact q3 hx _ (same_new hp2 (same_new hp sm))
      · refine w_isK2 (hln hp ha) T.eT.ec upd_same (.ty _) (.ty _) T.iT T.lT ?_
        walk_at "go"
        intro p2 hp2
        walk_at "go"
        refine w_isK (hln hp2 (hln hp ha)) T.eT.ec (.own _) T.sT ?_
        walk_at "go"
        refine w_isK (hln hp2 (hln hp ha)) T.eT.ec (.own _) T.tT ?_
        walk_at "go"
        refine w_ixAL (SqL.of upd_same) (v := .str "throw") rfl ?_
        exact q2 i e1 i0 i1 hn _ (same_new hp2 (same_new hp sm))
end
end K5
end
section
namespace K5
section
variable {P : Program} {w : World} {K : PySem.W.Frag} {mg : Str → Option Value} {base : Heap}
theorem lets_ne {s : Int} (h0 : 0 ≤ s) (h1 : s ≤ 511) : letsL s ≠ [] := by
  intro h
  unfold letsL at h
  split at h
  · have m : (9 : Int) ∈ (frm 1 9).filter fun h => !bitI s h := List.mem_filter.mpr ⟨List.mem_map.mpr ⟨8, by decide, rfl⟩, by rw [bit9 h0 h1]; rfl⟩
    rw [h] at m
    cases m
  · cases h
theorem lets_len (s : Int) : (letsL s).length ≤ 9 := by
  unfold letsL
  split
  · refine Nat.le_trans (List.length_filter_le _ _) ?_
    rw [frm_length]
    exact Nat.le_refl _
  · exact (by decide : 1 ≤ 9)
def spLaw (K : PySem.W.Frag) : Sp := fun vs H Q _ => ∃ (a : Addr) (ns : List Int), vs = [.ref a] ∧ SqL K H a (ns.map V.int) ∧ ns.length ≤ 63 ∧ ∀ H', Q (.bl true) H'
theorem ok_law {C0 CS CT : Addr} {f : Addr} {fd : FuncData} (F : Fun K "law" "law" s_law f fd) (T : Errs K mg C0 CS CT) (c__law_mixed : Cal P w K mg base CX0 1 "_law_mixed" spMixed) (c_lets : Cal P w K mg base (L2.CX P w) 3 "lets" (spLets K CS)) (c__law_waits : Cal P w K mg base CX0 1 "_law_waits" (spWaits K)) (c__law_lets : Cal P w K mg base CX0 1 "_law_lets" (spLLets K))
    (c__law_behind : Cal P w K mg base CX0 1 "_law_behind" (spBehind K)) (c__law_told : Cal P w K mg base CX0 5 "_law_told" (spTold K))
    (n_isinstance : mg "isinstance" = none) (n_int : mg "int" = none) (n_bool : mg "bool" = none) (n_list : mg "list" = none) (n_enumerate : mg "enumerate" = none) (n_range : mg "range" = none) (n_len : mg "len" = none) : FnOk P w K mg base CX0 6 f fd ["_law_script"] (spLaw K) := by
  refine F.ok sc_law (fun vs H Q E h => ?_) (fun cdv A outer s H vs Q E hr h => ?_)
  · obtain ⟨a, ns, rfl, _⟩ := h
    rfl
  · obtain ⟨a, ns, rfl, hs, hl, q⟩ := h
    have nd := sc_law.nd
    refine ⟨_, (pss_cons (ps_for PassesOwn.never rfl (pi_enum (by rfl) n_enumerate (pa_cons (pe_op (op_addK K) (pv 0) (pe_lst (pa_cons pe_int (pa_cons pe_int (pa_cons pe_int pa_nil))))) pa_nil)) (pg_tup rfl (pgs_cons (pg_name (i := 1) nd rfl (.inl rfl)) (pgs_cons (pg_name (i := 2) nd rfl (.inl rfl)) pgs_nil)))
  (pss_cons (ps_set (i := 3) nd rfl (.inl rfl) (pc0 c__law_mixed hr (by decide) (pa_cons (pv 2) (pa_cons (pv 1) pa_nil))))
  (pss_cons (ps_set (i := 4) nd rfl (.inl rfl) (pe_op op_mod (pv 3) pe_int))
  (pss_cons (ps_set (i := 5) nd rfl (.inl rfl) (pe_ix (ix_seqK K) (pe_lst (pa_cons (pe_op (op_addK K) pe_int (pe_op op_mod (pe_op op_fdiv (pv 3) pe_int) (pe_op op_pow pe_int pe_int))) (pa_cons (pe_op op_sub (pe_un un_neg pe_int) (pe_op op_mod (pe_op op_fdiv (pv 3) pe_int) pe_int)) (pa_cons pe_bl (pa_cons pe_non (pa_cons pe_str (pa_cons (pe_lst (pa_cons pe_int pa_nil)) (pa_cons pe_bl (pa_cons pe_int pa_nil))))))))) (pe_op op_mod (pe_op op_fdiv (pv 3) pe_int) pe_int) (fun _ _ => rfl)))
  (pss_cons (ps_set (i := 6) nd rfl (.inl rfl) (pc0 c__law_waits hr (by decide) (pa_cons (pv 4) pa_nil)))
  (pss_cons (ps_set (i := 7) nd rfl (.inl rfl) (pc0 c__law_lets hr (by decide) (pa_cons (pv 6) pa_nil)))
  (pss_cons (ps_set (i := 8) nd rfl (.inl rfl) (pe_ix (ix_seqK K) (pe_op (op_addK K) (pe_listRg rfl (by rfl) n_list (prg_1 (by rfl) n_range pe_int)) (pe_lst (pa_cons pe_int (pa_cons (pe_un un_neg pe_int) (pa_cons pe_non (pa_cons pe_bl (pa_cons pe_str (pa_cons (pe_op op_pow pe_int pe_int) pa_nil)))))))) (pe_op op_mod (pe_op op_fdiv (pv 3) pe_int) pe_int) (fun _ _ => rfl)))
  (C8.pss_cut (ps_if (pt_cmpR (op_eqK K hr.units) (pe_op op_mod (pe_op op_fdiv (pv 3) pe_int) pe_int) pe_int (nomark _))
  (pss_one (ps_set (i := 8) nd rfl (.inl rfl) (pe_ix (ix_seqK K) (pv 7) (pe_op op_mod (pe_op op_fdiv (pv 3) pe_int) (pe_callB (call_lenK K) (by rfl) n_len PySem.boot_len (pa_cons (pv 7) pa_nil))) (fun _ _ => rfl))))
  pss_nil)
  (pss_cons (ps_set (i := 9) nd rfl (.inl rfl) (pcN c_lets hr (by decide) (pa_cons (pv 4) pa_nil)))
  (pss_cons (ps_if (pt_cmpR (op_neK K hr.units) (pv 9) (pv 7) (nomark _))
  (pss_one (ps_ret pe_bl))
  pss_nil)
  (pss_cons (ps_expr (pe_bm PySem.F.plainAttrs_list PySem.F.slot_list_append PySem.F.type_list_append mt_append (pv 9) (pa_cons pe_int pa_nil)))
  (C8.pss_cut (ps_set (i := 10) nd rfl (.inl rfl) (pe_and (pe_callB (call_isK_ K) (by rfl) n_isinstance (by decide +kernel) (pa_cons (pv 8) (pa_cons (pe_bltn (v := .ty "int") (by rfl) n_int (by decide +kernel) rfl) pa_nil))) (pe_and (pe_not (pe_callB (call_isK_ K) (by rfl) n_isinstance (by decide +kernel) (pa_cons (pv 8) (pa_cons (pe_bltn (v := .ty "bool") (by rfl) n_bool (by decide +kernel) rfl) pa_nil)))) (pe_one (pe_cmpR (op_inK K) (pv 8) (pv 7) (by rfl))))))
  (pss_cons (ps_set (i := 11) nd rfl (.inl rfl) (pe_ix (ix_seqK K) (pe_lst (pa_cons pe_str (pa_cons pe_int pa_nil))) (pe_callTy call_int1 (by rfl) n_int (by decide +kernel) (pa_cons (pv 10) pa_nil)) (fun _ _ => rfl)))
  (C8.pss_cut (ps_if (pt_val (pv 10))
  (pss_one (ps_set (i := 11) nd rfl (.inl rfl) (pc0 c__law_behind hr (by decide) (pa_cons (pv 6) (pa_cons (pv 8) pa_nil)))))
  pss_nil)
  (C8.pss_cut (ps_if (PW.pt (pw_or (pt_cmpR (op_neK K hr.units) (pc0 c__law_told hr (by decide) (pa_cons pe_int (pa_cons (pv 4) (pa_cons (pv 8) pa_nil)))) (pv 11) (nomark _)) (pw_or1 (pt_cmpR (op_neK K hr.units) (pcN c_lets hr (by decide) (pa_cons (pv 4) pa_nil)) (pv 7) (nomark _)))))
  (pss_one (ps_ret pe_bl))
  pss_nil)
  (pss_one (ps_if (PW.pt (pw_or (pt_cmpR (op_neK K hr.units) (pc0 c__law_told hr (by decide) (pa_cons pe_int (pa_cons (pv 5) (pa_cons pe_int pa_nil)))) pe_str (nomark _)) (pw_or1 (pt_cmpR (op_neK K hr.units) (pc0 c__law_told hr (by decide) (pa_cons pe_int (pa_cons (pv 5) (pa_cons (pv 8) pa_nil)))) pe_str (nomark _)))))
  (pss_one (ps_ret pe_bl))
  pss_nil)))))))))))))))))
  (pss_one (ps_ret pe_bl))), ?_⟩
    rw [show L2.start N_law [V.ref a] = [some (V.ref a), none, none, none, none, none, none, none, none, none, none, none] from rfl]
    try dsimp only [cxOf]
    walk_at "go"
    intro p0 hp0
    walk_at "go"
    refine w_addL (xs := ns.map V.int) (by walk_at "sq") (SqL.of upd_same) ?_ ?_
    · rw [List.length_map]
      exact Nat.le_trans (show _ ≤ 66 by show ns.length + 3 ≤ 66; omega) (by decide)
    · intro p1 hp1
      walk_at "go"
      refine for_enum (xs := ns.map V.int ++ [.int 0, .int 1, .int 2]) (fun i σ H' => Same H H' ∧ SqL K H' p1 (ns.map V.int ++ [.int 0, .int 1, .int 2]) ∧ ∃ y1 y2 y3 y4 y5 y6 y7 y8 y9 y10 y11, σ = [some (.ref a), y1, y2, y3, y4, y5, y6, y7, y8, y9, y10, y11]) ?_ (fun i σ H' _ hP => hP.2.1) (fun i x σ H' T' hx hP hT => ?_) (fun σ H' hP => ?_)
      · exact ⟨same_new hp1 (same_new hp0 (Same.refl _)), SqL.of upd_same, _, _, _, _, _, _, _, _, _, _, _, rfl⟩
      · obtain ⟨sm0, hq, y1, y2, y3, y4, y5, y6, y7, y8, y9, y10, y11, rfl⟩ := hP
        obtain ⟨c, rfl⟩ : ∃ c : Int, x = .int c := by
          have e : ns.map V.int ++ [.int 0, .int 1, .int 2] = (ns ++ [0, 1, 2]).map V.int := by
            rw [List.map_append]
            rfl
          rw [e] at hx
          obtain ⟨c, _, e2⟩ := at_ints hx
          exact ⟨c, e2⟩
        refine w_gtup2 upd_same ?_
        dsimp only [List.set_cons_zero, List.set_cons_succ]
        walk_at "go"
        refine ⟨c, _, rfl, ?_⟩
        obtain ⟨d, hd⟩ : ∃ d, d = mixed c (i : Int) := ⟨_, rfl⟩
        have d0 : 0 ≤ d := by rw [hd]; exact mixed_nn _ _
        have d1 : d < 2147483629 := by rw [hd]; exact mixed_lt _ _
        rw [← hd]
        have sm1 : Same H (upd H' T' (.tup [.int (i : Int), .int c])) := same_new hT sm0
        have hq1 : SqL K (upd H' T' (.tup [.int (i : Int), .int c])) p1 (ns.map V.int ++ [.int 0, .int 1, .int 2]) := sqn hT hq
        generalize upd H' T' (.tup [.int (i : Int), .int c]) = H1 at sm1 hq1 ⊢
        walk_at "go"
        intro p2 hp2
        generalize hX : upd H1 p2 _ = H2
        obtain ⟨s2, l2⟩ := new_at hp2 hX
        clear hX
        walk_at "go"
        intro p3 hp3
        generalize hX : upd H2 p3 _ = H3
        obtain ⟨s3, l3⟩ := new_at hp3 hX
        clear hX
        walk_at "go"
        have g0 : 0 ≤ d / 512 % 10 ^ Int.toNat 20 := Int.emod_nonneg _ (by decide)
        obtain ⟨vn, hvn, mvn⟩ := pick (xs := [V.int (512 + d / 512 % 10 ^ Int.toNat 20), V.int (-1 - d / 512 % 99), V.bl true, V.non, V.str "5", V.ref p2, V.bl false, V.int 512]) (n := d / 512 % 8) (by omega) (by show _ < (8 : Int); omega)
        obtain ⟨tn, kn, bn⟩ : ∃ t, Kd K H2 vn t ∧ ¬ okS vn := by
          simp only [List.mem_cons, List.not_mem_nil, or_false] at mvn
          rcases mvn with rfl | rfl | rfl | rfl | rfl | rfl | rfl | rfl
          · exact ⟨_, .int _, fun ⟨j, e, _, z⟩ => by cases e; omega⟩
          · exact ⟨_, .int _, fun ⟨j, e, z, _⟩ => by cases e; omega⟩
          · exact ⟨_, .bl _, fun ⟨j, e, z, _⟩ => by cases e⟩
          · exact ⟨_, .non, fun ⟨j, e, z, _⟩ => by cases e⟩
          · exact ⟨_, .str _, fun ⟨j, e, z, _⟩ => by cases e⟩
          · exact ⟨_, .lst (SqL.of l2), fun ⟨j, e, z, _⟩ => by cases e⟩
          · exact ⟨_, .bl _, fun ⟨j, e, z, _⟩ => by cases e⟩
          · exact ⟨_, .int _, fun ⟨j, e, _, z⟩ => by cases e; omega⟩
        refine w_ixAL (SqL.of l3) hvn ?_
        have kn3 := kn.same s3
        have sm3 := (sm1.trans s2).trans s3
        have hq3 := s3.seq (s2.seq hq1)
        clear l3 l2 s2 s3 kn hp2 hp3 sm1 hq1
        obtain ⟨st, hst, t0, t1⟩ : ∃ st, st = d % 512 ∧ 0 ≤ st ∧ st ≤ 511 := ⟨_, rfl, by omega, by omega⟩
        rw [← hst]
        walk_at "go"
        refine ⟨st, rfl, t0, fun H4 p4 s4 hp4 l4 => ?_⟩
        walk_at "go"
        refine ⟨p4, st, rfl, SqL.of l4, t0, t1, fun H5 p5 s5 hp5 l5 => ?_⟩
        walk_at "go"
        refine ⟨RgOk.of_le (by decide) (by decide) (by decide) (by decide), fun p6 hp6 => ?_⟩
        generalize hX : upd H5 p6 _ = H6
        obtain ⟨s6, l6⟩ := new_at hp6 hX
        clear hX
        walk_at "go"
        intro p7 hp7
        generalize hX : upd H6 p7 _ = H7
        obtain ⟨s7, l7⟩ := new_at hp7 hX
        clear hX
        walk_at "go"
        refine w_addL (SqL.of (s7 _ _ l6)) (SqL.of l7) (by show (16 : Nat) ≤ sizeLine; decide) fun p8 hp8 => ?_
        generalize hX : upd H7 p8 _ = H8
        obtain ⟨s8, l8⟩ := new_at hp8 hX
        clear hX
        walk_at "go"
        obtain ⟨vh, hvh, mvh⟩ := pick (xs := rgV 0 10 ++ [V.int 10, V.int (-1), V.non, V.bl true, V.str "1", V.int (10 ^ Int.toNat 20)]) (n := d / 4096 % 16) (by omega) (by show _ < (16 : Int); omega)
        have fh : flatV vh = true := by
          rcases List.mem_append.mp mvh with z | z
          · obtain ⟨j, _, rfl⟩ := List.mem_map.mp z
            rfl
          · simp only [List.mem_cons, List.not_mem_nil, or_false] at z
            rcases z with rfl | rfl | rfl | rfl | rfl | rfl <;> rfl
        refine w_ixAL (SqL.of l8) hvh ?_
        have sm8 := ((((sm3.trans s4).trans s5).trans s6).trans s7).trans s8
        have hq8 := s8.seq (s7.seq (s6.seq (s5.seq (s4.seq hq3))))
        have w8 : SqL K H8 p4 ((waitsL st).map V.int) := s8.seq (s7.seq (s6.seq (s5.seq (SqL.of l4))))
        have u8 : SqL K H8 p5 ((letsL st).map V.int) := s8.seq (s7.seq (s6.seq (SqL.of l5)))
        have kn8 : Kd K H8 vn tn := ((((kn3.same s4).same s5).same s6).same s7).same s8
        clear l8 l7 l6 l5 l4 hp8 hp7 hp6 hp5 hp4 s8 s7 s6 s5 s4 sm3 hq3 kn3 mvh hvh mvn hvn
        walk_at "go"
        refine w_cut (fun σ' H' => H' = H8 ∧ ∃ vh, flatV vh = true ∧ σ' = [some (V.ref a), some (V.int (i : Int)), some (V.int c), some (V.int d), some (V.int st), some vn, some (V.ref p4), some (V.ref p5), some vh, y9, y10, y11]) ?_ (fun σ' H' hM => ?_)
        · walk_at "go"
          refine iteD (fun h1 => ?_) (fun h1 => ?_)
          · walk_at "go"
            refine w_lenL u8 ?_
            have nz : letsL st ≠ [] := lets_ne t0 t1
            have lz : 0 < (letsL st).length := List.length_pos_iff.mpr nz
            have lz2 : 0 < ((((letsL st).map V.int).length : Nat) : Int) := by
              rw [List.length_map]
              omega
            walk_at "go"
            obtain ⟨v2, hv2, mv2⟩ := pick (xs := (letsL st).map V.int) (n := d / 131072 % (((letsL st).map V.int).length : Nat)) (Int.emod_nonneg _ (by omega)) (Int.emod_lt_of_pos _ lz2)
            refine w_ixAL u8 hv2 ?_
            refine ⟨rfl, v2, ?_, rfl⟩
            obtain ⟨z, _, rfl⟩ := List.mem_map.mp mv2
            rfl
          · walk_at "go"
            exact ⟨rfl, vh, fh, rfl⟩
        · obtain ⟨rfl, vh, fh, rfl⟩ := hM
          walk_at "go"
          refine ⟨.int st, _, rfl, .int _, fun j e j0 j1 H9 p9 s9 hp9 l9 => ?_, fun hx => absurd ⟨st, rfl, t0, t1⟩ hx⟩
          cases e
          walk_at "go"
          refine w_neAL (SqL.of l9) (s9.seq u8) ?_
          rw [decide_eq_true rfl]
          walk_at "go"
          refine ⟨tyV_list (SqL.of l9), ?_⟩
          walk_at "go"
          refine w_append l9 ?_ ?_
          · rw [List.length_map]
            exact Nat.lt_of_le_of_lt (lets_len st) (by decide)
          · have sA := same_mut (o := HO.lst ((letsL st).map V.int ++ [V.int 7])) hp9 s9
            generalize upd H9 p9 _ = HA at sA ⊢
            have smA := sm8.trans sA
            have hqA := sA.seq hq8
            have wA := sA.seq w8
            have uA := sA.seq u8
            have knA := kn8.same sA
            clear s9 sA l9 hp9 sm8 hq8 w8 u8 kn8
            obtain ⟨th, kh⟩ := Kd.flat (K := K) (H := HA) fh
            walk_at "go"
            refine w_cut (fun σ' H' => ∃ g : Bool, H' = HA ∧ (g = true ↔ ∃ z : Int, vh = .int z ∧ z ∈ letsL st) ∧ σ' = [some (V.ref a), some (V.int (i : Int)), some (V.int c), some (V.int d), some (V.int st), some vn, some (V.ref p4), some (V.ref p5), some vh, some (V.ref p9), some (V.bl g), y11]) ?_ (fun σ' H' hM => ?_)
            · walk_at "go"
              refine w_isInt kh ?_
              have fin : ∀ g : Bool, (g = true ↔ ∃ z : Int, vh = .int z ∧ z ∈ letsL st) → ∃ g', HA = HA ∧ (g' = true ↔ ∃ z : Int, vh = .int z ∧ z ∈ letsL st) ∧ [some (V.ref a), some (V.int (i : Int)), some (V.int c), some (V.int d), some (V.int st), some vn, some (V.ref p4), some (V.ref p5), some vh, some (V.ref p9), some (V.bl g), y11] = [some (V.ref a), some (V.int (i : Int)), some (V.int c), some (V.int d), some (V.int st), some vn, some (V.ref p4), some (V.ref p5), some vh, some (V.ref p9), some (V.bl g'), y11] := fun g hg => ⟨g, rfl, hg, rfl⟩
              cases vh with
              | int z =>
                dsimp only [intV]
                walk_at "go"
                refine w_isBool kh ?_
                dsimp only [boolV]
                walk_at "go"
                refine w_inL uA rfl (flat_ints _) ?_
                rw [if_neg Bool.false_ne_true, inV_ints]
                refine fin _ ?_
                rw [decide_eq_true_eq]
                exact ⟨fun h => ⟨z, rfl, h⟩, fun ⟨z', e, h⟩ => by cases e; exact h⟩
              | bl b =>
                dsimp only [intV]
                walk_at "go"
                refine w_isBool kh ?_
                dsimp only [boolV]
                walk_at "go"
                exact fin _ ⟨fun h => (nomatch h), fun ⟨z', e, h⟩ => by cases e⟩
              | _ =>
                dsimp only [intV]
                walk_at "go"
                exact fin _ ⟨fun h => (nomatch h), fun ⟨z', e, h⟩ => by cases e⟩
            · obtain ⟨g, rfl, hg, rfl⟩ := hM
              walk_at "go"
              intro p10 hp10
              generalize hX : upd _ p10 _ = HB
              obtain ⟨sB, lB⟩ := new_at hp10 hX
              clear hX
              walk_at "go"
              refine w_ixAL (SqL.of lB) (v := if g = true then .int 0 else .str "throw") (by cases g <;> rfl) ?_
              have smB := smA.trans sB
              have hqB := sB.seq hqA
              have wB := sB.seq wA
              have uB := sB.seq uA
              have knB := knA.same sB
              have khB := kh.same sB
              clear hp10 lB sB smA hqA wA uA knA kh
              refine w_cut (fun σ' H' => ∃ v, Same HB H' ∧ ((∃ z : Int, vh = .int z ∧ z ∈ letsL st ∧ v = .int (Builtin.bitOr st (2 ^ z.toNat) / 2)) ∨ ((¬ ∃ z : Int, vh = .int z ∧ z ∈ letsL st) ∧ v = .str "throw")) ∧
                σ' = [some (V.ref a), some (V.int (i : Int)), some (V.int c), some (V.int d), some (V.int st), some vn, some (V.ref p4), some (V.ref p5), some vh, some (V.ref p9), some (V.bl g), some v]) ?_ (fun σ' H' hM => ?_)
              · walk_at "go"
                refine iteB (fun hgt => ?_) (fun hgt => ?_)
                · obtain ⟨z, rfl, hz⟩ := hg.mp hgt
                  have hb := letsL_bound hz
                  walk_at "go"
                  refine ⟨p4, st, z, rfl, wB, hb.1, hb.2, fun H' s' => ?_⟩
                  rw [behind_is t0 t1 hz]
                  exact ⟨_, s', .inl ⟨z, rfl, hz, rfl⟩, rfl⟩
                · walk_at "go"
                  rw [hgt]
                  exact ⟨_, Same.refl _, .inr ⟨fun h => (by rw [hg.mpr h] at hgt; cases hgt), rfl⟩, rfl⟩
              · obtain ⟨v, sC, hv, rfl⟩ := hM
                have smC := smB.trans sC
                have hqC := sC.seq hqB
                have uC := sC.seq uB
                have knC := knB.same sC
                have khC := khB.same sC
                clear sC smB hqB wB uB knB khB
                refine w_cut (fun σ' H'' => Same H' H'' ∧ σ' = [some (V.ref a), some (V.int (i : Int)), some (V.int c), some (V.int d), some (V.int st), some vn, some (V.ref p4), some (V.ref p5), some vh, some (V.ref p9), some (V.bl g), some v]) ?_ (fun σ' H'' hM => ?_)
                · walk_at "go"
                  have nst : okS (.int st) := ⟨st, rfl, t0, t1⟩
                  rcases hv with ⟨z, e1, hz, rfl⟩ | ⟨hn, rfl⟩
                  · refine ⟨1, .int st, _, vh, th, rfl, .int _, khC, fh, .inr rfl, fun j h' e j0 j1 e' hm H1 s1 => ?_, fun j e j0 j1 hn => absurd ⟨z, e1, by cases e; exact hz⟩ hn, fun hn => absurd nst hn⟩
                    cases e
                    rw [e1] at e'
                    cases e'
                    walk_at "go"
                    rw [decide_eq_true rfl]
                    walk_at "go"
                    refine ⟨.int st, _, rfl, .int _, fun j e j0 j1 H9 p9 s9 hp9 l9 => ?_, fun hx => absurd nst hx⟩
                    cases e
                    walk_at "go"
                    refine w_neAL (SqL.of l9) (s9.seq (s1.seq uC)) ?_
                    rw [decide_eq_true rfl]
                    walk_at "go"
                    exact ⟨s1.trans s9, rfl⟩
                  · refine ⟨1, .int st, _, vh, th, rfl, .int _, khC, fh, .inr rfl, fun j h' e j0 j1 e' hm H1 s1 => absurd ⟨h', e', by cases e; exact hm⟩ hn, fun j e j0 j1 _ H1 s1 => ?_, fun hn => absurd nst hn⟩
                    walk_at "go"
                    refine w_neAS rfl ?_
                    rw [decide_eq_true rfl]
                    walk_at "go"
                    refine ⟨.int st, _, rfl, .int _, fun j e j0 j1 H9 p9 s9 hp9 l9 => ?_, fun hx => absurd nst hx⟩
                    cases e
                    walk_at "go"
                    refine w_neAL (SqL.of l9) (s9.seq (s1.seq uC)) ?_
                    rw [decide_eq_true rfl]
                    walk_at "go"
                    exact ⟨s1.trans s9, rfl⟩
                · obtain ⟨sD, rfl⟩ := hM
                  walk_at "go"
                  refine ⟨0, vn, tn, .int 1, _, rfl, knC.same sD, .int _, rfl, .inl ⟨rfl, bn⟩, fun j h' e j0 j1 => absurd ⟨j, e, j0, j1⟩ bn, fun j e j0 j1 => absurd ⟨j, e, j0, j1⟩ bn, fun _ H1 s1 => ?_⟩
                  walk_at "go"
                  refine w_neAS rfl ?_
                  rw [decide_eq_true rfl]
                  walk_at "go"
                  refine ⟨1, vn, tn, vh, th, rfl, (knC.same sD).same s1, (khC.same sD).same s1, fh, .inr rfl, fun j h' e j0 j1 => absurd ⟨j, e, j0, j1⟩ bn, fun j e j0 j1 => absurd ⟨j, e, j0, j1⟩ bn, fun _ H2 s2 => ?_⟩
                  walk_at "go"
                  refine w_neAS rfl ?_
                  rw [decide_eq_true rfl]
                  walk_at "go"
                  exact ⟨((smC.trans sD).trans s1).trans s2, s2.seq (s1.seq (sD.seq hqC)), _, _, _, _, _, _, _, _, _, _, _, rfl⟩
      · walk_at "go"
        exact q _
end
end K5
end
section
/-! ### what the top has written; the law's own head -/
theorem K5.all_mk {l : PySem.W.OpenLaw} {w : World} {K : PySem.W.Frag} {h : Heap} {mg : Str → Option Value} {fa : Addr} (X : K.In h) (G : h.Ns mainGlobals mg) (hfa : mg "law" = some (.ref fa))
    {f0 : Addr} {oc0 kV0 doc0 pm0 cd0 ct0 : Value} {od0 an0 : Option Addr} {sl0 : Array (Option Value)} {f1 : Addr} {oc1 kV1 doc1 pm1 cd1 ct1 : Value} {od1 an1 : Option Addr} {sl1 : Array (Option Value)} {f2 : Addr} {oc2 kV2 doc2 pm2 cd2 ct2 : Value} {od2 an2 : Option Addr} {sl2 : Array (Option Value)} {f3 : Addr} {oc3 kV3 doc3 pm3 cd3 ct3 : Value} {od3 an3 : Option Addr} {sl3 : Array (Option Value)} {f4 : Addr} {oc4 kV4 doc4 pm4 cd4 ct4 : Value} {od4 an4 : Option Addr} {sl4 : Array (Option Value)} {f5 : Addr} {oc5 kV5 doc5 pm5 cd5 ct5 : Value} {od5 an5 : Option Addr} {sl5 : Array (Option Value)} {f6 : Addr} {oc6 kV6 doc6 pm6 cd6 ct6 : Value} {od6 an6 : Option Addr} {sl6 : Array (Option Value)} {f7 : Addr} {oc7 kV7 doc7 pm7 cd7 ct7 : Value} {od7 an7 : Option Addr} {sl7 : Array (Option Value)} {f8 : Addr} {oc8 kV8 doc8 pm8 cd8 ct8 : Value} {od8 an8 : Option Addr} {sl8 : Array (Option Value)} {f9 : Addr} {oc9 kV9 doc9 pm9 cd9 ct9 : Value} {od9 an9 : Option Addr} {sl9 : Array (Option Value)} {f10 : Addr} {oc10 kV10 doc10 pm10 cd10 ct10 : Value} {od10 an10 : Option Addr} {sl10 : Array (Option Value)} {f11 : Addr} {oc11 kV11 doc11 pm11 cd11 ct11 : Value} {od11 an11 : Option Addr} {sl11 : Array (Option Value)} {f12 : Addr} {oc12 kV12 doc12 pm12 cd12 ct12 : Value} {od12 an12 : Option Addr} {sl12 : Array (Option Value)} {C0 : Addr} {CS : Addr} {CT : Addr} {u0 : Value} {u1 : Value}
    (a0 : PySem.W.nsIn K mainGlobals "is_whole" = some (some (.ref f0)))
    (l0 : K.lookup f0 = some ⟨oc0, od0, .func (PySem.W.fnOf "is_whole" "is_whole" (defArgs K5.s_is_whole) (defBody K5.s_is_whole) (defScope K5.s_is_whole) .none kV0 doc0 pm0 an0 cd0 ct0), sl0⟩)
    (c0 : PySem.W.codeIn K cd0 "is_whole" = true)
    (k0 : PySem.W.keepIn K (.ref f0) = true)
    (a1 : PySem.W.nsIn K mainGlobals "need_state" = some (some (.ref f1)))
    (l1 : K.lookup f1 = some ⟨oc1, od1, .func (PySem.W.fnOf "need_state" "need_state" (defArgs K5.s_need_state) (defBody K5.s_need_state) (defScope K5.s_need_state) .none kV1 doc1 pm1 an1 cd1 ct1), sl1⟩)
    (c1 : PySem.W.codeIn K cd1 "need_state" = true)
    (k1 : PySem.W.keepIn K (.ref f1) = true)
    (a2 : PySem.W.nsIn K mainGlobals "lets" = some (some (.ref f2)))
    (l2 : K.lookup f2 = some ⟨oc2, od2, .func (PySem.W.fnOf "lets" "lets" (defArgs K5.s_lets) (defBody K5.s_lets) (defScope K5.s_lets) .none kV2 doc2 pm2 an2 cd2 ct2), sl2⟩)
    (c2 : PySem.W.codeIn K cd2 "lets" = true)
    (k2 : PySem.W.keepIn K (.ref f2) = true)
    (a3 : PySem.W.nsIn K mainGlobals "thrown" = some (some (.ref f3)))
    (l3 : K.lookup f3 = some ⟨oc3, od3, .func (PySem.W.fnOf "thrown" "thrown" (defArgs K5.s_thrown) (defBody K5.s_thrown) (defScope K5.s_thrown) .none kV3 doc3 pm3 an3 cd3 ct3), sl3⟩)
    (c3 : PySem.W.codeIn K cd3 "thrown" = true)
    (k3 : PySem.W.keepIn K (.ref f3) = true)
    (a4 : PySem.W.nsIn K mainGlobals "heights_let" = some (some (.ref f4)))
    (l4 : K.lookup f4 = some ⟨oc4, od4, .func (PySem.W.fnOf "heights_let" "heights_let" (defArgs K5.s_heights_let) (defBody K5.s_heights_let) (defScope K5.s_heights_let) .none kV4 doc4 pm4 an4 cd4 ct4), sl4⟩)
    (c4 : PySem.W.codeIn K cd4 "heights_let" = true)
    (k4 : PySem.W.keepIn K (.ref f4) = true)
    (a5 : PySem.W.nsIn K mainGlobals "state_behind" = some (some (.ref f5)))
    (l5 : K.lookup f5 = some ⟨oc5, od5, .func (PySem.W.fnOf "state_behind" "state_behind" (defArgs K5.s_state_behind) (defBody K5.s_state_behind) (defScope K5.s_state_behind) .none kV5 doc5 pm5 an5 cd5 ct5), sl5⟩)
    (c5 : PySem.W.codeIn K cd5 "state_behind" = true)
    (k5 : PySem.W.keepIn K (.ref f5) = true)
    (a6 : PySem.W.nsIn K mainGlobals "comes_down" = some (some (.ref f6)))
    (l6 : K.lookup f6 = some ⟨oc6, od6, .func (PySem.W.fnOf "comes_down" "comes_down" (defArgs K5.s_comes_down) (defBody K5.s_comes_down) (defScope K5.s_comes_down) .none kV6 doc6 pm6 an6 cd6 ct6), sl6⟩)
    (c6 : PySem.W.codeIn K cd6 "comes_down" = true)
    (k6 : PySem.W.keepIn K (.ref f6) = true)
    (a7 : PySem.W.nsIn K mainGlobals "_law_mixed" = some (some (.ref f7)))
    (l7 : K.lookup f7 = some ⟨oc7, od7, .func (PySem.W.fnOf "_law_mixed" "_law_mixed" (defArgs K5.s__law_mixed) (defBody K5.s__law_mixed) (defScope K5.s__law_mixed) .none kV7 doc7 pm7 an7 cd7 ct7), sl7⟩)
    (c7 : PySem.W.codeIn K cd7 "_law_mixed" = true)
    (k7 : PySem.W.keepIn K (.ref f7) = true)
    (a8 : PySem.W.nsIn K mainGlobals "_law_waits" = some (some (.ref f8)))
    (l8 : K.lookup f8 = some ⟨oc8, od8, .func (PySem.W.fnOf "_law_waits" "_law_waits" (defArgs K5.s__law_waits) (defBody K5.s__law_waits) (defScope K5.s__law_waits) .none kV8 doc8 pm8 an8 cd8 ct8), sl8⟩)
    (c8 : PySem.W.codeIn K cd8 "_law_waits" = true)
    (k8 : PySem.W.keepIn K (.ref f8) = true)
    (a9 : PySem.W.nsIn K mainGlobals "_law_lets" = some (some (.ref f9)))
    (l9 : K.lookup f9 = some ⟨oc9, od9, .func (PySem.W.fnOf "_law_lets" "_law_lets" (defArgs K5.s__law_lets) (defBody K5.s__law_lets) (defScope K5.s__law_lets) .none kV9 doc9 pm9 an9 cd9 ct9), sl9⟩)
    (c9 : PySem.W.codeIn K cd9 "_law_lets" = true)
    (k9 : PySem.W.keepIn K (.ref f9) = true)
    (a10 : PySem.W.nsIn K mainGlobals "_law_behind" = some (some (.ref f10)))
    (l10 : K.lookup f10 = some ⟨oc10, od10, .func (PySem.W.fnOf "_law_behind" "_law_behind" (defArgs K5.s__law_behind) (defBody K5.s__law_behind) (defScope K5.s__law_behind) .none kV10 doc10 pm10 an10 cd10 ct10), sl10⟩)
    (c10 : PySem.W.codeIn K cd10 "_law_behind" = true)
    (k10 : PySem.W.keepIn K (.ref f10) = true)
    (a11 : PySem.W.nsIn K mainGlobals "_law_told" = some (some (.ref f11)))
    (l11 : K.lookup f11 = some ⟨oc11, od11, .func (PySem.W.fnOf "_law_told" "_law_told" (defArgs K5.s__law_told) (defBody K5.s__law_told) (defScope K5.s__law_told) .none kV11 doc11 pm11 an11 cd11 ct11), sl11⟩)
    (c11 : PySem.W.codeIn K cd11 "_law_told" = true)
    (k11 : PySem.W.keepIn K (.ref f11) = true)
    (a12 : PySem.W.nsIn K mainGlobals "law" = some (some (.ref f12)))
    (l12 : K.lookup f12 = some ⟨oc12, od12, .func (PySem.W.fnOf "law" "law" (defArgs K5.s_law) (defBody K5.s_law) (defScope K5.s_law) .none kV12 doc12 pm12 an12 cd12 ct12), sl12⟩)
    (c12 : PySem.W.codeIn K cd12 "law" = true)
    (k12 : PySem.W.keepIn K (.ref f12) = true)
    (xC0a : PySem.W.nsIn K mainGlobals "TossError" = some (some (.ref C0)))
    (xC0x : PySem.W.excIn K C0 [.type "ValueError", .type "Exception", .type "BaseException", .type "object"] "ValueError.__new__" = true)
    (xC0k : PySem.W.keepIn K (.ref C0) = true)
    (xC0b : PySem.W.subIn K (.ref C0) (.type "BaseException") = some true)
    (xC0t : PySem.W.typeIn K (.ref C0) = some (.type "type"))
    (xC0g : PySem.W.findIn K (.ref C0) "__getattribute__" = some (some (.builtin "BaseException.__getattribute__")))
    (xC0h : PySem.W.findIn K (.ref C0) "__getattr__" = some none)
    (xC0d : PySem.W.hasDictIn K C0 = true)
    (xC0c : PySem.W.findIn K (.ref C0) "__class__" = some (some (.builtin "object.__class__")))
    (xC0m : PySem.W.mroIn K C0 (.type "object") = some true)
    (xCSa : PySem.W.nsIn K mainGlobals "NoState" = some (some (.ref CS)))
    (xCSx : PySem.W.excIn K CS [.type "ValueError", .type "Exception", .type "BaseException", .type "object"] "ValueError.__new__" = true)
    (xCSk : PySem.W.keepIn K (.ref CS) = true)
    (xCSb : PySem.W.subIn K (.ref CS) (.type "BaseException") = some true)
    (xCSt : PySem.W.typeIn K (.ref CS) = some (.type "type"))
    (xCSg : PySem.W.findIn K (.ref CS) "__getattribute__" = some (some (.builtin "BaseException.__getattribute__")))
    (xCSh : PySem.W.findIn K (.ref CS) "__getattr__" = some none)
    (xCSd : PySem.W.hasDictIn K CS = true)
    (xCSc : PySem.W.findIn K (.ref CS) "__class__" = some (some (.builtin "object.__class__")))
    (xCSm : PySem.W.mroIn K CS (.type "object") = some true)
    (xCTa : PySem.W.nsIn K mainGlobals "NoThrow" = some (some (.ref CT)))
    (xCTx : PySem.W.excIn K CT [.type "ValueError", .type "Exception", .type "BaseException", .type "object"] "ValueError.__new__" = true)
    (xCTk : PySem.W.keepIn K (.ref CT) = true)
    (xCTb : PySem.W.subIn K (.ref CT) (.type "BaseException") = some true)
    (xCTt : PySem.W.typeIn K (.ref CT) = some (.type "type"))
    (xCTg : PySem.W.findIn K (.ref CT) "__getattribute__" = some (some (.builtin "BaseException.__getattribute__")))
    (xCTh : PySem.W.findIn K (.ref CT) "__getattr__" = some none)
    (xCTd : PySem.W.hasDictIn K CT = true)
    (xCTc : PySem.W.findIn K (.ref CT) "__class__" = some (some (.builtin "object.__class__")))
    (xCTm : PySem.W.mroIn K CT (.type "object") = some true)
    (xn : PySem.W.specialIn K (.builtin "object.__class__") "__get__" = some (some (.builtin "getset_descriptor.__get__")))
    (xt : PySem.W.takesIn K (.builtin "object.__class__") = some true)
    (v0 : PySem.W.nsIn K mainGlobals "TOP_STATE" = some (some u0))
    (w0 : RelV (.int 511) u0)
    (v1 : PySem.W.nsIn K mainGlobals "TOP_HEIGHT" = some (some u1))
    (w1 : RelV (.int 9) u1)
    (n_isinstance : PySem.W.nsIn K mainGlobals "isinstance" = some none)
    (n_int : PySem.W.nsIn K mainGlobals "int" = some none)
    (n_bool : PySem.W.nsIn K mainGlobals "bool" = some none)
    (n_list : PySem.W.nsIn K mainGlobals "list" = some none)
    (n_enumerate : PySem.W.nsIn K mainGlobals "enumerate" = some none)
    (n_range : PySem.W.nsIn K mainGlobals "range" = some none)
    (n_len : PySem.W.nsIn K mainGlobals "len" = some none)
    (n_sum : PySem.W.nsIn K mainGlobals "sum" = some none)
    (q1 : PySem.W.subIn K (.ref CS) (.ref C0) = some true)
    (q2 : PySem.W.subIn K (.ref CT) (.ref C0) = some true)
    (iS : PySem.W.subIn K (.ref CS) (.type "int") = some false)
    (iT : PySem.W.subIn K (.ref CT) (.type "int") = some false)
    (lS : PySem.W.subIn K (.ref CS) (.type "list") = some false)
    (lT : PySem.W.subIn K (.ref CT) (.type "list") = some false)
    (sS : PySem.W.subIn K (.ref CS) (.ref CS) = some true)
    (tT : PySem.W.subIn K (.ref CT) (.ref CT) = some true)
    (sT : PySem.W.subIn K (.ref CT) (.ref CS) = some false)
    (tS : PySem.W.subIn K (.ref CS) (.ref CT) = some false) :
    ∃ fd : FuncData, (∀ (s : Shared) (v : Value), BindsTo s fd ⟨[v], []⟩ [("_law_script", v)]) ∧ ∀ base : Heap, K.In base → base.Ns mainGlobals mg → FnOk l.prog w K mg base CX0 6 fa fd ["_law_script"] (K5.spLaw K) := by
  have e := hfa.symm.trans (PySem.W.mg_of X G a12)
  cases e
  have D_is_whole : Dfn K mg "is_whole" K5.s_is_whole ["thing"] := dfn_mk X G a0 l0 c0 k0 (fun _ _ _ _ _ _ us hl => match us, hl with | [_], _ => rfl)
  have D_need_state : Dfn K mg "need_state" K5.s_need_state ["thing"] := dfn_mk X G a1 l1 c1 k1 (fun _ _ _ _ _ _ us hl => match us, hl with | [_], _ => rfl)
  have D_lets : Dfn K mg "lets" K5.s_lets ["state"] := dfn_mk X G a2 l2 c2 k2 (fun _ _ _ _ _ _ us hl => match us, hl with | [_], _ => rfl)
  have D_thrown : Dfn K mg "thrown" K5.s_thrown ["state", "height"] := dfn_mk X G a3 l3 c3 k3 (fun _ _ _ _ _ _ us hl => match us, hl with | [_, _], _ => rfl)
  have D_heights_let : Dfn K mg "heights_let" K5.s_heights_let ["state"] := dfn_mk X G a4 l4 c4 k4 (fun _ _ _ _ _ _ us hl => match us, hl with | [_], _ => rfl)
  have D_state_behind : Dfn K mg "state_behind" K5.s_state_behind ["state", "height"] := dfn_mk X G a5 l5 c5 k5 (fun _ _ _ _ _ _ us hl => match us, hl with | [_, _], _ => rfl)
  have D_comes_down : Dfn K mg "comes_down" K5.s_comes_down ["state", "turns"] := dfn_mk X G a6 l6 c6 k6 (fun _ _ _ _ _ _ us hl => match us, hl with | [_, _], _ => rfl)
  have D__law_mixed : Dfn K mg "_law_mixed" K5.s__law_mixed ["_law_cell", "_law_k"] := dfn_mk X G a7 l7 c7 k7 (fun _ _ _ _ _ _ us hl => match us, hl with | [_, _], _ => rfl)
  have D__law_waits : Dfn K mg "_law_waits" K5.s__law_waits ["_law_state"] := dfn_mk X G a8 l8 c8 k8 (fun _ _ _ _ _ _ us hl => match us, hl with | [_], _ => rfl)
  have D__law_lets : Dfn K mg "_law_lets" K5.s__law_lets ["_law_waits_here"] := dfn_mk X G a9 l9 c9 k9 (fun _ _ _ _ _ _ us hl => match us, hl with | [_], _ => rfl)
  have D__law_behind : Dfn K mg "_law_behind" K5.s__law_behind ["_law_waits_here", "_law_height"] := dfn_mk X G a10 l10 c10 k10 (fun _ _ _ _ _ _ us hl => match us, hl with | [_, _], _ => rfl)
  have D__law_told : Dfn K mg "_law_told" K5.s__law_told ["_law_by_way", "_law_state", "_law_height"] := dfn_mk X G a11 l11 c11 k11 (fun _ _ _ _ _ _ us hl => match us, hl with | [_, _, _], _ => rfl)
  have e_TossError : Exn K mg "TossError" C0 := exn_mk X G xC0a xC0x xC0k xC0b xC0t xC0g xC0h xC0d xC0c xn xt xC0m
  have e_NoState : Exn K mg "NoState" CS := exn_mk X G xCSa xCSx xCSk xCSb xCSt xCSg xCSh xCSd xCSc xn xt xCSm
  have e_NoThrow : Exn K mg "NoThrow" CT := exn_mk X G xCTa xCTx xCTk xCTb xCTt xCTg xCTh xCTd xCTc xn xt xCTm
  have v_TOP_STATE : ∃ u, mg "TOP_STATE" = some u ∧ RelV (.int 511) u := const_mk X G v0 w0
  have v_TOP_HEIGHT : ∃ u, mg "TOP_HEIGHT" = some u ∧ RelV (.int 9) u := const_mk X G v1 w1
  have m_isinstance : mg "isinstance" = none := PySem.W.mg_none_of X G n_isinstance
  have m_int : mg "int" = none := PySem.W.mg_none_of X G n_int
  have m_bool : mg "bool" = none := PySem.W.mg_none_of X G n_bool
  have m_list : mg "list" = none := PySem.W.mg_none_of X G n_list
  have m_enumerate : mg "enumerate" = none := PySem.W.mg_none_of X G n_enumerate
  have m_range : mg "range" = none := PySem.W.mg_none_of X G n_range
  have m_len : mg "len" = none := PySem.W.mg_none_of X G n_len
  have m_sum : mg "sum" = none := PySem.W.mg_none_of X G n_sum
  have F := fun_mk (st := K5.s_law) l12 c12 k12
  refine ⟨PySem.W.fnOf "law" "law" (defArgs K5.s_law) (defBody K5.s_law) (defScope K5.s_law) .none kV12 doc12 pm12 an12 cd12 ct12, fun s v => .of_eq rfl, fun base _ _ => ?_⟩
  have T : K5.Errs K mg C0 CS CT := ⟨e_TossError, e_NoState, e_NoThrow, PySem.W.exm_ref xC0b xC0d xC0t q1, PySem.W.exm_ref xC0b xC0d xC0t q2, kit_ct (by decide +kernel) iS, kit_ct (by decide +kernel) iT, kit_ct (by decide +kernel) lS, kit_ct (by decide +kernel) lT, kit_cc, kit_cd xCSd xCSt sS sT, kit_cd xCTd xCTt tT tS, kit_cc⟩
  have c1 := K5.ok_mixed (P := l.prog) (w := w) (base := base) D__law_mixed
  have c2 := K5.ok_whole (P := l.prog) (w := w) (base := base) D_is_whole m_isinstance m_int m_bool
  have c3 := K5.ok_needS D_need_state c2 v_TOP_STATE e_NoState
  have c4 := K5.ok_down (P := l.prog) (w := w) (base := base) D_comes_down
  have c4a := K5.ok_hlets (P := l.prog) (w := w) (base := base) D_heights_let c4 m_range v_TOP_HEIGHT
  have c4b := K5.ok_bhd (P := l.prog) (w := w) (base := base) D_state_behind
  have c5 := K5.ok_lets D_lets c3 c4a
  have c6 := K5.ok_thrown D_thrown c3 c4a c2 c4b e_NoThrow
  have c7 := K5.ok_waits (P := l.prog) (w := w) (base := base) D__law_waits m_range
  have c8 := K5.ok_llets (P := l.prog) (w := w) (base := base) D__law_lets m_range
  have c9 := K5.ok_behind (P := l.prog) (w := w) (base := base) D__law_behind m_int m_sum
  have c10 := K5.ok_told D__law_told T c5 c6 m_isinstance m_int m_list
  exact K5.ok_law F T c1 c5 c7 c8 c9 c10 m_isinstance m_int m_bool m_list m_enumerate m_range m_len
open PySem PySem.W PyProof.Rows
set_option maxRecDepth 100000 in
set_option maxHeartbeats 0 in
theorem PySem.Challenge.cw_tossrow_k05_throws_let_holds : PySem.Challenge.rw_tossrow_k05_throws_let.Holds := by
  w_on; o_law; k_head; (case hw => w_witness2)
  k_fill
  refine L2.walk_of (l := PySem.Challenge.rw_tossrow_k05_throws_let) (n := 63) (k := 6) (x := "_law_script") (CX := fun _ => L2.CX0) (sp := fun w => K5.spLaw _) rfl (by decide) rfl ⟨rfl, by decide, by decide⟩ (fun w h Y => PySem.W.kIn_of Y) ?F (fun _ _ a ns hl _ hS => ⟨a, ns, rfl, hS, hl, fun _ => rfl⟩) (fun _ _ _ _ _ h => h)
  case F =>
    intro w mg fa h KX G hmg
    refine' K5.all_mk KX G hmg ?a0 ?l0 ?c0 ?k0 ?a1 ?l1 ?c1 ?k1 ?a2 ?l2 ?c2 ?k2 ?a3 ?l3 ?c3 ?k3 ?a4 ?l4 ?c4 ?k4 ?a5 ?l5 ?c5 ?k5 ?a6 ?l6 ?c6 ?k6 ?a7 ?l7 ?c7 ?k7 ?a8 ?l8 ?c8 ?k8 ?a9 ?l9 ?c9 ?k9 ?a10 ?l10 ?c10 ?k10 ?a11 ?l11 ?c11 ?k11 ?a12 ?l12 ?c12 ?k12 ?xC0a ?xC0x ?xC0k ?xC0b ?xC0t ?xC0g ?xC0h ?xC0d ?xC0c ?xC0m ?xCSa ?xCSx ?xCSk ?xCSb ?xCSt ?xCSg ?xCSh ?xCSd ?xCSc ?xCSm ?xCTa ?xCTx ?xCTk ?xCTb ?xCTt ?xCTg ?xCTh ?xCTd ?xCTc ?xCTm ?xn ?xt ?v0 ?w0 ?v1 ?w1 ?n_isinstance ?n_int ?n_bool ?n_list ?n_enumerate ?n_range ?n_len ?n_sum ?q1 ?q2 ?iS ?iT ?lS ?lT ?sS ?tT ?sT ?tS
    (case a0 => k_is)
    (case l0 => k_is)
    (case c0 => k_is)
    (case k0 => k_is)
    (case a1 => k_is)
    (case l1 => k_is)
    (case c1 => k_is)
    (case k1 => k_is)
    (case a2 => k_is)
    (case l2 => k_is)
    (case c2 => k_is)
    (case k2 => k_is)
    (case a3 => k_is)
    (case l3 => k_is)
    (case c3 => k_is)
    (case k3 => k_is)
    (case a4 => k_is)
    (case l4 => k_is)
    (case c4 => k_is)
    (case k4 => k_is)
    (case a5 => k_is)
    (case l5 => k_is)
    (case c5 => k_is)
    (case k5 => k_is)
    (case a6 => k_is)
    (case l6 => k_is)
    (case c6 => k_is)
    (case k6 => k_is)
    (case a7 => k_is)
    (case l7 => k_is)
    (case c7 => k_is)
    (case k7 => k_is)
    (case a8 => k_is)
    (case l8 => k_is)
    (case c8 => k_is)
    (case k8 => k_is)
    (case a9 => k_is)
    (case l9 => k_is)
    (case c9 => k_is)
    (case k9 => k_is)
    (case a10 => k_is)
    (case l10 => k_is)
    (case c10 => k_is)
    (case k10 => k_is)
    (case a11 => k_is)
    (case l11 => k_is)
    (case c11 => k_is)
    (case k11 => k_is)
    (case a12 => k_is)
    (case l12 => k_is)
    (case c12 => k_is)
    (case k12 => k_is)
    (case xC0a => k_is)
    (case xC0x => k_exc)
    (case xC0k => k_is)
    (case xC0b => k_is)
    (case xC0t => k_is)
    (case xC0g => k_is)
    (case xC0h => k_is)
    (case xC0d => k_is)
    (case xC0c => k_is)
    (case xC0m => k_is)
    (case xCSa => k_is)
    (case xCSx => k_exc)
    (case xCSk => k_is)
    (case xCSb => k_is)
    (case xCSt => k_is)
    (case xCSg => k_is)
    (case xCSh => k_is)
    (case xCSd => k_is)
    (case xCSc => k_is)
    (case xCSm => k_is)
    (case xCTa => k_is)
    (case xCTx => k_exc)
    (case xCTk => k_is)
    (case xCTb => k_is)
    (case xCTt => k_is)
    (case xCTg => k_is)
    (case xCTh => k_is)
    (case xCTd => k_is)
    (case xCTc => k_is)
    (case xCTm => k_is)
    (case xn => k_is)
    (case xt => k_is)
    (case v0 => k_is)
    (case w0 => first | k_is | rfl | exact ⟨_, rfl⟩ | decide +kernel)
    (case v1 => k_is)
    (case w1 => first | k_is | rfl | exact ⟨_, rfl⟩ | decide +kernel)
    (case n_isinstance => k_is)
    (case n_int => k_is)
    (case n_bool => k_is)
    (case n_list => k_is)
    (case n_enumerate => k_is)
    (case n_range => k_is)
    (case n_len => k_is)
    (case n_sum => k_is)
    (case q1 => k_is)
    (case q2 => k_is)
    (case iS => k_is)
    (case iT => k_is)
    (case lS => k_is)
    (case lT => k_is)
    (case sS => k_is)
    (case tT => k_is)
    (case sT => k_is)
    (case tS => k_is)
end
