import PyProof.Rows.All
import Wide.All
import OpenK.AllK
import Wide.FinOn
import HandS.ForMost
import HandS.IsInst
import HandS.FStr
import HandS.Codes
import HandS.Star
import HandS.Zip
import HandS.More
import HandS.Defaults
import HandS.Rev
import HandS.Walk
import HandS.TupAny
import HandS.Style
import HandS.Iter
import HandS.Conv
import KE.KTurns
import HandS.Exc
import HandS.ExcIs
import HandS.ExcField
import HandS.ExcInit
import KE.KExcIs
import HandS.Nested
import KE.KSuper
import KE.KExcSuper
import HandS.HotCalls
import PySem.Challenge.RW_neverhappens_k79_errors
set_option Elab.async false
set_option linter.all false
set_option maxRecDepth 100000
set_option maxHeartbeats 4000000
namespace ExV
open PySem PySem.Spec PyProof.Rows L2
/-! ### a caught exception that is handed to a def -/
/-- how it stands in the callee's heap -/
abbrev exH (a : Addr) (oe : Obj) : HO := .frz oe (.own a)
/-- at a: the exception oe (of the class cls, its dict at d) -/
def ExAt (base : Heap) (H : Hp) (a : Addr) (oe : Obj) (cls : Value) (d : Option Addr) : Prop := (H a = some (exH a oe) ∨ (base.get? a = some oe ∧ H a = none)) ∧ Zc cls d oe ∧ ∃ vs, oe.data = .fields vs
theorem ExAt.at {X : Cx} {pins : List (Addr × Obj)} {σ : L2.St} {H : Hp} {s : Shared} {a : Addr} {oe : Obj} {cls : Value} {d : Option Addr} (I : Inv X pins σ H s) (h : ExAt X.base H a oe cls d) : s.heap.get? a = some oe := by
  rcases h.1 with e | e
  · exact (show ObjOk X.prog X.w H s.heap a (exH a oe) from I.hok a _ e).1
  · exact I.bk _ _ e.1
/-- isinstance(e, c), c a class -/
def rIsX (K : PySem.W.Frag) (base : Heap) : List V → Hp → VK → Prop := fun xs H Q => ∃ (a D : Addr) (oe : Obj) (d : Option Addr) (c : V) (cv : Value) (b : Bool), xs = [.ref a, c] ∧ ExAt base H a oe (.ref D) d ∧ ExcC K D ∧ (∀ dd, d = some dd → ∃ fs, H dd = some (.xd fs)) ∧ (∀ u, RelV c u → u = cv) ∧ PySem.W.kitOne K (.ref D) cv = some b ∧ Q (.bl b) H
theorem inst_at {X : Cx} {pins : List (Addr × Obj)} {σ : L2.St} {H : Hp} {s : Shared} {a D : Addr} {oe : Obj} {d : Option Addr} (I : Inv X pins σ H s) (h : ExAt X.base H a oe (.ref D) d) (hd : ∀ dd, d = some dd → ∃ fs, H dd = some (.xd fs)) : ∃ od, PySem.W.InstAt s.heap a oe D od := by
  have hget := h.at I
  obtain ⟨_, ⟨h1, h2⟩, vs, hv⟩ := h
  cases d with
  | none => exact ⟨none, hget, h1, by unfold PySem.W.notCls; rw [hv] <;> rfl, by rw [h2]; trivial⟩
  | some dd =>
    obtain ⟨fs, hx⟩ := hd dd rfl
    obtain ⟨mA, hns, _⟩ := (show ObjOk X.prog X.w H s.heap dd (.xd fs) from I.hok dd _ hx)
    obtain ⟨od, ho, _⟩ := lookIn_ns hns
    exact ⟨some od, hget, h1, by unfold PySem.W.notCls; rw [hv] <;> rfl, by rw [h2]; exact ho⟩
theorem kitX {K : PySem.W.Frag} {a D : Addr} {oe : Obj} {od : Option Obj} (C : ExcC K D) : PySem.W.KitX K (.ref a) (.ref D) (fun h => PySem.W.InstAt h a oe D od) := by
  have hcl : (PySem.W.clsIn K D).isSome = true := by
    obtain ⟨cd, hc, _⟩ := PySem.W.any_some C.hd
    rw [hc]
    rfl
  exact PySem.W.kitx_exc hcl C.hg C.hk C.hs C.ha C.hn C.ht C.hm
/-- isinstance(e, (c, ..)) -/
def rIsXT (K : PySem.W.Frag) (base : Heap) : List V → Hp → VK → Prop := fun xs H Q => ∃ (a D : Addr) (oe : Obj) (d : Option Addr) (tp : Addr) (cs : List V) (ws : List Value) (b : Bool), xs = [.ref a, .ref tp] ∧ ExAt base H a oe (.ref D) d ∧ ExcC K D ∧ (∀ dd, d = some dd → ∃ fs, H dd = some (.xd fs)) ∧ H tp = some (.tup cs) ∧ Paired ClsV cs ws ∧ PySem.W.kitAny K (.ref D) ws = some b ∧ Q (.bl b) H
theorem call_isXT {X : Cx} : CallR X (.builtin "isinstance") (rIsXT X.K X.base) := by
  intro pins s σ H xs us Q I r h
  obtain ⟨a, D, oe, d, tp, cs, ws, b, rfl, hE, C, hd, hT, k, e, q⟩ := h
  cases r with
  | cons rx rr =>
    cases rr with
    | cons rt rr =>
      cases rr
      cases rx
      cases rt
      obtain ⟨od, J⟩ := inst_at I hE hd
      obtain ⟨_, its, rv, o, h1, h2, n, h3⟩ := (show ObjOk X.prog X.w H s.heap tp (.tup cs) from I.hok tp _ hT)
      have e3 := ClsV.all k rv
      subst e3
      obtain ⟨oc, odd, dt, sl⟩ := o
      simp only at h2 h3
      subst h2 h3
      exact PySem.W.kia_tup (kitX C) I.kIn J h1 e (fun z => nomatch z) fun tk => ⟨.bl b, H, I.tok tk, rfl, q⟩
theorem call_isX {X : Cx} : CallR X (.builtin "isinstance") (rIsX X.K X.base) := by
  intro pins s σ H xs us Q I r h
  obtain ⟨a, D, oe, d, c, cv, b, rfl, hE, C, hd, hcv, e, q⟩ := h
  cases r with
  | cons rx rr =>
    cases rr with
    | cons rt rr =>
      cases rr
      cases rx
      have ec := hcv _ rt
      subst ec
      obtain ⟨od, J⟩ := inst_at I hE hd
      exact PySem.W.kia_one (kitX C) I.kIn J e (fun z => nomatch z) fun tk => ⟨.bl b, H, I.kept (t' := tk) fun _ _ z => z, rfl, q⟩
/-- e.f -/
def tXv (K : PySem.W.Frag) (base : Heap) (n : Str) (te : TE) : TE := fun σ H Q => te σ H fun x H1 => ∃ (a C : Addr) (oe : Obj) (dd : Addr) (fs : List (Str × V)) (v : V), x = .ref a ∧ ExAt base H1 a oe (.ref C) (some dd) ∧ XfC K C ∧ PySem.W.findIn K (.ref C) n = some none ∧ H1 dd = some (.xd fs) ∧ fs.lookup n = some v ∧ Q v H1
theorem pe_xv {X : Cx} {e : Expr} {te : TE} {pos : Pos} {n : Str} (he : PE X e te) (hb : attributeBase e n X.env (eval e X.env) = eval e X.env := by rfl) : PE X (.Attribute e n pos) (tXv X.K X.base n te) := by
  refine ⟨fun pins s σ H Q I h => ?_⟩
  refine attr_of hb (thn (he.run pins s σ H _ I h) fun u s1 hh => ?_)
  obtain ⟨x, H1, I1, rx, a, C, oe, dd, fs, v, ex, hE, T, hno, ea, l, q⟩ := hh
  subst ex
  obtain rfl : u = Value.ref a := rx
  have ha := hE.at I1
  obtain ⟨_, hz, vs, hd⟩ := hE
  obtain ⟨mA, hns, hr⟩ := (show ObjOk X.prog X.w H1 s1.heap dd (.xd fs) from I1.hok dd _ ea)
  obtain ⟨od, ho, hl⟩ := lookIn_ns hns
  obtain ⟨u, hu, ru⟩ := RelO.some_of (v := v) (o := mA n) (by rw [← l]; exact hr n)
  have J : PySem.W.InstAt s1.heap a oe C (some od) := ⟨ha, hz.1, by unfold PySem.W.notCls; rw [hd] <;> rfl, by rw [hz.2]; exact ho⟩
  exact HandSPX.exc_get I1.kIn J T.ga T.gg T.exC (PySem.W.findObj_own T.hdC hno rfl (by rw [hl, hu])) (handed_of ru) ⟨v, H1, I1.tok _, ru, q⟩
/-! ### f(.., e, ..) in the suite that holds e -/
theorem run_fnE {X : Cx} {a : Addr} {oe : Obj} {pn : List (Addr × Obj)} {k : Nat} {f : Addr} {fd : FuncData} {ps : List Str} {sp : Sp} {dvs : List V} {ds : List Value} {pins : List (Addr × Obj)} {σ : L2.St} {H : Hp} {s : Shared} {Q : VK} {us : List Value} {vs : List V}
    (F : FnOk X.prog X.w X.K X.mg X.base CX0 k f fd ps sp) (hr : Room k (X.suite a ((a, oe) :: pn)).A) (hb : Binds X.K fd ps ds) (hd : Vals dvs ds) (I : Inv (X.suite a ((a, oe) :: pn)) pins σ H s) (r : Vals vs us)
    (h : ∀ H', (H' a = some (exH a oe) ∨ (X.base.get? a = some oe ∧ H' a = none)) → (∀ b, b ≠ a → H' b = H b) → sp (vs ++ dvs) H' (fun v H2 => Q v (del H2 a)) E0) :
    wpAny (model X.prog X.w) (X.suite a ((a, oe) :: pn)).A (call (.ref f) us) (EP (X.suite a ((a, oe) :: pn)) pins σ Q) (X.suite a ((a, oe) :: pn)).xe s := by
  obtain ⟨pg, pH, pL, pF, pc⟩ := I.pin (a, oe) (List.mem_append_left _ List.mem_cons_self)
  have r2 : Vals (vs ++ dvs) (us ++ ds) := r.append hd
  have E1 := I.env0
  cases hbase : X.base.get? a with
  | some o1 =>
    have e1 : o1 = oe := by
      have := I.bk _ _ hbase
      rw [pg] at this
      exact (Option.some.inj this).symm
    subst e1
    have h := h H (.inr ⟨hbase, pH⟩) fun _ _ => rfl
    have hl : (us ++ ds).length = ps.length := by rw [← r2.length]; exact F.len _ _ _ _ h
    refine wpAny_call (codeAny_mono (F.run _ X.stack s H ⟨us, []⟩ (us ++ ds) (vs ++ dvs) _ E0 hr E1 (hb s us I.kIn hl) r2 h) fun r s' hq => ?_)
    cases r with
    | error e => exact hq.elim
    | ok fl =>
      cases fl with
      | ret u =>
        obtain ⟨v, H2, os, bare, un, hok, rv, q⟩ := hq
        have n2 : H2 a = none := un.free a _ pg pH (by simp)
        have e2 : del H2 a = H2 := by
          funext b
          by_cases hb : b = a
          · rw [hb, del_same, n2]
          · rw [del_ne hb]
        rw [e2] at q
        exact I.after ⟨v, H2, os, bare, un, hok, rv, q⟩
      | next => exact False.elim hq
      | brk => exact False.elim hq
      | cont => exact False.elim hq
  | none =>
    have h := h (upd H a (exH a oe)) (.inl upd_same) fun b hb => upd_ne hb
    have hl : (us ++ ds).length = ps.length := by rw [← r2.length]; exact F.len _ _ _ _ h
    have nf : a ∉ frs X.stack := fun z => (List.mem_cons.mp (I.stkSub a z)).elim pL pF
    have E2 : Env0 X.prog X.w X.K X.mg X.base (X.suite a ((a, oe) :: pn)).A X.stack s (upd H a (exH a oe)) := ⟨E1.frames, E1.mod, fun b o z => ⟨(E1.bs b o z).1, by
        rw [upd_ne (fun y => by rw [y, hbase] at z; cases z)]
        exact (E1.bs b o z).2⟩, E1.bsz, E1.funs, fun b z => by
        rw [upd_ne (fun y => nf (by rw [← y]; exact z))]
        exact E1.frf b z, fun b o z => by
        by_cases hb : b = a
        · subst hb
          rw [upd_same] at z
          cases z
          exact ⟨pg, _, pg⟩
        · rw [upd_ne hb] at z
          exact (E1.hok b o z).stay (fun c v _ y => y) (fun c y => by rw [upd_ne (ne_of_none y pH)]; exact y) (fun c xs y => by rw [upd_ne (ne_of_none y pH)]; exact y), E1.bare⟩
    refine wpAny_call (codeAny_mono (F.run _ X.stack s _ ⟨us, []⟩ (us ++ ds) (vs ++ dvs) _ E0 hr E2 (hb s us I.kIn hl) r2 h) fun r s' hq => ?_)
    cases r with
    | error e => exact hq.elim
    | ok fl =>
      cases fl with
      | ret u =>
        obtain ⟨v, H2, os, bare, un, hok, rv, q⟩ := hq
        have e2 : H2 a = some (exH a oe) := un.frzs a _ _ upd_same
        have g2 : s'.heap.get? a = some oe := (show ObjOk X.prog X.w H2 s'.heap a (exH a oe) from hok a _ e2).1
        have ne : ∀ {b : Addr} {o : HO}, H b = some o → b ≠ a := fun {b o} z => ne_of_none z pH
        refine I.after ⟨v, del H2 a, os, bare, ⟨fun b o z n hf hx => ?_, fun b o z n hf hx => ?_, fun b o z n hx => ?_, fun b o z hx => un.there b o z hx, fun b xs z => ?_, fun b o u z => ?_, fun b p z => ?_⟩, fun b o z => ?_, rv, q⟩
        · by_cases hb : b = a
          · subst hb
            rw [pg] at z
            cases z
            exact g2
          · exact un.keep b o z (by rw [upd_ne hb]; exact n) hf hx
        · exact un.slot b o z (by rw [upd_ne (fun y => nf (by rw [← y]; exact hf))]; exact n) hf hx
        · by_cases hb : b = a
          · rw [hb, del_same]
          · rw [del_ne hb]
            exact un.free b o z (by rw [upd_ne hb]; exact n) hx
        · rw [del_ne (ne z)]
          exact un.tups b xs (by rw [upd_ne (ne z)]; exact z)
        · rw [del_ne (ne z)]
          exact un.frzs b o u (by rw [upd_ne (ne z)]; exact z)
        · rw [del_ne (ne z)]
          exact un.tbls b p (by rw [upd_ne (ne z)]; exact z)
        · have hba : b ≠ a := fun y => by
            rw [y, del_same] at z
            cases z
          rw [del_ne hba] at z
          have na : ∀ {c : Addr} {o : HO}, H2 c = some o → (∀ oe u, o ≠ .frz oe u) → c ≠ a := fun {c o} y n w => by
            rw [w, e2] at y
            exact n _ _ (Option.some.inj y).symm
          exact (hok b o z).stay (fun c v _ y => y) (fun c y => by rw [del_ne (na y fun _ _ z => nomatch z)]; exact y) (fun c xs y => by rw [del_ne (na y fun _ _ z => nomatch z)]; exact y)
      | next => exact False.elim hq
      | brk => exact False.elim hq
      | cont => exact False.elim hq
def tCallE (base : Heap) (sp : Sp) (dvs : List V) (a : Addr) (cls : Value) (d : Option Addr) (t : TA) : TE := fun σ H Q => t σ H fun vs H1 => ∀ oe H', ExAt base H' a oe cls d → (∀ b, b ≠ a → H' b = H1 b) → sp (vs ++ dvs) H' (fun v H2 => Q v (del H2 a)) E0
theorem pe_callE {X : Cx} {a : Addr} {oe : Obj} {pn : List (Addr × Obj)} {cls : Value} {d : Option Addr} {k : Nat} {f : Addr} {fd : FuncData} {ps : List Str} {sp : Sp} {dvs : List V} {ds : List Value} {x : Str} {p pos : Pos} {e : Expr} {es : List Expr} {t : TA}
    (hz : Zc cls d oe) (hf : ∃ vs, oe.data = .fields vs) (F : FnOk X.prog X.w X.K X.mg X.base CX0 k f fd ps sp) (hr : Room k (X.suite a ((a, oe) :: pn)).A) (hg : Gl X x) (hm : X.mg x = some (.ref f)) (hk : PySem.W.keepIn X.K (.ref f) = true) (hb : Binds X.K fd ps ds) (hd : Vals dvs ds)
    (ha : PA (X.suite a ((a, oe) :: pn)) (e :: es) t) (hdb : (x == ("__debug__" : Str)) = false := by decide) (he : starEach (e :: es) X.env = (false, eval e X.env) :: starEach es X.env := by rfl) (hpl : (backTo pos (starEach es X.env)).any (·.1) = false := by rfl) :
    PE (X.suite a ((a, oe) :: pn)) (.Call (.Name x p) (e :: es) [] pos) (tCallE X.base sp dvs a cls d t) := by
  refine ⟨fun pins s σ H Q I h => ?_⟩
  refine wpAny_Call_Name_kw (ld_glob I hg hm ?_ hdb)
  refine PySem.W.callWith_K (h₀ := X.base) I.ok.mod.kin hk (thn (ha.run pos pins s σ H _ I h) fun us s1 ⟨vs, H1, I1, r, q⟩ => ⟨I1.kIn, ?_⟩) he hpl
  exact run_fnE F hr hb hd I1 r fun H' hH hb => q oe H' ⟨hH, hz, hf⟩ hb
/-! ### an own exception that stores no field -/
def tMk0 (C : Addr) (sp : Sp) (dvs : List V) (ta : TA) : L2.St → Hp → XK → Prop := fun σ H Q => ta σ H fun vs H1 => vs.length ≤ 1000 ∧ ∀ a, H1 a = none → sp (.ref a :: (vs ++ dvs)) (upd H1 a (exo a C none))
  (fun v H2 => v = .non ∧ H2 a = some (exo a C none) ∧ Q (.ref C) none (del H2 a)) (fun _ _ _ => False)
theorem let_go {X : Cx} {pins : List (Addr × Obj)} {σ : L2.St} {H1 H2 : Hp} {Q : XK} {hp hp2 h2 : Heap} {g1 g2 : Array GenState} {d1 d2 : Drawn} {t1 t2 : Nat} {os1 os2 : OsState} {a C : Addr} (T : Raises X (.ref C)) (I1 : Inv X pins σ H1 ⟨hp, g1, d1, t1, os1⟩)
    (ha : hp.objs.size ≤ a) (k : ∀ b o, hp.get? b = some o → hp2.get? b = some o) (un : Un (frs X.stack) [] (upd H1 a (exo a C none)) H2 hp2 h2) (hok : HOk X.prog X.w H2 h2) (ho : os2 = os1) (hb : AllBare g2)
    (ea : H2 a = some (exo a C none)) (q : Q (.ref C) none (del H2 a)) : MkP X pins σ Q (.ref a) ⟨h2, g2, d2, t2, os2⟩ := by
  obtain ⟨t0, hoe⟩ := exo_at hok ea
  have hn : H1 a = none := I1.hok.fresh ha
  obtain ⟨G, g1', g2'⟩ := restrict h2 fun b => decide (b ≠ a)
  have gk : ∀ b, b ≠ a → G.get? b = h2.get? b := fun b hb => g1' b (decide_eq_true hb)
  have ge : G.get? a = none := g2' a (by simp)
  have nha : ∀ {b : Addr} {o : Obj}, hp.get? b = some o → b ≠ a := fun {b o} z => Nat.ne_of_lt (Nat.lt_of_lt_of_le (Heap.lt_size z) ha)
  have up : ∀ {b : Addr}, b ≠ a → H1 b = none → upd H1 a (exo a C none) b = none := fun {b} hb n => by rw [upd_ne hb]; exact n
  have U : Un (frs X.stack) [] H1 (del H2 a) hp G := {
    keep := fun b o z n hf hx => by
      rw [gk b (nha z)]
      exact un.keep b o (k b o z) (up (nha z) n) hf hx
    slot := fun b o z n hf hx => by
      rw [gk b (nha z)]
      exact un.slot b o (k b o z) (up (nha z) n) hf hx
    free := fun b o z n hx => by
      rw [del_ne (nha z)]
      exact un.free b o (k b o z) (up (nha z) n) hx
    there := fun b o z hx => by
      rw [gk b (nha z)]
      exact un.there b o (k b o z) hx
    tups := fun b xs z => by
      rw [del_ne (ne_of_none z hn)]
      exact un.tups b xs (by rw [upd_ne (ne_of_none z hn)]; exact z)
    frzs := fun b o v z => by
      rw [del_ne (ne_of_none z hn)]
      exact un.frzs b o v (by rw [upd_ne (ne_of_none z hn)]; exact z)
    tbls := fun b ps z => by
      rw [del_ne (ne_of_none z hn)]
      exact un.tbls b ps (by rw [upd_ne (ne_of_none z hn)]; exact z) }
  have hok3 : HOk X.prog X.w (del H2 a) G := fun b o z => by
    have hba : b ≠ a := fun e => by
      rw [e, del_same] at z
      cases z
    rw [del_ne hba] at z
    have noa : ∀ {c : Addr}, H2 c = some (.own b) → c ≠ a := fun {c} hc => at_ne ea hc exo_own
    exact (hok b o z).stay (fun c v hc y => by
        have hca : c ≠ a := by
          rcases hc with hc | hc
          · rw [hc]
            exact hba
          · exact noa hc
        rw [gk c hca]
        exact y)
      (fun c hc => by rw [del_ne (noa hc)]; exact hc) (fun c xs hc => by rw [del_ne (at_ne ea hc exo_tup)]; exact hc)
  have J : Inv X pins σ (del H2 a) ⟨G, g2, d2, t2, os2⟩ := I1.call' (ch := []) ho U hok3 hb (fun b z => absurd z (by simp))
  exact ⟨a, _, _, ⟨G, g2, d2, t2, os2⟩, _, .ref C, none, rfl, J, (fun b o z => by
    by_cases hba : b = a
    · rw [hba, ge] at z
      cases z
    · exact (gk b hba).symm.trans z), ge, hoe, ⟨rfl, rfl⟩, rfl, rfl, del_same, rfl, hb, T, q⟩
/-- C() of a class that stores no field -/
theorem pmk_0 {X : Cx} {CX : CXT} {x : Str} {C fI : Addr} {k : Nat} {fd : FuncData} {ps : List Str} {sp : Sp} {ds : List Value} {dvs : List V} {p pos : Pos} (T : OexC X.K C) (iC : PySem.W.findIn X.K (.ref C) "__init__" = some (some (.ref fI))) (tI : PySem.W.typeIn X.K (.ref fI) = some (.type "function"))
    (F1 : FnOk X.prog X.w X.K X.mg X.base CX k fI fd ps sp) (hr : Room (k + 1) X.A) (hb : Binds X.K fd ps ds) (hd : Vals dvs ds) (hx : Passes CX X (fun _ _ _ => False)) (hg : Gl X x) (hm : X.mg x = some (.ref C)) (hdb : (x == ("__debug__" : Str)) = false := by decide) :
    PMk X (.Call (.Name x p) [] [] pos) (tMk0 C sp dvs tNil) := by
  intro pins s σ H Q I h
  obtain ⟨nm, q, N, bs, bm, sn, sub, ab, col, dd, k0, k1, k2, k3, k5, hC, hbm⟩ := T.cls
  refine wpAny_Call_Name_kw (ld_glob I hg hm ?_ hdb)
  refine PySem.W.callWith_K0 I.kIn T.kC ?_
  obtain ⟨_, q1⟩ := h
  obtain ⟨hp, g, dr, tk, os⟩ := s
  have hsz : hp.objs.size ≤ hp.objs.size + 1 := Nat.le_succ _
  have hn : H (hp.objs.size + 1) = none := I.hok.fresh hsz
  have hq : sp (.ref (hp.objs.size + 1) :: dvs) _ _ _ := q1 (hp.objs.size + 1) hn
  have kk : ∀ b o, hp.get? b = some o → ((hp.push (PySem.W.kdv_tup [])).push (PySem.HandSPX.excO C hp.objs.size)).get? b = some o := fun b o e => Heap.get?_push_of_some _ (Heap.get?_push_of_some _ e)
  have hget : ((hp.push (PySem.W.kdv_tup [])).push (PySem.HandSPX.excO C hp.objs.size)).get? (hp.objs.size + 1) = some (PySem.HandSPX.excO C hp.objs.size) := by heap_get
  have I2 : Inv X pins σ (upd H (hp.objs.size + 1) (exo (hp.objs.size + 1) C none)) ⟨(hp.push (PySem.W.kdv_tup [])).push (PySem.HandSPX.excO C hp.objs.size), g, dr, tk, os⟩ :=
    I.laid (t' := tk) (a := hp.objs.size + 1) (o := exo (hp.objs.size + 1) C none) (h' := (hp.push (PySem.W.kdv_tup [])).push (PySem.HandSPX.excO C hp.objs.size)) kk hsz (exo_ok hget)
  have r2 : Vals (V.ref (hp.objs.size + 1) :: dvs) (Value.ref (hp.objs.size + 1) :: ds) := .cons rfl hd
  have hl : (Value.ref (hp.objs.size + 1) :: ds).length = ps.length := by
    have e := r2.length
    rw [F1.len _ _ _ _ hq] at e
    exact e.symm
  refine wpAny_call (PySem.HandSPX.call_own F.excBase_ValueError (fun Y => PySem.HandSPX.refsVE_contains Y bm hbm) (I.kIn _ _ hC) (PySem.W.looks_findIn I.kIn iC) (fun self => PySem.W.bind_fn I.kIn self tI) (Nat.zero_le _)
    (codeAny_mono (F1.run _ X.stack _ _ ⟨[Value.ref (hp.objs.size + 1)], []⟩ (Value.ref (hp.objs.size + 1) :: ds) _ _ (fun _ _ _ => False) (hr.make C [] []) (I2.env0.make C [] []) (hb _ [Value.ref (hp.objs.size + 1)] I2.kIn hl) r2 hq) fun r s' hq' => ?_))
  cases r with
  | error er => exact hx pins σ _ _ er s' I2 hq'
  | ok fl =>
    cases fl with
    | ret u =>
      obtain ⟨v, H2, os2, bare2, un2, hok2, rv, ev, ea, q2⟩ := hq'
      subst ev
      obtain ⟨h2, g2, d2, t2, os'⟩ := s'
      exact ⟨rv, let_go (raises_own T.exC T.tyC) I hsz kk un2 hok2 os2 bare2 ea q2⟩
    | next => exact False.elim hq'
    | brk => exact False.elim hq'
    | cont => exact False.elim hq'
end ExV
namespace ExV
open PySem PySem.Spec PyProof.Rows L2 NdefX
/-! ### super().__init__(..) of an own exception class -/
structure SupF (K : PySem.W.Frag) (C D : Addr) : Prop where
  cD : (PySem.W.clsIn K D).isSome = true
  sub : PySem.W.mroIn K C (.ref D) = some true
  m : PySem.W.ks_superIn K C D "__init__" = some (some (.builtin "ValueError.__init__"))
  isB : PySem.W.subIn K (.ref C) (.type "ValueError") = some true
  op : PySem.W.nsIn K cStatics "thirdparty.any" = some none
theorem mw_init {X : Cx} {pins : List (Addr × Obj)} {σ : L2.St} {H : Hp} {s : Shared} {a C u : Addr} {us : List Value} {Q : Value → Shared → Prop} (T : OexC X.K C) (I : Inv X pins σ H s) (e : H a = some (exo a C none)) (hu : s.heap.get? u = some (PySem.W.kxs_mw "ValueError.__init__" a)) (hl : us.length ≤ sizeLine)
    (h : ∀ s', Inv X pins σ H s' → Q .none s') : wpAny (model X.prog X.w) X.A (call (.ref u) us) Q X.xe s := by
  obtain ⟨nm, q, N, bs, bm, sn, sub, ab, col, dd, k0, k1, k2, k3, k5, hC, hbm⟩ := T.cls
  obtain ⟨t1, ho⟩ := exo_at I.hok e
  have hC' := I.kIn _ _ hC
  obtain ⟨hp, g, d, t, os⟩ := s
  refine wpAny_call (codeAny_of_tree ?_)
  show wpAny _ X.A.in1 (callAny (.ref u) ⟨us, []⟩) _ _ _
  simp only [callAny]
  refine wpAny_bind (wpAny_load hu ?_)
  simp only [PySem.W.kxs_mw, show (Value.type "method-wrapper" == Value.type "method" || Value.type "method-wrapper" == Value.type "builtin_function_or_method" || Value.type "method-wrapper" == Value.type "method-wrapper") = true by decide, if_true]
  refine PySem.W.KFB.if_so (by decide) ?_
  refine wpAny_bind (PySem.W.check_bound_init F.excBase_ValueError.toExcCallFacts hC' ho rfl ?_)
  refine wpAny_bind (wpAny_pure (wpAny_pure ?_))
  refine ⟨plainId_quiet F.excBase_ValueError.init.plain _, codeAny_builtin F.excBase_ValueError.initEntry ?_⟩
  refine PySem.W.exc_init_tree (cls := .ref C) (t0 := t1) (dv := none) (c2 := .none) (c3 := .none) (b4 := .bool false) ho hl fun h' k hx _ => ?_
  have J := I.write (t' := t) (x := a) (e := a) (o := exo a C none) (by rw [e]; exact True.intro) (.inl rfl) k ⟨_, hx⟩ (exo_ok hx)
  have eu : upd H a (exo a C none) = H := by
    funext b
    by_cases hb : b = a
    · rw [hb, upd_same, e]
    · rw [upd_ne hb]
  rw [eu] at J
  exact h _ J
/-- the statement itself, in the frame of the def -/
theorem run_sup {X : Cx} {pins : List (Addr × Obj)} {σ : L2.St} {H : Hp} {s : Shared} {body : List Stmt} {p0 p1 p2 p3 p4 : Pos} {e : Expr} {es : List Expr} {f a C D cc cda : Addr} {of : Obj} {fd : FuncData} {ar : Arg} {vs : Array Value} {file : Str} {tf : Tok} {ccl cl : Value} {cdd cld : Option Addr} {ccs csl : Array (Option Value)} {ta : TA} {pl : Sem Bool} {Qn : Hp → Prop}
    (hk : X.env.scope.kind = .function) (hks : X.env.kindOf "super" = some .globalImplicit) (hkc : X.env.kindOf "__class__" = some .free) (hka : X.env.kindOf ar.arg = some .local) (hfu : X.env.func = some f) (hf : X.K.lookup f = some of) (hfd : of.data = .func fd)
    (hp : (fd.params.posonlyargs ++ fd.params.args).head? = some ar) (hco : X.env.code = .ref cda) (hcode : X.K.lookup cda = some ⟨ccl, cdd, .fields vs, ccs⟩) (hvs : vs[2]? = some (.str file tf)) (hfile : ((X.prog.main.file : Str) == file) = true)
    (htop : (X.prog.main.scope.names.lookup ("super" : Str)).isSome = false) (hcc : X.env.cells.lookup ("__class__" : Str) = some cc) (hcell : X.K.lookup cc = some ⟨cl, cld, .cell (some (.ref D)), csl⟩) (hms : X.mg "super" = none) (T : OexC X.K C) (S : SupF X.K C D) (hN : X.N[0]? = some ar.arg) (ha : PA X (e :: es) ta)
    (I : Inv X pins σ H s) (h0 : σ[0]? = some (some (.ref a))) (eH : H a = some (exo a C none)) (ht : ta σ H fun us H1 => us.length ≤ 1000 ∧ H1 a = some (exo a C none) ∧ Qn H1)
    (hi : interactive X.env = false) (hsw : swapsWith (.Call (.Attribute (.Call (.Name "super" p0) [] [] p1) "__init__" p2) (e :: es) [] p3) none p4.line X.env = pure false)
    (he : eval (.Call (.Attribute (.Call (.Name "super" p0) [] [] p1) "__init__" p2) (e :: es) [] p3) X.env = (do
      let ov ← attributeBase (.Call (.Name "super" p0) [] [] p1) "__init__" X.env (eval (.Call (.Name "super" p0) [] [] p1) X.env)
      standAt p2.atName
      let (f, first) ← holding [ov] (getMethod ov "__init__" pl)
      callWith p3 f first (backTo p3 (starEach (e :: es) X.env)) []))
    (hse : starEach (e :: es) X.env = (false, eval e X.env) :: starEach es X.env) (hpl : (backTo p3 (starEach es X.env)).any (·.1) = false) :
    PySem.wpAt (model X.prog X.w) X.A (.func body X.env) (exec (.Expr (.Call (.Attribute (.Call (.Name "super" p0) [] [] p1) "__init__" p2) (e :: es) [] p3) p4) X.env) (fun fl s' => fl = .next ∧ ∃ H1, Inv X pins σ H1 s' ∧ Qn H1) X.xe s := by
  refine ks_wpAt_Expr_any ?_ hi hsw
  refine ks_wpAt_MethodCall (pl := pl) ?_ he
  obtain ⟨cd, hcd⟩ : ∃ cd, PySem.W.clsIn X.K D = some cd := by
    have := S.cD
    cases z : PySem.W.clsIn X.K D with
    | none => rw [z] at this; cases this
    | some c => exact ⟨c, rfl⟩
  obtain ⟨cC, hcC⟩ : ∃ cd, PySem.W.clsIn X.K C = some cd := by
    have := S.m
    unfold PySem.W.ks_superIn at this
    cases z : PySem.W.clsIn X.K C with
    | none => rw [z] at this; cases this
    | some c => exact ⟨c, rfl⟩
  have hal : PySem.W.alongIn X.K "__init__" ((cC.mro.dropWhile (· != .ref D)).drop 1) = some (some (.builtin "ValueError.__init__")) := by
    have := S.m
    unfold PySem.W.ks_superIn at this
    rw [hcC] at this
    exact this
  obtain ⟨oD, hD1, hD2⟩ : ∃ oD, s.heap.get? D = some oD ∧ oD.data = .cls cd := by
    unfold PySem.W.clsIn at hcd
    split at hcd
    · rename_i c d cd' sl ho
      cases hcd
      exact ⟨_, I.kIn _ _ ho, rfl⟩
    · cases hcd
  obtain ⟨t1, ho⟩ := exo_at I.hok eH
  obtain ⟨m, hns, hl⟩ := I.loc
  obtain ⟨u, ru, hlook⟩ := hl 0 ar.arg (.ref a) hN h0 (.inl hka)
  obtain rfl : u = Value.ref a := ru
  have hm : m ar.arg = some (.ref a) := by
    rcases hlook with ⟨_, z⟩ | ⟨z, _⟩
    · exact z
    · rcases z with z | z <;> rw [hka] at z <;> cases z
  obtain ⟨mb, h1, h2⟩ := I.mod.blt
  refine ks_wpAt_super_base hks hkc (by decide) hfu (I.kIn _ _ hf) hfd hp hco (I.kIn _ _ hcode) rfl hvs hfile htop ?_
  refine PySem.W.ks_loadName_global hk hks (Calls.loadGlobal_builtin (by rw [I.ok.glob]; exact I.mod.glob.keeps I.bk) hms (by rw [I.ok.blt]; exact h1.keeps I.bk) ((h2 "super" (by decide)).trans PyProof.Rows.Boot.super) ⟨rfl, ?_⟩)
  refine wpAny_loadName_free hk hkc hcc ⟨_, I.kIn _ _ hcell, rfl⟩ ?_
  refine wpAny_loadName_local hk hka hns hm ?_
  refine ks_wpAny_isType_cls hD1 hD2 ⟨rfl, ?_⟩
  have IA : PySem.W.InstAt s.heap a ({ cls := .ref C, dict := none, data := .fields #[.ref t1, .none, .none, .none, .bool false, .none] } : Obj) C none := ⟨ho, rfl, rfl, trivial⟩
  have hxC := PySem.W.ks_ne I.kIn IA hcC
  obtain ⟨hp0, g, d, t, os⟩ := s
  refine ks_wpAny_call_super hD1 hD2 ho rfl (fun c z => by cases z) (PySem.W.looks_mroIn I.kIn S.sub) fun h' hso k => ?_
  have I1 : Inv X pins σ H ⟨h', g, d, t, os⟩ := I.kept (t' := t) k
  have ho1 := k _ _ ho
  have IA1 : PySem.W.InstAt h' a ({ cls := .ref C, dict := none, data := .fields #[.ref t1, .none, .none, .none, .bool false, .none] } : Obj) C none := ⟨ho1, rfl, rfl, trivial⟩
  have hI : PySem.W.Looks (model X.prog X.w) h' (isInstance (.ref a) (.type "ValueError")) true := IA1.type.andThen (PySem.W.looks_subIn I1.kIn S.isB)
  refine PySem.W.kxs_getMethod (K := X.K) PySem.W.kxs_ValueError hso (PySem.W.looks_opaque I1.kIn S.op) (l₀ := cC.mro) (fun A Q E s k q => wpAny_bind ((PySem.W.looks_clsIn I1.kIn hcC) A _ E s k (wpAny_pure q))) rfl I1.kIn hal hI hxC (by decide) ?_
  have k2 : ∀ b o, h'.get? b = some o → (h'.push (PySem.W.kxs_mw "ValueError.__init__" a)).get? b = some o := fun b o z => Heap.get?_push_of_some _ z
  have I2 : Inv X pins σ H ⟨h'.push (PySem.W.kxs_mw "ValueError.__init__" a), g, d, t + 1, os⟩ := I1.kept (t' := t + 1) k2
  have hq : (h'.push (PySem.W.kxs_mw "ValueError.__init__" a)).get? h'.objs.size = some (PySem.W.kxs_mw "ValueError.__init__" a) := Heap.get?_push_size _ rfl
  have I3 : Inv X (pins ++ [(h'.objs.size, PySem.W.kxs_mw "ValueError.__init__" a)]) σ H ⟨h'.push (PySem.W.kxs_mw "ValueError.__init__" a), g, d, t + 1, os⟩ := I2.pins_of fun p hp => by
    rcases List.mem_append.mp hp with hp | hp
    · exact I2.pin p (List.mem_append_right _ hp)
    · rw [List.mem_singleton.mp hp]
      exact ⟨hq, I1.hok.fresh (Nat.le_refl _), Nat.ne_of_gt I1.lt, I1.nofs (Nat.le_refl _), fun v z => by cases z⟩
  rw [hse]
  refine PySem.W.kxs_callWith (i := "ValueError.__init__") (x := a) (by show (false || (backTo p3 (starEach es X.env)).any (·.1)) = false; rw [hpl]; rfl) ?_
  have hrun := ha.run p3 _ _ σ H _ I3 ht
  rw [hse] at hrun
  refine Calls.evalArgs_plain (thn hrun fun us s1 ⟨vs1, H1, I4, r1, hz, eH1, q⟩ => ?_)
  have hpin := (I4.pin (h'.objs.size, PySem.W.kxs_mw "ValueError.__init__" a) (List.mem_append_right _ (List.mem_append_right _ (List.mem_singleton.mpr rfl)))).1
  refine ⟨hpin, mw_init T I4 eH1 hpin ?_ fun s' J => ⟨rfl, H1, J.unpinned, q⟩⟩
  show us.length ≤ sizeLine
  rw [← r1.length, sizeLine_eq]
  omega
/-- a def of an exception class whose first statement is super().__init__(e, ..) -/
theorem fn_sup {CX : CXT} {P : Program} {w : World} {K : PySem.W.Frag} {mg : Str → Option Value} {base : Heap} {k : Nat} {f : Addr} {name qual : Str} {params : Arguments} {body : List Stmt} {scope : Scope} {dV kV doc pm ct oc : Value} {an od : Option Addr}
    {osl : Array (Option Value)} {N ps : List Str} {sp : Sp} {p0 p1 p2 p3 p4 : Pos} {e : Expr} {es : List Expr} {C D cc cda : Addr} {ar : Arg} {vs : Array Value} {file : Str} {tf : Tok} {ccl cl : Value} {cdd cld : Option Addr} {ccs csl : Array (Option Value)} {pl : Addr → Sem Bool}
    (lk : K.lookup f = some ⟨oc, od, .func (PySem.W.ksFn name qual params (.Expr (.Call (.Attribute (.Call (.Name "super" p0) [] [] p1) "__init__" p2) (e :: es) [] p3) p4 :: body) scope dV kV doc pm an (.ref cda) ct cc), osl⟩) (hcd : PySem.W.codeIn K (.ref cda) qual = true) (S : NScope N ps ["__class__"] scope)
    (hp : (params.posonlyargs ++ params.args).head? = some ar) (hps : ps.head? = some ar.arg) (hcode : K.lookup cda = some ⟨ccl, cdd, .fields vs, ccs⟩) (hvs : vs[2]? = some (.str file tf)) (hfile : ((P.main.file : Str) == file) = true)
    (htop : (P.main.scope.names.lookup ("super" : Str)).isSome = false) (hcell : K.lookup cc = some ⟨cl, cld, .cell (some (.ref D)), csl⟩) (hms : mg "super" = none) (hks : scope.names.lookup ("super" : Str) = some .globalImplicit) (T : OexC K C) (SF : SupF K C D)
    (len : ∀ vs H Q E, sp vs H Q E → vs.length = ps.length)
    (hi : ∀ L, interactive (PySem.W.ksEnv qual scope L f (.ref cda) cc) = false) (hsw : ∀ L, swapsWith (.Call (.Attribute (.Call (.Name "super" p0) [] [] p1) "__init__" p2) (e :: es) [] p3) none p4.line (PySem.W.ksEnv qual scope L f (.ref cda) cc) = pure false)
    (he : ∀ L, eval (.Call (.Attribute (.Call (.Name "super" p0) [] [] p1) "__init__" p2) (e :: es) [] p3) (PySem.W.ksEnv qual scope L f (.ref cda) cc) = (do
      let ov ← attributeBase (.Call (.Name "super" p0) [] [] p1) "__init__" (PySem.W.ksEnv qual scope L f (.ref cda) cc) (eval (.Call (.Name "super" p0) [] [] p1) (PySem.W.ksEnv qual scope L f (.ref cda) cc))
      standAt p2.atName
      let (fm, first) ← holding [ov] (getMethod ov "__init__" (pl L))
      callWith p3 fm first (backTo p3 (starEach (e :: es) (PySem.W.ksEnv qual scope L f (.ref cda) cc))) []))
    (hse : ∀ L, starEach (e :: es) (PySem.W.ksEnv qual scope L f (.ref cda) cc) = (false, eval e (PySem.W.ksEnv qual scope L f (.ref cda) cc)) :: starEach es (PySem.W.ksEnv qual scope L f (.ref cda) cc)) (hpl : ∀ L, (backTo p3 (starEach es (PySem.W.ksEnv qual scope L f (.ref cda) cc))).any (·.1) = false)
    (hbody : ∀ (A : Around) (outer : List Env) (s : Shared) (H : Hp) (vs : List V) (Q : VK) (E : XK), Room k (A.deeper (PySem.W.ksEnv qual scope s.heap.objs.size f (.ref cda) cc)) → sp vs H Q E →
      ∃ a ta t, vs.head? = some (.ref a) ∧ H a = some (exo a C none) ∧ PA (ncx CX P w K mg base N ⟨name, qual, params, .Expr (.Call (.Attribute (.Call (.Name "super" p0) [] [] p1) "__init__" p2) (e :: es) [] p3) p4 :: body, scope, [("__class__", cc)], cda⟩ f A outer s H E) (e :: es) ta ∧
        PSs (ncx CX P w K mg base N ⟨name, qual, params, .Expr (.Call (.Attribute (.Call (.Name "super" p0) [] [] p1) "__init__" p2) (e :: es) [] p3) p4 :: body, scope, [("__class__", cc)], cda⟩ f A outer s H E) body t ∧
        ta (startF N vs [none]) H fun us H1 => us.length ≤ 1000 ∧ H1 a = some (exo a C none) ∧ t { nx := fun _ H' => Q .non H', rt := Q } (startF N vs [none]) H1) :
    FnOk P w K mg base CX (k + 1) f (PySem.W.ksFn name qual params (.Expr (.Call (.Attribute (.Call (.Name "super" p0) [] [] p1) "__init__" p2) (e :: es) [] p3) p4 :: body) scope dV kV doc pm an (.ref cda) ct cc) ps sp := by
  refine ⟨len, fun A outer s H args us vs Q E hr e0 hb r hsp => ?_⟩
  have hl := len _ _ _ _ hsp
  have KX : K.In s.heap := e0.mod.kin.keeps fun b o e => (e0.bs b o e).1
  have lim : s.heap.NoLimit := e0.mod.nolimit.keeps fun b o e => (e0.bs b o e).1
  have hcc0 : base.get? cc = some ⟨cl, cld, .cell (some (.ref D)), csl⟩ := e0.mod.kin _ _ hcell
  have hcc1 := e0.bs _ _ hcc0
  have CA : CellsAt [("__class__", cc)] ["__class__"] [none] s.heap H := by
    refine ⟨rfl, fun y c z => ?_, fun x y c z1 z2 => ?_, fun i y z => ?_⟩
    · simp only [List.lookup] at z
      split at z
      · cases z
        exact ⟨hcc1.2, some (.ref D), _, hcc1.1, rfl⟩
      · cases z
    · simp only [List.lookup] at z1 z2
      split at z1
      · rename_i q1
        split at z2
        · rename_i q2
          exact (beq_iff_eq.mp q1).trans (beq_iff_eq.mp q2).symm
        · cases z2
      · cases z1
    · match i, z with
      | 0, z =>
        cases z
        exact ⟨cc, rfl, fun v z => by cases z⟩
      | i + 1, z => simp at z
  refine ks_codeAny_call_defAt hr.depth (KX _ _ lk) rfl lim (PySem.W.codeRec_of KX hcd) rfl (hb) S.nocell (fun ⟨n, _⟩ hy => S.par n (List.of_mem_zip hy).1) (fun h₁ hns kp => ?_) S.co S.gen S.kind
  obtain ⟨a, ta, t, hv0, eH, ha, ht, hq⟩ := hbody A outer s H vs Q E (hr.deeper _) hsp
  have I := inv_startN (CX := CX) (P := P) (w := w) (K := K) (mg := mg) (base := base) (E := E) (F := ⟨name, qual, params, .Expr (.Call (.Attribute (.Call (.Name "super" p0) [] [] p1) "__init__" p2) (e :: es) [] p3) p4 :: body, scope, [("__class__", cc)], cda⟩) (f := f) (tk := s.toks + (ps.zip us).length) S hr.hd e0 hl r CA hns kp
  have hN0 : N[0]? = some ar.arg := by
    have q := S.pre
    cases ps with
    | nil => cases hps
    | cons p0 ps' =>
      cases hps
      cases N with
      | nil => simp at q
      | cons n0 N' =>
        simp [Nat.add_right_comm] at q
        rw [q.1]
        rfl
  have hpar : ar.arg ∈ ps := by
    cases ps with
    | nil => cases hps
    | cons p0 ps' => cases hps; exact List.mem_cons_self
  have hs0 : (startF N vs [none])[0]? = some (some (.ref a)) := by
    cases vs with
    | nil => cases hv0
    | cons v0 vs' => cases hv0; rfl
  have fin : ∀ {σ' : L2.St} {H' : Hp} {v : V} {u : Value} {s' : Shared}, Inv (ncx CX P w K mg base N ⟨name, qual, params, .Expr (.Call (.Attribute (.Call (.Name "super" p0) [] [] p1) "__init__" p2) (e :: es) [] p3) p4 :: body, scope, [("__class__", cc)], cda⟩ f A outer s H E) [] σ' H' s' → L2.RelV v u → Q v H' → CE outer P w H s Q u s' :=
    fun {σ' H' v u s'} J rv q => ⟨v, H', J.os, J.bare, J.base, J.hok, rv, q⟩
  refine ks_wpAt_execs_cons (ks_wpAt_mono (run_sup (X := ncx CX P w K mg base N ⟨name, qual, params, .Expr (.Call (.Attribute (.Call (.Name "super" p0) [] [] p1) "__init__" p2) (e :: es) [] p3) p4 :: body, scope, [("__class__", cc)], cda⟩ f A outer s H E)
    S.kind hks (S.frk _ (List.mem_singleton.mpr rfl)) (S.par _ hpar) rfl lk rfl hp rfl hcode hvs hfile htop rfl hcell hms T SF hN0 ha I hs0 eH hq (hi _) (hsw _) (he _) (hse _) (hpl _)) (fun fl s' hfl => ?_) fun _ _ z => z)
  obtain ⟨rfl, H1, J, q⟩ := hfl
  refine wpAt_of_wpAny (wpAny_mono (ht.run [] s' _ H1 _ J q) (fun fl s'' hs => ?_) fun _ _ z => z)
  cases fl with
  | ret u =>
    obtain ⟨v, σ', H', J, rv, q⟩ := hs
    exact fin J rv q
  | next =>
    obtain ⟨σ', H', J, q⟩ := hs
    exact fin (v := V.non) (u := Value.none) J rfl q
  | brk =>
    obtain ⟨_, _, _, q⟩ := hs
    exact False.elim q
  | cont =>
    obtain ⟨_, _, _, q⟩ := hs
    exact False.elim q
end ExV
namespace ExV
open PySem PySem.Spec PyProof.Rows L2 L2H HotX
/-! ### defs that are called in the suite of an except clause, the exception itself may be handed to them -/
/-- what such a def promises: the exception's address, class and dict are told -/
structure FnP (P : Program) (w : World) (K : PySem.W.Frag) (mg : Str → Option Value) (base : Heap) (k : Nat) (f : Addr) (fd : FuncData) (ps : List Str) (sp : Addr → Value → Option Addr → Sp) : Prop where
  len : ∀ a c d vs H Q E, sp a c d vs H Q E → vs.length = ps.length
  run : ∀ (A : Around) (outer : List Env) (s : Shared) (H : Hp) (us : List Value) (vs : List V) (Q : VK) (E : XK) (p : Addr × Obj) (c : Value) (d : Option Addr), RoomH k A → Hot1 A p → L2N.Zn c d p.2 → PinOk outer H s p → Env0 P w K mg base A outer s H →
    BindsTo s fd ⟨us, []⟩ (ps.zip us) → Vals vs us → sp p.1 c d vs H Q E → codeAny (model P w) A (.call (.ref f) ⟨us, []⟩) (CR CX0 outer P w H s Q E) s
theorem FnP.mono {P : Program} {w : World} {K : PySem.W.Frag} {mg : Str → Option Value} {base : Heap} {j k : Nat} {f : Addr} {fd : FuncData} {ps : List Str} {sp : Addr → Value → Option Addr → Sp} (F : FnP P w K mg base j f fd ps sp) (h : j ≤ k) : FnP P w K mg base k f fd ps sp :=
  ⟨F.len, fun A outer s H us vs Q E p c d hr => F.run A outer s H us vs Q E p c d (hr.mono h)⟩
/-- the exception of a context: pinned there, and handled -/
def ExP (X : Cx) (a : Addr) (c : Value) (d : Option Addr) : Prop := ∃ oe : Obj, (a, oe) ∈ X.pn ∧ Hot1 X.A (a, oe) ∧ L2N.Zn c d oe
theorem ExP.hot {X : Cx} {a : Addr} {c : Value} {d : Option Addr} (h : ExP X a c d) : HotC X := h.elim fun oe q => ⟨(a, oe), q.2.1, q.1⟩
theorem fnP_of {P : Program} {w : World} {K : PySem.W.Frag} {mg : Str → Option Value} {base : Heap} {x qual : Str} {st : Stmt} {f : Addr} {fd : FuncData} {N ps : List Str} {k : Nat} {sp : Addr → Value → Option Addr → Sp} (F : Fun K x qual st f fd) (S : FnScope N ps (defScope st))
    (len : ∀ a c d vs H Q E, sp a c d vs H Q E → vs.length = ps.length)
    (body : ∀ (cdv : Value) (A : Around) (outer : List Env) (s : Shared) (H : Hp) (vs : List V) (Q : VK) (E : XK) (p : Addr × Obj) (c : Value) (d : Option Addr), ExP ((cxH CX0 P w K mg base N qual (defScope st) f cdv A outer s H E p).nox) p.1 c d → RoomH k (A.deeper (envOfC qual (defScope st) s.heap.objs.size f cdv)) → sp p.1 c d vs H Q E →
      ∃ t, PSs ((cxH CX0 P w K mg base N qual (defScope st) f cdv A outer s H E p).nox) (defBody st) t ∧ t { nx := fun _ H' => Q .non H', rt := Q } (L2.start N vs) H) : FnP P w K mg base (k + 1) f fd ps sp := by
  obtain ⟨oc, od, kV, doc, pm, an, cdv, ct, osl, rfl, lk, hcd⟩ := F.ex
  refine ⟨len, fun A outer s H us vs Q E p c d room hot hz hpin e0 hbi rv hsp => ?_⟩
  have e1 := len _ _ _ _ _ _ _ hsp
  have inK : K.In s.heap := e0.mod.kin.keeps fun b o e => (e0.bs b o e).1
  have kinds : ∀ y ∈ ps.zip us, (defScope st).names.lookup y.1 = some .local ∨ ((defScope st).names.lookup y.1 = some .cell ∧ ((cellsFrom (s.heap.objs.size + 1) (defScope st).names []).lookup y.1).isSome = true) := by
    rintro ⟨n, v⟩ hy
    rcases S.par n (List.of_mem_zip hy).1 with q | q
    · exact .inl q
    · exact .inr ⟨q, PySem.W.cellsFrom_some _ _ _ (.inl q)⟩
  refine codeAny_call_function room.depth (inK _ _ lk) rfl S.co S.gen rfl (PySem.W.codeRec_of inK hcd) (hbi _ _ _ _ (wpAny_newFunctionEnv_cells S.kind kinds fun env he s1 x => ?_))
  subst he
  refine ⟨(e0.mod.nolimit.keeps fun b o e => (e0.bs b o e).1).keeps x.toInCall.keep, codeAny_func ?_⟩
  obtain ⟨t, ht, hq⟩ := body cdv A outer s H vs Q E p c d ⟨p.2, List.mem_singleton.mpr rfl, hot, hz⟩ (room.deeper _) hsp
  have J0 : Inv (cxH CX0 P w K mg base N qual (defScope st) f cdv A outer s H E p) [] (L2.start N vs) H s1 := inv_startH S hpin e0 e1 rv x
  refine wpAny_mono (ht.nox.run [] s1 (L2.start N vs) H _ J0 hq) (fun fl s2 hs => ?_) fun e s2 hs => hs
  have done : ∀ {σ' : L2.St} {H' : Hp} {v : V} {u : Value}, Inv (cxH CX0 P w K mg base N qual (defScope st) f cdv A outer s H E p) [] σ' H' s2 → L2.RelV v u → Q v H' → CE outer P w H s Q u s2 := fun {_ H' v _} J r q => ⟨v, H', J.os, J.bare, J.base, J.hok, r, q⟩
  match fl, hs with
  | .ret u, ⟨v, σ', H', J, r, q⟩ => exact done J r q
  | .next, ⟨σ', H', J, q⟩ => exact done (v := V.non) (u := Value.none) J rfl q
  | .brk, ⟨_, _, _, q⟩ => exact False.elim q
  | .cont, ⟨_, _, _, q⟩ => exact False.elim q
/-- f(..) there -/
def tCallP (sp : Addr → Value → Option Addr → Sp) (a : Addr) (c : Value) (d : Option Addr) (t : TA) : TE := fun σ H Q => t σ H fun vs H1 => sp a c d vs H1 Q E0
theorem pe_callP {X : Cx} {a : Addr} {c : Value} {d : Option Addr} {k : Nat} {f : Addr} {fd : FuncData} {ps : List Str} {sp : Addr → Value → Option Addr → Sp} {x : Str} {q pos : Pos} {e : Expr} {es : List Expr} {t : TA}
    (hE : ExP X a c d) (F : FnP X.prog X.w X.K X.mg X.base k f fd ps sp) (hr : RoomH k X.A) (hg : Gl X x) (hm : X.mg x = some (.ref f)) (hk : PySem.W.keepIn X.K (.ref f) = true) (hb : Binds X.K fd ps []) (ha : PA X (e :: es) t)
    (hdb : (x == ("__debug__" : Str)) = false := by decide) (he : starEach (e :: es) X.env = (false, eval e X.env) :: starEach es X.env := by rfl) (hpl : (backTo pos (starEach es X.env)).any (·.1) = false := by rfl) :
    PE X (.Call (.Name x q) (e :: es) [] pos) (tCallP sp a c d t) := by
  refine ⟨fun pins s σ H Q I h => wpAny_Call_Name_kw (ld_glob I hg hm ?_ hdb)⟩
  refine PySem.W.callWith_K (h₀ := X.base) I.ok.mod.kin hk (thn (ha.run pos pins s σ H _ I h) fun us s1 ⟨vs, H1, I1, r, q1⟩ => ⟨I1.kIn, ?_⟩) he hpl
  obtain ⟨oe, hin, hot, hz⟩ := hE
  have hl : us.length = ps.length := by rw [← r.length]; exact F.len _ _ _ _ _ _ _ q1
  have b := hb s1 us I1.kIn (by rw [List.append_nil]; exact hl)
  rw [List.append_nil] at b
  have P1 := I1.pin (a, oe) (List.mem_append_left _ hin)
  have hpin : PinOk X.stack H1 s1 (a, oe) := ⟨P1.1, P1.2.1, fun hm => (List.mem_cons.mp (I1.stkSub a hm)).elim P1.2.2.1 P1.2.2.2.1, P1.2.2.2.2⟩
  refine wpAny_call (codeAny_mono (F.run X.A X.stack s1 H1 us vs Q E0 (a, oe) c d hr hot hz hpin I1.env0 b r q1) fun r2 s2 hq => ?_)
  match r2, hq with
  | .error e, hq => exact hq.elim
  | .ok (.ret u), hq => exact I1.after hq
  | .ok .next, hq => exact False.elim hq
  | .ok .brk, hq => exact False.elim hq
  | .ok .cont, hq => exact False.elim hq
/-- isinstance(e, c) and isinstance(e, (c, ..)) of the handled exception -/
def rIsP (K : PySem.W.Frag) (a D : Addr) (d : Option Addr) : List V → Hp → VK → Prop := fun xs H Q => ∃ (c : V) (cv : Value) (b : Bool), xs = [.ref a, c] ∧ ExcC K D ∧ (∀ dd, d = some dd → ∃ fs, H dd = some (.xd fs)) ∧ (∀ u, RelV c u → u = cv) ∧ PySem.W.kitOne K (.ref D) cv = some b ∧ Q (.bl b) H
theorem instP {X : Cx} {pins : List (Addr × Obj)} {σ : L2.St} {H : Hp} {s : Shared} {a D : Addr} {d : Option Addr} (I : Inv X pins σ H s) (hE : ExP X a (.ref D) d) (hd : ∀ dd, d = some dd → ∃ fs, H dd = some (.xd fs)) : ∃ oe od, PySem.W.InstAt s.heap a oe D od := by
  obtain ⟨oe, hin, ⟨_, vs, hv, _⟩, hz⟩ := hE
  have hget := (I.pin (a, oe) (List.mem_append_left _ hin)).1
  refine ⟨oe, ?_⟩
  cases d with
  | none => exact ⟨none, hget, hz.1, by unfold PySem.W.notCls; rw [show oe.data = _ from hv] <;> rfl, by rw [hz.2.1]; trivial⟩
  | some dd =>
    obtain ⟨fs, hx⟩ := hd dd rfl
    obtain ⟨mA, hns, _⟩ := (show ObjOk X.prog X.w H s.heap dd (.xd fs) from I.hok dd _ hx)
    obtain ⟨od, ho, _⟩ := lookIn_ns hns
    exact ⟨some od, hget, hz.1, by unfold PySem.W.notCls; rw [show oe.data = _ from hv] <;> rfl, by rw [hz.2.1]; exact ho⟩
theorem kitP {K : PySem.W.Frag} {a D : Addr} {oe : Obj} {od : Option Obj} (C : ExcC K D) : PySem.W.KitX K (.ref a) (.ref D) (fun h => PySem.W.InstAt h a oe D od) := by
  obtain ⟨cd, hc, _⟩ := PySem.W.any_some C.hd
  exact PySem.W.kitx_exc (by rw [hc]; rfl) C.hg C.hk C.hs C.ha C.hn C.ht C.hm
theorem call_isP {X : Cx} {a D : Addr} {d : Option Addr} (hE : ExP X a (.ref D) d) : CallR X (.builtin "isinstance") (rIsP X.K a D d) := by
  intro pins s σ H xs us Q I r h
  obtain ⟨c, cv, b, rfl, C, hd, hcv, e, q⟩ := h
  match r with
  | .cons rx (.cons rt .nil) =>
    cases rx
    have ec := hcv _ rt
    subst ec
    obtain ⟨oe, od, J⟩ := instP I hE hd
    exact PySem.W.kia_one (kitP C) I.kIn J e (fun z => nomatch z) fun tk => ⟨.bl b, H, I.kept (t' := tk) fun _ _ z => z, rfl, q⟩
def rIsPT (K : PySem.W.Frag) (a D : Addr) (d : Option Addr) : List V → Hp → VK → Prop := fun xs H Q => ∃ (tp : Addr) (cs : List V) (ws : List Value) (b : Bool), xs = [.ref a, .ref tp] ∧ ExcC K D ∧ (∀ dd, d = some dd → ∃ fs, H dd = some (.xd fs)) ∧ H tp = some (.tup cs) ∧ Paired ClsV cs ws ∧ PySem.W.kitAny K (.ref D) ws = some b ∧ Q (.bl b) H
theorem call_isPT {X : Cx} {a D : Addr} {d : Option Addr} (hE : ExP X a (.ref D) d) : CallR X (.builtin "isinstance") (rIsPT X.K a D d) := by
  intro pins s σ H xs us Q I r h
  obtain ⟨tp, cs, ws, b, rfl, C, hd, hT, k, e, q⟩ := h
  match r with
  | .cons rx (.cons rt .nil) =>
    cases rx
    cases rt
    obtain ⟨oe, od, J⟩ := instP I hE hd
    obtain ⟨_, its, rv, o, h1, h2, n, h3⟩ := (show ObjOk X.prog X.w H s.heap tp (.tup cs) from I.hok tp _ hT)
    have e3 := ClsV.all k rv
    subst e3
    obtain ⟨oc, odd, dt, sl⟩ := o
    simp only at h2 h3
    subst h2 h3
    exact PySem.W.kia_tup (kitP C) I.kIn J h1 e (fun z => nomatch z) fun tk => ⟨.bl b, H, I.tok tk, rfl, q⟩
/-- e.f of the handled exception -/
def tXp (K : PySem.W.Frag) (a D : Addr) (d : Option Addr) (n : Str) (te : TE) : TE := fun σ H Q => te σ H fun x H1 => ∃ (dd : Addr) (fs : List (Str × V)) (v : V), x = .ref a ∧ d = some dd ∧ XfC K D ∧ PySem.W.findIn K (.ref D) n = some none ∧ H1 dd = some (.xd fs) ∧ fs.lookup n = some v ∧ Q v H1
theorem pe_xp {X : Cx} {a D : Addr} {d : Option Addr} {e : Expr} {te : TE} {pos : Pos} {n : Str} (hE : ExP X a (.ref D) d) (he : PE X e te) (hb : attributeBase e n X.env (eval e X.env) = eval e X.env := by rfl) : PE X (.Attribute e n pos) (tXp X.K a D d n te) := by
  refine ⟨fun pins s σ H Q I h => attr_of hb (thn (he.run pins s σ H _ I h) fun u s1 ⟨x, H1, I1, rx, dd, fs, v, ex, ed, T, hno, ea, l, q⟩ => ?_)⟩
  subst ex
  subst ed
  obtain rfl : u = Value.ref a := rx
  obtain ⟨oe, hin, ⟨_, vs, hv, _⟩, hz⟩ := hE
  have ha := (I1.pin (a, oe) (List.mem_append_left _ hin)).1
  obtain ⟨mA, hns, hr⟩ := (show ObjOk X.prog X.w H1 s1.heap dd (.xd fs) from I1.hok dd _ ea)
  obtain ⟨od, ho, hl⟩ := lookIn_ns hns
  obtain ⟨u, hu, ru⟩ := RelO.some_of (v := v) (o := mA n) (by rw [← l]; exact hr n)
  have J : PySem.W.InstAt s1.heap a oe D (some od) := ⟨ha, hz.1, by unfold PySem.W.notCls; rw [show oe.data = _ from hv] <;> rfl, by rw [hz.2.1]; exact ho⟩
  exact HandSPX.exc_get I1.kIn J T.ga T.gg T.exC (PySem.W.findObj_own T.hdC hno rfl (by rw [hl, hu])) (handed_of ru) ⟨v, H1, I1.tok _, ru, q⟩
/-- the same, the class told as a value -/
def rIsPc (K : PySem.W.Frag) (a : Addr) (c : Value) (d : Option Addr) : List V → Hp → VK → Prop := fun xs H Q => ∃ D : Addr, c = .ref D ∧ rIsP K a D d xs H Q
theorem call_isPc {X : Cx} {a : Addr} {c : Value} {d : Option Addr} (hE : ExP X a c d) : CallR X (.builtin "isinstance") (rIsPc X.K a c d) := by
  intro pins s σ H xs us Q I r h
  obtain ⟨D, rfl, h⟩ := h
  exact call_isP hE pins s σ H xs us Q I r h
theorem takesN0 {X : Cx} : L2N.Takes X (fun _ _ _ _ => False) := fun u s' x => by
  obtain ⟨a, B, sI, pins, σ, H, cls, d, e, I, nb, up, sky, na, os, ag, z⟩ := x
  exact z.elim
theorem suite_exP {X : Cx} {a : Addr} {oe : Obj} {c : Value} {d : Option Addr} {pn : List (Addr × Obj)} (hz : L2N.Zn c d oe) (hf : ∃ vs, oe.data = .fields vs) : ExP (X.suite a ((a, oe) :: pn)) a c d := by
  obtain ⟨vs, hv⟩ := hf
  exact ⟨oe, List.mem_cons_self, ⟨rfl, vs, hv, hz.2.2 vs hv⟩, hz⟩
end ExV
namespace ExV
open PySem PySem.Spec PyProof.Rows L2 L2H HotX
/-! ### a list comprehension in the suite of an except clause -/
/-- the block's context there: the handled exception stays pinned -/
abbrev blkH (X : Cx) (p : Addr × Obj) (s : Shared) (H : Hp) (scope : Scope) (ce : Env) (fp : List Addr) : Cx := (X.blk s H scope ce fp).tr [p] fun _ _ => False
theorem pe_lcH {X : Cx} {elt tg iter : Expr} {ifs : List Expr} {scope : Scope} {own : List (Str × Nat)} {pos : Pos} {wi : TI} {g : TG} {tt : TT} {te : TE} (hot : HotC X) (hN : X.N.Nodup) (hi : PIH X tg iter wi) (ok : BlkOk X.N X.env.scope scope own)
    (hg : ∀ (p : Addr × Obj) (s : Shared) (H : Hp) (C : Addr) (cl : List (Str × Addr)) (fp : List Addr), PG (blkH X p s H scope (compEnvC scope cl C X.env) fp) tg g)
    (ht : ∀ (p : Addr × Obj) (s : Shared) (H : Hp) (C : Addr) (cl : List (Str × Addr)) (fp : List Addr), PTs (blkH X p s H scope (compEnvC scope cl C X.env) fp) ifs tt)
    (he : ∀ (p : Addr × Obj) (s : Shared) (H : Hp) (C : Addr) (cl : List (Str × Addr)) (fp : List Addr), PE (blkH X p s H scope (compEnvC scope cl C X.env) fp) elt te)
    (hs : ∀ x, foldedSetIterable iter X.env x = pure x := by intro _; rfl) : PE X (.ListComp elt [⟨tg, iter, ifs, 0⟩] scope pos) (tLc wi g tt te (own.map (·.2))) := by
  refine ⟨fun pins s σ H Q I h => ?_⟩
  obtain ⟨p, hp1, hpn⟩ := hot
  rw [eval_ListComp]
  have known : ∀ y ∈ scope.names, y.2 = .free → ∃ c, X.env.cells.lookup y.1 = some c := fun y hy e => (ok.free y hy e).elim (fun k => I.ok.has _ (.inl k)) fun k => I.ok.has _ (.inr k)
  refine wpAny_comprehension_free (use := none) rfl hs (closure_ok known) ok.kind (fun y hy e => by rw [ok.uniq y hy, e]) (thn (hi.run pins s σ H _ I h) fun xv s1 hx => thn hx fun itv s2 hit => ?_)
  obtain ⟨it, fp, tn, J, H2, rfl, I2, T, tn2, fp2, rest⟩ := hit
  refine wpAny_newObj_type (newEnv_comp ?_) (by show 0 ≤ sizeLine; decide)
  generalize hD : s2.heap.objs.size = D
  obtain ⟨W, ⟨m0, w0⟩, turn⟩ := rest D (I2.hok.fresh (Nat.le_of_eq hD))
  generalize hs3 : ({ s2 with heap := s2.heap.push { cls := .type "list", data := .seq ([] : List Value).toArray } } : Shared) = s3
  have I3 : Inv X pins σ (upd H2 D (.lst [])) s3 := hs3 ▸ I2.laid (t' := s2.toks) (fun b o e => Heap.get?_push_of_some _ e) (Nat.le_of_eq hD) ⟨Nat.zero_le _, [], 0, .nil, hD ▸ Heap.get?_push_size _ rfl⟩
  have heap3 : s3.heap = s2.heap.push { cls := .type "list", data := .seq ([] : List Value).toArray } := hs3 ▸ rfl
  have fp3 : ∀ b ∈ fp, FpOk X pins (upd H2 D (.lst [])) b ∧ b < s3.heap.objs.size := fun b hb => by
    obtain ⟨o, eo, _⟩ := T.obj _ _ tn2 b hb
    have lt := Heap.lt_size eo
    exact ⟨⟨(upd_ne (hD ▸ Nat.ne_of_lt lt)).trans (fp2 b hb).1, (fp2 b hb).2⟩, by rw [heap3, Heap.size_push]; exact Nat.lt_succ_of_lt lt⟩
  have tn3 : tn 0 s3.heap := T.keep _ _ _ tn2 fun b _ o e => heap3 ▸ Heap.get?_push_of_some _ e
  generalize hC : s3.heap.objs.size = C
  have I4' := block_start I3 ok hN fp3
  have pg := hg p s3 (upd H2 D (.lst [])) s3.heap.objs.size (cellsFrom (s3.heap.objs.size + 1) scope.names (cloFrom X.env.cells scope.names [])) fp
  have pt := ht p s3 (upd H2 D (.lst [])) s3.heap.objs.size (cellsFrom (s3.heap.objs.size + 1) scope.names (cloFrom X.env.cells scope.names [])) fp
  have pe := he p s3 (upd H2 D (.lst [])) s3.heap.objs.size (cellsFrom (s3.heap.objs.size + 1) scope.names (cloFrom X.env.cells scope.names [])) fp
  have nil3 : ∀ b ∈ fp, (upd H2 D (.lst [])) b = none := fun b hb => (fp3 b hb).1.1
  rw [hC] at I4' pg pt pe
  change codeAny _ _ (.compStart (.ListComp elt [⟨tg, iter, ifs, 0⟩] scope pos) 0 (.ref it) (.ref D) (compEnvC scope (cellsFrom (C + 1) scope.names (cloFrom X.env.cells scope.names [])) C X.env)) (compPost (model X.prog X.w) X.A X.xe none (EP X pins σ Q) (.ref D) C) _
  generalize hce : compEnvC scope (cellsFrom (C + 1) scope.names (cloFrom X.env.cells scope.names [])) C X.env = ce at I4' pg pt pe ⊢
  have ceL : ce.locals = C := hce ▸ rfl
  generalize hH3 : upd H2 D (.lst []) = H3 at I3 I4' pg pt pe w0 nil3 fp3
  generalize hs4 : ({ s3 with heap := pushCells (s3.heap.push { cls := .type "dict", data := .dict #[] }) scope.names } : Shared) = s4 at I4' ⊢
  have grow : ∀ b o, s3.heap.get? b = some o → s4.heap.get? b = some o := fun b o e => hs4 ▸ pushCells_keeps _ _ _ _ (Heap.get?_push_of_some _ e)
  have tn4 : tn 0 s4.heap := T.keep _ _ _ tn3 fun b _ o e => grow b o e
  have pin3 := I3.pin p (List.mem_append_left _ hpn)
  have I4 : Inv (blkH X p s3 H3 scope ce fp) [] (wipe σ (own.map (·.2))) H3 s4 :=
    ⟨I4'.ok.toTry _ _, I4'.os, I4'.bare, I4'.base, I4'.loc, I4'.cell, I4'.free, I4'.freeC, fun q hq => by
      obtain rfl : q = p := by simpa using (show q ∈ [p] ++ ([] : List (Addr × Obj)) from hq)
      refine ⟨grow _ _ pin3.1, pin3.2.1, fun z => ?_, fun z => ?_, pin3.2.2.2.2⟩
      · have lt := Heap.lt_size pin3.1
        rw [show q.1 = ce.locals from z, ceL, hC] at lt
        exact absurd lt (Nat.lt_irrefl _)
      · exact (List.mem_cons.mp (I3.stkSub q.1 z)).elim pin3.2.2.1 pin3.2.2.2.1, I4'.hok, I4'.len⟩
  have hotB : HotC (blkH X p s3 H3 scope ce fp) := ⟨p, hp1, List.mem_singleton.mpr rfl⟩
  have stay : ∀ {σ' : L2.St} {H' : Hp} {s' : Shared}, Inv (blkH X p s3 H3 scope ce fp) [] σ' H' s' → (∀ b ∈ fp, H' b = none) → ∀ b ∈ fp, FpOk (blkH X p s3 H3 scope ce fp) [] H' b := fun {_ _ _} J hn b hb =>
    ⟨hn b hb, (J.ok.exf b hb).1, J.ok.exfs b hb, .inl hb, fun x c e => (J.ok.exf b hb).2 x c e, fun q hq => by
      obtain rfl : q = p := by simpa using (show q ∈ [p] ++ ([] : List (Addr × Obj)) from hq)
      exact (fp3 b hb).1.2.2.2.2.2 q (List.mem_append_left _ hpn)⟩
  have loop : codeAny (model X.prog X.w) X.A (.compLoop (.ListComp elt [⟨tg, iter, ifs, 0⟩] scope pos) 0 (.ref it) (.ref D) ce) (compPost (model X.prog X.w) X.A X.xe none (EP X pins σ Q) (.ref D) C) s4 := by
    refine compLoop_any (fun n s' => ∃ i H', Inv (blkH X p s3 H3 scope ce fp) [] (wipe σ (own.map (·.2))) H' s' ∧ tn i s'.heap ∧ (∀ b ∈ fp, H' b = none) ∧ W i n H') (fun n s5 hn => ?_) m0 ⟨0, H3, I4, tn4, nil3, w0⟩
    obtain ⟨i, H5, I5, tn5, nil5, w5⟩ := hn
    rcases turn i n H5 w5 with ⟨hstop, hq⟩ | ⟨hgo, Nx, less, step⟩
    · refine thnF (T.done (blkH X p s3 H3 scope ce fp) rfl rfl rfl hotB i [] s5 _ H5 (fun _ _ => False) I5 (stay I5 nil5) tn5 hstop) fun r s6 ⟨hr, I6⟩ => ?_
      subst hr
      have I7 : Inv X pins σ H5 s6 := I3.call' (ch := fp) I6.os I6.base I6.hok I6.bare fun b hb => ⟨(fp3 b hb).1.2.2.2.1, (fp3 b hb).1.2.1, (fp3 b hb).1.2.2.2.2.1, (fp3 b hb).1.2.2.2.2.2⟩
      have atC : H5 C = none := ceL ▸ I6.free
      obtain ⟨m, hns, _⟩ := I6.loc
      have hns : s6.heap.Ns C m := ceL ▸ hns
      obtain ⟨f0, f1, f2, f3, f4, f5⟩ := I3.fpOk (Nat.le_of_eq hC) atC
      exact ⟨m, hns, fun h2 sb => ⟨.ref D, H5, I7.turned (t' := s6.toks) (fun b o hb e => (sb.2 b hb).trans e) f0 f1 f3 f4 f5, rfl, hq⟩⟩
    · refine thnF (T.item (blkH X p s3 H3 scope ce fp) rfl rfl rfl hotB i [] s5 _ H5 (fun _ _ => False) I5 (stay I5 nil5) tn5 hgo) fun r s6 ⟨u, hr, h6⟩ => ?_
      subst hr
      refine thnF h6 fun _ s7 ⟨x, H7, I7, r7, y7, tn7, nil7⟩ => ?_
      refine thnF (pg.run _ s7 _ H7 x u _ (I7.pinned (stay I7 nil7) (T.obj _ _ tn7)) r7 (step x H7 y7)) fun _ s8 ⟨σ8, H8, I8, same8, q8⟩ => ?_
      refine thnF (pt.run _ s8 σ8 H8 _ I8 q8) fun b s9 ⟨H9, I9, q9⟩ => ?_
      have next : ∀ {s' : Shared} {H' : Hp}, Inv (blkH X p s3 H3 scope ce fp) ([] ++ pinsAt fp s7.heap) σ8 H' s' → Nx H' → ∃ m, m < n ∧ ∃ i H', Inv (blkH X p s3 H3 scope ce fp) [] (wipe σ (own.map (·.2))) H' s' ∧ tn i s'.heap ∧ (∀ b ∈ fp, H' b = none) ∧ W i m H' := fun {s' H'} J nx => by
        obtain ⟨m', lt, w'⟩ := less H' nx
        have at_ : ∀ b ∈ fp, ∀ o, s7.heap.get? b = some o → s'.heap.get? b = some o ∧ H' b = none := fun b hb o e => ⟨(J.pin (b, o) (List.mem_append_right _ (List.mem_append_right _ (mem_pinsAt hb e)))).1, (J.pin (b, o) (List.mem_append_right _ (List.mem_append_right _ (mem_pinsAt hb e)))).2.1⟩
        refine ⟨m', lt, i + 1, H', (J.unpinned (pins := [])).weak (by rw [← same8, wipe_length]) (fun j v e => (wipe_some (same8 ▸ e)).1), T.keep _ _ _ tn7 fun b hb o e => (at_ b hb o e).1, fun b hb => ?_, w'⟩
        obtain ⟨o, e, _⟩ := T.obj _ _ tn7 b hb
        exact (at_ b hb o e).2
      cases b with
      | false => exact next I9 q9
      | true =>
        refine thnF (pe.run _ s9 σ8 H9 _ I9 q9) fun z s10 ⟨yv, H10, I10, r10, acc, at10, lt10, nx⟩ => ?_
        exact app_ok (X := blkH X p s3 H3 scope ce fp) I10 at10 lt10 r10 fun s11 J => next J nx
  exact codeAny_compStart_list loop (T.self X.A 0 _ _ _ tn4 loop)
end ExV
namespace ExV
open PySem PySem.Spec PyProof.Rows L2 NdefX
/-! ### C(..) of an own exception class, its context told -/
theorem let_goN {X : Cx} {pins : List (Addr × Obj)} {σ : L2.St} {H1 H2 : Hp} {Q : XK} {hp hp2 h2 : Heap} {g1 g2 : Array GenState} {d1 d2 : Drawn} {t1 t2 : Nat} {os1 os2 : OsState} {a C : Addr} (T : Raises X (.ref C)) (I1 : Inv X pins σ H1 ⟨hp, g1, d1, t1, os1⟩)
    (ha : hp.objs.size ≤ a) (k : ∀ b o, hp.get? b = some o → hp2.get? b = some o) (un : Un (frs X.stack) [] (upd H1 a (exo a C none)) H2 hp2 h2) (hok : HOk X.prog X.w H2 h2) (ho : os2 = os1) (hb : AllBare g2)
    (ea : H2 a = some (exo a C none)) (q : Q (.ref C) none (del H2 a)) : L2N.MkP X pins σ Q (.ref a) ⟨h2, g2, d2, t2, os2⟩ := by
  obtain ⟨a', oe, vs, sI, H', cls, d, e1, J, k2, ne, hoe, hz, hd, h1, na, eos, bare, R, q'⟩ := let_go (d2 := d2) (t2 := t2) (Q := fun c d H' => c = .ref C ∧ d = none ∧ H' = del H2 a) T I1 ha k un hok ho hb ea ⟨rfl, rfl, rfl⟩
  cases e1
  obtain ⟨rfl, rfl, rfl⟩ := q'
  obtain ⟨t0, hoe'⟩ := exo_at hok ea
  have hoe'' : h2.get? a = some oe := hoe
  rw [hoe''] at hoe'
  cases hoe'
  exact ⟨a, _, vs, sI, _, _, _, rfl, J, k2, ne, hoe, ⟨hz.1, hz.2, fun vs e => by cases e; rfl⟩, hd, h1, na, eos, bare, R, q⟩
/-- what such a class's making tells: nothing stored, or a dict -/
def rMkN (C : Addr) (sp : Sp) (dvs : List V) (Q : XK) (vs : List V) (H1 : Hp) : Prop := vs.length ≤ 1000 ∧ ∀ a, H1 a = none → sp (.ref a :: (vs ++ dvs)) (upd H1 a (exo a C none)) (fun v H2 => v = .non ∧ ((H2 a = some (exo a C none) ∧ Q (.ref C) none (del H2 a)) ∨
  ∃ (d : Addr) (fs : List (Str × V)), H2 a = some (exo a C (some d)) ∧ H2 d = some (exd d fs) ∧ H1 d = none ∧ Q (.ref C) (some d) (upd (del H2 a) d (.xd fs)))) (fun _ _ _ => False)
theorem made_run {X : Cx} {CX : CXT} {pins : List (Addr × Obj)} {σ : L2.St} {H1 : Hp} {s1 : Shared} {C fI : Addr} {k : Nat} {fd : FuncData} {ps : List Str} {sp : Sp} {ds us : List Value} {vs dvs : List V} {Q : XK} (T : OexC X.K C) (iC : PySem.W.findIn X.K (.ref C) "__init__" = some (some (.ref fI)))
    (tI : PySem.W.typeIn X.K (.ref fI) = some (.type "function")) (F1 : FnOk X.prog X.w X.K X.mg X.base CX k fI fd ps sp) (hr : Room (k + 1) X.A) (hb : Binds X.K fd ps ds) (hd : Vals dvs ds) (hx : Passes CX X (fun _ _ _ => False)) (I1 : Inv X pins σ H1 s1) (r1 : Vals vs us) (h : rMkN C sp dvs Q vs H1) :
    wpAny (model X.prog X.w) X.A (call (.ref C) us) (L2N.MkP X pins σ Q) X.xe s1 := by
  obtain ⟨nm, q, N, bs, bm, sn, sub, ab, col, dd, k0, k1, k2, k3, k5, hC, hbm⟩ := T.cls
  obtain ⟨hl1, q1⟩ := h
  obtain ⟨hp, g, dr, tk, os⟩ := s1
  have big : hp.objs.size ≤ hp.objs.size + 1 := Nat.le_succ _
  have free : H1 (hp.objs.size + 1) = none := I1.hok.fresh big
  have hq := q1 (hp.objs.size + 1) free
  have old : ∀ b o, hp.get? b = some o → ((hp.push (PySem.W.kdv_tup us)).push (PySem.HandSPX.excO C hp.objs.size)).get? b = some o := fun b o e => Heap.get?_push_of_some _ (Heap.get?_push_of_some _ e)
  have new : ((hp.push (PySem.W.kdv_tup us)).push (PySem.HandSPX.excO C hp.objs.size)).get? (hp.objs.size + 1) = some (PySem.HandSPX.excO C hp.objs.size) := by heap_get
  have J : Inv X pins σ (upd H1 (hp.objs.size + 1) (exo (hp.objs.size + 1) C none)) ⟨(hp.push (PySem.W.kdv_tup us)).push (PySem.HandSPX.excO C hp.objs.size), g, dr, tk, os⟩ := I1.laid (t' := tk) old big (exo_ok new)
  have vals : Vals (V.ref (hp.objs.size + 1) :: (vs ++ dvs)) (Value.ref (hp.objs.size + 1) :: (us ++ ds)) := .cons rfl (r1.append hd)
  have len : (Value.ref (hp.objs.size + 1) :: us ++ ds).length = ps.length := by rw [← F1.len _ _ _ _ hq]; exact vals.length.symm
  have few : us.length ≤ sizeLine := by rw [← Paired.length r1, sizeLine_eq]; omega
  refine wpAny_call (PySem.HandSPX.call_own F.excBase_ValueError (fun Y => PySem.HandSPX.refsVE_contains Y bm hbm) (I1.kIn _ _ hC) (PySem.W.looks_findIn I1.kIn iC) (fun self => PySem.W.bind_fn I1.kIn self tI) few
    (codeAny_mono (F1.run _ X.stack _ _ ⟨Value.ref (hp.objs.size + 1) :: us, []⟩ _ _ _ (fun _ _ _ => False) (hr.make C us []) (J.env0.make C us []) (hb _ (Value.ref (hp.objs.size + 1) :: us) J.kIn len) vals hq) fun r s2 hq2 => ?_))
  match r, hq2 with
  | .error er, hq2 => exact hx pins σ _ _ er s2 J hq2
  | .ok .next, hq2 => exact False.elim hq2
  | .ok .brk, hq2 => exact False.elim hq2
  | .ok .cont, hq2 => exact False.elim hq2
  | .ok (.ret u), hq2 =>
    obtain ⟨v, H2, os2, bare2, un2, hok2, rv, ev, fin⟩ := hq2
    subst ev
    obtain ⟨h2, g2, d2, t2, os'⟩ := s2
    rcases fin with ⟨ea, q2⟩ | ⟨d, fs, ea, ed, hd1, q2⟩
    · exact ⟨rv, let_goN (raises_own T.exC T.tyC) I1 big old un2 hok2 os2 bare2 ea q2⟩
    · obtain ⟨t0, G, J2, kG, ge, hoe, na⟩ := mk_end0 (d2 := d2) (t2 := t2) I1 big old un2 hok2 os2 bare2 ea ed hd1
      exact ⟨rv, _, _, _, ⟨G, g2, d2, t2, os'⟩, _, .ref C, some d, rfl, J2, kG, ge, hoe, ⟨rfl, rfl, fun vs e => by cases e; rfl⟩, rfl, rfl, na, rfl, bare2, raises_own T.exC T.tyC, q2⟩
section
variable {X : Cx} {CX : CXT} {x : Str} {C fI : Addr} {k : Nat} {fd : FuncData} {ps : List Str} {sp : Sp} {p pos : Pos} {e : Expr} {es : List Expr} {ta : TA}
theorem pmkN (T : OexC X.K C) (iC : PySem.W.findIn X.K (.ref C) "__init__" = some (some (.ref fI))) (tI : PySem.W.typeIn X.K (.ref fI) = some (.type "function")) (F1 : FnOk X.prog X.w X.K X.mg X.base CX k fI fd ps sp) (hr : Room (k + 1) X.A) (hb : Binds X.K fd ps [])
    (hx : Passes CX X (fun _ _ _ => False)) (hg : Gl X x) (hm : X.mg x = some (.ref C)) (ha : PA X (e :: es) ta) (hdb : (x == ("__debug__" : Str)) = false := by decide) (he : starEach (e :: es) X.env = (false, eval e X.env) :: starEach es X.env := by rfl)
    (hpl : (backTo pos (starEach es X.env)).any (·.1) = false := by rfl) : L2N.PMk X (.Call (.Name x p) (e :: es) [] pos) (fun σ H Q => ta σ H (rMkN C sp [] Q)) := fun pins s σ H Q I h =>
  wpAny_Call_Name_kw (ld_glob I hg hm (PySem.W.callWith_K (h₀ := X.base) I.ok.mod.kin T.kC (thn (ha.run pos pins s σ H _ I h) fun us s1 ⟨vs, H1, I1, r1, q1⟩ => ⟨I1.kIn, made_run T iC tI F1 hr hb .nil hx I1 r1 q1⟩) he hpl) hdb)
theorem pmkN0 (T : OexC X.K C) (iC : PySem.W.findIn X.K (.ref C) "__init__" = some (some (.ref fI))) (tI : PySem.W.typeIn X.K (.ref fI) = some (.type "function")) (F1 : FnOk X.prog X.w X.K X.mg X.base CX k fI fd ps sp) (hr : Room (k + 1) X.A) (hb : Binds X.K fd ps [])
    (hx : Passes CX X (fun _ _ _ => False)) (hg : Gl X x) (hm : X.mg x = some (.ref C)) (hdb : (x == ("__debug__" : Str)) = false := by decide) : L2N.PMk X (.Call (.Name x p) [] [] pos) (fun _ H Q => rMkN C sp [] Q [] H) := fun pins s σ H Q I h =>
  wpAny_Call_Name_kw (ld_glob I hg hm (PySem.W.callWith_K0 I.kIn T.kC (made_run T iC tI F1 hr hb .nil hx I .nil h)) hdb)
end
/-! ### what the text says of its exception classes -/
def excB (K : PySem.W.Frag) (C : Addr) (fs : List Str) : Bool :=
  decide (PySem.W.findIn K (.ref C) "__setattr__" = some (some (.builtin "object.__setattr__"))) && decide (PySem.W.findIn K (.ref C) "__getattribute__" = some (some (.builtin "BaseException.__getattribute__"))) && decide (PySem.W.findIn K (.ref C) "__getattr__" = some none) &&
    decide (PySem.W.subIn K (.ref C) (.type "BaseException") = some true) && decide (PySem.W.typeIn K (.ref C) = some (.type "type")) && PySem.W.keepIn K (.ref C) && PySem.W.hasDictIn K C && decide (PySem.W.findIn K (.ref C) "__class__" = some (some (.builtin "object.__class__"))) &&
    decide (PySem.W.specialIn K (.builtin "object.__class__") "__get__" = some (some (.builtin "getset_descriptor.__get__"))) && decide (PySem.W.takesIn K (.builtin "object.__class__") = some true) && decide (PySem.W.mroIn K C (.type "object") = some true) && fs.all fun f => decide (PySem.W.findIn K (.ref C) f = some none)
structure ExcF (K : PySem.W.Frag) (C : Addr) (fs : List Str) : Prop where
  sa : PySem.W.findIn K (.ref C) "__setattr__" = some (some (.builtin "object.__setattr__"))
  ty : PySem.W.typeIn K (.ref C) = some (.type "type")
  kp : PySem.W.keepIn K (.ref C) = true
  ec : ExcC K C
  xf : XfC K C
  no : ∀ f ∈ fs, PySem.W.findIn K (.ref C) f = some none
theorem excB_ok {K : PySem.W.Frag} {C : Addr} {fs : List Str} (h : excB K C fs = true) : ExcF K C fs := by
  unfold excB at h
  simp only [Bool.and_eq_true, decide_eq_true_eq, List.all_eq_true] at h
  obtain ⟨⟨⟨⟨⟨⟨⟨⟨⟨⟨⟨h1, h2⟩, h3⟩, h4⟩, h5⟩, h6⟩, h7⟩, h8⟩, h9⟩, ha⟩, hb⟩, hc⟩ := h
  exact ⟨h1, h5, h6, ⟨h2, h3, h4, h7, h8, h9, ha, hb⟩, ⟨h2, h3, h4, h7⟩, hc⟩
/-- isinstance of an instance of C, class by class -/
def kitRow (K : PySem.W.Frag) (C : Addr) (Ds : List Addr) : List (Option Bool) := Ds.map fun D => PySem.W.kitOne K (.ref C) (.ref D)
def supB (K : PySem.W.Frag) (C : Addr) : Bool := (PySem.W.clsIn K C).isSome && decide (PySem.W.mroIn K C (.ref C) = some true) && decide (PySem.W.ks_superIn K C C "__init__" = some (some (.builtin "ValueError.__init__"))) && decide (PySem.W.subIn K (.ref C) (.type "ValueError") = some true) &&
  decide (PySem.W.nsIn K cStatics "thirdparty.any" = some none)
theorem supB_ok {K : PySem.W.Frag} {C : Addr} (h : supB K C = true) : SupF K C C := by
  unfold supB at h
  simp only [Bool.and_eq_true, decide_eq_true_eq] at h
  obtain ⟨⟨⟨⟨h1, h2⟩, h3⟩, h4⟩, h5⟩ := h
  exact ⟨h1, h2, h3, h4, h5⟩
/-- its own __init__ -/
structure IniF (P : Program) (K : PySem.W.Frag) (qual : Str) (st : Stmt) (C f : Addr) (fd : FuncData) : Prop where
  ex : ∃ (oc kV doc pm ct ccl cl : Value) (od an cdd cld : Option Addr) (osl ccs csl : Array (Option Value)) (cc cda : Addr) (vs : Array Value) (file : Str) (tf : Tok), fd = PySem.W.ksFn "__init__" qual (defArgs st) (defBody st) (defScope st) .none kV doc pm an (.ref cda) ct cc ∧
    K.lookup f = some ⟨oc, od, .func fd, osl⟩ ∧ PySem.W.codeIn K (.ref cda) qual = true ∧ K.lookup cda = some ⟨ccl, cdd, .fields vs, ccs⟩ ∧ vs[2]? = some (.str file tf) ∧ ((P.main.file : Str) == file) = true ∧ K.lookup cc = some ⟨cl, cld, .cell (some (.ref C)), csl⟩
  iC : PySem.W.findIn K (.ref C) "__init__" = some (some (.ref f))
  tI : PySem.W.typeIn K (.ref f) = some (.type "function")
  sup : SupF K C C
/-- it binds its parameters -/
theorem IniF.binds {P : Program} {K : PySem.W.Frag} {qual : Str} {st : Stmt} {C f : Addr} {fd : FuncData} {ps : List Str} (F : IniF P K qual st C f fd)
    (h : ∀ (kV doc pm : Value) (an : Option Addr) (cdv ct : Value) (cc : Addr) (us : List Value), us.length = ps.length → bindArgs (PySem.W.ksFn "__init__" qual (defArgs st) (defBody st) (defScope st) .none kV doc pm an cdv ct cc) ⟨us, []⟩ = pure (ps.zip us)) : Binds K fd ps [] := by
  obtain ⟨oc, kV, doc, pm, ct, ccl, cl, od, an, cdd, cld, osl, ccs, csl, cc, cda, vs, file, tf, rfl, _⟩ := F.ex
  exact .all (h kV doc pm an (.ref cda) ct cc)
/-- the promise of an __init__ that stores its arguments under the names fs -/
def spIni (C : Addr) (fs : List Str) (ok : List V → Prop) : Sp := fun vs H Q _ => ∃ (a : Addr) (xs : List V), vs = .ref a :: xs ∧ ok xs ∧ H a = some (exo a C none) ∧ ((fs = [] ∧ Q .non H) ∨
  (fs ≠ [] ∧ ∀ d H', H d = none → d ≠ a → H' a = some (exo a C (some d)) → H' d = some (exd d (fs.zip xs).reverse) → (∀ b, b ≠ a → b ≠ d → H' b = H b) → Q .non H'))
section
variable {P : Program} {w : World} {K : PySem.W.Frag} {mg : Str → Option Value} {base : Heap}
theorem IniF.fn {qual : Str} {st : Stmt} {body : List Stmt} {C f : Addr} {fd : FuncData} {N ps fs : List Str} {ok : List V → Prop} {p0 p1 p2 p3 p4 : Pos} {e : Expr} {es : List Expr} {ar : Arg} {pl : Addr → Addr → Addr → Sem Bool} (F : IniF P K qual st C f fd) (T : OexC K C)
    (hB : defBody st = .Expr (.Call (.Attribute (.Call (.Name "super" p0) [] [] p1) "__init__" p2) (e :: es) [] p3) p4 :: body) (S : NScope N ps ["__class__"] (defScope st)) (hp : ((defArgs st).posonlyargs ++ (defArgs st).args).head? = some ar) (hps : ps.head? = some ar.arg)
    (htop : (P.main.scope.names.lookup ("super" : Str)).isSome = false) (hms : mg "super" = none) (hks : (defScope st).names.lookup ("super" : Str) = some .globalImplicit) (hok : ∀ xs, ok xs → xs.length + 1 = ps.length)
    (hi : ∀ L cda cc, interactive (PySem.W.ksEnv qual (defScope st) L f (.ref cda) cc) = false) (hsw : ∀ L cda cc, swapsWith (.Call (.Attribute (.Call (.Name "super" p0) [] [] p1) "__init__" p2) (e :: es) [] p3) none p4.line (PySem.W.ksEnv qual (defScope st) L f (.ref cda) cc) = pure false)
    (he : ∀ L cda cc, eval (.Call (.Attribute (.Call (.Name "super" p0) [] [] p1) "__init__" p2) (e :: es) [] p3) (PySem.W.ksEnv qual (defScope st) L f (.ref cda) cc) = (do
      let ov ← attributeBase (.Call (.Name "super" p0) [] [] p1) "__init__" (PySem.W.ksEnv qual (defScope st) L f (.ref cda) cc) (eval (.Call (.Name "super" p0) [] [] p1) (PySem.W.ksEnv qual (defScope st) L f (.ref cda) cc))
      standAt p2.atName
      let (fm, first) ← holding [ov] (getMethod ov "__init__" (pl L cda cc))
      callWith p3 fm first (backTo p3 (starEach (e :: es) (PySem.W.ksEnv qual (defScope st) L f (.ref cda) cc))) []))
    (hse : ∀ L cda cc, starEach (e :: es) (PySem.W.ksEnv qual (defScope st) L f (.ref cda) cc) = (false, eval e (PySem.W.ksEnv qual (defScope st) L f (.ref cda) cc)) :: starEach es (PySem.W.ksEnv qual (defScope st) L f (.ref cda) cc))
    (hpl : ∀ L cda cc, (backTo p3 (starEach es (PySem.W.ksEnv qual (defScope st) L f (.ref cda) cc))).any (·.1) = false)
    (hbody : ∀ (cda cc : Addr) (A : Around) (outer : List Env) (s : Shared) (H : Hp) (a : Addr) (xs : List V) (Q : VK) (E : XK), ok xs → H a = some (exo a C none) → ((fs = [] ∧ Q .non H) ∨ (fs ≠ [] ∧ ∀ d H', H d = none → d ≠ a → H' a = some (exo a C (some d)) → H' d = some (exd d (fs.zip xs).reverse) → (∀ b, b ≠ a → b ≠ d → H' b = H b) → Q .non H')) →
      ∃ ta t, PA (ncx CX0 P w K mg base N ⟨"__init__", qual, defArgs st, defBody st, defScope st, [("__class__", cc)], cda⟩ f A outer s H E) (e :: es) ta ∧ PSs (ncx CX0 P w K mg base N ⟨"__init__", qual, defArgs st, defBody st, defScope st, [("__class__", cc)], cda⟩ f A outer s H E) body t ∧
        ta (startF N (.ref a :: xs) [none]) H fun us H1 => us.length ≤ 1000 ∧ H1 a = some (exo a C none) ∧ t { nx := fun _ H' => Q .non H', rt := Q } (startF N (.ref a :: xs) [none]) H1) :
    FnOk P w K mg base CX0 1 f fd ps (spIni C fs ok) := by
  obtain ⟨oc, kV, doc, pm, ct, ccl, cl, od, an, cdd, cld, osl, ccs, csl, cc, cda, vs, file, tf, rfl, lk, hcd, hcode, hvs, hfile, hcell⟩ := F.ex
  generalize hb : defBody st = B at *
  subst hB
  refine fn_sup (k := 0) (pl := fun L => pl L cda cc) lk hcd S hp hps hcode hvs hfile htop hcell hms hks T F.sup (fun vs H Q E h => ?_) (fun L => hi L _ _) (fun L => hsw L _ _) (fun L => he L _ _) (fun L => hse L _ _) (fun L => hpl L _ _) (fun A outer s H vs Q E hr h => ?_)
  · obtain ⟨a, xs, rfl, h1, _⟩ := h
    exact hok xs h1
  · obtain ⟨a, xs, rfl, h1, h2, h3⟩ := h
    obtain ⟨ta, t, ha, ht, hq⟩ := hbody cda cc A outer s H a xs Q E h1 h2 h3
    exact ⟨a, ta, t, rfl, h2, ha, ht, hq⟩
end
end ExV
namespace Mine
open PySem L2 ExV
def top (i : Nat) : Stmt := PySem.Challenge.pw_neverhappens_k79_errors.main.body.getD i (.Pass ⟨0, 0, 0, 0⟩)
abbrev s_l_cell : Stmt := top 19
abbrev s_l_source : Stmt := top 20
abbrev s_l_pick : Stmt := top 21
abbrev s_l_one : Stmt := top 22
abbrev s_l_same : Stmt := top 23
abbrev s_l_given : Stmt := top 24
abbrev s_l_raise : Stmt := top 25
abbrev s_l_marks : Stmt := top 26
abbrev s_l_attributes : Stmt := top 27
abbrev s_l_right : Stmt := top 28
abbrev s_law : Stmt := top 29
abbrev p_l_cell : List Str := ["_law_script", "_law_at"]
abbrev p_l_source : List Str := ["_law_cell_here"]
abbrev p_l_pick : List Str := ["_law_source_here", "_law_size"]
abbrev p_l_one : List Str := ["_law_source_here", "_law_row"]
abbrev p_l_same : List Str := ["_law_actual", "_law_due"]
abbrev p_l_given : List Str := ["_law_source_here", "_law_k"]
abbrev p_l_raise : List Str := ["_law_k", "_law_given_here"]
abbrev p_l_marks : List Str := ["_law_e"]
abbrev p_l_attributes : List Str := ["_law_e"]
abbrev p_l_right : List Str := ["_law_k", "_law_given_here"]
abbrev p_law : List Str := ["_law_script"]
abbrev PWX : Program := PySem.Challenge.pw_neverhappens_k79_errors
abbrev s_BadText_init : Stmt := inClass (top 2) 0
abbrev p_BadText_init : List Str := ["self", "line"]
abbrev s_Twice_init : Stmt := inClass (top 3) 0
abbrev p_Twice_init : List Str := ["self", "name"]
abbrev s_Unknown_init : Stmt := inClass (top 4) 0
abbrev p_Unknown_init : List Str := ["self", "name"]
abbrev s_BadKind_init : Stmt := inClass (top 5) 0
abbrev p_BadKind_init : List Str := ["self", "name"]
abbrev s_WrongKind_init : Stmt := inClass (top 6) 0
abbrev p_WrongKind_init : List Str := ["self", "function", "place"]
abbrev s_NoSite_init : Stmt := inClass (top 7) 0
abbrev p_NoSite_init : List Str := ["self", "function", "place", "fault"]
abbrev s_NoPlace_init : Stmt := inClass (top 8) 0
abbrev p_NoPlace_init : List Str := ["self", "function", "place"]
abbrev s_NotAccepted_init : Stmt := inClass (top 9) 0
abbrev p_NotAccepted_init : List Str := ["self"]
abbrev s_BadCertificate_init : Stmt := inClass (top 10) 0
abbrev p_BadCertificate_init : List Str := ["self", "line"]
abbrev s_WrongChange_init : Stmt := inClass (top 11) 0
abbrev p_WrongChange_init : List Str := ["self", "name"]
abbrev s_NotPlain_init : Stmt := inClass (top 12) 0
abbrev p_NotPlain_init : List Str := ["self"]
abbrev s_BadWitness_init : Stmt := inClass (top 13) 0
abbrev p_BadWitness_init : List Str := ["self", "line"]
abbrev s_TooLong_init : Stmt := inClass (top 14) 0
abbrev p_TooLong_init : List Str := ["self", "amount"]
abbrev s_NothingLoaded_init : Stmt := inClass (top 15) 0
abbrev p_NothingLoaded_init : List Str := ["self"]
abbrev s_NothingToUndo_init : Stmt := inClass (top 16) 0
abbrev p_NothingToUndo_init : List Str := ["self"]
abbrev s_BadJournal_init : Stmt := inClass (top 17) 0
abbrev p_BadJournal_init : List Str := ["self", "position"]
/-- what the program's top leaves: where each def stands -/
structure Txt (w : World) (K : PySem.W.Frag) (mg : Str → Option Value) where
  a_l_cell : Addr
  d_l_cell : FuncData
  F_l_cell : Fun K "_law_cell" "_law_cell" s_l_cell a_l_cell d_l_cell
  b_l_cell : Binds K d_l_cell p_l_cell []
  m_l_cell : mg "_law_cell" = some (.ref a_l_cell)
  a_l_source : Addr
  d_l_source : FuncData
  F_l_source : Fun K "_law_source" "_law_source" s_l_source a_l_source d_l_source
  b_l_source : Binds K d_l_source p_l_source []
  m_l_source : mg "_law_source" = some (.ref a_l_source)
  a_l_pick : Addr
  d_l_pick : FuncData
  F_l_pick : Fun K "_law_pick" "_law_pick" s_l_pick a_l_pick d_l_pick
  b_l_pick : Binds K d_l_pick p_l_pick []
  m_l_pick : mg "_law_pick" = some (.ref a_l_pick)
  a_l_one : Addr
  d_l_one : FuncData
  F_l_one : Fun K "_law_one" "_law_one" s_l_one a_l_one d_l_one
  b_l_one : Binds K d_l_one p_l_one []
  m_l_one : mg "_law_one" = some (.ref a_l_one)
  a_l_same : Addr
  d_l_same : FuncData
  F_l_same : Fun K "_law_same" "_law_same" s_l_same a_l_same d_l_same
  b_l_same : Binds K d_l_same p_l_same []
  m_l_same : mg "_law_same" = some (.ref a_l_same)
  a_l_given : Addr
  d_l_given : FuncData
  F_l_given : Fun K "_law_given" "_law_given" s_l_given a_l_given d_l_given
  b_l_given : Binds K d_l_given p_l_given []
  m_l_given : mg "_law_given" = some (.ref a_l_given)
  a_l_raise : Addr
  d_l_raise : FuncData
  F_l_raise : Fun K "_law_raise" "_law_raise" s_l_raise a_l_raise d_l_raise
  b_l_raise : Binds K d_l_raise p_l_raise []
  m_l_raise : mg "_law_raise" = some (.ref a_l_raise)
  a_l_marks : Addr
  d_l_marks : FuncData
  F_l_marks : Fun K "_law_marks" "_law_marks" s_l_marks a_l_marks d_l_marks
  b_l_marks : Binds K d_l_marks p_l_marks []
  m_l_marks : mg "_law_marks" = some (.ref a_l_marks)
  a_l_attributes : Addr
  d_l_attributes : FuncData
  F_l_attributes : Fun K "_law_attributes" "_law_attributes" s_l_attributes a_l_attributes d_l_attributes
  b_l_attributes : Binds K d_l_attributes p_l_attributes []
  m_l_attributes : mg "_law_attributes" = some (.ref a_l_attributes)
  a_l_right : Addr
  d_l_right : FuncData
  F_l_right : Fun K "_law_right" "_law_right" s_l_right a_l_right d_l_right
  b_l_right : Binds K d_l_right p_l_right []
  m_l_right : mg "_law_right" = some (.ref a_l_right)
  a_law : Addr
  d_law : FuncData
  F_law : Fun K "law" "law" s_law a_law d_law
  b_law : Binds K d_law p_law []
  m_law : mg "law" = some (.ref a_law)
  C_NeverError : Addr
  mgc_NeverError : mg "NeverError" = some (.ref C_NeverError)
  xb_NeverError : ExcF K C_NeverError []
  C_BadText : Addr
  mgc_BadText : mg "BadText" = some (.ref C_BadText)
  xb_BadText : ExcF K C_BadText ["line"]
  ox_BadText : OexC K C_BadText
  a_BadText_init : Addr
  d_BadText_init : FuncData
  I_BadText : IniF PWX K "BadText.__init__" s_BadText_init C_BadText a_BadText_init d_BadText_init
  b_BadText_init : Binds K d_BadText_init p_BadText_init []
  C_Twice : Addr
  mgc_Twice : mg "Twice" = some (.ref C_Twice)
  xb_Twice : ExcF K C_Twice ["name"]
  ox_Twice : OexC K C_Twice
  a_Twice_init : Addr
  d_Twice_init : FuncData
  I_Twice : IniF PWX K "Twice.__init__" s_Twice_init C_Twice a_Twice_init d_Twice_init
  b_Twice_init : Binds K d_Twice_init p_Twice_init []
  C_Unknown : Addr
  mgc_Unknown : mg "Unknown" = some (.ref C_Unknown)
  xb_Unknown : ExcF K C_Unknown ["name"]
  ox_Unknown : OexC K C_Unknown
  a_Unknown_init : Addr
  d_Unknown_init : FuncData
  I_Unknown : IniF PWX K "Unknown.__init__" s_Unknown_init C_Unknown a_Unknown_init d_Unknown_init
  b_Unknown_init : Binds K d_Unknown_init p_Unknown_init []
  C_BadKind : Addr
  mgc_BadKind : mg "BadKind" = some (.ref C_BadKind)
  xb_BadKind : ExcF K C_BadKind ["name"]
  ox_BadKind : OexC K C_BadKind
  a_BadKind_init : Addr
  d_BadKind_init : FuncData
  I_BadKind : IniF PWX K "BadKind.__init__" s_BadKind_init C_BadKind a_BadKind_init d_BadKind_init
  b_BadKind_init : Binds K d_BadKind_init p_BadKind_init []
  C_WrongKind : Addr
  mgc_WrongKind : mg "WrongKind" = some (.ref C_WrongKind)
  xb_WrongKind : ExcF K C_WrongKind ["function", "place"]
  ox_WrongKind : OexC K C_WrongKind
  a_WrongKind_init : Addr
  d_WrongKind_init : FuncData
  I_WrongKind : IniF PWX K "WrongKind.__init__" s_WrongKind_init C_WrongKind a_WrongKind_init d_WrongKind_init
  b_WrongKind_init : Binds K d_WrongKind_init p_WrongKind_init []
  C_NoSite : Addr
  mgc_NoSite : mg "NoSite" = some (.ref C_NoSite)
  xb_NoSite : ExcF K C_NoSite ["function", "place", "fault"]
  ox_NoSite : OexC K C_NoSite
  a_NoSite_init : Addr
  d_NoSite_init : FuncData
  I_NoSite : IniF PWX K "NoSite.__init__" s_NoSite_init C_NoSite a_NoSite_init d_NoSite_init
  b_NoSite_init : Binds K d_NoSite_init p_NoSite_init []
  C_NoPlace : Addr
  mgc_NoPlace : mg "NoPlace" = some (.ref C_NoPlace)
  xb_NoPlace : ExcF K C_NoPlace ["function", "place"]
  ox_NoPlace : OexC K C_NoPlace
  a_NoPlace_init : Addr
  d_NoPlace_init : FuncData
  I_NoPlace : IniF PWX K "NoPlace.__init__" s_NoPlace_init C_NoPlace a_NoPlace_init d_NoPlace_init
  b_NoPlace_init : Binds K d_NoPlace_init p_NoPlace_init []
  C_NotAccepted : Addr
  mgc_NotAccepted : mg "NotAccepted" = some (.ref C_NotAccepted)
  xb_NotAccepted : ExcF K C_NotAccepted []
  ox_NotAccepted : OexC K C_NotAccepted
  a_NotAccepted_init : Addr
  d_NotAccepted_init : FuncData
  I_NotAccepted : IniF PWX K "NotAccepted.__init__" s_NotAccepted_init C_NotAccepted a_NotAccepted_init d_NotAccepted_init
  b_NotAccepted_init : Binds K d_NotAccepted_init p_NotAccepted_init []
  C_BadCertificate : Addr
  mgc_BadCertificate : mg "BadCertificate" = some (.ref C_BadCertificate)
  xb_BadCertificate : ExcF K C_BadCertificate ["line"]
  ox_BadCertificate : OexC K C_BadCertificate
  a_BadCertificate_init : Addr
  d_BadCertificate_init : FuncData
  I_BadCertificate : IniF PWX K "BadCertificate.__init__" s_BadCertificate_init C_BadCertificate a_BadCertificate_init d_BadCertificate_init
  b_BadCertificate_init : Binds K d_BadCertificate_init p_BadCertificate_init []
  C_WrongChange : Addr
  mgc_WrongChange : mg "WrongChange" = some (.ref C_WrongChange)
  xb_WrongChange : ExcF K C_WrongChange ["name"]
  ox_WrongChange : OexC K C_WrongChange
  a_WrongChange_init : Addr
  d_WrongChange_init : FuncData
  I_WrongChange : IniF PWX K "WrongChange.__init__" s_WrongChange_init C_WrongChange a_WrongChange_init d_WrongChange_init
  b_WrongChange_init : Binds K d_WrongChange_init p_WrongChange_init []
  C_NotPlain : Addr
  mgc_NotPlain : mg "NotPlain" = some (.ref C_NotPlain)
  xb_NotPlain : ExcF K C_NotPlain []
  ox_NotPlain : OexC K C_NotPlain
  a_NotPlain_init : Addr
  d_NotPlain_init : FuncData
  I_NotPlain : IniF PWX K "NotPlain.__init__" s_NotPlain_init C_NotPlain a_NotPlain_init d_NotPlain_init
  b_NotPlain_init : Binds K d_NotPlain_init p_NotPlain_init []
  C_BadWitness : Addr
  mgc_BadWitness : mg "BadWitness" = some (.ref C_BadWitness)
  xb_BadWitness : ExcF K C_BadWitness ["line"]
  ox_BadWitness : OexC K C_BadWitness
  a_BadWitness_init : Addr
  d_BadWitness_init : FuncData
  I_BadWitness : IniF PWX K "BadWitness.__init__" s_BadWitness_init C_BadWitness a_BadWitness_init d_BadWitness_init
  b_BadWitness_init : Binds K d_BadWitness_init p_BadWitness_init []
  C_TooLong : Addr
  mgc_TooLong : mg "TooLong" = some (.ref C_TooLong)
  xb_TooLong : ExcF K C_TooLong ["amount"]
  ox_TooLong : OexC K C_TooLong
  a_TooLong_init : Addr
  d_TooLong_init : FuncData
  I_TooLong : IniF PWX K "TooLong.__init__" s_TooLong_init C_TooLong a_TooLong_init d_TooLong_init
  b_TooLong_init : Binds K d_TooLong_init p_TooLong_init []
  C_NothingLoaded : Addr
  mgc_NothingLoaded : mg "NothingLoaded" = some (.ref C_NothingLoaded)
  xb_NothingLoaded : ExcF K C_NothingLoaded []
  ox_NothingLoaded : OexC K C_NothingLoaded
  a_NothingLoaded_init : Addr
  d_NothingLoaded_init : FuncData
  I_NothingLoaded : IniF PWX K "NothingLoaded.__init__" s_NothingLoaded_init C_NothingLoaded a_NothingLoaded_init d_NothingLoaded_init
  b_NothingLoaded_init : Binds K d_NothingLoaded_init p_NothingLoaded_init []
  C_NothingToUndo : Addr
  mgc_NothingToUndo : mg "NothingToUndo" = some (.ref C_NothingToUndo)
  xb_NothingToUndo : ExcF K C_NothingToUndo []
  ox_NothingToUndo : OexC K C_NothingToUndo
  a_NothingToUndo_init : Addr
  d_NothingToUndo_init : FuncData
  I_NothingToUndo : IniF PWX K "NothingToUndo.__init__" s_NothingToUndo_init C_NothingToUndo a_NothingToUndo_init d_NothingToUndo_init
  b_NothingToUndo_init : Binds K d_NothingToUndo_init p_NothingToUndo_init []
  C_BadJournal : Addr
  mgc_BadJournal : mg "BadJournal" = some (.ref C_BadJournal)
  xb_BadJournal : ExcF K C_BadJournal ["position"]
  ox_BadJournal : OexC K C_BadJournal
  a_BadJournal_init : Addr
  d_BadJournal_init : FuncData
  I_BadJournal : IniF PWX K "BadJournal.__init__" s_BadJournal_init C_BadJournal a_BadJournal_init d_BadJournal_init
  b_BadJournal_init : Binds K d_BadJournal_init p_BadJournal_init []
  kr_NeverError : kitRow K C_NeverError [C_NeverError, C_BadText, C_Twice, C_Unknown, C_BadKind, C_WrongKind, C_NoSite, C_NoPlace, C_NotAccepted, C_BadCertificate, C_WrongChange, C_NotPlain, C_BadWitness, C_TooLong, C_NothingLoaded, C_NothingToUndo, C_BadJournal] = [some true, some false, some false, some false, some false, some false, some false, some false, some false, some false, some false, some false, some false, some false, some false, some false, some false]
  kv_NeverError : PySem.W.kitOne K (.ref C_NeverError) (.type "ValueError") = some true
  te_NeverError_NeverError : PySem.W.exmOne K (.ref C_NeverError) (.ref C_NeverError) = some true
  kr_BadText : kitRow K C_BadText [C_NeverError, C_BadText, C_Twice, C_Unknown, C_BadKind, C_WrongKind, C_NoSite, C_NoPlace, C_NotAccepted, C_BadCertificate, C_WrongChange, C_NotPlain, C_BadWitness, C_TooLong, C_NothingLoaded, C_NothingToUndo, C_BadJournal] = [some true, some true, some false, some false, some false, some false, some false, some false, some false, some false, some false, some false, some false, some false, some false, some false, some false]
  kv_BadText : PySem.W.kitOne K (.ref C_BadText) (.type "ValueError") = some true
  te_BadText_NeverError : PySem.W.exmOne K (.ref C_BadText) (.ref C_NeverError) = some true
  kr_Twice : kitRow K C_Twice [C_NeverError, C_BadText, C_Twice, C_Unknown, C_BadKind, C_WrongKind, C_NoSite, C_NoPlace, C_NotAccepted, C_BadCertificate, C_WrongChange, C_NotPlain, C_BadWitness, C_TooLong, C_NothingLoaded, C_NothingToUndo, C_BadJournal] = [some true, some false, some true, some false, some false, some false, some false, some false, some false, some false, some false, some false, some false, some false, some false, some false, some false]
  kv_Twice : PySem.W.kitOne K (.ref C_Twice) (.type "ValueError") = some true
  te_Twice_NeverError : PySem.W.exmOne K (.ref C_Twice) (.ref C_NeverError) = some true
  kr_Unknown : kitRow K C_Unknown [C_NeverError, C_BadText, C_Twice, C_Unknown, C_BadKind, C_WrongKind, C_NoSite, C_NoPlace, C_NotAccepted, C_BadCertificate, C_WrongChange, C_NotPlain, C_BadWitness, C_TooLong, C_NothingLoaded, C_NothingToUndo, C_BadJournal] = [some true, some false, some false, some true, some false, some false, some false, some false, some false, some false, some false, some false, some false, some false, some false, some false, some false]
  kv_Unknown : PySem.W.kitOne K (.ref C_Unknown) (.type "ValueError") = some true
  te_Unknown_NeverError : PySem.W.exmOne K (.ref C_Unknown) (.ref C_NeverError) = some true
  kr_BadKind : kitRow K C_BadKind [C_NeverError, C_BadText, C_Twice, C_Unknown, C_BadKind, C_WrongKind, C_NoSite, C_NoPlace, C_NotAccepted, C_BadCertificate, C_WrongChange, C_NotPlain, C_BadWitness, C_TooLong, C_NothingLoaded, C_NothingToUndo, C_BadJournal] = [some true, some false, some false, some false, some true, some false, some false, some false, some false, some false, some false, some false, some false, some false, some false, some false, some false]
  kv_BadKind : PySem.W.kitOne K (.ref C_BadKind) (.type "ValueError") = some true
  te_BadKind_NeverError : PySem.W.exmOne K (.ref C_BadKind) (.ref C_NeverError) = some true
  kr_WrongKind : kitRow K C_WrongKind [C_NeverError, C_BadText, C_Twice, C_Unknown, C_BadKind, C_WrongKind, C_NoSite, C_NoPlace, C_NotAccepted, C_BadCertificate, C_WrongChange, C_NotPlain, C_BadWitness, C_TooLong, C_NothingLoaded, C_NothingToUndo, C_BadJournal] = [some true, some false, some false, some false, some false, some true, some false, some false, some false, some false, some false, some false, some false, some false, some false, some false, some false]
  kv_WrongKind : PySem.W.kitOne K (.ref C_WrongKind) (.type "ValueError") = some true
  te_WrongKind_NeverError : PySem.W.exmOne K (.ref C_WrongKind) (.ref C_NeverError) = some true
  kr_NoSite : kitRow K C_NoSite [C_NeverError, C_BadText, C_Twice, C_Unknown, C_BadKind, C_WrongKind, C_NoSite, C_NoPlace, C_NotAccepted, C_BadCertificate, C_WrongChange, C_NotPlain, C_BadWitness, C_TooLong, C_NothingLoaded, C_NothingToUndo, C_BadJournal] = [some true, some false, some false, some false, some false, some false, some true, some false, some false, some false, some false, some false, some false, some false, some false, some false, some false]
  kv_NoSite : PySem.W.kitOne K (.ref C_NoSite) (.type "ValueError") = some true
  te_NoSite_NeverError : PySem.W.exmOne K (.ref C_NoSite) (.ref C_NeverError) = some true
  kr_NoPlace : kitRow K C_NoPlace [C_NeverError, C_BadText, C_Twice, C_Unknown, C_BadKind, C_WrongKind, C_NoSite, C_NoPlace, C_NotAccepted, C_BadCertificate, C_WrongChange, C_NotPlain, C_BadWitness, C_TooLong, C_NothingLoaded, C_NothingToUndo, C_BadJournal] = [some true, some false, some false, some false, some false, some false, some false, some true, some false, some false, some false, some false, some false, some false, some false, some false, some false]
  kv_NoPlace : PySem.W.kitOne K (.ref C_NoPlace) (.type "ValueError") = some true
  te_NoPlace_NeverError : PySem.W.exmOne K (.ref C_NoPlace) (.ref C_NeverError) = some true
  kr_NotAccepted : kitRow K C_NotAccepted [C_NeverError, C_BadText, C_Twice, C_Unknown, C_BadKind, C_WrongKind, C_NoSite, C_NoPlace, C_NotAccepted, C_BadCertificate, C_WrongChange, C_NotPlain, C_BadWitness, C_TooLong, C_NothingLoaded, C_NothingToUndo, C_BadJournal] = [some true, some false, some false, some false, some false, some false, some false, some false, some true, some false, some false, some false, some false, some false, some false, some false, some false]
  kv_NotAccepted : PySem.W.kitOne K (.ref C_NotAccepted) (.type "ValueError") = some true
  te_NotAccepted_NeverError : PySem.W.exmOne K (.ref C_NotAccepted) (.ref C_NeverError) = some true
  kr_BadCertificate : kitRow K C_BadCertificate [C_NeverError, C_BadText, C_Twice, C_Unknown, C_BadKind, C_WrongKind, C_NoSite, C_NoPlace, C_NotAccepted, C_BadCertificate, C_WrongChange, C_NotPlain, C_BadWitness, C_TooLong, C_NothingLoaded, C_NothingToUndo, C_BadJournal] = [some true, some false, some false, some false, some false, some false, some false, some false, some false, some true, some false, some false, some false, some false, some false, some false, some false]
  kv_BadCertificate : PySem.W.kitOne K (.ref C_BadCertificate) (.type "ValueError") = some true
  te_BadCertificate_NeverError : PySem.W.exmOne K (.ref C_BadCertificate) (.ref C_NeverError) = some true
  kr_WrongChange : kitRow K C_WrongChange [C_NeverError, C_BadText, C_Twice, C_Unknown, C_BadKind, C_WrongKind, C_NoSite, C_NoPlace, C_NotAccepted, C_BadCertificate, C_WrongChange, C_NotPlain, C_BadWitness, C_TooLong, C_NothingLoaded, C_NothingToUndo, C_BadJournal] = [some true, some false, some false, some false, some false, some false, some false, some false, some false, some false, some true, some false, some false, some false, some false, some false, some false]
  kv_WrongChange : PySem.W.kitOne K (.ref C_WrongChange) (.type "ValueError") = some true
  te_WrongChange_NeverError : PySem.W.exmOne K (.ref C_WrongChange) (.ref C_NeverError) = some true
  kr_NotPlain : kitRow K C_NotPlain [C_NeverError, C_BadText, C_Twice, C_Unknown, C_BadKind, C_WrongKind, C_NoSite, C_NoPlace, C_NotAccepted, C_BadCertificate, C_WrongChange, C_NotPlain, C_BadWitness, C_TooLong, C_NothingLoaded, C_NothingToUndo, C_BadJournal] = [some true, some false, some false, some false, some false, some false, some false, some false, some false, some false, some false, some true, some false, some false, some false, some false, some false]
  kv_NotPlain : PySem.W.kitOne K (.ref C_NotPlain) (.type "ValueError") = some true
  te_NotPlain_NeverError : PySem.W.exmOne K (.ref C_NotPlain) (.ref C_NeverError) = some true
  kr_BadWitness : kitRow K C_BadWitness [C_NeverError, C_BadText, C_Twice, C_Unknown, C_BadKind, C_WrongKind, C_NoSite, C_NoPlace, C_NotAccepted, C_BadCertificate, C_WrongChange, C_NotPlain, C_BadWitness, C_TooLong, C_NothingLoaded, C_NothingToUndo, C_BadJournal] = [some true, some false, some false, some false, some false, some false, some false, some false, some false, some false, some false, some false, some true, some false, some false, some false, some false]
  kv_BadWitness : PySem.W.kitOne K (.ref C_BadWitness) (.type "ValueError") = some true
  te_BadWitness_NeverError : PySem.W.exmOne K (.ref C_BadWitness) (.ref C_NeverError) = some true
  kr_TooLong : kitRow K C_TooLong [C_NeverError, C_BadText, C_Twice, C_Unknown, C_BadKind, C_WrongKind, C_NoSite, C_NoPlace, C_NotAccepted, C_BadCertificate, C_WrongChange, C_NotPlain, C_BadWitness, C_TooLong, C_NothingLoaded, C_NothingToUndo, C_BadJournal] = [some true, some false, some false, some false, some false, some false, some false, some false, some false, some false, some false, some false, some false, some true, some false, some false, some false]
  kv_TooLong : PySem.W.kitOne K (.ref C_TooLong) (.type "ValueError") = some true
  te_TooLong_NeverError : PySem.W.exmOne K (.ref C_TooLong) (.ref C_NeverError) = some true
  kr_NothingLoaded : kitRow K C_NothingLoaded [C_NeverError, C_BadText, C_Twice, C_Unknown, C_BadKind, C_WrongKind, C_NoSite, C_NoPlace, C_NotAccepted, C_BadCertificate, C_WrongChange, C_NotPlain, C_BadWitness, C_TooLong, C_NothingLoaded, C_NothingToUndo, C_BadJournal] = [some true, some false, some false, some false, some false, some false, some false, some false, some false, some false, some false, some false, some false, some false, some true, some false, some false]
  kv_NothingLoaded : PySem.W.kitOne K (.ref C_NothingLoaded) (.type "ValueError") = some true
  te_NothingLoaded_NeverError : PySem.W.exmOne K (.ref C_NothingLoaded) (.ref C_NeverError) = some true
  kr_NothingToUndo : kitRow K C_NothingToUndo [C_NeverError, C_BadText, C_Twice, C_Unknown, C_BadKind, C_WrongKind, C_NoSite, C_NoPlace, C_NotAccepted, C_BadCertificate, C_WrongChange, C_NotPlain, C_BadWitness, C_TooLong, C_NothingLoaded, C_NothingToUndo, C_BadJournal] = [some true, some false, some false, some false, some false, some false, some false, some false, some false, some false, some false, some false, some false, some false, some false, some true, some false]
  kv_NothingToUndo : PySem.W.kitOne K (.ref C_NothingToUndo) (.type "ValueError") = some true
  te_NothingToUndo_NeverError : PySem.W.exmOne K (.ref C_NothingToUndo) (.ref C_NeverError) = some true
  kr_BadJournal : kitRow K C_BadJournal [C_NeverError, C_BadText, C_Twice, C_Unknown, C_BadKind, C_WrongKind, C_NoSite, C_NoPlace, C_NotAccepted, C_BadCertificate, C_WrongChange, C_NotPlain, C_BadWitness, C_TooLong, C_NothingLoaded, C_NothingToUndo, C_BadJournal] = [some true, some false, some false, some false, some false, some false, some false, some false, some false, some false, some false, some false, some false, some false, some false, some false, some true]
  kv_BadJournal : PySem.W.kitOne K (.ref C_BadJournal) (.type "ValueError") = some true
  te_BadJournal_NeverError : PySem.W.exmOne K (.ref C_BadJournal) (.ref C_NeverError) = some true
  z_ValueError : mg "ValueError" = none
  z_bool : mg "bool" = none
  z_int : mg "int" = none
  z_isinstance : mg "isinstance" = none
  z_len : mg "len" = none
  z_list : mg "list" = none
  z_range : mg "range" = none
  z_str : mg "str" = none
  z_super : mg "super" = none
  z_tuple : mg "tuple" = none
abbrev n_l_cell : List Str := ["_law_script", "_law_at"]
theorem sc_l_cell : FnScope n_l_cell p_l_cell (defScope s_l_cell) := ⟨rfl, rfl, rfl, by decide +kernel, rfl, by decide +kernel, by decide +kernel⟩
abbrev n_l_source : List Str := ["_law_cell_here"]
theorem sc_l_source : FnScope n_l_source p_l_source (defScope s_l_source) := ⟨rfl, rfl, rfl, by decide +kernel, rfl, by decide +kernel, by decide +kernel⟩
abbrev n_l_pick : List Str := ["_law_source_here", "_law_size", "_law_k", "_law_digit", "_law_mixed"]
theorem sc_l_pick : FnScope n_l_pick p_l_pick (defScope s_l_pick) := ⟨rfl, rfl, rfl, by decide +kernel, rfl, by decide +kernel, by decide +kernel⟩
abbrev n_l_one : List Str := ["_law_source_here", "_law_row"]
theorem sc_l_one : FnScope n_l_one p_l_one (defScope s_l_one) := ⟨rfl, rfl, rfl, by decide +kernel, rfl, by decide +kernel, by decide +kernel⟩
abbrev n_l_same : List Str := ["_law_actual", "_law_due", "_law_k"]
theorem sc_l_same : FnScope n_l_same p_l_same (defScope s_l_same) := ⟨rfl, rfl, rfl, by decide +kernel, rfl, by decide +kernel, by decide +kernel⟩
abbrev n_l_given : List Str := ["_law_source_here", "_law_k", "_law_word", "_law_number", "_law_fault"]
theorem sc_l_given : FnScope n_l_given p_l_given (defScope s_l_given) := ⟨rfl, rfl, rfl, by decide +kernel, rfl, by decide +kernel, by decide +kernel⟩
abbrev n_l_raise : List Str := ["_law_k", "_law_given_here"]
theorem sc_l_raise : FnScope n_l_raise p_l_raise (defScope s_l_raise) := ⟨rfl, rfl, rfl, by decide +kernel, rfl, by decide +kernel, by decide +kernel⟩
abbrev n_l_marks : List Str := ["_law_e", "_law_marks_here"]
theorem sc_l_marks : FnScope n_l_marks p_l_marks (defScope s_l_marks) := ⟨rfl, rfl, rfl, by decide +kernel, rfl, by decide +kernel, by decide +kernel⟩
abbrev n_l_attributes : List Str := ["_law_e"]
theorem sc_l_attributes : FnScope n_l_attributes p_l_attributes (defScope s_l_attributes) := ⟨rfl, rfl, rfl, by decide +kernel, rfl, by decide +kernel, by decide +kernel⟩
abbrev n_l_right : List Str := ["_law_k", "_law_given_here", "_law_e", "_law_j"]
theorem sc_l_right : FnScope n_l_right p_l_right (defScope s_l_right) := ⟨rfl, rfl, rfl, by decide +kernel, rfl, by decide +kernel, by decide +kernel⟩
abbrev n_law : List Str := ["_law_script", "_law_turn", "_law_source_here", "_law_k"]
theorem sc_law : FnScope n_law p_law (defScope s_law) := ⟨rfl, rfl, rfl, by decide +kernel, rfl, by decide +kernel, by decide +kernel⟩
abbrev n_BadText_init : List Str := ["self", "line", "__class__"]
theorem nsc_BadText_init : NdefX.NScope n_BadText_init p_BadText_init ["__class__"] (defScope s_BadText_init) := NdefX.nscope_by (by decide +kernel)
abbrev n_Twice_init : List Str := ["self", "name", "__class__"]
theorem nsc_Twice_init : NdefX.NScope n_Twice_init p_Twice_init ["__class__"] (defScope s_Twice_init) := NdefX.nscope_by (by decide +kernel)
abbrev n_Unknown_init : List Str := ["self", "name", "__class__"]
theorem nsc_Unknown_init : NdefX.NScope n_Unknown_init p_Unknown_init ["__class__"] (defScope s_Unknown_init) := NdefX.nscope_by (by decide +kernel)
abbrev n_BadKind_init : List Str := ["self", "name", "__class__"]
theorem nsc_BadKind_init : NdefX.NScope n_BadKind_init p_BadKind_init ["__class__"] (defScope s_BadKind_init) := NdefX.nscope_by (by decide +kernel)
abbrev n_WrongKind_init : List Str := ["self", "function", "place", "__class__"]
theorem nsc_WrongKind_init : NdefX.NScope n_WrongKind_init p_WrongKind_init ["__class__"] (defScope s_WrongKind_init) := NdefX.nscope_by (by decide +kernel)
abbrev n_NoSite_init : List Str := ["self", "function", "place", "fault", "__class__"]
theorem nsc_NoSite_init : NdefX.NScope n_NoSite_init p_NoSite_init ["__class__"] (defScope s_NoSite_init) := NdefX.nscope_by (by decide +kernel)
abbrev n_NoPlace_init : List Str := ["self", "function", "place", "__class__"]
theorem nsc_NoPlace_init : NdefX.NScope n_NoPlace_init p_NoPlace_init ["__class__"] (defScope s_NoPlace_init) := NdefX.nscope_by (by decide +kernel)
abbrev n_NotAccepted_init : List Str := ["self", "__class__"]
theorem nsc_NotAccepted_init : NdefX.NScope n_NotAccepted_init p_NotAccepted_init ["__class__"] (defScope s_NotAccepted_init) := NdefX.nscope_by (by decide +kernel)
abbrev n_BadCertificate_init : List Str := ["self", "line", "__class__"]
theorem nsc_BadCertificate_init : NdefX.NScope n_BadCertificate_init p_BadCertificate_init ["__class__"] (defScope s_BadCertificate_init) := NdefX.nscope_by (by decide +kernel)
abbrev n_WrongChange_init : List Str := ["self", "name", "__class__"]
theorem nsc_WrongChange_init : NdefX.NScope n_WrongChange_init p_WrongChange_init ["__class__"] (defScope s_WrongChange_init) := NdefX.nscope_by (by decide +kernel)
abbrev n_NotPlain_init : List Str := ["self", "__class__"]
theorem nsc_NotPlain_init : NdefX.NScope n_NotPlain_init p_NotPlain_init ["__class__"] (defScope s_NotPlain_init) := NdefX.nscope_by (by decide +kernel)
abbrev n_BadWitness_init : List Str := ["self", "line", "__class__"]
theorem nsc_BadWitness_init : NdefX.NScope n_BadWitness_init p_BadWitness_init ["__class__"] (defScope s_BadWitness_init) := NdefX.nscope_by (by decide +kernel)
abbrev n_TooLong_init : List Str := ["self", "amount", "__class__"]
theorem nsc_TooLong_init : NdefX.NScope n_TooLong_init p_TooLong_init ["__class__"] (defScope s_TooLong_init) := NdefX.nscope_by (by decide +kernel)
abbrev n_NothingLoaded_init : List Str := ["self", "__class__"]
theorem nsc_NothingLoaded_init : NdefX.NScope n_NothingLoaded_init p_NothingLoaded_init ["__class__"] (defScope s_NothingLoaded_init) := NdefX.nscope_by (by decide +kernel)
abbrev n_NothingToUndo_init : List Str := ["self", "__class__"]
theorem nsc_NothingToUndo_init : NdefX.NScope n_NothingToUndo_init p_NothingToUndo_init ["__class__"] (defScope s_NothingToUndo_init) := NdefX.nscope_by (by decide +kernel)
abbrev n_BadJournal_init : List Str := ["self", "position", "__class__"]
theorem nsc_BadJournal_init : NdefX.NScope n_BadJournal_init p_BadJournal_init ["__class__"] (defScope s_BadJournal_init) := NdefX.nscope_by (by decide +kernel)
open PySem L2 ExV
/-! ### built-in names -/
theorem bt_int : bootBuiltins "int" = some (.type "int") := by decide +kernel
theorem bt_str : bootBuiltins "str" = some (.type "str") := by decide +kernel
theorem bt_bool : bootBuiltins "bool" = some (.type "bool") := by decide +kernel
theorem bt_tuple : bootBuiltins "tuple" = some (.type "tuple") := by decide +kernel
theorem bt_list : bootBuiltins "list" = some (.type "list") := by decide +kernel
theorem bt_dict : bootBuiltins "dict" = some (.type "dict") := by decide +kernel
theorem bb_max : bootBuiltins "max" = some (.builtin "max") := by decide +kernel
theorem bb_min : bootBuiltins "min" = some (.builtin "min") := by decide +kernel
theorem bb_isinstance : bootBuiltins "isinstance" = some (.builtin "isinstance") := by decide +kernel
/-! ### a source of draws: a list of three ints, which draws alone change -/
def Src (H : Hp) (a : Addr) : Prop := ∃ c m k : Int, H a = some (.lst [.int c, .int m, .int k])
/-- a source stands at a, and nothing else that was tracked has changed -/
structure Stp (a : Addr) (H H' : Hp) : Prop where
  s : Src H' a
  k : ∀ b o, b ≠ a → H b = some o → H' b = some o
theorem Stp.refl {a : Addr} {H : Hp} (h : Src H a) : Stp a H H := ⟨h, fun _ _ _ e => e⟩
theorem Stp.trans {a : Addr} {H H1 H2 : Hp} (x : Stp a H H1) (y : Stp a H1 H2) : Stp a H H2 := ⟨y.s, fun b o hb e => y.k b o hb (x.k b o hb e)⟩
theorem Src.ne {a p : Addr} {H : Hp} (h : Src H a) (n : H p = none) : a ≠ p := by
  obtain ⟨c, m, k, h⟩ := h
  exact ne_of_none h n
theorem Stp.free {a p : Addr} {H H' : Hp} (x : Stp a H H') (n : H' p = none) : H p = none := by
  cases q : H p with
  | none => rfl
  | some o =>
    have ne : p ≠ a := fun z => x.s.ne n z.symm
    rw [x.k p o ne q] at n
    cases n
/-- a new object beside the source -/
theorem Stp.new {a p : Addr} {H H' : Hp} {o : HO} (x : Stp a H H') (n : H' p = none) : Stp a H (upd H' p o) := by
  have ne := x.s.ne n
  obtain ⟨c, m, k, h⟩ := x.s
  refine ⟨⟨c, m, k, by rw [upd_ne ne]; exact h⟩, fun b u hb e => ?_⟩
  have e' := x.k b u hb e
  rw [upd_ne (ne_of_none e' n)]
  exact e'
theorem Stp.same {a : Addr} {H H' H2 : Hp} (x : Stp a H H') (s : Same H' H2) : Stp a H H2 := by
  obtain ⟨c, m, k, h⟩ := x.s
  exact ⟨⟨c, m, k, s _ _ h⟩, fun b o hb e => s b o (x.k b o hb e)⟩
theorem Stp.of_same {a : Addr} {H H' : Hp} (h : Src H a) (s : Same H H') : Stp a H H' := (Stp.refl h).same s
theorem Same.new {H : Hp} {p : Addr} (h : H p = none) (o : HO) : Same H (upd H p o) := fun b u q => by rw [upd_ne (ne_of_none q h)]; exact q
/-- a source that is new ahead of its draws: all that was tracked stands -/
theorem Stp.fresh {a : Addr} {H H1 H2 : Hp} (s : Same H H1) (n : H a = none) (x : Stp a H1 H2) : Same H H2 := fun b o e => x.k b o (ne_of_none e n) (s b o e)
theorem Stp.rd {K : PySem.W.Frag} {a p : Addr} {H H' : Hp} {xs : List V} (x : Stp a H H') (h : SqT K H p xs) (hs : Src H a) : SqT K H' p xs := by
  obtain ⟨c, m, k, hs⟩ := hs
  rcases h with (h | ⟨o, h⟩) | h
  · exact .inl (.inl (x.k _ _ (ne_of h hs (by intro z; cases z)) h))
  · exact .inl (.inr ⟨o, x.k _ _ (ne_of h hs (by intro z; cases z)) h⟩)
  · exact .inr h
theorem Stp.rdL {K : PySem.W.Frag} {a p : Addr} {H H' : Hp} {xs : List V} (x : Stp a H H') (h : SqL K H p xs) (ne : p ≠ a) : SqL K H' p xs := by
  rcases h with (h | ⟨o, h⟩) | h
  · exact .inl (.inl (x.k _ _ ne h))
  · exact .inl (.inr ⟨o, x.k _ _ ne h⟩)
  · exact .inr h
theorem Same.tup {K : PySem.W.Frag} {p : Addr} {H H' : Hp} {xs : List V} (x : Same H H') (h : SqT K H p xs) : SqT K H' p xs := by
  rcases h with (h | ⟨o, h⟩) | h
  · exact .inl (.inl (x _ _ h))
  · exact .inl (.inr ⟨o, x _ _ h⟩)
  · exact .inr h
/-! ### numbers -/
theorem ifT {c : Bool} {A B : Prop} (h : c = true) (a : A) : if c = true then A else B := by rw [if_pos h]; exact a
theorem ifF {c : Bool} {A B : Prop} (h : c = false) (b : B) : if c = true then A else B := by rw [h]; exact iteF b
theorem fmod_bd {x m : Int} (h : 0 < m) : 0 ≤ x.fmod m ∧ x.fmod m < m := ⟨Int.fmod_nonneg_of_pos x h, Int.fmod_lt_of_pos x h⟩
theorem fm64 {x m : Int} (h : 0 < m) (h2 : m ≤ 2 ^ 64) : -(2 ^ 64) < x.fmod m ∧ x.fmod m < 2 ^ 64 :=
  ⟨Int.lt_of_lt_of_le (by decide) (fmod_bd h).1, Int.lt_of_lt_of_le (fmod_bd h).2 h2⟩
theorem atI_int {α : Type} {xs : List α} {r : Int} (h0 : 0 ≤ r) (h : r.toNat < xs.length) : atI xs r = some xs[r.toNat] := by
  have e := atI_nat (xs := xs) (j := r.toNat) (List.getElem?_eq_getElem h)
  rwa [Int.toNat_of_nonneg h0] at e
/-! ### the promises of the draws -/
def spCell (K : PySem.W.Frag) : Sp := fun vs H Q _ => ∃ (l : Addr) (ns : List Int) (j : Int), vs = [.ref l, .int j] ∧ SqL K H l (ns.map V.int) ∧ 0 ≤ j ∧ ∀ i : Int, Q (.int i) H
def spSource : Sp := fun vs H Q _ => ∃ c : Int, vs = [.int c] ∧ ∀ p H', H p = none → Same H H' → Src H' p → Q (.ref p) H'
def spPick : Sp := fun vs H Q _ => ∃ (a : Addr) (n : Int), vs = [.ref a, .int n] ∧ Src H a ∧ n < 1073741824 ∧ ∀ (r : Int) (H' : Hp), Stp a H H' → 0 ≤ r → (r < n ∨ r = 0) → Q (.int r) H'
def spOne (K : PySem.W.Frag) : Sp := fun vs H Q _ => ∃ (a : Addr) (row : V), vs = [.ref a, row] ∧ Src H a ∧
  ((∃ (p : Addr) (xs : List V), row = .ref p ∧ p ≠ a ∧ SqL K H p xs ∧ 0 < xs.length ∧ xs.length < 1000 ∧ ∀ v H', v ∈ xs → Stp a H H' → Q v H') ∨
   (∃ z : Str, row = .str z ∧ 0 < z.length ∧ z.length < 1000 ∧ ∀ (c : Nat) H', c ∈ z.cps.toList → Stp a H H' → Q (.str ⟨#[c]⟩) H'))
section
variable {P : Program} {w : World} {K : PySem.W.Frag} {mg : Str → Option Value} {base : Heap}
theorem ok_l_cell (T : Txt w K mg) : FnOk P w K mg base CX0 1 T.a_l_cell T.d_l_cell p_l_cell (spCell K) := by
  refine T.F_l_cell.ok sc_l_cell (fun vs H Q E h => ?_) (fun cdv A outer s H vs Q E hr h => ?_)
  · obtain ⟨l, ns, j, rfl, _⟩ := h
    rfl
  obtain ⟨l, ns, j, rfl, hS, h0, q⟩ := h
  refine ⟨_, (pss_cons (ps_if (pt_cmpR op_lt (pv 1) (pe_callB call_len_seq rfl T.z_len PySem.boot_len (pa_cons (pv 0) pa_nil)) (nomark _)) (pss_one (ps_ret (pe_ix ix_list (pv 0) (pv 1) (fun _ _ => rfl)))) pss_nil)
      (pss_one (ps_ret pe_int))), ?_⟩
  have hl : (ns.map V.int).length = ns.length := List.length_map _
  refine ⟨_, rfl, _, rfl, l, _, rfl, .inl hS, _, _, rfl, rfl, _, rfl, ?_⟩
  refine ite2 (fun c => ?_) (fun c => ?_)
  · have c' : j < (((ns.map V.int).length : Nat) : Int) := of_decide_eq_true c
    rw [hl] at c'
    have hk : j.toNat < ns.length := by omega
    have e := atI_int (xs := ns.map V.int) h0 (by omega)
    rw [List.getElem_map] at e
    exact ⟨_, rfl, _, rfl, l, _, _, _, rfl, rfl, hS, e, q _⟩
  · exact q 0
theorem ok_l_source (T : Txt w K mg) : FnOk P w K mg base CX0 1 T.a_l_source T.d_l_source p_l_source spSource := by
  refine T.F_l_source.ok sc_l_source (fun vs H Q E h => ?_) (fun cdv A outer s H vs Q E hr h => ?_)
  · obtain ⟨c, rfl, _⟩ := h
    rfl
  obtain ⟨c, rfl, q⟩ := h
  refine ⟨_, (pss_one (ps_ret (pe_lst (pa_cons (pv 0) (pa_cons (pv 0) (pa_cons pe_int pa_nil)))))), ?_⟩
  refine ⟨_, rfl, _, rfl, (by show 3 ≤ sizeLine; decide), fun p hp => ?_⟩
  exact q p _ hp (Same.new hp _) ⟨c, c, 0, upd_same⟩
theorem ok_l_pick (T : Txt w K mg) : FnOk P w K mg base CX0 1 T.a_l_pick T.d_l_pick p_l_pick spPick := by
  refine T.F_l_pick.ok sc_l_pick (fun vs H Q E h => ?_) (fun cdv A outer s H vs Q E hr h => ?_)
  · obtain ⟨a, n, rfl, _⟩ := h
    rfl
  obtain ⟨a, n, rfl, ⟨c, m, k, hS⟩, hn, q⟩ := h
  refine ⟨_, (pss_cons (ps_set (i := 2) sc_l_pick.nd rfl (Or.inl rfl) (pe_ix ix_list (pv 0) pe_int (fun _ _ => rfl)))
      (pss_cons (ps_asg (pe_op op_add (pv 2) pe_int) (pg_sub (pv 0) pe_int set_list))
      (pss_cons (ps_if (pt_cmpR op_lt (pv 1) pe_int (nomark _)) (pss_one (ps_ret pe_int)) pss_nil)
      (pss_cons (ps_if (PW.pt (pw_and (pt_cmpR op_ge (pe_ix ix_list (pv 0) pe_int (fun _ _ => rfl)) (pe_op op_pow pe_int pe_int) (nomark _)) (pw_and1 (pt_cmpR op_gt (pe_ix ix_list (pv 0) pe_int (fun _ _ => rfl)) pe_int (nomark _))))) (pss_cons (ps_set (i := 3) sc_l_pick.nd rfl (Or.inl rfl) (pe_op op_modN (pe_callTy call_int1 rfl T.z_int bt_int (pa_cons (pe_ix ix_list (pv 0) pe_int (fun _ _ => rfl)) pa_nil)) (pv 1)))
      (pss_cons (ps_asg (pe_op op_fdivN (pe_ix ix_list (pv 0) pe_int (fun _ _ => rfl)) (pv 1)) (pg_sub (pv 0) pe_int set_list))
      (pss_one (ps_ret (pv 3))))) pss_nil)
      (pss_cons (ps_set (i := 4) sc_l_pick.nd rfl (Or.inl rfl) (pe_op op_modN (pe_callTy call_int1 rfl T.z_int bt_int (pa_cons (pe_op op_add (pe_op op_add (pe_ix ix_list (pv 0) pe_int (fun _ _ => rfl)) (pe_op op_mul pe_int (pv 2))) pe_int) pa_nil)) pe_int))
      (pss_cons (ps_set (i := 4) sc_l_pick.nd rfl (Or.inl rfl) (pe_op op_modN (pe_callTy call_int1 rfl T.z_int bt_int (pa_cons (pe_op op_mul (pv 4) (pe_op op_add (pv 4) pe_int)) pa_nil)) pe_int))
      (pss_cons (ps_set (i := 4) sc_l_pick.nd rfl (Or.inl rfl) (pe_op op_modN (pe_callTy call_int1 rfl T.z_int bt_int (pa_cons (pe_op op_add (pe_op op_mul (pv 4) (pe_op op_add (pv 4) pe_int)) (pe_op op_mul pe_int (pv 2))) pa_nil)) pe_int))
      (pss_one (ps_ret (pe_op op_modN (pe_callTy call_int1 rfl T.z_int bt_int (pa_cons (pe_op op_fdivN (pv 4) pe_int) pa_nil)) (pv 1))))))))))), ?_⟩
  refine ⟨_, rfl, a, _, 2, _, rfl, rfl, SqL.of hS, rfl, ?_⟩
  refine ⟨_, rfl, k, 1, rfl, rfl, _, rfl, a, _, 2, 2, rfl, rfl, hS, rfl, ?_⟩
  have h1 : (upd H a (.lst [.int c, .int m, .int (k + 1)])) a = some (.lst [.int c, .int m, .int (k + 1)]) := upd_same
  have st : Stp a H (upd H a (.lst [.int c, .int m, .int (k + 1)])) := ⟨⟨c, m, k + 1, upd_same⟩, fun b o hb e => by rw [upd_ne hb]; exact e⟩
  refine ⟨_, rfl, n, 2, rfl, rfl, _, rfl, ?_⟩
  refine ite2 (fun _ => ?_) (fun c2 => ?_)
  · exact q 0 _ st (Int.le_refl 0) (.inr rfl)
  have hn2 : ¬ n < 2 := of_decide_eq_false (Bool.eq_false_iff.mpr c2)
  refine ⟨_, rfl, a, _, 0, _, rfl, rfl, SqL.of h1, rfl, 10, 18, rfl, rfl, ⟨by decide, by decide, by decide⟩, _, _, rfl, rfl, _, rfl, ?_⟩
  refine ite2 (fun _ => ⟨_, rfl, a, _, 1, _, rfl, rfl, SqL.of h1, rfl, _, _, rfl, rfl, _, rfl, ite2 (fun _ => ?first) (fun _ => ?second)⟩) (fun _ => iteF ?third)
  case first =>
    refine ⟨_, rfl, a, _, 1, _, rfl, rfl, SqL.of h1, rfl, .inl ⟨_, rfl, ?_⟩⟩
    refine ⟨_, rfl, _, _, rfl, rfl, by omega, ?_⟩
    refine ⟨_, rfl, a, _, 1, _, rfl, rfl, SqL.of h1, rfl, _, rfl, m, n, rfl, rfl, ⟨by omega, by omega⟩, _, rfl, a, _, 1, 1, rfl, rfl, h1, rfl, ?_⟩
    refine ⟨_, rfl, ?_⟩
    have b := fmod_bd (x := m) (m := n) (by omega)
    refine q _ _ ⟨⟨c, m.fdiv n, k + 1, upd_same⟩, fun b o hb e => ?_⟩ b.1 (.inl b.2)
    rw [upd_ne hb]
    exact st.k b o hb e
  all_goals
    refine ⟨_, rfl, a, _, 0, _, rfl, rfl, SqL.of h1, rfl, _, rfl, 7919, k, rfl, rfl, .inl ⟨by decide, by decide⟩, _, _, rfl, rfl, _, _, rfl, rfl, .inl ⟨_, rfl, ?_⟩⟩
    refine ⟨_, _, rfl, rfl, (by intro z; cases z), ?_⟩
    refine ⟨_, rfl, _, rfl, _, _, rfl, rfl, _, _, rfl, rfl, .inl (fm64 (by decide) (by decide)), .inl ⟨_, rfl, ?_⟩⟩
    refine ⟨_, _, rfl, rfl, (by intro z; cases z), ?_⟩
    refine ⟨_, rfl, _, rfl, _, _, rfl, rfl, _, _, rfl, rfl, .inl (fm64 (by decide) (by decide)), _, rfl, 31, k, rfl, rfl, .inl ⟨by decide, by decide⟩, _, _, rfl, rfl, .inl ⟨_, rfl, ?_⟩⟩
    refine ⟨_, _, rfl, rfl, (by intro z; cases z), ?_⟩
    refine ⟨_, rfl, _, _, rfl, rfl, ⟨by decide, by decide⟩, .inl ⟨_, rfl, ?_⟩⟩
    refine ⟨_, rfl, _, _, rfl, rfl, (by omega), ?_⟩
    exact q _ _ st (fmod_bd (by omega)).1 (.inl (fmod_bd (by omega)).2)
theorem ok_l_one (T : Txt w K mg) : FnOk P w K mg base CX0 2 T.a_l_one T.d_l_one p_l_one (spOne K) := by
  have g_l_pick := ok_l_pick (P := P) (w := w) (base := base) T
  refine T.F_l_one.ok sc_l_one (fun vs H Q E h => ?_) (fun cdv A outer s H vs Q E hr h => ?_)
  · obtain ⟨a, row, rfl, _⟩ := h
    rfl
  obtain ⟨a, row, rfl, hS, h⟩ := h
  refine ⟨_, (pss_one (ps_ret (pe_ix ix_seq (pv 1) (pe_call g_l_pick (hr.mono (by first | decide | omega)) rfl T.m_l_pick T.F_l_pick.kp T.b_l_pick .nil pass0 (pa_cons (pv 0) (pa_cons (pe_callB call_len rfl T.z_len PySem.boot_len (pa_cons (pv 1) pa_nil)) pa_nil))) (fun _ _ => rfl)))), ?_⟩
  rcases h with ⟨p, xs, rfl, ne, hx, h0, h9, q⟩ | ⟨z, rfl, h0, h9, q⟩
  · refine ⟨_, rfl, _, rfl, _, rfl, .ref p, xs.length, rfl, .inl ⟨_, hx, rfl⟩, ?_⟩
    refine ⟨a, _, rfl, hS, by omega, fun r H' st r0 r1 => ?_⟩
    have hr' : r.toNat < xs.length := by omega
    have e := atI_int (xs := xs) r0 hr'
    exact .inl ⟨p, xs, r, _, rfl, rfl, st.rdL hx ne, e, q _ _ (List.getElem_mem hr') st⟩
  · refine ⟨_, rfl, _, rfl, _, rfl, .str z, z.length, rfl, ⟨Nat.le_of_lt (small1000 (by omega)), rfl⟩, ?_⟩
    refine ⟨a, _, rfl, hS, by omega, fun r H' st r0 r1 => ?_⟩
    have ez : z.length = z.cps.toList.length := by simp [Str.length]
    have hr' : r.toNat < z.cps.toList.length := by omega
    have e := atI_int (xs := z.cps.toList) r0 hr'
    exact .inr (.inr ⟨z, r, _, rfl, rfl, Nat.le_of_lt (small1000 (by omega)), e, q _ _ (List.getElem_mem hr') st⟩)
end
/-! ### data: equal data are the same to _law_same -/
def Dok : Nat → PyData → Prop
  | 0, _ => False
  | _ + 1, .none => True
  | _ + 1, .bool _ => True
  | _ + 1, .int _ => True
  | _ + 1, .str _ => True
  | n + 1, .tuple ds => ds.length ≤ 100000 ∧ ∀ d ∈ ds, Dok n d
  | n + 1, .list ds => ds.length ≤ 100000 ∧ ∀ d ∈ ds, Dok n d
  | _ + 1, .dict _ => False
theorem dpAll_len {K : PySem.W.Frag} {H : Hp} : ∀ {vs : List V} {ds : List PyData}, DpAll K H vs ds → vs.length = ds.length
  | _, _, .nil => rfl
  | _, _, .cons _ r => congrArg (· + 1) (dpAll_len r)
theorem dpAll_get {K : PySem.W.Frag} {H : Hp} : ∀ {vs : List V} {ds : List PyData} {i : Nat} {d : PyData}, DpAll K H vs ds → ds[i]? = some d → ∃ v, vs[i]? = some v ∧ Dp K H v d
  | _, _, _, _, .nil, e => by simp at e
  | _, _, 0, d, .cons h _, e => by
    simp at e
    subst e
    exact ⟨_, rfl, h⟩
  | _, _, i + 1, d, .cons _ r, e => by
    obtain ⟨v, h1, h2⟩ := dpAll_get (i := i) r (by simpa using e)
    exact ⟨v, by simpa using h1, h2⟩
theorem tyL {K : PySem.W.Frag} {H : Hp} {a : Addr} {xs : List V} (h : SqL K H a xs) : TyX K H (.ref a) (.type "list") := by
  rcases h with (h | ⟨o, h⟩) | ⟨o, its, n, h, c, _⟩
  · exact .base (.lst h)
  · exact .base (.frz h)
  · exact .kList h c
theorem tyT {K : PySem.W.Frag} {H : Hp} {a : Addr} {xs : List V} (h : SqT K H a xs) : TyX K H (.ref a) (.type "tuple") := by
  rcases h with (h | ⟨o, h⟩) | ⟨o, its, n, h, c, _⟩
  · exact .base (.tup h)
  · exact .fTuple h
  · exact .kTuple h c
theorem isi {K : PySem.W.Frag} {H : Hp} {Q : VK} {x : V} {t c : String} (b : Bool) (ty : TyX K H x (.type t)) (kb : kitB t c = some b) (q : Q (.bl b) H) : rIsi K [x, .ty c] H Q := ⟨x, .ty c, _, _, b, rfl, .ty c, ty, kit_ty kb, q⟩
theorem kb_nt : kitB "NoneType" "tuple" = some false := by decide +kernel
theorem kb_nl : kitB "NoneType" "list" = some false := by decide +kernel
theorem kb_bt : kitB "bool" "tuple" = some false := by decide +kernel
theorem kb_bl : kitB "bool" "list" = some false := by decide +kernel
theorem kb_bb : kitB "bool" "bool" = some true := by decide +kernel
theorem kb_it : kitB "int" "tuple" = some false := by decide +kernel
theorem kb_il : kitB "int" "list" = some false := by decide +kernel
theorem kb_ib : kitB "int" "bool" = some false := by decide +kernel
theorem kb_ii : kitB "int" "int" = some true := by decide +kernel
theorem kb_st : kitB "str" "tuple" = some false := by decide +kernel
theorem kb_sl : kitB "str" "list" = some false := by decide +kernel
theorem kb_sb : kitB "str" "bool" = some false := by decide +kernel
theorem kb_si : kitB "str" "int" = some false := by decide +kernel
theorem kb_ss : kitB "str" "str" = some true := by decide +kernel
theorem kb_tt : kitB "tuple" "tuple" = some true := by decide +kernel
theorem kb_tl : kitB "tuple" "list" = some false := by decide +kernel
theorem kb_lt : kitB "list" "tuple" = some false := by decide +kernel
theorem kb_ll : kitB "list" "list" = some true := by decide +kernel
def spSame (K : PySem.W.Frag) (n : Nat) : Sp := fun vs H Q _ => ∃ (x y : V) (d : PyData), vs = [x, y] ∧ Dp K H x d ∧ Dp K H y d ∧ Dok n d ∧ Q (.bl true) H
section
variable {P : Program} {w : World} {K : PySem.W.Frag} {mg : Str → Option Value} {base : Heap}
theorem ok_l_same0 (T : Txt w K mg) : FnOk P w K mg base CX0 0 T.a_l_same T.d_l_same p_l_same (spSame K 0) := by
  have no : ∀ vs H Q E, ¬ spSame K 0 vs H Q E := fun vs H Q E h => by
    obtain ⟨x, y, d, _, _, _, h, _⟩ := h
    exact h
  exact ⟨fun vs H Q E h => absurd h (no vs H Q E), fun A outer s H args us vs Q E _ _ _ _ h => absurd h (no vs H Q E)⟩
/-- the part for two lists or two tuples -/
theorem same_seq {n : Nat} {H : Hp} {p r : Addr} {xs ys : List V} {ds : List PyData} (h1 : SqL K H p xs ∨ SqT K H p xs) (h2 : SqL K H r ys ∨ SqT K H r ys) (d1 : DpAll K H xs ds) (d2 : DpAll K H ys ds)
    (hd : ∀ d ∈ ds, Dok n d) {i : Nat} (hi : i < ds.length) {R : V → Hp → Prop} (q : R (.bl true) H) :
    tCall (spSame K n) [] E0 (tCons (tOp (rIx K) (tVar 0) (tVar 2)) (tCons (tOp (rIx K) (tVar 1) (tVar 2)) tNil)) [some (.ref p), some (.ref r), some (.int (0 + (i : Int)))] H R := by
  obtain ⟨x, e1, q1⟩ := dpAll_get (i := i) d1 (List.getElem?_eq_getElem hi)
  obtain ⟨y, e2, q2⟩ := dpAll_get (i := i) d2 (List.getElem?_eq_getElem hi)
  have a1 : atI xs (0 + (i : Int)) = some x := by rw [Int.zero_add]; exact atI_nat e1
  have a2 : atI ys (0 + (i : Int)) = some y := by rw [Int.zero_add]; exact atI_nat e2
  have k2 : tOp (rIx K) (tVar 1) (tVar 2) [some (.ref p), some (.ref r), some (.int (0 + (i : Int)))] H (fun v H' => tNil [some (.ref p), some (.ref r), some (.int (0 + (i : Int)))] H' fun vs H'' => spSame K n ((x :: v :: vs) ++ []) H'' R E0) := by
    refine ⟨_, rfl, _, rfl, ?_⟩
    have z : spSame K n [x, y] H R E0 := ⟨x, y, _, rfl, q1, q2, hd _ (List.getElem_mem hi), q⟩
    rcases h2 with h2 | h2
    · exact .inl ⟨r, _, _, _, rfl, rfl, h2, a2, z⟩
    · exact .inr (.inl ⟨r, _, _, _, rfl, rfl, h2, a2, z⟩)
  refine ⟨_, rfl, _, rfl, ?_⟩
  rcases h1 with h1 | h1
  · exact .inl ⟨p, _, _, _, rfl, rfl, h1, a1, k2⟩
  · exact .inr (.inl ⟨p, _, _, _, rfl, rfl, h1, a1, k2⟩)
theorem ok_l_same (T : Txt w K mg) : ∀ n : Nat, FnOk P w K mg base CX0 n T.a_l_same T.d_l_same p_l_same (spSame K n)
  | 0 => ok_l_same0 T
  | n + 1 => by
    have g_l_same := ok_l_same T n
    refine T.F_l_same.ok sc_l_same (fun vs H Q E h => ?_) (fun cdv A outer s H vs Q E hr h => ?_)
    · obtain ⟨x, y, d, rfl, _⟩ := h
      rfl
    obtain ⟨x, y, d, rfl, hx, hy, hd, q⟩ := h
    refine ⟨_, (pss_cons (ps_if (PW.pt (pw_or (pt_val (pe_callB call_isi rfl T.z_isinstance bb_isinstance (pa_cons (pv 1) (pa_cons (pe_bltn (v := .ty "tuple") rfl T.z_tuple bt_tuple rfl) pa_nil)))) (pw_or1 (pt_val (pe_callB call_isi rfl T.z_isinstance bb_isinstance (pa_cons (pv 1) (pa_cons (pe_bltn (v := .ty "list") rfl T.z_list bt_list rfl) pa_nil))))))) (pss_cons (ps_if (PW.pt (pw_or (pt_cmpR op_ne (pe_callB call_isi rfl T.z_isinstance bb_isinstance (pa_cons (pv 1) (pa_cons (pe_bltn (v := .ty "tuple") rfl T.z_tuple bt_tuple rfl) pa_nil))) (pe_callB call_isi rfl T.z_isinstance bb_isinstance (pa_cons (pv 0) (pa_cons (pe_bltn (v := .ty "tuple") rfl T.z_tuple bt_tuple rfl) pa_nil))) (nomark _)) (pw_or1 (pt_cmpR op_ne (pe_callB call_isi rfl T.z_isinstance bb_isinstance (pa_cons (pv 1) (pa_cons (pe_bltn (v := .ty "list") rfl T.z_list bt_list rfl) pa_nil))) (pe_callB call_isi rfl T.z_isinstance bb_isinstance (pa_cons (pv 0) (pa_cons (pe_bltn (v := .ty "list") rfl T.z_list bt_list rfl) pa_nil))) (nomark _))))) (pss_one (ps_ret pe_bl)) pss_nil)
      (pss_cons (ps_if (pt_cmpR op_ne (pe_callB call_len_seq rfl T.z_len PySem.boot_len (pa_cons (pv 0) pa_nil)) (pe_callB call_len_seq rfl T.z_len PySem.boot_len (pa_cons (pv 1) pa_nil)) (nomark _)) (pss_one (ps_ret pe_bl)) pss_nil)
      (pss_cons (ps_for PassesOwn.never rfl (pi_range1 rfl T.z_range (pa_cons (pe_callB call_len_seq rfl T.z_len PySem.boot_len (pa_cons (pv 1) pa_nil)) pa_nil)) (pg_name (i := 2) sc_l_same.nd rfl (Or.inl rfl))
        (pss_one (ps_if (pt_not (pt_val (pe_call g_l_same (hr.mono (by first | decide | omega)) rfl T.m_l_same T.F_l_same.kp T.b_l_same .nil pass0 (pa_cons (pe_ix ix_seq (pv 0) (pv 2) (fun _ _ => rfl)) (pa_cons (pe_ix ix_seq (pv 1) (pv 2) (fun _ _ => rfl)) pa_nil))))) (pss_one (ps_ret pe_bl)) pss_nil)))
      (pss_one (ps_ret pe_bl))))) pss_nil)
      (pss_cons (ps_if (pt_cmpR op_isN (pv 1) pe_non (nomark _)) (pss_one (ps_ret (pe_cmpR op_isN (pv 0) pe_non (nomark _)))) pss_nil)
      (pss_cons (ps_if (pt_val (pe_callB call_isi rfl T.z_isinstance bb_isinstance (pa_cons (pv 1) (pa_cons (pe_bltn (v := .ty "bool") rfl T.z_bool bt_bool rfl) pa_nil)))) (pss_one (ps_ret (pe_and (pe_callB call_isi rfl T.z_isinstance bb_isinstance (pa_cons (pv 0) (pa_cons (pe_bltn (v := .ty "bool") rfl T.z_bool bt_bool rfl) pa_nil))) (pe_one (pe_cmpR op_eq (pv 0) (pv 1) (nomark _)))))) pss_nil)
      (pss_cons (ps_if (pt_val (pe_callB call_isi rfl T.z_isinstance bb_isinstance (pa_cons (pv 1) (pa_cons (pe_bltn (v := .ty "int") rfl T.z_int bt_int rfl) pa_nil)))) (pss_one (ps_ret (pe_and (pe_callB call_isi rfl T.z_isinstance bb_isinstance (pa_cons (pv 0) (pa_cons (pe_bltn (v := .ty "int") rfl T.z_int bt_int rfl) pa_nil))) (pe_and (pe_not (pe_callB call_isi rfl T.z_isinstance bb_isinstance (pa_cons (pv 0) (pa_cons (pe_bltn (v := .ty "bool") rfl T.z_bool bt_bool rfl) pa_nil)))) (pe_one (pe_cmpR op_eq (pv 0) (pv 1) (nomark _))))))) pss_nil)
      (pss_one (ps_ret (pe_and (pe_callB call_isi rfl T.z_isinstance bb_isinstance (pa_cons (pv 0) (pa_cons (pe_bltn (v := .ty "str") rfl T.z_str bt_str rfl) pa_nil))) (pe_one (pe_cmpR op_eq (pv 0) (pv 1) (nomark _)))))))))), ?_⟩
    cases hx with
    | non =>
      cases hy
      refine ⟨_, rfl, _, _, _, _, false, rfl, .ty _, (.base .non), kit_ty kb_nt, ⟨_, rfl, iteF ⟨_, rfl, _, _, _, _, false, rfl, .ty _, (.base .non), kit_ty kb_nl, ⟨_, rfl, iteF ?_⟩⟩⟩⟩
      refine ⟨_, rfl, rfl, _, rfl, iteT ?_⟩
      exact ⟨_, rfl, rfl, q⟩
    | bl b =>
      cases hy
      refine ⟨_, rfl, _, _, _, _, false, rfl, .ty _, (.base (.bl _)), kit_ty kb_bt, ⟨_, rfl, iteF ⟨_, rfl, _, _, _, _, false, rfl, .ty _, (.base (.bl _)), kit_ty kb_bl, ⟨_, rfl, iteF ?_⟩⟩⟩⟩
      refine ⟨_, rfl, rfl, _, rfl, iteF ?_⟩
      refine ⟨_, rfl, _, _, _, _, true, rfl, .ty _, (.base (.bl _)), kit_ty kb_bb, ⟨_, rfl, iteT ?_⟩⟩
      refine ⟨_, rfl, _, _, _, _, true, rfl, .ty _, (.base (.bl _)), kit_ty kb_bb, ⟨_, rfl, iteT ?_⟩⟩
      refine ⟨_, rfl, _, rfl, rfl, ?_⟩
      rw [decide_eq_true rfl]
      exact q
    | int b =>
      cases hy
      refine ⟨_, rfl, _, _, _, _, false, rfl, .ty _, (.base (.int _)), kit_ty kb_it, ⟨_, rfl, iteF ⟨_, rfl, _, _, _, _, false, rfl, .ty _, (.base (.int _)), kit_ty kb_il, ⟨_, rfl, iteF ?_⟩⟩⟩⟩
      refine ⟨_, rfl, rfl, _, rfl, iteF ?_⟩
      refine ⟨_, rfl, _, _, _, _, false, rfl, .ty _, (.base (.int _)), kit_ty kb_ib, ⟨_, rfl, iteF ?_⟩⟩
      refine ⟨_, rfl, _, _, _, _, true, rfl, .ty _, (.base (.int _)), kit_ty kb_ii, ⟨_, rfl, iteT ?_⟩⟩
      refine ⟨_, rfl, _, _, _, _, true, rfl, .ty _, (.base (.int _)), kit_ty kb_ii, ⟨_, rfl, iteT ?_⟩⟩
      refine ⟨_, rfl, _, _, _, _, false, rfl, .ty _, (.base (.int _)), kit_ty kb_ib, ⟨_, rfl, _, rfl, iteT ?_⟩⟩
      refine ⟨_, rfl, _, rfl, rfl, ?_⟩
      rw [decide_eq_true rfl]
      exact q
    | str b =>
      cases hy
      refine ⟨_, rfl, _, _, _, _, false, rfl, .ty _, (.base (.str _)), kit_ty kb_st, ⟨_, rfl, iteF ⟨_, rfl, _, _, _, _, false, rfl, .ty _, (.base (.str _)), kit_ty kb_sl, ⟨_, rfl, iteF ?_⟩⟩⟩⟩
      refine ⟨_, rfl, rfl, _, rfl, iteF ?_⟩
      refine ⟨_, rfl, _, _, _, _, false, rfl, .ty _, (.base (.str _)), kit_ty kb_sb, ⟨_, rfl, iteF ?_⟩⟩
      refine ⟨_, rfl, _, _, _, _, false, rfl, .ty _, (.base (.str _)), kit_ty kb_si, ⟨_, rfl, iteF ?_⟩⟩
      refine ⟨_, rfl, _, _, _, _, true, rfl, .ty _, (.base (.str _)), kit_ty kb_ss, ⟨_, rfl, iteT ?_⟩⟩
      refine ⟨_, rfl, _, rfl, rfl, ?_⟩
      rw [decide_eq_true rfl]
      exact q
    | @lst p xs ds h1 d1 =>
      cases hy with
      | @lst r ys _ h2 d2 =>
      have l1 := dpAll_len d1
      have l2 := dpAll_len d2
      obtain ⟨hlen, hd⟩ := hd
      refine ⟨_, rfl, _, _, _, _, false, rfl, .ty _, (tyL h2), kit_ty kb_lt, ⟨_, rfl, iteF ⟨_, rfl, _, _, _, _, true, rfl, .ty _, (tyL h2), kit_ty kb_ll, ⟨_, rfl, iteT ?_⟩⟩⟩⟩
      refine ⟨_, rfl, _, _, _, _, false, rfl, .ty _, (tyL h2), kit_ty kb_lt, ⟨_, rfl, _, _, _, _, false, rfl, .ty _, (tyL h1), kit_ty kb_lt, ⟨rfl, _, rfl, iteF ?_⟩⟩⟩
      refine ⟨_, rfl, _, _, _, _, true, rfl, .ty _, (tyL h2), kit_ty kb_ll, ⟨_, rfl, _, _, _, _, true, rfl, .ty _, (tyL h1), kit_ty kb_ll, ⟨rfl, _, rfl, iteF ?_⟩⟩⟩
      refine ⟨_, rfl, p, _, rfl, .inl h1, _, rfl, r, _, rfl, .inl h2, rfl, _, rfl, ?_⟩
      refine iteNS (congrArg V.int (by omega)) ?_
      refine ⟨_, rfl, r, _, rfl, .inl h2, _, rfl, by omega, by omega, for_range (lo := 0) (fun i σ H' => H' = H ∧ ∃ v : Option V, σ = [some (.ref p), some (.ref r), v]) ⟨rfl, none, rfl⟩ ?_ ?_⟩
      · rintro i σ H' hi ⟨rfl, v, rfl⟩
        refine same_seq (.inl h1) (.inl h2) d1 d2 hd (by omega) ⟨_, rfl, iteF ?_⟩
        exact ⟨rfl, _, rfl⟩
      · rintro σ H' ⟨rfl, v, rfl⟩
        exact q
    | @tup p xs ds h1 d1 =>
      cases hy with
      | @tup r ys _ h2 d2 =>
      have l1 := dpAll_len d1
      have l2 := dpAll_len d2
      obtain ⟨hlen, hd⟩ := hd
      refine ⟨_, rfl, _, _, _, _, true, rfl, .ty _, (tyT h2), kit_ty kb_tt, ⟨_, rfl, iteT ?_⟩⟩
      refine ⟨_, rfl, _, _, _, _, true, rfl, .ty _, (tyT h2), kit_ty kb_tt, ⟨_, rfl, _, _, _, _, true, rfl, .ty _, (tyT h1), kit_ty kb_tt, ⟨rfl, _, rfl, iteF ?_⟩⟩⟩
      refine ⟨_, rfl, _, _, _, _, false, rfl, .ty _, (tyT h2), kit_ty kb_tl, ⟨_, rfl, _, _, _, _, false, rfl, .ty _, (tyT h1), kit_ty kb_tl, ⟨rfl, _, rfl, iteF ?_⟩⟩⟩
      refine ⟨_, rfl, p, _, rfl, .inr h1, _, rfl, r, _, rfl, .inr h2, rfl, _, rfl, ?_⟩
      refine iteNS (congrArg V.int (by omega)) ?_
      refine ⟨_, rfl, r, _, rfl, .inr h2, _, rfl, by omega, by omega, for_range (lo := 0) (fun i σ H' => H' = H ∧ ∃ v : Option V, σ = [some (.ref p), some (.ref r), v]) ⟨rfl, none, rfl⟩ ?_ ?_⟩
      · rintro i σ H' hi ⟨rfl, v, rfl⟩
        refine same_seq (.inr h1) (.inr h2) d1 d2 hd (by omega) ⟨_, rfl, iteF ?_⟩
        exact ⟨rfl, _, rfl⟩
      · rintro σ H' ⟨rfl, v, rfl⟩
        exact q
end
open PySem L2 ExV
/-! ### the texts that the errors say -/
def numS (i : Int) : Str := Str.ofString (toString i)
theorem len_app (x y : Str) : (x ++ y).length = x.length + y.length := Array.size_append
theorem numS_len {i : Int} (h : -1000000000 ≤ i ∧ i ≤ 1000000000) : (numS i).length ≤ 11 := by
  have e := int_text_length_le10 (a := i) (k := 10) (by decide) (by omega)
  unfold numS
  rw [ofString_length]
  exact e
theorem log_ok {i : Int} (h : -1000000000 ≤ i ∧ i ≤ 1000000000) : i.natAbs.log2 < 1920 := by
  by_cases z : i.natAbs = 0
  · rw [z]
    decide
  · refine (Nat.log2_lt z).mpr (Nat.lt_of_lt_of_le (m := 2 ^ 32) ?_ (Nat.pow_le_pow_right (by decide) (by decide)))
    omega
def tJoined (ts : List TE) : TE := fun σ H Q => tJs ts Str.empty σ H fun out H1 => Q (.str out) H1
theorem pe_joinedN {X : Cx} {v1 v2 : Expr} {rest : List Expr} {ts : List TE} {pos : Pos} (h : PJ X (v1 :: v2 :: rest) ts) : PE X (.JoinedStr (v1 :: v2 :: rest) pos) (tJoined ts) := pe_joined h
/-- a part that is a text of at most 100 signs -/
def Gv (σ : L2.St) (H : Hp) (t : TE) : Prop := ∀ Q : VK, (∀ y : Str, y.length ≤ 100 → Q (.str y) H) → t σ H Q
theorem gv_c {σ : L2.St} {H : Hp} {s : Str} (h : s.length ≤ 100) : Gv σ H (tC (.str s)) := fun Q q => q s h
theorem gv_s {σ : L2.St} {H : Hp} {i : Nat} {s : Str} (e : σ[i]? = some (some (.str s))) (h : s.length ≤ 100) : Gv σ H (tFmt (tVar i)) := fun Q q => ⟨_, e, .inl ⟨s, rfl, by rw [sizeLine_eq]; omega, q s h⟩⟩
theorem gv_i {σ : L2.St} {H : Hp} {i : Nat} {n : Int} (e : σ[i]? = some (some (.int n))) (h : -1000000000 ≤ n ∧ n ≤ 1000000000) : Gv σ H (tFmt (tVar i)) := fun Q q => ⟨_, e, .inr ⟨n, rfl, log_ok h, q _ (Nat.le_trans (numS_len h) (by decide))⟩⟩
def Gvs (σ : L2.St) (H : Hp) : List TE → Prop
  | [] => True
  | t :: ts => Gv σ H t ∧ Gvs σ H ts
theorem gvs_nil {σ : L2.St} {H : Hp} : Gvs σ H [] := trivial
theorem gvs_cons {σ : L2.St} {H : Hp} {t : TE} {ts : List TE} (a : Gv σ H t) (b : Gvs σ H ts) : Gvs σ H (t :: ts) := ⟨a, b⟩
theorem js_gives {σ : L2.St} {H : Hp} {Q : Str → Hp → Prop} : ∀ {ts : List TE} {acc : Str}, Gvs σ H ts → acc.length + 100 * ts.length ≤ 131072 → (∀ out, Q out H) → tJs ts acc σ H Q
  | [], acc, _, _, q => q acc
  | t :: ts, acc, g, h, q => g.1 _ fun y hy => by
    rw [List.length_cons] at h
    have e : (acc ++ y).length = acc.length + y.length := len_app _ _
    exact ⟨y, rfl, by rw [sizeLine_eq, e]; omega, js_gives g.2 (by rw [e]; omega) q⟩
theorem joined_gives {σ : L2.St} {H : Hp} {Q : List V → Hp → Prop} {ts : List TE} (g : Gvs σ H ts) (h : ts.length ≤ 1000) (q : ∀ out, Q [.str out] H) : tCons (tJoined ts) tNil σ H Q := js_gives g (by show 0 + _ ≤ _; omega) q
/-! ### what is stored -/
def Ost (a C dx : Addr) (fs : List (Str × V)) (H Hn : Hp) : Prop := Hn a = some (exo a C (some dx)) ∧ Hn dx = some (exd dx fs) ∧ ∀ b, b ≠ a → b ≠ dx → Hn b = H b
theorem ost_one {a C dx : Addr} {f : Str} {y : V} {H : Hp} (nd : H dx = none) (ne : dx ≠ a) : Ost a C dx [(f, y)] H (upd (upd H dx (exd dx [(f, y)])) a (exo a C (some dx))) := ⟨upd_same, (upd_ne ne).trans upd_same, fun b h1 h2 => (upd_ne h1).trans (upd_ne h2)⟩
theorem ost_more {a C dx : Addr} {f : Str} {y : V} {fs : List (Str × V)} {H Hn : Hp} (ne : dx ≠ a) (o : Ost a C dx fs H Hn) : Ost a C dx ((f, y) :: fs) H (upd Hn dx (exd dx ((f, y) :: fs))) := ⟨(upd_ne (Ne.symm ne)).trans o.1, upd_same, fun b h1 h2 => (upd_ne h2).trans (o.2.2 b h1 h2)⟩
section
variable {w : World} {K : PySem.W.Frag} {mg : Str → Option Value} {base : Heap}
def arg_BadText (xs : List V) : Prop := ∃ (x0 : Int), xs = [.int x0] ∧ (-1000000000 ≤ x0 ∧ x0 ≤ 1000000000)
theorem ok_BadText_init (T : Txt w K mg) : FnOk PWX w K mg base CX0 1 T.a_BadText_init T.d_BadText_init p_BadText_init (spIni T.C_BadText ["line"] arg_BadText) := by
  refine T.I_BadText.fn T.ox_BadText rfl nsc_BadText_init rfl rfl (by decide +kernel) T.z_super (by decide +kernel) (fun xs h => ?_) (fun _ _ _ => rfl) (fun _ _ _ => rfl) (fun _ _ _ => rfl) (fun _ _ _ => rfl) (fun _ _ _ => rfl) (fun cda cc A outer s H a xs Q E h eH q => ?_)
  · obtain ⟨x0, rfl, h0⟩ := h
    rfl
  · obtain ⟨x0, rfl, h0⟩ := h
    refine ⟨_, _, (pa_cons (pe_joinedN (PJ.cons pe_str (PJ.cons (pe_fmt (pv 1)) (PJ.cons pe_str PJ.nil)))) pa_nil), (pss_one (ps_ost (pv 0) (pv 1))), ?_⟩
    refine joined_gives (gvs_cons (gv_c (by decide +kernel)) (gvs_cons (gv_i rfl h0) (gvs_cons (gv_c (by decide +kernel)) gvs_nil))) (by decide) fun out => ?_
    refine ⟨by show 1 ≤ 1000; decide, eH, ?_⟩
    rcases q with ⟨z, _⟩ | ⟨_, q⟩
    · cases z
    · refine ⟨_, rfl, _, rfl, a, _, rfl, T.ox_BadText, T.xb_BadText.no _ (by decide), .inl ⟨eH, fun dx nd ne => ?_⟩⟩
      have o1 := ost_one (f := "line") (y := .int x0) (C := T.C_BadText) (H := H) nd ne
      exact q dx _ nd ne o1.1 o1.2.1 o1.2.2
def arg_Twice (xs : List V) : Prop := ∃ (x0 : Str), xs = [.str x0] ∧ x0.length ≤ 12
theorem ok_Twice_init (T : Txt w K mg) : FnOk PWX w K mg base CX0 1 T.a_Twice_init T.d_Twice_init p_Twice_init (spIni T.C_Twice ["name"] arg_Twice) := by
  refine T.I_Twice.fn T.ox_Twice rfl nsc_Twice_init rfl rfl (by decide +kernel) T.z_super (by decide +kernel) (fun xs h => ?_) (fun _ _ _ => rfl) (fun _ _ _ => rfl) (fun _ _ _ => rfl) (fun _ _ _ => rfl) (fun _ _ _ => rfl) (fun cda cc A outer s H a xs Q E h eH q => ?_)
  · obtain ⟨x0, rfl, h0⟩ := h
    rfl
  · obtain ⟨x0, rfl, h0⟩ := h
    refine ⟨_, _, (pa_cons (pe_joinedN (PJ.cons (pe_fmt (pv 1)) (PJ.cons pe_str PJ.nil))) pa_nil), (pss_one (ps_ost (pv 0) (pv 1))), ?_⟩
    refine joined_gives (gvs_cons (gv_s rfl (by omega)) (gvs_cons (gv_c (by decide +kernel)) gvs_nil)) (by decide) fun out => ?_
    refine ⟨by show 1 ≤ 1000; decide, eH, ?_⟩
    rcases q with ⟨z, _⟩ | ⟨_, q⟩
    · cases z
    · refine ⟨_, rfl, _, rfl, a, _, rfl, T.ox_Twice, T.xb_Twice.no _ (by decide), .inl ⟨eH, fun dx nd ne => ?_⟩⟩
      have o1 := ost_one (f := "name") (y := .str x0) (C := T.C_Twice) (H := H) nd ne
      exact q dx _ nd ne o1.1 o1.2.1 o1.2.2
def arg_Unknown (xs : List V) : Prop := ∃ (x0 : Str), xs = [.str x0] ∧ x0.length ≤ 12
theorem ok_Unknown_init (T : Txt w K mg) : FnOk PWX w K mg base CX0 1 T.a_Unknown_init T.d_Unknown_init p_Unknown_init (spIni T.C_Unknown ["name"] arg_Unknown) := by
  refine T.I_Unknown.fn T.ox_Unknown rfl nsc_Unknown_init rfl rfl (by decide +kernel) T.z_super (by decide +kernel) (fun xs h => ?_) (fun _ _ _ => rfl) (fun _ _ _ => rfl) (fun _ _ _ => rfl) (fun _ _ _ => rfl) (fun _ _ _ => rfl) (fun cda cc A outer s H a xs Q E h eH q => ?_)
  · obtain ⟨x0, rfl, h0⟩ := h
    rfl
  · obtain ⟨x0, rfl, h0⟩ := h
    refine ⟨_, _, (pa_cons (pe_joinedN (PJ.cons (pe_fmt (pv 1)) (PJ.cons pe_str PJ.nil))) pa_nil), (pss_one (ps_ost (pv 0) (pv 1))), ?_⟩
    refine joined_gives (gvs_cons (gv_s rfl (by omega)) (gvs_cons (gv_c (by decide +kernel)) gvs_nil)) (by decide) fun out => ?_
    refine ⟨by show 1 ≤ 1000; decide, eH, ?_⟩
    rcases q with ⟨z, _⟩ | ⟨_, q⟩
    · cases z
    · refine ⟨_, rfl, _, rfl, a, _, rfl, T.ox_Unknown, T.xb_Unknown.no _ (by decide), .inl ⟨eH, fun dx nd ne => ?_⟩⟩
      have o1 := ost_one (f := "name") (y := .str x0) (C := T.C_Unknown) (H := H) nd ne
      exact q dx _ nd ne o1.1 o1.2.1 o1.2.2
def arg_BadKind (xs : List V) : Prop := ∃ (x0 : Str), xs = [.str x0] ∧ x0.length ≤ 12
theorem ok_BadKind_init (T : Txt w K mg) : FnOk PWX w K mg base CX0 1 T.a_BadKind_init T.d_BadKind_init p_BadKind_init (spIni T.C_BadKind ["name"] arg_BadKind) := by
  refine T.I_BadKind.fn T.ox_BadKind rfl nsc_BadKind_init rfl rfl (by decide +kernel) T.z_super (by decide +kernel) (fun xs h => ?_) (fun _ _ _ => rfl) (fun _ _ _ => rfl) (fun _ _ _ => rfl) (fun _ _ _ => rfl) (fun _ _ _ => rfl) (fun cda cc A outer s H a xs Q E h eH q => ?_)
  · obtain ⟨x0, rfl, h0⟩ := h
    rfl
  · obtain ⟨x0, rfl, h0⟩ := h
    refine ⟨_, _, (pa_cons (pe_joinedN (PJ.cons (pe_fmt (pv 1)) (PJ.cons pe_str PJ.nil))) pa_nil), (pss_one (ps_ost (pv 0) (pv 1))), ?_⟩
    refine joined_gives (gvs_cons (gv_s rfl (by omega)) (gvs_cons (gv_c (by decide +kernel)) gvs_nil)) (by decide) fun out => ?_
    refine ⟨by show 1 ≤ 1000; decide, eH, ?_⟩
    rcases q with ⟨z, _⟩ | ⟨_, q⟩
    · cases z
    · refine ⟨_, rfl, _, rfl, a, _, rfl, T.ox_BadKind, T.xb_BadKind.no _ (by decide), .inl ⟨eH, fun dx nd ne => ?_⟩⟩
      have o1 := ost_one (f := "name") (y := .str x0) (C := T.C_BadKind) (H := H) nd ne
      exact q dx _ nd ne o1.1 o1.2.1 o1.2.2
def arg_WrongKind (xs : List V) : Prop := ∃ (x0 : Str) (x1 : Int), xs = [.str x0, .int x1] ∧ x0.length ≤ 12 ∧ (-1000000000 ≤ x1 ∧ x1 ≤ 1000000000)
theorem ok_WrongKind_init (T : Txt w K mg) : FnOk PWX w K mg base CX0 1 T.a_WrongKind_init T.d_WrongKind_init p_WrongKind_init (spIni T.C_WrongKind ["function", "place"] arg_WrongKind) := by
  refine T.I_WrongKind.fn T.ox_WrongKind rfl nsc_WrongKind_init rfl rfl (by decide +kernel) T.z_super (by decide +kernel) (fun xs h => ?_) (fun _ _ _ => rfl) (fun _ _ _ => rfl) (fun _ _ _ => rfl) (fun _ _ _ => rfl) (fun _ _ _ => rfl) (fun cda cc A outer s H a xs Q E h eH q => ?_)
  · obtain ⟨x0, x1, rfl, h0, h1⟩ := h
    rfl
  · obtain ⟨x0, x1, rfl, h0, h1⟩ := h
    refine ⟨_, _, (pa_cons (pe_joinedN (PJ.cons pe_str (PJ.cons (pe_fmt (pv 2)) (PJ.cons pe_str (PJ.cons (pe_fmt (pv 1)) PJ.nil))))) pa_nil), (pss_cons (ps_ost (pv 0) (pv 1)) (pss_one (ps_ost (pv 0) (pv 2)))), ?_⟩
    refine joined_gives (gvs_cons (gv_c (by decide +kernel)) (gvs_cons (gv_i rfl h1) (gvs_cons (gv_c (by decide +kernel)) (gvs_cons (gv_s rfl (by omega)) gvs_nil)))) (by decide) fun out => ?_
    refine ⟨by show 1 ≤ 1000; decide, eH, ?_⟩
    rcases q with ⟨z, _⟩ | ⟨_, q⟩
    · cases z
    · refine ⟨_, rfl, _, rfl, a, _, rfl, T.ox_WrongKind, T.xb_WrongKind.no _ (by decide), .inl ⟨eH, fun dx nd ne => ?_⟩⟩
      have o1 := ost_one (f := "function") (y := .str x0) (C := T.C_WrongKind) (H := H) nd ne
      refine ⟨_, rfl, _, rfl, a, _, rfl, T.ox_WrongKind, T.xb_WrongKind.no _ (by decide), .inr ⟨dx, _, o1.1, o1.2.1, by simp, ?_⟩⟩
      have o2 := ost_more (f := "place") (y := .int x1) ne o1
      exact q dx _ nd ne o2.1 o2.2.1 o2.2.2
def arg_NoSite (xs : List V) : Prop := ∃ (x0 : Str) (x1 : Int) (x2 : Str), xs = [.str x0, .int x1, .str x2] ∧ x0.length ≤ 12 ∧ (-1000000000 ≤ x1 ∧ x1 ≤ 1000000000) ∧ x2.length ≤ 12
theorem ok_NoSite_init (T : Txt w K mg) : FnOk PWX w K mg base CX0 1 T.a_NoSite_init T.d_NoSite_init p_NoSite_init (spIni T.C_NoSite ["function", "place", "fault"] arg_NoSite) := by
  refine T.I_NoSite.fn T.ox_NoSite rfl nsc_NoSite_init rfl rfl (by decide +kernel) T.z_super (by decide +kernel) (fun xs h => ?_) (fun _ _ _ => rfl) (fun _ _ _ => rfl) (fun _ _ _ => rfl) (fun _ _ _ => rfl) (fun _ _ _ => rfl) (fun cda cc A outer s H a xs Q E h eH q => ?_)
  · obtain ⟨x0, x1, x2, rfl, h0, h1, h2⟩ := h
    rfl
  · obtain ⟨x0, x1, x2, rfl, h0, h1, h2⟩ := h
    refine ⟨_, _, (pa_cons (pe_joinedN (PJ.cons (pe_fmt (pv 1)) (PJ.cons pe_str (PJ.cons (pe_fmt (pv 3)) PJ.nil)))) pa_nil), (pss_cons (ps_ost (pv 0) (pv 1)) (pss_cons (ps_ost (pv 0) (pv 2)) (pss_one (ps_ost (pv 0) (pv 3))))), ?_⟩
    refine joined_gives (gvs_cons (gv_s rfl (by omega)) (gvs_cons (gv_c (by decide +kernel)) (gvs_cons (gv_s rfl (by omega)) gvs_nil))) (by decide) fun out => ?_
    refine ⟨by show 1 ≤ 1000; decide, eH, ?_⟩
    rcases q with ⟨z, _⟩ | ⟨_, q⟩
    · cases z
    · refine ⟨_, rfl, _, rfl, a, _, rfl, T.ox_NoSite, T.xb_NoSite.no _ (by decide), .inl ⟨eH, fun dx nd ne => ?_⟩⟩
      have o1 := ost_one (f := "function") (y := .str x0) (C := T.C_NoSite) (H := H) nd ne
      refine ⟨_, rfl, _, rfl, a, _, rfl, T.ox_NoSite, T.xb_NoSite.no _ (by decide), .inr ⟨dx, _, o1.1, o1.2.1, by simp, ?_⟩⟩
      have o2 := ost_more (f := "place") (y := .int x1) ne o1
      refine ⟨_, rfl, _, rfl, a, _, rfl, T.ox_NoSite, T.xb_NoSite.no _ (by decide), .inr ⟨dx, _, o2.1, o2.2.1, by simp, ?_⟩⟩
      have o3 := ost_more (f := "fault") (y := .str x2) ne o2
      exact q dx _ nd ne o3.1 o3.2.1 o3.2.2
def arg_NoPlace (xs : List V) : Prop := ∃ (x0 : Str) (x1 : V), xs = [.str x0, x1] ∧ x0.length ≤ 12
theorem ok_NoPlace_init (T : Txt w K mg) : FnOk PWX w K mg base CX0 1 T.a_NoPlace_init T.d_NoPlace_init p_NoPlace_init (spIni T.C_NoPlace ["function", "place"] arg_NoPlace) := by
  refine T.I_NoPlace.fn T.ox_NoPlace rfl nsc_NoPlace_init rfl rfl (by decide +kernel) T.z_super (by decide +kernel) (fun xs h => ?_) (fun _ _ _ => rfl) (fun _ _ _ => rfl) (fun _ _ _ => rfl) (fun _ _ _ => rfl) (fun _ _ _ => rfl) (fun cda cc A outer s H a xs Q E h eH q => ?_)
  · obtain ⟨x0, x1, rfl, h0⟩ := h
    rfl
  · obtain ⟨x0, x1, rfl, h0⟩ := h
    refine ⟨_, _, (pa_cons (pe_joinedN (PJ.cons pe_str (PJ.cons (pe_fmt (pv 1)) PJ.nil))) pa_nil), (pss_cons (ps_ost (pv 0) (pv 1)) (pss_one (ps_ost (pv 0) (pv 2)))), ?_⟩
    refine joined_gives (gvs_cons (gv_c (by decide +kernel)) (gvs_cons (gv_s rfl (by omega)) gvs_nil)) (by decide) fun out => ?_
    refine ⟨by show 1 ≤ 1000; decide, eH, ?_⟩
    rcases q with ⟨z, _⟩ | ⟨_, q⟩
    · cases z
    · refine ⟨_, rfl, _, rfl, a, _, rfl, T.ox_NoPlace, T.xb_NoPlace.no _ (by decide), .inl ⟨eH, fun dx nd ne => ?_⟩⟩
      have o1 := ost_one (f := "function") (y := .str x0) (C := T.C_NoPlace) (H := H) nd ne
      refine ⟨_, rfl, _, rfl, a, _, rfl, T.ox_NoPlace, T.xb_NoPlace.no _ (by decide), .inr ⟨dx, _, o1.1, o1.2.1, by simp, ?_⟩⟩
      have o2 := ost_more (f := "place") (y := x1) ne o1
      exact q dx _ nd ne o2.1 o2.2.1 o2.2.2
def arg_NotAccepted (xs : List V) : Prop := xs = []
theorem ok_NotAccepted_init (T : Txt w K mg) : FnOk PWX w K mg base CX0 1 T.a_NotAccepted_init T.d_NotAccepted_init p_NotAccepted_init (spIni T.C_NotAccepted [] arg_NotAccepted) := by
  refine T.I_NotAccepted.fn T.ox_NotAccepted rfl nsc_NotAccepted_init rfl rfl (by decide +kernel) T.z_super (by decide +kernel) (fun xs h => ?_) (fun _ _ _ => rfl) (fun _ _ _ => rfl) (fun _ _ _ => rfl) (fun _ _ _ => rfl) (fun _ _ _ => rfl) (fun cda cc A outer s H a xs Q E h eH q => ?_)
  · cases h
    rfl
  · cases h
    refine ⟨_, _, (pa_cons pe_str pa_nil), pss_nil, ?_⟩
    refine ⟨by show 1 ≤ 1000; decide, eH, ?_⟩
    rcases q with ⟨_, q⟩ | ⟨z, _⟩
    · exact q
    · exact (z rfl).elim
def arg_BadCertificate (xs : List V) : Prop := ∃ (x0 : Int), xs = [.int x0] ∧ (-1000000000 ≤ x0 ∧ x0 ≤ 1000000000)
theorem ok_BadCertificate_init (T : Txt w K mg) : FnOk PWX w K mg base CX0 1 T.a_BadCertificate_init T.d_BadCertificate_init p_BadCertificate_init (spIni T.C_BadCertificate ["line"] arg_BadCertificate) := by
  refine T.I_BadCertificate.fn T.ox_BadCertificate rfl nsc_BadCertificate_init rfl rfl (by decide +kernel) T.z_super (by decide +kernel) (fun xs h => ?_) (fun _ _ _ => rfl) (fun _ _ _ => rfl) (fun _ _ _ => rfl) (fun _ _ _ => rfl) (fun _ _ _ => rfl) (fun cda cc A outer s H a xs Q E h eH q => ?_)
  · obtain ⟨x0, rfl, h0⟩ := h
    rfl
  · obtain ⟨x0, rfl, h0⟩ := h
    refine ⟨_, _, (pa_cons (pe_joinedN (PJ.cons pe_str (PJ.cons (pe_fmt (pv 1)) (PJ.cons pe_str PJ.nil)))) pa_nil), (pss_one (ps_ost (pv 0) (pv 1))), ?_⟩
    refine joined_gives (gvs_cons (gv_c (by decide +kernel)) (gvs_cons (gv_i rfl h0) (gvs_cons (gv_c (by decide +kernel)) gvs_nil))) (by decide) fun out => ?_
    refine ⟨by show 1 ≤ 1000; decide, eH, ?_⟩
    rcases q with ⟨z, _⟩ | ⟨_, q⟩
    · cases z
    · refine ⟨_, rfl, _, rfl, a, _, rfl, T.ox_BadCertificate, T.xb_BadCertificate.no _ (by decide), .inl ⟨eH, fun dx nd ne => ?_⟩⟩
      have o1 := ost_one (f := "line") (y := .int x0) (C := T.C_BadCertificate) (H := H) nd ne
      exact q dx _ nd ne o1.1 o1.2.1 o1.2.2
def arg_WrongChange (xs : List V) : Prop := ∃ (x0 : Str), xs = [.str x0] ∧ x0.length ≤ 12
theorem ok_WrongChange_init (T : Txt w K mg) : FnOk PWX w K mg base CX0 1 T.a_WrongChange_init T.d_WrongChange_init p_WrongChange_init (spIni T.C_WrongChange ["name"] arg_WrongChange) := by
  refine T.I_WrongChange.fn T.ox_WrongChange rfl nsc_WrongChange_init rfl rfl (by decide +kernel) T.z_super (by decide +kernel) (fun xs h => ?_) (fun _ _ _ => rfl) (fun _ _ _ => rfl) (fun _ _ _ => rfl) (fun _ _ _ => rfl) (fun _ _ _ => rfl) (fun cda cc A outer s H a xs Q E h eH q => ?_)
  · obtain ⟨x0, rfl, h0⟩ := h
    rfl
  · obtain ⟨x0, rfl, h0⟩ := h
    refine ⟨_, _, (pa_cons (pe_joinedN (PJ.cons (pe_fmt (pv 1)) (PJ.cons pe_str PJ.nil))) pa_nil), (pss_one (ps_ost (pv 0) (pv 1))), ?_⟩
    refine joined_gives (gvs_cons (gv_s rfl (by omega)) (gvs_cons (gv_c (by decide +kernel)) gvs_nil)) (by decide) fun out => ?_
    refine ⟨by show 1 ≤ 1000; decide, eH, ?_⟩
    rcases q with ⟨z, _⟩ | ⟨_, q⟩
    · cases z
    · refine ⟨_, rfl, _, rfl, a, _, rfl, T.ox_WrongChange, T.xb_WrongChange.no _ (by decide), .inl ⟨eH, fun dx nd ne => ?_⟩⟩
      have o1 := ost_one (f := "name") (y := .str x0) (C := T.C_WrongChange) (H := H) nd ne
      exact q dx _ nd ne o1.1 o1.2.1 o1.2.2
def arg_NotPlain (xs : List V) : Prop := xs = []
theorem ok_NotPlain_init (T : Txt w K mg) : FnOk PWX w K mg base CX0 1 T.a_NotPlain_init T.d_NotPlain_init p_NotPlain_init (spIni T.C_NotPlain [] arg_NotPlain) := by
  refine T.I_NotPlain.fn T.ox_NotPlain rfl nsc_NotPlain_init rfl rfl (by decide +kernel) T.z_super (by decide +kernel) (fun xs h => ?_) (fun _ _ _ => rfl) (fun _ _ _ => rfl) (fun _ _ _ => rfl) (fun _ _ _ => rfl) (fun _ _ _ => rfl) (fun cda cc A outer s H a xs Q E h eH q => ?_)
  · cases h
    rfl
  · cases h
    refine ⟨_, _, (pa_cons pe_str pa_nil), pss_nil, ?_⟩
    refine ⟨by show 1 ≤ 1000; decide, eH, ?_⟩
    rcases q with ⟨_, q⟩ | ⟨z, _⟩
    · exact q
    · exact (z rfl).elim
def arg_BadWitness (xs : List V) : Prop := ∃ (x0 : Int), xs = [.int x0] ∧ (-1000000000 ≤ x0 ∧ x0 ≤ 1000000000)
theorem ok_BadWitness_init (T : Txt w K mg) : FnOk PWX w K mg base CX0 1 T.a_BadWitness_init T.d_BadWitness_init p_BadWitness_init (spIni T.C_BadWitness ["line"] arg_BadWitness) := by
  refine T.I_BadWitness.fn T.ox_BadWitness rfl nsc_BadWitness_init rfl rfl (by decide +kernel) T.z_super (by decide +kernel) (fun xs h => ?_) (fun _ _ _ => rfl) (fun _ _ _ => rfl) (fun _ _ _ => rfl) (fun _ _ _ => rfl) (fun _ _ _ => rfl) (fun cda cc A outer s H a xs Q E h eH q => ?_)
  · obtain ⟨x0, rfl, h0⟩ := h
    rfl
  · obtain ⟨x0, rfl, h0⟩ := h
    refine ⟨_, _, (pa_cons (pe_joinedN (PJ.cons pe_str (PJ.cons (pe_fmt (pv 1)) (PJ.cons pe_str PJ.nil)))) pa_nil), (pss_one (ps_ost (pv 0) (pv 1))), ?_⟩
    refine joined_gives (gvs_cons (gv_c (by decide +kernel)) (gvs_cons (gv_i rfl h0) (gvs_cons (gv_c (by decide +kernel)) gvs_nil))) (by decide) fun out => ?_
    refine ⟨by show 1 ≤ 1000; decide, eH, ?_⟩
    rcases q with ⟨z, _⟩ | ⟨_, q⟩
    · cases z
    · refine ⟨_, rfl, _, rfl, a, _, rfl, T.ox_BadWitness, T.xb_BadWitness.no _ (by decide), .inl ⟨eH, fun dx nd ne => ?_⟩⟩
      have o1 := ost_one (f := "line") (y := .int x0) (C := T.C_BadWitness) (H := H) nd ne
      exact q dx _ nd ne o1.1 o1.2.1 o1.2.2
def arg_TooLong (xs : List V) : Prop := ∃ (x0 : Int), xs = [.int x0] ∧ (-1000000000 ≤ x0 ∧ x0 ≤ 1000000000)
theorem ok_TooLong_init (T : Txt w K mg) : FnOk PWX w K mg base CX0 1 T.a_TooLong_init T.d_TooLong_init p_TooLong_init (spIni T.C_TooLong ["amount"] arg_TooLong) := by
  refine T.I_TooLong.fn T.ox_TooLong rfl nsc_TooLong_init rfl rfl (by decide +kernel) T.z_super (by decide +kernel) (fun xs h => ?_) (fun _ _ _ => rfl) (fun _ _ _ => rfl) (fun _ _ _ => rfl) (fun _ _ _ => rfl) (fun _ _ _ => rfl) (fun cda cc A outer s H a xs Q E h eH q => ?_)
  · obtain ⟨x0, rfl, h0⟩ := h
    rfl
  · obtain ⟨x0, rfl, h0⟩ := h
    refine ⟨_, _, (pa_cons pe_str pa_nil), (pss_one (ps_ost (pv 0) (pv 1))), ?_⟩
    refine ⟨by show 1 ≤ 1000; decide, eH, ?_⟩
    rcases q with ⟨z, _⟩ | ⟨_, q⟩
    · cases z
    · refine ⟨_, rfl, _, rfl, a, _, rfl, T.ox_TooLong, T.xb_TooLong.no _ (by decide), .inl ⟨eH, fun dx nd ne => ?_⟩⟩
      have o1 := ost_one (f := "amount") (y := .int x0) (C := T.C_TooLong) (H := H) nd ne
      exact q dx _ nd ne o1.1 o1.2.1 o1.2.2
def arg_NothingLoaded (xs : List V) : Prop := xs = []
theorem ok_NothingLoaded_init (T : Txt w K mg) : FnOk PWX w K mg base CX0 1 T.a_NothingLoaded_init T.d_NothingLoaded_init p_NothingLoaded_init (spIni T.C_NothingLoaded [] arg_NothingLoaded) := by
  refine T.I_NothingLoaded.fn T.ox_NothingLoaded rfl nsc_NothingLoaded_init rfl rfl (by decide +kernel) T.z_super (by decide +kernel) (fun xs h => ?_) (fun _ _ _ => rfl) (fun _ _ _ => rfl) (fun _ _ _ => rfl) (fun _ _ _ => rfl) (fun _ _ _ => rfl) (fun cda cc A outer s H a xs Q E h eH q => ?_)
  · cases h
    rfl
  · cases h
    refine ⟨_, _, (pa_cons pe_str pa_nil), pss_nil, ?_⟩
    refine ⟨by show 1 ≤ 1000; decide, eH, ?_⟩
    rcases q with ⟨_, q⟩ | ⟨z, _⟩
    · exact q
    · exact (z rfl).elim
def arg_NothingToUndo (xs : List V) : Prop := xs = []
theorem ok_NothingToUndo_init (T : Txt w K mg) : FnOk PWX w K mg base CX0 1 T.a_NothingToUndo_init T.d_NothingToUndo_init p_NothingToUndo_init (spIni T.C_NothingToUndo [] arg_NothingToUndo) := by
  refine T.I_NothingToUndo.fn T.ox_NothingToUndo rfl nsc_NothingToUndo_init rfl rfl (by decide +kernel) T.z_super (by decide +kernel) (fun xs h => ?_) (fun _ _ _ => rfl) (fun _ _ _ => rfl) (fun _ _ _ => rfl) (fun _ _ _ => rfl) (fun _ _ _ => rfl) (fun cda cc A outer s H a xs Q E h eH q => ?_)
  · cases h
    rfl
  · cases h
    refine ⟨_, _, (pa_cons pe_str pa_nil), pss_nil, ?_⟩
    refine ⟨by show 1 ≤ 1000; decide, eH, ?_⟩
    rcases q with ⟨_, q⟩ | ⟨z, _⟩
    · exact q
    · exact (z rfl).elim
def arg_BadJournal (xs : List V) : Prop := ∃ (x0 : Int), xs = [.int x0] ∧ (-1000000000 ≤ x0 ∧ x0 ≤ 1000000000)
theorem ok_BadJournal_init (T : Txt w K mg) : FnOk PWX w K mg base CX0 1 T.a_BadJournal_init T.d_BadJournal_init p_BadJournal_init (spIni T.C_BadJournal ["position"] arg_BadJournal) := by
  refine T.I_BadJournal.fn T.ox_BadJournal rfl nsc_BadJournal_init rfl rfl (by decide +kernel) T.z_super (by decide +kernel) (fun xs h => ?_) (fun _ _ _ => rfl) (fun _ _ _ => rfl) (fun _ _ _ => rfl) (fun _ _ _ => rfl) (fun _ _ _ => rfl) (fun cda cc A outer s H a xs Q E h eH q => ?_)
  · obtain ⟨x0, rfl, h0⟩ := h
    rfl
  · obtain ⟨x0, rfl, h0⟩ := h
    refine ⟨_, _, (pa_cons (pe_joinedN (PJ.cons pe_str (PJ.cons (pe_fmt (pv 1)) (PJ.cons pe_str PJ.nil)))) pa_nil), (pss_one (ps_ost (pv 0) (pv 1))), ?_⟩
    refine joined_gives (gvs_cons (gv_c (by decide +kernel)) (gvs_cons (gv_i rfl h0) (gvs_cons (gv_c (by decide +kernel)) gvs_nil))) (by decide) fun out => ?_
    refine ⟨by show 1 ≤ 1000; decide, eH, ?_⟩
    rcases q with ⟨z, _⟩ | ⟨_, q⟩
    · cases z
    · refine ⟨_, rfl, _, rfl, a, _, rfl, T.ox_BadJournal, T.xb_BadJournal.no _ (by decide), .inl ⟨eH, fun dx nd ne => ?_⟩⟩
      have o1 := ost_one (f := "position") (y := .int x0) (C := T.C_BadJournal) (H := H) nd ne
      exact q dx _ nd ne o1.1 o1.2.1 o1.2.2
end
open PySem L2 ExV
/-! ### the sixteen errors -/
section
variable {w : World} {K : PySem.W.Frag} {mg : Str → Option Value} {base : Heap}
def clsOf (T : Txt w K mg) : Nat → Addr
  | 0 => T.C_BadText
  | 1 => T.C_Twice
  | 2 => T.C_Unknown
  | 3 => T.C_BadKind
  | 4 => T.C_WrongKind
  | 5 => T.C_NoSite
  | 6 => T.C_NoPlace
  | 7 => T.C_NotAccepted
  | 8 => T.C_BadCertificate
  | 9 => T.C_WrongChange
  | 10 => T.C_NotPlain
  | 11 => T.C_BadWitness
  | 12 => T.C_TooLong
  | 13 => T.C_NothingLoaded
  | 14 => T.C_NothingToUndo
  | _ => T.C_BadJournal
def fsOf : Nat → List Str
  | 0 => ["line"]
  | 1 => ["name"]
  | 2 => ["name"]
  | 3 => ["name"]
  | 4 => ["function", "place"]
  | 5 => ["function", "place", "fault"]
  | 6 => ["function", "place"]
  | 7 => []
  | 8 => ["line"]
  | 9 => ["name"]
  | 10 => []
  | 11 => ["line"]
  | 12 => ["amount"]
  | 13 => []
  | 14 => []
  | _ => ["position"]
def argOf : Nat → List V → Prop
  | 0 => arg_BadText
  | 1 => arg_Twice
  | 2 => arg_Unknown
  | 3 => arg_BadKind
  | 4 => arg_WrongKind
  | 5 => arg_NoSite
  | 6 => arg_NoPlace
  | 7 => arg_NotAccepted
  | 8 => arg_BadCertificate
  | 9 => arg_WrongChange
  | 10 => arg_NotPlain
  | 11 => arg_BadWitness
  | 12 => arg_TooLong
  | 13 => arg_NothingLoaded
  | 14 => arg_NothingToUndo
  | _ => arg_BadJournal
theorem k16 {k : Nat} (h : k < 16) : k = 0 ∨ k = 1 ∨ k = 2 ∨ k = 3 ∨ k = 4 ∨ k = 5 ∨ k = 6 ∨ k = 7 ∨ k = 8 ∨ k = 9 ∨ k = 10 ∨ k = 11 ∨ k = 12 ∨ k = 13 ∨ k = 14 ∨ k = 15 := by omega
theorem mk_gives {C : Addr} {fs : List Str} {ok : List V → Prop} {Q : XK} {xs : List V} {H : Hp} (h : ok xs) (l : xs.length ≤ 1000) (q : (fs = [] ∧ Q (.ref C) none H) ∨ (fs ≠ [] ∧ ∀ d, H d = none → Q (.ref C) (some d) (upd H d (.xd (fs.zip xs).reverse)))) : rMkN C (spIni C fs ok) [] Q xs H := by
  refine ⟨l, fun a na => ⟨a, xs, by rw [List.append_nil], h, upd_same, ?_⟩⟩
  rcases q with ⟨e, q⟩ | ⟨e, q⟩
  · have z : del (upd H a (exo a C none)) a = H := funext fun b => by
      by_cases hb : b = a
      · rw [hb, del_same, na]
      · rw [del_ne hb, upd_ne hb]
    exact .inl ⟨e, rfl, .inl ⟨upd_same, by rw [z]; exact q⟩⟩
  · refine .inr ⟨e, fun d H' nd ne h1 h2 h3 => ?_⟩
    have nd' : H d = none := (upd_ne ne).symm.trans nd
    have z : upd (del H' a) d (.xd (fs.zip xs).reverse) = upd H d (.xd (fs.zip xs).reverse) := funext fun b => by
      by_cases hd : b = d
      · rw [hd, upd_same, upd_same]
      · rw [upd_ne hd, upd_ne hd]
        by_cases hb : b = a
        · rw [hb, del_same, na]
        · rw [del_ne hb, h3 b hb hd, upd_ne hb]
    exact ⟨rfl, .inr ⟨d, _, h1, h2, nd', by rw [z]; exact q d nd'⟩⟩
/-- _law_raise raises the told error, its attributes are the given ones -/
def spRaise (T : Txt w K mg) : Sp := fun vs H _ E => ∃ (k : Nat) (g : Addr) (xs : List V), vs = [.int k, .ref g] ∧ k < 16 ∧ SqT K H g xs ∧ argOf k xs ∧
  ((fsOf k = [] ∧ E (.ref (clsOf T k)) none H) ∨ (fsOf k ≠ [] ∧ ∀ d, H d = none → E (.ref (clsOf T k)) (some d) (upd H d (.xd ((fsOf k).zip xs).reverse))))
theorem ok_l_raise (T : Txt w K mg) : FnOk PWX w K mg base (L2N.CX PWX w) 3 T.a_l_raise T.d_l_raise p_l_raise (spRaise T) := by
  have g_BadText_init := ok_BadText_init (base := base) T
  have g_Twice_init := ok_Twice_init (base := base) T
  have g_Unknown_init := ok_Unknown_init (base := base) T
  have g_BadKind_init := ok_BadKind_init (base := base) T
  have g_WrongKind_init := ok_WrongKind_init (base := base) T
  have g_NoSite_init := ok_NoSite_init (base := base) T
  have g_NoPlace_init := ok_NoPlace_init (base := base) T
  have g_NotAccepted_init := ok_NotAccepted_init (base := base) T
  have g_BadCertificate_init := ok_BadCertificate_init (base := base) T
  have g_WrongChange_init := ok_WrongChange_init (base := base) T
  have g_NotPlain_init := ok_NotPlain_init (base := base) T
  have g_BadWitness_init := ok_BadWitness_init (base := base) T
  have g_TooLong_init := ok_TooLong_init (base := base) T
  have g_NothingLoaded_init := ok_NothingLoaded_init (base := base) T
  have g_NothingToUndo_init := ok_NothingToUndo_init (base := base) T
  have g_BadJournal_init := ok_BadJournal_init (base := base) T
  obtain ⟨oc, od, kV, doc, pm, an, cdv, ct, osl, e, lk, hcd⟩ := T.F_l_raise.ex
  rw [e] at lk ⊢
  refine fn_of lk hcd sc_l_raise (fun vs H Q E h => ?_) fun A outer s H vs Q E hr h => ?_
  · obtain ⟨k, g, xs, rfl, _⟩ := h
    rfl
  have tk : L2N.Takes (cxOf (L2N.CX PWX w) PWX w K mg base n_l_raise "_law_raise" (defScope s_l_raise) T.a_l_raise cdv A outer s H E) (fun cls d _ H' => E cls d H') := L2N.takes_of rfl rfl rfl rfl
  obtain ⟨k, g, xs, rfl, hk, hg, ok, q⟩ := h
  refine ⟨_, (pss_cons (ps_if (pt_cmpR op_eq (pv 0) pe_int (nomark _)) (pss_one (L2N.ps_raise rfl tk (pmkN T.ox_BadText T.I_BadText.iC T.I_BadText.tI g_BadText_init (hr.mono (by first | decide | omega)) T.b_BadText_init pass0 rfl T.mgc_BadText (pa_cons (pe_ix ix_tup (pv 1) pe_int (fun _ _ => rfl)) pa_nil)))) pss_nil)
      (pss_cons (ps_if (pt_cmpR op_eq (pv 0) pe_int (nomark _)) (pss_one (L2N.ps_raise rfl tk (pmkN T.ox_Twice T.I_Twice.iC T.I_Twice.tI g_Twice_init (hr.mono (by first | decide | omega)) T.b_Twice_init pass0 rfl T.mgc_Twice (pa_cons (pe_ix ix_tup (pv 1) pe_int (fun _ _ => rfl)) pa_nil)))) pss_nil)
      (pss_cons (ps_if (pt_cmpR op_eq (pv 0) pe_int (nomark _)) (pss_one (L2N.ps_raise rfl tk (pmkN T.ox_Unknown T.I_Unknown.iC T.I_Unknown.tI g_Unknown_init (hr.mono (by first | decide | omega)) T.b_Unknown_init pass0 rfl T.mgc_Unknown (pa_cons (pe_ix ix_tup (pv 1) pe_int (fun _ _ => rfl)) pa_nil)))) pss_nil)
      (pss_cons (ps_if (pt_cmpR op_eq (pv 0) pe_int (nomark _)) (pss_one (L2N.ps_raise rfl tk (pmkN T.ox_BadKind T.I_BadKind.iC T.I_BadKind.tI g_BadKind_init (hr.mono (by first | decide | omega)) T.b_BadKind_init pass0 rfl T.mgc_BadKind (pa_cons (pe_ix ix_tup (pv 1) pe_int (fun _ _ => rfl)) pa_nil)))) pss_nil)
      (pss_cons (ps_if (pt_cmpR op_eq (pv 0) pe_int (nomark _)) (pss_one (L2N.ps_raise rfl tk (pmkN T.ox_WrongKind T.I_WrongKind.iC T.I_WrongKind.tI g_WrongKind_init (hr.mono (by first | decide | omega)) T.b_WrongKind_init pass0 rfl T.mgc_WrongKind (pa_cons (pe_ix ix_tup (pv 1) pe_int (fun _ _ => rfl)) (pa_cons (pe_ix ix_tup (pv 1) pe_int (fun _ _ => rfl)) pa_nil))))) pss_nil)
      (pss_cons (ps_if (pt_cmpR op_eq (pv 0) pe_int (nomark _)) (pss_one (L2N.ps_raise rfl tk (pmkN T.ox_NoSite T.I_NoSite.iC T.I_NoSite.tI g_NoSite_init (hr.mono (by first | decide | omega)) T.b_NoSite_init pass0 rfl T.mgc_NoSite (pa_cons (pe_ix ix_tup (pv 1) pe_int (fun _ _ => rfl)) (pa_cons (pe_ix ix_tup (pv 1) pe_int (fun _ _ => rfl)) (pa_cons (pe_ix ix_tup (pv 1) pe_int (fun _ _ => rfl)) pa_nil)))))) pss_nil)
      (pss_cons (ps_if (pt_cmpR op_eq (pv 0) pe_int (nomark _)) (pss_one (L2N.ps_raise rfl tk (pmkN T.ox_NoPlace T.I_NoPlace.iC T.I_NoPlace.tI g_NoPlace_init (hr.mono (by first | decide | omega)) T.b_NoPlace_init pass0 rfl T.mgc_NoPlace (pa_cons (pe_ix ix_tup (pv 1) pe_int (fun _ _ => rfl)) (pa_cons (pe_ix ix_tup (pv 1) pe_int (fun _ _ => rfl)) pa_nil))))) pss_nil)
      (pss_cons (ps_if (pt_cmpR op_eq (pv 0) pe_int (nomark _)) (pss_one (L2N.ps_raise rfl tk (pmkN0 T.ox_NotAccepted T.I_NotAccepted.iC T.I_NotAccepted.tI g_NotAccepted_init (hr.mono (by first | decide | omega)) T.b_NotAccepted_init pass0 rfl T.mgc_NotAccepted))) pss_nil)
      (pss_cons (ps_if (pt_cmpR op_eq (pv 0) pe_int (nomark _)) (pss_one (L2N.ps_raise rfl tk (pmkN T.ox_BadCertificate T.I_BadCertificate.iC T.I_BadCertificate.tI g_BadCertificate_init (hr.mono (by first | decide | omega)) T.b_BadCertificate_init pass0 rfl T.mgc_BadCertificate (pa_cons (pe_ix ix_tup (pv 1) pe_int (fun _ _ => rfl)) pa_nil)))) pss_nil)
      (pss_cons (ps_if (pt_cmpR op_eq (pv 0) pe_int (nomark _)) (pss_one (L2N.ps_raise rfl tk (pmkN T.ox_WrongChange T.I_WrongChange.iC T.I_WrongChange.tI g_WrongChange_init (hr.mono (by first | decide | omega)) T.b_WrongChange_init pass0 rfl T.mgc_WrongChange (pa_cons (pe_ix ix_tup (pv 1) pe_int (fun _ _ => rfl)) pa_nil)))) pss_nil)
      (pss_cons (ps_if (pt_cmpR op_eq (pv 0) pe_int (nomark _)) (pss_one (L2N.ps_raise rfl tk (pmkN0 T.ox_NotPlain T.I_NotPlain.iC T.I_NotPlain.tI g_NotPlain_init (hr.mono (by first | decide | omega)) T.b_NotPlain_init pass0 rfl T.mgc_NotPlain))) pss_nil)
      (pss_cons (ps_if (pt_cmpR op_eq (pv 0) pe_int (nomark _)) (pss_one (L2N.ps_raise rfl tk (pmkN T.ox_BadWitness T.I_BadWitness.iC T.I_BadWitness.tI g_BadWitness_init (hr.mono (by first | decide | omega)) T.b_BadWitness_init pass0 rfl T.mgc_BadWitness (pa_cons (pe_ix ix_tup (pv 1) pe_int (fun _ _ => rfl)) pa_nil)))) pss_nil)
      (pss_cons (ps_if (pt_cmpR op_eq (pv 0) pe_int (nomark _)) (pss_one (L2N.ps_raise rfl tk (pmkN T.ox_TooLong T.I_TooLong.iC T.I_TooLong.tI g_TooLong_init (hr.mono (by first | decide | omega)) T.b_TooLong_init pass0 rfl T.mgc_TooLong (pa_cons (pe_ix ix_tup (pv 1) pe_int (fun _ _ => rfl)) pa_nil)))) pss_nil)
      (pss_cons (ps_if (pt_cmpR op_eq (pv 0) pe_int (nomark _)) (pss_one (L2N.ps_raise rfl tk (pmkN0 T.ox_NothingLoaded T.I_NothingLoaded.iC T.I_NothingLoaded.tI g_NothingLoaded_init (hr.mono (by first | decide | omega)) T.b_NothingLoaded_init pass0 rfl T.mgc_NothingLoaded))) pss_nil)
      (pss_cons (ps_if (pt_cmpR op_eq (pv 0) pe_int (nomark _)) (pss_one (L2N.ps_raise rfl tk (pmkN0 T.ox_NothingToUndo T.I_NothingToUndo.iC T.I_NothingToUndo.tI g_NothingToUndo_init (hr.mono (by first | decide | omega)) T.b_NothingToUndo_init pass0 rfl T.mgc_NothingToUndo))) pss_nil)
      (pss_one (L2N.ps_raise rfl tk (pmkN T.ox_BadJournal T.I_BadJournal.iC T.I_BadJournal.tI g_BadJournal_init (hr.mono (by first | decide | omega)) T.b_BadJournal_init pass0 rfl T.mgc_BadJournal (pa_cons (pe_ix ix_tup (pv 1) pe_int (fun _ _ => rfl)) pa_nil))))))))))))))))))), ?_⟩
  rcases k16 hk with rfl | rfl | rfl | rfl | rfl | rfl | rfl | rfl | rfl | rfl | rfl | rfl | rfl | rfl | rfl | rfl
  · have ok' := ok
    obtain ⟨x0, rfl, h0⟩ := ok'
    exact ⟨_, rfl, rfl, _, rfl, ifT (by decide +kernel) <| ⟨_, rfl, g, _, 0, _, rfl, rfl, hg, rfl, mk_gives ok (by simp) q⟩⟩
  · have ok' := ok
    obtain ⟨x0, rfl, h0⟩ := ok'
    exact ⟨_, rfl, rfl, _, rfl, ifF (by decide +kernel) <| ⟨_, rfl, rfl, _, rfl, ifT (by decide +kernel) <| ⟨_, rfl, g, _, 0, _, rfl, rfl, hg, rfl, mk_gives ok (by simp) q⟩⟩⟩
  · have ok' := ok
    obtain ⟨x0, rfl, h0⟩ := ok'
    exact ⟨_, rfl, rfl, _, rfl, ifF (by decide +kernel) <| ⟨_, rfl, rfl, _, rfl, ifF (by decide +kernel) <| ⟨_, rfl, rfl, _, rfl, ifT (by decide +kernel) <| ⟨_, rfl, g, _, 0, _, rfl, rfl, hg, rfl, mk_gives ok (by simp) q⟩⟩⟩⟩
  · have ok' := ok
    obtain ⟨x0, rfl, h0⟩ := ok'
    exact ⟨_, rfl, rfl, _, rfl, ifF (by decide +kernel) <| ⟨_, rfl, rfl, _, rfl, ifF (by decide +kernel) <| ⟨_, rfl, rfl, _, rfl, ifF (by decide +kernel) <| ⟨_, rfl, rfl, _, rfl, ifT (by decide +kernel) <| ⟨_, rfl, g, _, 0, _, rfl, rfl, hg, rfl, mk_gives ok (by simp) q⟩⟩⟩⟩⟩
  · have ok' := ok
    obtain ⟨x0, x1, rfl, h0, h1⟩ := ok'
    exact ⟨_, rfl, rfl, _, rfl, ifF (by decide +kernel) <| ⟨_, rfl, rfl, _, rfl, ifF (by decide +kernel) <| ⟨_, rfl, rfl, _, rfl, ifF (by decide +kernel) <| ⟨_, rfl, rfl, _, rfl, ifF (by decide +kernel) <| ⟨_, rfl, rfl, _, rfl, ifT (by decide +kernel) <| ⟨_, rfl, g, _, 0, _, rfl, rfl, hg, rfl, ⟨_, rfl, g, _, 1, _, rfl, rfl, hg, rfl, mk_gives ok (by simp) q⟩⟩⟩⟩⟩⟩⟩
  · have ok' := ok
    obtain ⟨x0, x1, x2, rfl, h0, h1, h2⟩ := ok'
    exact ⟨_, rfl, rfl, _, rfl, ifF (by decide +kernel) <| ⟨_, rfl, rfl, _, rfl, ifF (by decide +kernel) <| ⟨_, rfl, rfl, _, rfl, ifF (by decide +kernel) <| ⟨_, rfl, rfl, _, rfl, ifF (by decide +kernel) <| ⟨_, rfl, rfl, _, rfl, ifF (by decide +kernel) <| ⟨_, rfl, rfl, _, rfl, ifT (by decide +kernel) <| ⟨_, rfl, g, _, 0, _, rfl, rfl, hg, rfl, ⟨_, rfl, g, _, 1, _, rfl, rfl, hg, rfl, ⟨_, rfl, g, _, 2, _, rfl, rfl, hg, rfl, mk_gives ok (by simp) q⟩⟩⟩⟩⟩⟩⟩⟩⟩
  · have ok' := ok
    obtain ⟨x0, x1, rfl, h0⟩ := ok'
    exact ⟨_, rfl, rfl, _, rfl, ifF (by decide +kernel) <| ⟨_, rfl, rfl, _, rfl, ifF (by decide +kernel) <| ⟨_, rfl, rfl, _, rfl, ifF (by decide +kernel) <| ⟨_, rfl, rfl, _, rfl, ifF (by decide +kernel) <| ⟨_, rfl, rfl, _, rfl, ifF (by decide +kernel) <| ⟨_, rfl, rfl, _, rfl, ifF (by decide +kernel) <| ⟨_, rfl, rfl, _, rfl, ifT (by decide +kernel) <| ⟨_, rfl, g, _, 0, _, rfl, rfl, hg, rfl, ⟨_, rfl, g, _, 1, _, rfl, rfl, hg, rfl, mk_gives ok (by simp) q⟩⟩⟩⟩⟩⟩⟩⟩⟩
  · have ok' : xs = [] := ok
    subst ok'
    exact ⟨_, rfl, rfl, _, rfl, ifF (by decide +kernel) <| ⟨_, rfl, rfl, _, rfl, ifF (by decide +kernel) <| ⟨_, rfl, rfl, _, rfl, ifF (by decide +kernel) <| ⟨_, rfl, rfl, _, rfl, ifF (by decide +kernel) <| ⟨_, rfl, rfl, _, rfl, ifF (by decide +kernel) <| ⟨_, rfl, rfl, _, rfl, ifF (by decide +kernel) <| ⟨_, rfl, rfl, _, rfl, ifF (by decide +kernel) <| ⟨_, rfl, rfl, _, rfl, ifT (by decide +kernel) <| mk_gives ok (by simp) q⟩⟩⟩⟩⟩⟩⟩⟩
  · have ok' := ok
    obtain ⟨x0, rfl, h0⟩ := ok'
    exact ⟨_, rfl, rfl, _, rfl, ifF (by decide +kernel) <| ⟨_, rfl, rfl, _, rfl, ifF (by decide +kernel) <| ⟨_, rfl, rfl, _, rfl, ifF (by decide +kernel) <| ⟨_, rfl, rfl, _, rfl, ifF (by decide +kernel) <| ⟨_, rfl, rfl, _, rfl, ifF (by decide +kernel) <| ⟨_, rfl, rfl, _, rfl, ifF (by decide +kernel) <| ⟨_, rfl, rfl, _, rfl, ifF (by decide +kernel) <| ⟨_, rfl, rfl, _, rfl, ifF (by decide +kernel) <| ⟨_, rfl, rfl, _, rfl, ifT (by decide +kernel) <| ⟨_, rfl, g, _, 0, _, rfl, rfl, hg, rfl, mk_gives ok (by simp) q⟩⟩⟩⟩⟩⟩⟩⟩⟩⟩
  · have ok' := ok
    obtain ⟨x0, rfl, h0⟩ := ok'
    exact ⟨_, rfl, rfl, _, rfl, ifF (by decide +kernel) <| ⟨_, rfl, rfl, _, rfl, ifF (by decide +kernel) <| ⟨_, rfl, rfl, _, rfl, ifF (by decide +kernel) <| ⟨_, rfl, rfl, _, rfl, ifF (by decide +kernel) <| ⟨_, rfl, rfl, _, rfl, ifF (by decide +kernel) <| ⟨_, rfl, rfl, _, rfl, ifF (by decide +kernel) <| ⟨_, rfl, rfl, _, rfl, ifF (by decide +kernel) <| ⟨_, rfl, rfl, _, rfl, ifF (by decide +kernel) <| ⟨_, rfl, rfl, _, rfl, ifF (by decide +kernel) <| ⟨_, rfl, rfl, _, rfl, ifT (by decide +kernel) <| ⟨_, rfl, g, _, 0, _, rfl, rfl, hg, rfl, mk_gives ok (by simp) q⟩⟩⟩⟩⟩⟩⟩⟩⟩⟩⟩
  · have ok' : xs = [] := ok
    subst ok'
    exact ⟨_, rfl, rfl, _, rfl, ifF (by decide +kernel) <| ⟨_, rfl, rfl, _, rfl, ifF (by decide +kernel) <| ⟨_, rfl, rfl, _, rfl, ifF (by decide +kernel) <| ⟨_, rfl, rfl, _, rfl, ifF (by decide +kernel) <| ⟨_, rfl, rfl, _, rfl, ifF (by decide +kernel) <| ⟨_, rfl, rfl, _, rfl, ifF (by decide +kernel) <| ⟨_, rfl, rfl, _, rfl, ifF (by decide +kernel) <| ⟨_, rfl, rfl, _, rfl, ifF (by decide +kernel) <| ⟨_, rfl, rfl, _, rfl, ifF (by decide +kernel) <| ⟨_, rfl, rfl, _, rfl, ifF (by decide +kernel) <| ⟨_, rfl, rfl, _, rfl, ifT (by decide +kernel) <| mk_gives ok (by simp) q⟩⟩⟩⟩⟩⟩⟩⟩⟩⟩⟩
  · have ok' := ok
    obtain ⟨x0, rfl, h0⟩ := ok'
    exact ⟨_, rfl, rfl, _, rfl, ifF (by decide +kernel) <| ⟨_, rfl, rfl, _, rfl, ifF (by decide +kernel) <| ⟨_, rfl, rfl, _, rfl, ifF (by decide +kernel) <| ⟨_, rfl, rfl, _, rfl, ifF (by decide +kernel) <| ⟨_, rfl, rfl, _, rfl, ifF (by decide +kernel) <| ⟨_, rfl, rfl, _, rfl, ifF (by decide +kernel) <| ⟨_, rfl, rfl, _, rfl, ifF (by decide +kernel) <| ⟨_, rfl, rfl, _, rfl, ifF (by decide +kernel) <| ⟨_, rfl, rfl, _, rfl, ifF (by decide +kernel) <| ⟨_, rfl, rfl, _, rfl, ifF (by decide +kernel) <| ⟨_, rfl, rfl, _, rfl, ifF (by decide +kernel) <| ⟨_, rfl, rfl, _, rfl, ifT (by decide +kernel) <| ⟨_, rfl, g, _, 0, _, rfl, rfl, hg, rfl, mk_gives ok (by simp) q⟩⟩⟩⟩⟩⟩⟩⟩⟩⟩⟩⟩⟩
  · have ok' := ok
    obtain ⟨x0, rfl, h0⟩ := ok'
    exact ⟨_, rfl, rfl, _, rfl, ifF (by decide +kernel) <| ⟨_, rfl, rfl, _, rfl, ifF (by decide +kernel) <| ⟨_, rfl, rfl, _, rfl, ifF (by decide +kernel) <| ⟨_, rfl, rfl, _, rfl, ifF (by decide +kernel) <| ⟨_, rfl, rfl, _, rfl, ifF (by decide +kernel) <| ⟨_, rfl, rfl, _, rfl, ifF (by decide +kernel) <| ⟨_, rfl, rfl, _, rfl, ifF (by decide +kernel) <| ⟨_, rfl, rfl, _, rfl, ifF (by decide +kernel) <| ⟨_, rfl, rfl, _, rfl, ifF (by decide +kernel) <| ⟨_, rfl, rfl, _, rfl, ifF (by decide +kernel) <| ⟨_, rfl, rfl, _, rfl, ifF (by decide +kernel) <| ⟨_, rfl, rfl, _, rfl, ifF (by decide +kernel) <| ⟨_, rfl, rfl, _, rfl, ifT (by decide +kernel) <| ⟨_, rfl, g, _, 0, _, rfl, rfl, hg, rfl, mk_gives ok (by simp) q⟩⟩⟩⟩⟩⟩⟩⟩⟩⟩⟩⟩⟩⟩
  · have ok' : xs = [] := ok
    subst ok'
    exact ⟨_, rfl, rfl, _, rfl, ifF (by decide +kernel) <| ⟨_, rfl, rfl, _, rfl, ifF (by decide +kernel) <| ⟨_, rfl, rfl, _, rfl, ifF (by decide +kernel) <| ⟨_, rfl, rfl, _, rfl, ifF (by decide +kernel) <| ⟨_, rfl, rfl, _, rfl, ifF (by decide +kernel) <| ⟨_, rfl, rfl, _, rfl, ifF (by decide +kernel) <| ⟨_, rfl, rfl, _, rfl, ifF (by decide +kernel) <| ⟨_, rfl, rfl, _, rfl, ifF (by decide +kernel) <| ⟨_, rfl, rfl, _, rfl, ifF (by decide +kernel) <| ⟨_, rfl, rfl, _, rfl, ifF (by decide +kernel) <| ⟨_, rfl, rfl, _, rfl, ifF (by decide +kernel) <| ⟨_, rfl, rfl, _, rfl, ifF (by decide +kernel) <| ⟨_, rfl, rfl, _, rfl, ifF (by decide +kernel) <| ⟨_, rfl, rfl, _, rfl, ifT (by decide +kernel) <| mk_gives ok (by simp) q⟩⟩⟩⟩⟩⟩⟩⟩⟩⟩⟩⟩⟩⟩
  · have ok' : xs = [] := ok
    subst ok'
    exact ⟨_, rfl, rfl, _, rfl, ifF (by decide +kernel) <| ⟨_, rfl, rfl, _, rfl, ifF (by decide +kernel) <| ⟨_, rfl, rfl, _, rfl, ifF (by decide +kernel) <| ⟨_, rfl, rfl, _, rfl, ifF (by decide +kernel) <| ⟨_, rfl, rfl, _, rfl, ifF (by decide +kernel) <| ⟨_, rfl, rfl, _, rfl, ifF (by decide +kernel) <| ⟨_, rfl, rfl, _, rfl, ifF (by decide +kernel) <| ⟨_, rfl, rfl, _, rfl, ifF (by decide +kernel) <| ⟨_, rfl, rfl, _, rfl, ifF (by decide +kernel) <| ⟨_, rfl, rfl, _, rfl, ifF (by decide +kernel) <| ⟨_, rfl, rfl, _, rfl, ifF (by decide +kernel) <| ⟨_, rfl, rfl, _, rfl, ifF (by decide +kernel) <| ⟨_, rfl, rfl, _, rfl, ifF (by decide +kernel) <| ⟨_, rfl, rfl, _, rfl, ifF (by decide +kernel) <| ⟨_, rfl, rfl, _, rfl, ifT (by decide +kernel) <| mk_gives ok (by simp) q⟩⟩⟩⟩⟩⟩⟩⟩⟩⟩⟩⟩⟩⟩⟩
  · have ok' := ok
    obtain ⟨x0, rfl, h0⟩ := ok'
    exact ⟨_, rfl, rfl, _, rfl, ifF (by decide +kernel) <| ⟨_, rfl, rfl, _, rfl, ifF (by decide +kernel) <| ⟨_, rfl, rfl, _, rfl, ifF (by decide +kernel) <| ⟨_, rfl, rfl, _, rfl, ifF (by decide +kernel) <| ⟨_, rfl, rfl, _, rfl, ifF (by decide +kernel) <| ⟨_, rfl, rfl, _, rfl, ifF (by decide +kernel) <| ⟨_, rfl, rfl, _, rfl, ifF (by decide +kernel) <| ⟨_, rfl, rfl, _, rfl, ifF (by decide +kernel) <| ⟨_, rfl, rfl, _, rfl, ifF (by decide +kernel) <| ⟨_, rfl, rfl, _, rfl, ifF (by decide +kernel) <| ⟨_, rfl, rfl, _, rfl, ifF (by decide +kernel) <| ⟨_, rfl, rfl, _, rfl, ifF (by decide +kernel) <| ⟨_, rfl, rfl, _, rfl, ifF (by decide +kernel) <| ⟨_, rfl, rfl, _, rfl, ifF (by decide +kernel) <| ⟨_, rfl, rfl, _, rfl, ifF (by decide +kernel) <| ⟨_, rfl, g, _, 0, _, rfl, rfl, hg, rfl, mk_gives ok (by simp) q⟩⟩⟩⟩⟩⟩⟩⟩⟩⟩⟩⟩⟩⟩⟩⟩
end
open PySem L2 L2H ExV
/-! ### _law_same where an exception is handled -/
section
variable {P : Program} {w : World} {K : PySem.W.Frag} {mg : Str → Option Value} {base : Heap}
theorem ok_sameP0 (T : Txt w K mg) : FnP P w K mg base 0 T.a_l_same T.d_l_same p_l_same (fun _ _ _ => spSame K 0) := by
  have no : ∀ vs H Q E, ¬ spSame K 0 vs H Q E := fun vs H Q E h => by
    obtain ⟨x, y, d, _, _, _, h, _⟩ := h
    exact h
  exact ⟨fun _ _ _ vs H Q E h => absurd h (no vs H Q E), fun A outer s H us vs Q E _ _ _ _ _ _ _ _ _ _ h => absurd h (no vs H Q E)⟩
theorem callP_eq {sp : Sp} {a : Addr} {c : Value} {d : Option Addr} {t : TA} : tCall sp [] E0 t = tCallP (fun _ _ _ => sp) a c d t := by
  funext σ H Q
  show t σ H (fun vs H1 => sp (vs ++ []) H1 Q E0) = t σ H (fun vs H1 => sp vs H1 Q E0)
  congr 1
  funext vs H1
  rw [List.append_nil]
theorem same_seqP {n : Nat} {H : Hp} {p r : Addr} {xs ys : List V} {ds : List PyData} {a : Addr} {c : Value} {d : Option Addr} (h1 : SqL K H p xs ∨ SqT K H p xs) (h2 : SqL K H r ys ∨ SqT K H r ys) (d1 : DpAll K H xs ds) (d2 : DpAll K H ys ds)
    (hd : ∀ d ∈ ds, Dok n d) {i : Nat} (hi : i < ds.length) {R : V → Hp → Prop} (q : R (.bl true) H) :
    tCallP (fun _ _ _ => spSame K n) a c d (tCons (tOp (rIx K) (tVar 0) (tVar 2)) (tCons (tOp (rIx K) (tVar 1) (tVar 2)) tNil)) [some (.ref p), some (.ref r), some (.int (0 + (i : Int)))] H R := by
  rw [← callP_eq]
  exact same_seq h1 h2 d1 d2 hd hi q
theorem ok_sameP (T : Txt w K mg) : ∀ n : Nat, FnP P w K mg base n T.a_l_same T.d_l_same p_l_same (fun _ _ _ => spSame K n)
  | 0 => ok_sameP0 T
  | n + 1 => by
    have g_l_same := ok_sameP T n
    refine fnP_of T.F_l_same sc_l_same (fun _ _ _ vs H Q E h => ?_) (fun cdv A outer s H vs Q E pe ce de hE hr h => ?_)
    · obtain ⟨x, y, d, rfl, _⟩ := h
      rfl
    obtain ⟨x, y, d, rfl, hx, hy, hd, q⟩ := h
    refine ⟨_, (pss_cons (ps_if (PW.pt (pw_or (pt_val (pe_callB call_isi rfl T.z_isinstance bb_isinstance (pa_cons (pv 1) (pa_cons (pe_bltn (v := .ty "tuple") rfl T.z_tuple bt_tuple rfl) pa_nil)))) (pw_or1 (pt_val (pe_callB call_isi rfl T.z_isinstance bb_isinstance (pa_cons (pv 1) (pa_cons (pe_bltn (v := .ty "list") rfl T.z_list bt_list rfl) pa_nil))))))) (pss_cons (ps_if (PW.pt (pw_or (pt_cmpR op_ne (pe_callB call_isi rfl T.z_isinstance bb_isinstance (pa_cons (pv 1) (pa_cons (pe_bltn (v := .ty "tuple") rfl T.z_tuple bt_tuple rfl) pa_nil))) (pe_callB call_isi rfl T.z_isinstance bb_isinstance (pa_cons (pv 0) (pa_cons (pe_bltn (v := .ty "tuple") rfl T.z_tuple bt_tuple rfl) pa_nil))) (nomark _)) (pw_or1 (pt_cmpR op_ne (pe_callB call_isi rfl T.z_isinstance bb_isinstance (pa_cons (pv 1) (pa_cons (pe_bltn (v := .ty "list") rfl T.z_list bt_list rfl) pa_nil))) (pe_callB call_isi rfl T.z_isinstance bb_isinstance (pa_cons (pv 0) (pa_cons (pe_bltn (v := .ty "list") rfl T.z_list bt_list rfl) pa_nil))) (nomark _))))) (pss_one (ps_ret pe_bl)) pss_nil)
      (pss_cons (ps_if (pt_cmpR op_ne (pe_callB call_len_seq rfl T.z_len PySem.boot_len (pa_cons (pv 0) pa_nil)) (pe_callB call_len_seq rfl T.z_len PySem.boot_len (pa_cons (pv 1) pa_nil)) (nomark _)) (pss_one (ps_ret pe_bl)) pss_nil)
      (pss_cons (ps_forH PassesOwn.never hE.hot (pi_range1H rfl T.z_range (pa_cons (pe_callB call_len_seq rfl T.z_len PySem.boot_len (pa_cons (pv 1) pa_nil)) pa_nil)) (pg_name (i := 2) sc_l_same.nd rfl (Or.inl rfl))
        (pss_one (ps_if (pt_not (pt_val (pe_callP hE g_l_same (hr.mono (by first | decide | omega)) rfl T.m_l_same T.F_l_same.kp T.b_l_same (pa_cons (pe_ix ix_seq (pv 0) (pv 2) (fun _ _ => rfl)) (pa_cons (pe_ix ix_seq (pv 1) (pv 2) (fun _ _ => rfl)) pa_nil))))) (pss_one (ps_ret pe_bl)) pss_nil)))
      (pss_one (ps_ret pe_bl))))) pss_nil)
      (pss_cons (ps_if (pt_cmpR op_isN (pv 1) pe_non (nomark _)) (pss_one (ps_ret (pe_cmpR op_isN (pv 0) pe_non (nomark _)))) pss_nil)
      (pss_cons (ps_if (pt_val (pe_callB call_isi rfl T.z_isinstance bb_isinstance (pa_cons (pv 1) (pa_cons (pe_bltn (v := .ty "bool") rfl T.z_bool bt_bool rfl) pa_nil)))) (pss_one (ps_ret (pe_and (pe_callB call_isi rfl T.z_isinstance bb_isinstance (pa_cons (pv 0) (pa_cons (pe_bltn (v := .ty "bool") rfl T.z_bool bt_bool rfl) pa_nil))) (pe_one (pe_cmpR op_eq (pv 0) (pv 1) (nomark _)))))) pss_nil)
      (pss_cons (ps_if (pt_val (pe_callB call_isi rfl T.z_isinstance bb_isinstance (pa_cons (pv 1) (pa_cons (pe_bltn (v := .ty "int") rfl T.z_int bt_int rfl) pa_nil)))) (pss_one (ps_ret (pe_and (pe_callB call_isi rfl T.z_isinstance bb_isinstance (pa_cons (pv 0) (pa_cons (pe_bltn (v := .ty "int") rfl T.z_int bt_int rfl) pa_nil))) (pe_and (pe_not (pe_callB call_isi rfl T.z_isinstance bb_isinstance (pa_cons (pv 0) (pa_cons (pe_bltn (v := .ty "bool") rfl T.z_bool bt_bool rfl) pa_nil)))) (pe_one (pe_cmpR op_eq (pv 0) (pv 1) (nomark _))))))) pss_nil)
      (pss_one (ps_ret (pe_and (pe_callB call_isi rfl T.z_isinstance bb_isinstance (pa_cons (pv 0) (pa_cons (pe_bltn (v := .ty "str") rfl T.z_str bt_str rfl) pa_nil))) (pe_one (pe_cmpR op_eq (pv 0) (pv 1) (nomark _)))))))))), ?_⟩
    cases hx with
    | non =>
      cases hy
      refine ⟨_, rfl, _, _, _, _, false, rfl, .ty _, (.base .non), kit_ty kb_nt, ⟨_, rfl, iteF ⟨_, rfl, _, _, _, _, false, rfl, .ty _, (.base .non), kit_ty kb_nl, ⟨_, rfl, iteF ?_⟩⟩⟩⟩
      refine ⟨_, rfl, rfl, _, rfl, iteT ?_⟩
      exact ⟨_, rfl, rfl, q⟩
    | bl b =>
      cases hy
      refine ⟨_, rfl, _, _, _, _, false, rfl, .ty _, (.base (.bl _)), kit_ty kb_bt, ⟨_, rfl, iteF ⟨_, rfl, _, _, _, _, false, rfl, .ty _, (.base (.bl _)), kit_ty kb_bl, ⟨_, rfl, iteF ?_⟩⟩⟩⟩
      refine ⟨_, rfl, rfl, _, rfl, iteF ?_⟩
      refine ⟨_, rfl, _, _, _, _, true, rfl, .ty _, (.base (.bl _)), kit_ty kb_bb, ⟨_, rfl, iteT ?_⟩⟩
      refine ⟨_, rfl, _, _, _, _, true, rfl, .ty _, (.base (.bl _)), kit_ty kb_bb, ⟨_, rfl, iteT ?_⟩⟩
      refine ⟨_, rfl, _, rfl, rfl, ?_⟩
      rw [decide_eq_true rfl]
      exact q
    | int b =>
      cases hy
      refine ⟨_, rfl, _, _, _, _, false, rfl, .ty _, (.base (.int _)), kit_ty kb_it, ⟨_, rfl, iteF ⟨_, rfl, _, _, _, _, false, rfl, .ty _, (.base (.int _)), kit_ty kb_il, ⟨_, rfl, iteF ?_⟩⟩⟩⟩
      refine ⟨_, rfl, rfl, _, rfl, iteF ?_⟩
      refine ⟨_, rfl, _, _, _, _, false, rfl, .ty _, (.base (.int _)), kit_ty kb_ib, ⟨_, rfl, iteF ?_⟩⟩
      refine ⟨_, rfl, _, _, _, _, true, rfl, .ty _, (.base (.int _)), kit_ty kb_ii, ⟨_, rfl, iteT ?_⟩⟩
      refine ⟨_, rfl, _, _, _, _, true, rfl, .ty _, (.base (.int _)), kit_ty kb_ii, ⟨_, rfl, iteT ?_⟩⟩
      refine ⟨_, rfl, _, _, _, _, false, rfl, .ty _, (.base (.int _)), kit_ty kb_ib, ⟨_, rfl, _, rfl, iteT ?_⟩⟩
      refine ⟨_, rfl, _, rfl, rfl, ?_⟩
      rw [decide_eq_true rfl]
      exact q
    | str b =>
      cases hy
      refine ⟨_, rfl, _, _, _, _, false, rfl, .ty _, (.base (.str _)), kit_ty kb_st, ⟨_, rfl, iteF ⟨_, rfl, _, _, _, _, false, rfl, .ty _, (.base (.str _)), kit_ty kb_sl, ⟨_, rfl, iteF ?_⟩⟩⟩⟩
      refine ⟨_, rfl, rfl, _, rfl, iteF ?_⟩
      refine ⟨_, rfl, _, _, _, _, false, rfl, .ty _, (.base (.str _)), kit_ty kb_sb, ⟨_, rfl, iteF ?_⟩⟩
      refine ⟨_, rfl, _, _, _, _, false, rfl, .ty _, (.base (.str _)), kit_ty kb_si, ⟨_, rfl, iteF ?_⟩⟩
      refine ⟨_, rfl, _, _, _, _, true, rfl, .ty _, (.base (.str _)), kit_ty kb_ss, ⟨_, rfl, iteT ?_⟩⟩
      refine ⟨_, rfl, _, rfl, rfl, ?_⟩
      rw [decide_eq_true rfl]
      exact q
    | @lst p xs ds h1 d1 =>
      cases hy with
      | @lst r ys _ h2 d2 =>
      have l1 := dpAll_len d1
      have l2 := dpAll_len d2
      obtain ⟨hlen, hd⟩ := hd
      refine ⟨_, rfl, _, _, _, _, false, rfl, .ty _, (tyL h2), kit_ty kb_lt, ⟨_, rfl, iteF ⟨_, rfl, _, _, _, _, true, rfl, .ty _, (tyL h2), kit_ty kb_ll, ⟨_, rfl, iteT ?_⟩⟩⟩⟩
      refine ⟨_, rfl, _, _, _, _, false, rfl, .ty _, (tyL h2), kit_ty kb_lt, ⟨_, rfl, _, _, _, _, false, rfl, .ty _, (tyL h1), kit_ty kb_lt, ⟨rfl, _, rfl, iteF ?_⟩⟩⟩
      refine ⟨_, rfl, _, _, _, _, true, rfl, .ty _, (tyL h2), kit_ty kb_ll, ⟨_, rfl, _, _, _, _, true, rfl, .ty _, (tyL h1), kit_ty kb_ll, ⟨rfl, _, rfl, iteF ?_⟩⟩⟩
      refine ⟨_, rfl, p, _, rfl, .inl h1, _, rfl, r, _, rfl, .inl h2, rfl, _, rfl, ?_⟩
      refine iteNS (congrArg V.int (by omega)) ?_
      refine ⟨_, rfl, r, _, rfl, .inl h2, _, rfl, by omega, by omega, for_range (lo := 0) (fun i σ H' => H' = H ∧ ∃ v : Option V, σ = [some (.ref p), some (.ref r), v]) ⟨rfl, none, rfl⟩ ?_ ?_⟩
      · rintro i σ H' hi ⟨rfl, v, rfl⟩
        refine same_seqP (a := pe.1) (c := ce) (d := de) (.inl h1) (.inl h2) d1 d2 hd (by omega) ⟨_, rfl, iteF ?_⟩
        exact ⟨rfl, _, rfl⟩
      · rintro σ H' ⟨rfl, v, rfl⟩
        exact q
    | @tup p xs ds h1 d1 =>
      cases hy with
      | @tup r ys _ h2 d2 =>
      have l1 := dpAll_len d1
      have l2 := dpAll_len d2
      obtain ⟨hlen, hd⟩ := hd
      refine ⟨_, rfl, _, _, _, _, true, rfl, .ty _, (tyT h2), kit_ty kb_tt, ⟨_, rfl, iteT ?_⟩⟩
      refine ⟨_, rfl, _, _, _, _, true, rfl, .ty _, (tyT h2), kit_ty kb_tt, ⟨_, rfl, _, _, _, _, true, rfl, .ty _, (tyT h1), kit_ty kb_tt, ⟨rfl, _, rfl, iteF ?_⟩⟩⟩
      refine ⟨_, rfl, _, _, _, _, false, rfl, .ty _, (tyT h2), kit_ty kb_tl, ⟨_, rfl, _, _, _, _, false, rfl, .ty _, (tyT h1), kit_ty kb_tl, ⟨rfl, _, rfl, iteF ?_⟩⟩⟩
      refine ⟨_, rfl, p, _, rfl, .inr h1, _, rfl, r, _, rfl, .inr h2, rfl, _, rfl, ?_⟩
      refine iteNS (congrArg V.int (by omega)) ?_
      refine ⟨_, rfl, r, _, rfl, .inr h2, _, rfl, by omega, by omega, for_range (lo := 0) (fun i σ H' => H' = H ∧ ∃ v : Option V, σ = [some (.ref p), some (.ref r), v]) ⟨rfl, none, rfl⟩ ?_ ?_⟩
      · rintro i σ H' hi ⟨rfl, v, rfl⟩
        refine same_seqP (a := pe.1) (c := ce) (d := de) (.inr h1) (.inr h2) d1 d2 hd (by omega) ⟨_, rfl, iteF ?_⟩
        exact ⟨rfl, _, rfl⟩
      · rintro σ H' ⟨rfl, v, rfl⟩
        exact q
end
open PySem L2 L2H ExV
/-! ### what is asked of the caught error -/
section
variable {P : Program} {w : World} {K : PySem.W.Frag} {mg : Str → Option Value} {base : Heap}
theorem ecOf (T : Txt w K mg) {k : Nat} (hk : k < 16) : ExcF K (clsOf T k) (fsOf k) := by
  rcases k16 hk with rfl | rfl | rfl | rfl | rfl | rfl | rfl | rfl | rfl | rfl | rfl | rfl | rfl | rfl | rfl | rfl
  · exact T.xb_BadText
  · exact T.xb_Twice
  · exact T.xb_Unknown
  · exact T.xb_BadKind
  · exact T.xb_WrongKind
  · exact T.xb_NoSite
  · exact T.xb_NoPlace
  · exact T.xb_NotAccepted
  · exact T.xb_BadCertificate
  · exact T.xb_WrongChange
  · exact T.xb_NotPlain
  · exact T.xb_BadWitness
  · exact T.xb_TooLong
  · exact T.xb_NothingLoaded
  · exact T.xb_NothingToUndo
  · exact T.xb_BadJournal
theorem kitRows (T : Txt w K mg) {k : Nat} (hk : k < 16) : (List.range 16).map (fun j => PySem.W.kitOne K (.ref (clsOf T k)) (.ref (clsOf T j))) = (List.range 16).map fun j => some (decide (j = k)) := by
  rcases k16 hk with rfl | rfl | rfl | rfl | rfl | rfl | rfl | rfl | rfl | rfl | rfl | rfl | rfl | rfl | rfl | rfl
  · exact (List.cons.inj T.kr_BadText).2
  · exact (List.cons.inj T.kr_Twice).2
  · exact (List.cons.inj T.kr_Unknown).2
  · exact (List.cons.inj T.kr_BadKind).2
  · exact (List.cons.inj T.kr_WrongKind).2
  · exact (List.cons.inj T.kr_NoSite).2
  · exact (List.cons.inj T.kr_NoPlace).2
  · exact (List.cons.inj T.kr_NotAccepted).2
  · exact (List.cons.inj T.kr_BadCertificate).2
  · exact (List.cons.inj T.kr_WrongChange).2
  · exact (List.cons.inj T.kr_NotPlain).2
  · exact (List.cons.inj T.kr_BadWitness).2
  · exact (List.cons.inj T.kr_TooLong).2
  · exact (List.cons.inj T.kr_NothingLoaded).2
  · exact (List.cons.inj T.kr_NothingToUndo).2
  · exact (List.cons.inj T.kr_BadJournal).2
theorem kitAt (T : Txt w K mg) {k j : Nat} (hk : k < 16) (hj : j < 16) : PySem.W.kitOne K (.ref (clsOf T k)) (.ref (clsOf T j)) = some (decide (j = k)) := by
  have e := congrArg (fun l => l[j]?) (kitRows T hk)
  simp only [List.getElem?_map, List.getElem?_range hj, Option.map_some] at e
  exact Option.some.inj e
theorem kitV (T : Txt w K mg) {k : Nat} (hk : k < 16) : PySem.W.kitOne K (.ref (clsOf T k)) (.type "ValueError") = some true := by
  rcases k16 hk with rfl | rfl | rfl | rfl | rfl | rfl | rfl | rfl | rfl | rfl | rfl | rfl | rfl | rfl | rfl | rfl
  · exact T.kv_BadText
  · exact T.kv_Twice
  · exact T.kv_Unknown
  · exact T.kv_BadKind
  · exact T.kv_WrongKind
  · exact T.kv_NoSite
  · exact T.kv_NoPlace
  · exact T.kv_NotAccepted
  · exact T.kv_BadCertificate
  · exact T.kv_WrongChange
  · exact T.kv_NotPlain
  · exact T.kv_BadWitness
  · exact T.kv_TooLong
  · exact T.kv_NothingLoaded
  · exact T.kv_NothingToUndo
  · exact T.kv_BadJournal
theorem exmN (T : Txt w K mg) {k : Nat} (hk : k < 16) : PySem.W.exmOne K (.ref (clsOf T k)) (.ref T.C_NeverError) = some true := by
  rcases k16 hk with rfl | rfl | rfl | rfl | rfl | rfl | rfl | rfl | rfl | rfl | rfl | rfl | rfl | rfl | rfl | rfl
  · exact T.te_BadText_NeverError
  · exact T.te_Twice_NeverError
  · exact T.te_Unknown_NeverError
  · exact T.te_BadKind_NeverError
  · exact T.te_WrongKind_NeverError
  · exact T.te_NoSite_NeverError
  · exact T.te_NoPlace_NeverError
  · exact T.te_NotAccepted_NeverError
  · exact T.te_BadCertificate_NeverError
  · exact T.te_WrongChange_NeverError
  · exact T.te_NotPlain_NeverError
  · exact T.te_BadWitness_NeverError
  · exact T.te_TooLong_NeverError
  · exact T.te_NothingLoaded_NeverError
  · exact T.te_NothingToUndo_NeverError
  · exact T.te_BadJournal_NeverError
/-- the dict of the error number k that bears xs -/
def XSt (k : Nat) (xs : List V) (d : Option Addr) (H : Hp) : Prop := (fsOf k = [] ∧ d = none) ∨ (fsOf k ≠ [] ∧ ∃ dd, d = some dd ∧ H dd = some (.xd ((fsOf k).zip xs).reverse))
theorem XSt.same {k : Nat} {xs : List V} {d : Option Addr} {H H' : Hp} (h : XSt k xs d H) (s : Same H H') : XSt k xs d H' := by
  rcases h with h | ⟨h1, dd, h2, h3⟩
  · exact .inl h
  · exact .inr ⟨h1, dd, h2, s _ _ h3⟩
theorem XSt.has {k : Nat} {xs : List V} {d : Option Addr} {H : Hp} (h : XSt k xs d H) : ∀ dd, d = some dd → ∃ fs, H dd = some (.xd fs) := by
  intro dd e
  rcases h with ⟨_, h⟩ | ⟨_, d2, h2, h3⟩
  · rw [h] at e
    cases e
  · rw [h2] at e
    cases e
    exact ⟨_, h3⟩
theorem is_gives {a D C : Addr} {d : Option Addr} {b : Bool} {σ : L2.St} {H : Hp} {Q : VK} (h0 : σ[0]? = some (some (.ref a))) (ec : ExcC K D) (hd : ∀ dd, d = some dd → ∃ fs, H dd = some (.xd fs)) (kit : PySem.W.kitOne K (.ref D) (.ref C) = some b) (q : Q (.bl b) H) :
    tCB (rIsP K a D d) (tCons (tVar 0) (tCons (tC (.ref C)) tNil)) σ H Q := ⟨_, h0, _, _, b, rfl, ec, hd, fun _ r => r, kit, q⟩
def marksOf (k : Nat) : List V := (List.range 16).map fun j => V.bl (decide (j = k))
def spMarks (T : Txt w K mg) (a : Addr) (c : Value) (d : Option Addr) : Sp := fun vs H Q _ => ∃ (k : Nat) (xs : List V), vs = [.ref a] ∧ k < 16 ∧ c = .ref (clsOf T k) ∧ XSt k xs d H ∧ ∀ p H', Same H H' → H' p = some (.lst (marksOf k)) → Q (.ref p) H'
theorem ok_marks (T : Txt w K mg) : FnP P w K mg base 1 T.a_l_marks T.d_l_marks p_l_marks (spMarks T) := by
  refine fnP_of T.F_l_marks sc_l_marks (fun _ _ _ vs H Q E h => ?_) (fun cdv A outer s H vs Q E pe ce de hE hr h => ?_)
  · obtain ⟨k, xs, rfl, _⟩ := h
    rfl
  obtain ⟨k, xs, rfl, hk, rfl, hx, q⟩ := h
  refine ⟨_, (pss_cons (ps_set (i := 1) sc_l_marks.nd rfl (Or.inl rfl) (pe_lst (pa_cons (pe_callB (call_isP hE) rfl T.z_isinstance bb_isinstance (pa_cons (pv 0) (pa_cons (pe_glob (v := .ref T.C_BadText) rfl T.mgc_BadText rfl) pa_nil))) (pa_cons (pe_callB (call_isP hE) rfl T.z_isinstance bb_isinstance (pa_cons (pv 0) (pa_cons (pe_glob (v := .ref T.C_Twice) rfl T.mgc_Twice rfl) pa_nil))) (pa_cons (pe_callB (call_isP hE) rfl T.z_isinstance bb_isinstance (pa_cons (pv 0) (pa_cons (pe_glob (v := .ref T.C_Unknown) rfl T.mgc_Unknown rfl) pa_nil))) (pa_cons (pe_callB (call_isP hE) rfl T.z_isinstance bb_isinstance (pa_cons (pv 0) (pa_cons (pe_glob (v := .ref T.C_BadKind) rfl T.mgc_BadKind rfl) pa_nil))) pa_nil))))))
      (pss_cons (ps_set (i := 1) sc_l_marks.nd rfl (Or.inl rfl) (pe_op op_cat (pv 1) (pe_lst (pa_cons (pe_callB (call_isP hE) rfl T.z_isinstance bb_isinstance (pa_cons (pv 0) (pa_cons (pe_glob (v := .ref T.C_WrongKind) rfl T.mgc_WrongKind rfl) pa_nil))) (pa_cons (pe_callB (call_isP hE) rfl T.z_isinstance bb_isinstance (pa_cons (pv 0) (pa_cons (pe_glob (v := .ref T.C_NoSite) rfl T.mgc_NoSite rfl) pa_nil))) (pa_cons (pe_callB (call_isP hE) rfl T.z_isinstance bb_isinstance (pa_cons (pv 0) (pa_cons (pe_glob (v := .ref T.C_NoPlace) rfl T.mgc_NoPlace rfl) pa_nil))) (pa_cons (pe_callB (call_isP hE) rfl T.z_isinstance bb_isinstance (pa_cons (pv 0) (pa_cons (pe_glob (v := .ref T.C_NotAccepted) rfl T.mgc_NotAccepted rfl) pa_nil))) pa_nil)))))))
      (pss_cons (ps_set (i := 1) sc_l_marks.nd rfl (Or.inl rfl) (pe_op op_cat (pv 1) (pe_lst (pa_cons (pe_callB (call_isP hE) rfl T.z_isinstance bb_isinstance (pa_cons (pv 0) (pa_cons (pe_glob (v := .ref T.C_BadCertificate) rfl T.mgc_BadCertificate rfl) pa_nil))) (pa_cons (pe_callB (call_isP hE) rfl T.z_isinstance bb_isinstance (pa_cons (pv 0) (pa_cons (pe_glob (v := .ref T.C_WrongChange) rfl T.mgc_WrongChange rfl) pa_nil))) (pa_cons (pe_callB (call_isP hE) rfl T.z_isinstance bb_isinstance (pa_cons (pv 0) (pa_cons (pe_glob (v := .ref T.C_NotPlain) rfl T.mgc_NotPlain rfl) pa_nil))) pa_nil))))))
      (pss_cons (ps_set (i := 1) sc_l_marks.nd rfl (Or.inl rfl) (pe_op op_cat (pv 1) (pe_lst (pa_cons (pe_callB (call_isP hE) rfl T.z_isinstance bb_isinstance (pa_cons (pv 0) (pa_cons (pe_glob (v := .ref T.C_BadWitness) rfl T.mgc_BadWitness rfl) pa_nil))) (pa_cons (pe_callB (call_isP hE) rfl T.z_isinstance bb_isinstance (pa_cons (pv 0) (pa_cons (pe_glob (v := .ref T.C_TooLong) rfl T.mgc_TooLong rfl) pa_nil))) (pa_cons (pe_callB (call_isP hE) rfl T.z_isinstance bb_isinstance (pa_cons (pv 0) (pa_cons (pe_glob (v := .ref T.C_NothingLoaded) rfl T.mgc_NothingLoaded rfl) pa_nil))) pa_nil))))))
      (pss_one (ps_ret (pe_op op_cat (pv 1) (pe_lst (pa_cons (pe_callB (call_isP hE) rfl T.z_isinstance bb_isinstance (pa_cons (pv 0) (pa_cons (pe_glob (v := .ref T.C_NothingToUndo) rfl T.mgc_NothingToUndo rfl) pa_nil))) (pa_cons (pe_callB (call_isP hE) rfl T.z_isinstance bb_isinstance (pa_cons (pv 0) (pa_cons (pe_glob (v := .ref T.C_BadJournal) rfl T.mgc_BadJournal rfl) pa_nil))) pa_nil)))))))))), ?_⟩
  have ec := (ecOf T hk).ec
  refine is_gives rfl ec hx.has (kitAt T hk (j := 0) (by decide)) (is_gives rfl ec hx.has (kitAt T hk (j := 1) (by decide)) (is_gives rfl ec hx.has (kitAt T hk (j := 2) (by decide)) (is_gives rfl ec hx.has (kitAt T hk (j := 3) (by decide)) ⟨by show 4 ≤ sizeLine; decide, fun p1 n1 => ?_⟩)))
  have s1 := Same.new (o := .lst [V.bl (decide (0 = k)), V.bl (decide (1 = k)), V.bl (decide (2 = k)), V.bl (decide (3 = k))]) n1
  have hx := hx.same s1
  refine ⟨_, rfl, is_gives rfl ec hx.has (kitAt T hk (j := 4) (by decide)) (is_gives rfl ec hx.has (kitAt T hk (j := 5) (by decide)) (is_gives rfl ec hx.has (kitAt T hk (j := 6) (by decide)) (is_gives rfl ec hx.has (kitAt T hk (j := 7) (by decide)) ⟨by show 4 ≤ sizeLine; decide, fun p2 n2 => ?_⟩)))⟩
  have s2 := Same.new (o := .lst [V.bl (decide (4 = k)), V.bl (decide (5 = k)), V.bl (decide (6 = k)), V.bl (decide (7 = k))]) n2
  have hx := hx.same s2
  refine ⟨_, _, _, _, rfl, rfl, s2 _ _ upd_same, upd_same, by show 8 ≤ sizeLine; decide, fun p3 n3 => ?_⟩
  have s3 := Same.new (o := .lst ([V.bl (decide (0 = k)), V.bl (decide (1 = k)), V.bl (decide (2 = k)), V.bl (decide (3 = k))] ++ [V.bl (decide (4 = k)), V.bl (decide (5 = k)), V.bl (decide (6 = k)), V.bl (decide (7 = k))])) n3
  have hx := hx.same s3
  refine ⟨_, rfl, is_gives rfl ec hx.has (kitAt T hk (j := 8) (by decide)) (is_gives rfl ec hx.has (kitAt T hk (j := 9) (by decide)) (is_gives rfl ec hx.has (kitAt T hk (j := 10) (by decide)) ⟨by show 3 ≤ sizeLine; decide, fun p4 n4 => ?_⟩))⟩
  have s4 := Same.new (o := .lst [V.bl (decide (8 = k)), V.bl (decide (9 = k)), V.bl (decide (10 = k))]) n4
  have hx := hx.same s4
  refine ⟨_, _, _, _, rfl, rfl, s4 _ _ upd_same, upd_same, by show 11 ≤ sizeLine; decide, fun p5 n5 => ?_⟩
  have s5 := Same.new (o := .lst (([V.bl (decide (0 = k)), V.bl (decide (1 = k)), V.bl (decide (2 = k)), V.bl (decide (3 = k))] ++ [V.bl (decide (4 = k)), V.bl (decide (5 = k)), V.bl (decide (6 = k)), V.bl (decide (7 = k))]) ++ [V.bl (decide (8 = k)), V.bl (decide (9 = k)), V.bl (decide (10 = k))])) n5
  have hx := hx.same s5
  refine ⟨_, rfl, is_gives rfl ec hx.has (kitAt T hk (j := 11) (by decide)) (is_gives rfl ec hx.has (kitAt T hk (j := 12) (by decide)) (is_gives rfl ec hx.has (kitAt T hk (j := 13) (by decide)) ⟨by show 3 ≤ sizeLine; decide, fun p6 n6 => ?_⟩))⟩
  have s6 := Same.new (o := .lst [V.bl (decide (11 = k)), V.bl (decide (12 = k)), V.bl (decide (13 = k))]) n6
  have hx := hx.same s6
  refine ⟨_, _, _, _, rfl, rfl, s6 _ _ upd_same, upd_same, by show 14 ≤ sizeLine; decide, fun p7 n7 => ?_⟩
  have s7 := Same.new (o := .lst ((([V.bl (decide (0 = k)), V.bl (decide (1 = k)), V.bl (decide (2 = k)), V.bl (decide (3 = k))] ++ [V.bl (decide (4 = k)), V.bl (decide (5 = k)), V.bl (decide (6 = k)), V.bl (decide (7 = k))]) ++ [V.bl (decide (8 = k)), V.bl (decide (9 = k)), V.bl (decide (10 = k))]) ++ [V.bl (decide (11 = k)), V.bl (decide (12 = k)), V.bl (decide (13 = k))])) n7
  have hx := hx.same s7
  refine ⟨_, rfl, is_gives rfl ec hx.has (kitAt T hk (j := 14) (by decide)) (is_gives rfl ec hx.has (kitAt T hk (j := 15) (by decide)) ⟨by show 2 ≤ sizeLine; decide, fun p8 n8 => ?_⟩)⟩
  have s8 := Same.new (o := .lst [V.bl (decide (14 = k)), V.bl (decide (15 = k))]) n8
  refine ⟨_, _, _, _, rfl, rfl, s8 _ _ upd_same, upd_same, by show 16 ≤ sizeLine; decide, fun p9 n9 => ?_⟩
  exact q p9 _ (s1.trans (s2.trans (s3.trans (s4.trans (s5.trans (s6.trans (s7.trans (s8.trans (Same.new n9 _))))))))) upd_same
end
open PySem L2 L2H ExV
section
variable {P : Program} {w : World} {K : PySem.W.Frag} {mg : Str → Option Value} {base : Heap}
def taOf (T : Txt w K mg) : List Nat → TA
  | [] => tNil
  | j :: js => tCons (tC (.ref (clsOf T j))) (taOf T js)
theorem ta_gives (T : Txt w K mg) {σ : L2.St} {H : Hp} : ∀ {js : List Nat} {R : List V → Hp → Prop}, R (js.map fun j => .ref (clsOf T j)) H → taOf T js σ H R
  | [], _, q => q
  | _ :: js, _, q => ta_gives T (js := js) q
theorem kitAny_of (T : Txt w K mg) {k : Nat} (hk : k < 16) : ∀ {js : List Nat}, (∀ j ∈ js, j < 16) → PySem.W.kitAny K (.ref (clsOf T k)) (js.map fun j => .ref (clsOf T j)) = some (decide (k ∈ js))
  | [], _ => rfl
  | j :: js, h => by
    have e := kitAt T hk (h j List.mem_cons_self)
    have ih := kitAny_of T hk (js := js) fun x hx => h x (List.mem_cons_of_mem _ hx)
    show (match PySem.W.kitOne K (.ref (clsOf T k)) (.ref (clsOf T j)) with | some true => some true | some false => PySem.W.kitAny K (.ref (clsOf T k)) (js.map fun j => .ref (clsOf T j)) | none => none) = _
    rw [e]
    by_cases z : j = k
    · rw [decide_eq_true z, decide_eq_true (show k ∈ j :: js by rw [z]; exact List.mem_cons_self)]
    · rw [decide_eq_false z]
      show PySem.W.kitAny K (.ref (clsOf T k)) (js.map fun j => .ref (clsOf T j)) = _
      rw [ih]
      congr 1
      by_cases m : k ∈ js
      · rw [decide_eq_true m, decide_eq_true (List.mem_cons_of_mem _ m)]
      · rw [decide_eq_false m, decide_eq_false fun q => (List.mem_cons.mp q).elim (fun y => z y.symm) m]
theorem paired_of (T : Txt w K mg) : ∀ js : List Nat, Paired ClsV (js.map fun j => V.ref (clsOf T j)) (js.map fun j => Value.ref (clsOf T j))
  | [] => .nil
  | _ :: js => .cons (.own _) (paired_of T js)
theorem any_gives (T : Txt w K mg) {k a : Nat} (hk : k < 16) (js : List Nat) (hj : ∀ j ∈ js, j < 16) {d : Option Addr} {σ : L2.St} {H : Hp} {Q : VK} (h0 : σ[0]? = some (some (.ref a))) (hd : ∀ dd, d = some dd → ∃ fs, H dd = some (.xd fs)) (hl : js.length ≤ 1000) (q : ∀ H', Same H H' → Q (.bl (decide (k ∈ js))) H') :
    tCB (rIsPT K a (clsOf T k) d) (tCons (tVar 0) (tCons (tTup (taOf T js)) tNil)) σ H Q := by
  refine ⟨_, h0, ta_gives T ⟨by rw [List.length_map, sizeLine_eq]; omega, fun p n => ?_⟩⟩
  refine ⟨p, _, _, _, rfl, (ecOf T hk).ec, fun dd e => ?_, upd_same, paired_of T js, kitAny_of T hk hj, q _ (Same.new n _)⟩
  obtain ⟨fs, h⟩ := hd dd e
  exact ⟨fs, Same.new n _ _ _ h⟩
def spAttr (T : Txt w K mg) (a : Addr) (c : Value) (d : Option Addr) : Sp := fun vs H Q _ => ∃ (k : Nat) (xs : List V), vs = [.ref a] ∧ k < 16 ∧ c = .ref (clsOf T k) ∧ XSt k xs d H ∧ argOf k xs ∧ ∀ p H', Same H H' → SqT K H' p xs → Q (.ref p) H'
theorem x_gives {a D dd : Addr} {d : Option Addr} {f : Str} {fs : List (Str × V)} {v : V} {σ : L2.St} {H : Hp} {Q : VK} (h0 : σ[0]? = some (some (.ref a))) (e : d = some dd) (xf : XfC K D) (no : PySem.W.findIn K (.ref D) f = some none) (h : H dd = some (.xd fs)) (l : fs.lookup f = some v) (q : Q v H) : tXp K a D d f (tVar 0) σ H Q := ⟨_, h0, dd, fs, v, rfl, e, xf, no, h, l, q⟩
theorem ok_attributes (T : Txt w K mg) : FnP P w K mg base 1 T.a_l_attributes T.d_l_attributes p_l_attributes (spAttr T) := by
  refine fnP_of T.F_l_attributes sc_l_attributes (fun _ _ _ vs H Q E h => ?_) (fun cdv A outer s H vs Q E pe ce de hE hr h => ?_)
  · obtain ⟨k, xs, rfl, _⟩ := h
    rfl
  obtain ⟨k, xs, rfl, hk, rfl, hx, ok, q⟩ := h
  refine ⟨_, (pss_cons (ps_if (pt_val (pe_callB (call_isPT hE) rfl T.z_isinstance bb_isinstance (pa_cons (pv 0) (pa_cons (pe_tup (pa_cons (pe_glob (v := .ref T.C_BadText) rfl T.mgc_BadText rfl) (pa_cons (pe_glob (v := .ref T.C_BadCertificate) rfl T.mgc_BadCertificate rfl) (pa_cons (pe_glob (v := .ref T.C_BadWitness) rfl T.mgc_BadWitness rfl) pa_nil)))) pa_nil)))) (pss_one (ps_ret (pe_tup (pa_cons (pe_xp hE (pv 0)) pa_nil)))) pss_nil)
      (pss_cons (ps_if (pt_val (pe_callB (call_isPT hE) rfl T.z_isinstance bb_isinstance (pa_cons (pv 0) (pa_cons (pe_tup (pa_cons (pe_glob (v := .ref T.C_Twice) rfl T.mgc_Twice rfl) (pa_cons (pe_glob (v := .ref T.C_Unknown) rfl T.mgc_Unknown rfl) (pa_cons (pe_glob (v := .ref T.C_BadKind) rfl T.mgc_BadKind rfl) (pa_cons (pe_glob (v := .ref T.C_WrongChange) rfl T.mgc_WrongChange rfl) pa_nil))))) pa_nil)))) (pss_one (ps_ret (pe_tup (pa_cons (pe_xp hE (pv 0)) pa_nil)))) pss_nil)
      (pss_cons (ps_if (pt_val (pe_callB (call_isPT hE) rfl T.z_isinstance bb_isinstance (pa_cons (pv 0) (pa_cons (pe_tup (pa_cons (pe_glob (v := .ref T.C_WrongKind) rfl T.mgc_WrongKind rfl) (pa_cons (pe_glob (v := .ref T.C_NoPlace) rfl T.mgc_NoPlace rfl) pa_nil))) pa_nil)))) (pss_one (ps_ret (pe_tup (pa_cons (pe_xp hE (pv 0)) (pa_cons (pe_xp hE (pv 0)) pa_nil))))) pss_nil)
      (pss_cons (ps_if (pt_val (pe_callB (call_isP hE) rfl T.z_isinstance bb_isinstance (pa_cons (pv 0) (pa_cons (pe_glob (v := .ref T.C_NoSite) rfl T.mgc_NoSite rfl) pa_nil)))) (pss_one (ps_ret (pe_tup (pa_cons (pe_xp hE (pv 0)) (pa_cons (pe_xp hE (pv 0)) (pa_cons (pe_xp hE (pv 0)) pa_nil)))))) pss_nil)
      (pss_cons (ps_if (pt_val (pe_callB (call_isP hE) rfl T.z_isinstance bb_isinstance (pa_cons (pv 0) (pa_cons (pe_glob (v := .ref T.C_TooLong) rfl T.mgc_TooLong rfl) pa_nil)))) (pss_one (ps_ret (pe_tup (pa_cons (pe_xp hE (pv 0)) pa_nil)))) pss_nil)
      (pss_cons (ps_if (pt_val (pe_callB (call_isP hE) rfl T.z_isinstance bb_isinstance (pa_cons (pv 0) (pa_cons (pe_glob (v := .ref T.C_BadJournal) rfl T.mgc_BadJournal rfl) pa_nil)))) (pss_one (ps_ret (pe_tup (pa_cons (pe_xp hE (pv 0)) pa_nil)))) pss_nil)
      (pss_one (ps_ret (pe_tup pa_nil))))))))), ?_⟩
  have ec := (ecOf T hk).ec
  rcases k16 hk with rfl | rfl | rfl | rfl | rfl | rfl | rfl | rfl | rfl | rfl | rfl | rfl | rfl | rfl | rfl | rfl
  · have s0 := Same.refl H
    refine any_gives T hk [0, 8, 11] (by decide) rfl (hx.same s0).has (by decide) fun H1 t1 => ⟨_, rfl, ifT (by decide +kernel) ?_⟩
    have s1 := s0.trans t1
    have ok' := ok
    obtain ⟨x0, rfl, h0⟩ := ok'
    obtain ⟨z, _⟩ | ⟨_, dd, e, hdd⟩ := hx.same s1
    · cases z
    refine x_gives (f := "line") rfl e (ecOf T hk).xf ((ecOf T hk).no _ (by decide)) hdd rfl ?_
    exact ⟨by show 1 ≤ sizeLine; decide, fun p n => q p _ (s1.trans (Same.new n _)) (SqT.of upd_same)⟩
  · have s0 := Same.refl H
    refine any_gives T hk [0, 8, 11] (by decide) rfl (hx.same s0).has (by decide) fun H1 t1 => ⟨_, rfl, ifF (by decide +kernel) ?_⟩
    have s1 := s0.trans t1
    refine any_gives T hk [1, 2, 3, 9] (by decide) rfl (hx.same s1).has (by decide) fun H2 t2 => ⟨_, rfl, ifT (by decide +kernel) ?_⟩
    have s2 := s1.trans t2
    have ok' := ok
    obtain ⟨x0, rfl, h0⟩ := ok'
    obtain ⟨z, _⟩ | ⟨_, dd, e, hdd⟩ := hx.same s2
    · cases z
    refine x_gives (f := "name") rfl e (ecOf T hk).xf ((ecOf T hk).no _ (by decide)) hdd rfl ?_
    exact ⟨by show 1 ≤ sizeLine; decide, fun p n => q p _ (s2.trans (Same.new n _)) (SqT.of upd_same)⟩
  · have s0 := Same.refl H
    refine any_gives T hk [0, 8, 11] (by decide) rfl (hx.same s0).has (by decide) fun H1 t1 => ⟨_, rfl, ifF (by decide +kernel) ?_⟩
    have s1 := s0.trans t1
    refine any_gives T hk [1, 2, 3, 9] (by decide) rfl (hx.same s1).has (by decide) fun H2 t2 => ⟨_, rfl, ifT (by decide +kernel) ?_⟩
    have s2 := s1.trans t2
    have ok' := ok
    obtain ⟨x0, rfl, h0⟩ := ok'
    obtain ⟨z, _⟩ | ⟨_, dd, e, hdd⟩ := hx.same s2
    · cases z
    refine x_gives (f := "name") rfl e (ecOf T hk).xf ((ecOf T hk).no _ (by decide)) hdd rfl ?_
    exact ⟨by show 1 ≤ sizeLine; decide, fun p n => q p _ (s2.trans (Same.new n _)) (SqT.of upd_same)⟩
  · have s0 := Same.refl H
    refine any_gives T hk [0, 8, 11] (by decide) rfl (hx.same s0).has (by decide) fun H1 t1 => ⟨_, rfl, ifF (by decide +kernel) ?_⟩
    have s1 := s0.trans t1
    refine any_gives T hk [1, 2, 3, 9] (by decide) rfl (hx.same s1).has (by decide) fun H2 t2 => ⟨_, rfl, ifT (by decide +kernel) ?_⟩
    have s2 := s1.trans t2
    have ok' := ok
    obtain ⟨x0, rfl, h0⟩ := ok'
    obtain ⟨z, _⟩ | ⟨_, dd, e, hdd⟩ := hx.same s2
    · cases z
    refine x_gives (f := "name") rfl e (ecOf T hk).xf ((ecOf T hk).no _ (by decide)) hdd rfl ?_
    exact ⟨by show 1 ≤ sizeLine; decide, fun p n => q p _ (s2.trans (Same.new n _)) (SqT.of upd_same)⟩
  · have s0 := Same.refl H
    refine any_gives T hk [0, 8, 11] (by decide) rfl (hx.same s0).has (by decide) fun H1 t1 => ⟨_, rfl, ifF (by decide +kernel) ?_⟩
    have s1 := s0.trans t1
    refine any_gives T hk [1, 2, 3, 9] (by decide) rfl (hx.same s1).has (by decide) fun H2 t2 => ⟨_, rfl, ifF (by decide +kernel) ?_⟩
    have s2 := s1.trans t2
    refine any_gives T hk [4, 6] (by decide) rfl (hx.same s2).has (by decide) fun H3 t3 => ⟨_, rfl, ifT (by decide +kernel) ?_⟩
    have s3 := s2.trans t3
    have ok' := ok
    obtain ⟨x0, x1, rfl, h0, h1⟩ := ok'
    obtain ⟨z, _⟩ | ⟨_, dd, e, hdd⟩ := hx.same s3
    · cases z
    refine ⟨_, rfl, dd, _, _, rfl, e, (ecOf T hk).xf, (ecOf T hk).no _ (by decide), hdd, rfl, ?_⟩
    refine ⟨_, rfl, dd, _, _, rfl, e, (ecOf T hk).xf, (ecOf T hk).no _ (by decide), hdd, rfl, ?_⟩
    exact ⟨by show 2 ≤ sizeLine; decide, fun p n => q p _ (s3.trans (Same.new n _)) (SqT.of upd_same)⟩
  · have s0 := Same.refl H
    refine any_gives T hk [0, 8, 11] (by decide) rfl (hx.same s0).has (by decide) fun H1 t1 => ⟨_, rfl, ifF (by decide +kernel) ?_⟩
    have s1 := s0.trans t1
    refine any_gives T hk [1, 2, 3, 9] (by decide) rfl (hx.same s1).has (by decide) fun H2 t2 => ⟨_, rfl, ifF (by decide +kernel) ?_⟩
    have s2 := s1.trans t2
    refine any_gives T hk [4, 6] (by decide) rfl (hx.same s2).has (by decide) fun H3 t3 => ⟨_, rfl, ifF (by decide +kernel) ?_⟩
    have s3 := s2.trans t3
    refine is_gives rfl ec (hx.same s3).has (kitAt T hk (j := 5) (by decide)) ⟨_, rfl, ifT (by decide +kernel) ?_⟩
    have ok' := ok
    obtain ⟨x0, x1, x2, rfl, h0, h1, h2⟩ := ok'
    obtain ⟨z, _⟩ | ⟨_, dd, e, hdd⟩ := hx.same s3
    · cases z
    refine ⟨_, rfl, dd, _, _, rfl, e, (ecOf T hk).xf, (ecOf T hk).no _ (by decide), hdd, rfl, ?_⟩
    refine ⟨_, rfl, dd, _, _, rfl, e, (ecOf T hk).xf, (ecOf T hk).no _ (by decide), hdd, rfl, ?_⟩
    refine ⟨_, rfl, dd, _, _, rfl, e, (ecOf T hk).xf, (ecOf T hk).no _ (by decide), hdd, rfl, ?_⟩
    exact ⟨by show 3 ≤ sizeLine; decide, fun p n => q p _ (s3.trans (Same.new n _)) (SqT.of upd_same)⟩
  · have s0 := Same.refl H
    refine any_gives T hk [0, 8, 11] (by decide) rfl (hx.same s0).has (by decide) fun H1 t1 => ⟨_, rfl, ifF (by decide +kernel) ?_⟩
    have s1 := s0.trans t1
    refine any_gives T hk [1, 2, 3, 9] (by decide) rfl (hx.same s1).has (by decide) fun H2 t2 => ⟨_, rfl, ifF (by decide +kernel) ?_⟩
    have s2 := s1.trans t2
    refine any_gives T hk [4, 6] (by decide) rfl (hx.same s2).has (by decide) fun H3 t3 => ⟨_, rfl, ifT (by decide +kernel) ?_⟩
    have s3 := s2.trans t3
    have ok' := ok
    obtain ⟨x0, x1, rfl, h0⟩ := ok'
    obtain ⟨z, _⟩ | ⟨_, dd, e, hdd⟩ := hx.same s3
    · cases z
    refine ⟨_, rfl, dd, _, _, rfl, e, (ecOf T hk).xf, (ecOf T hk).no _ (by decide), hdd, rfl, ?_⟩
    refine ⟨_, rfl, dd, _, _, rfl, e, (ecOf T hk).xf, (ecOf T hk).no _ (by decide), hdd, rfl, ?_⟩
    exact ⟨by show 2 ≤ sizeLine; decide, fun p n => q p _ (s3.trans (Same.new n _)) (SqT.of upd_same)⟩
  · have s0 := Same.refl H
    refine any_gives T hk [0, 8, 11] (by decide) rfl (hx.same s0).has (by decide) fun H1 t1 => ⟨_, rfl, ifF (by decide +kernel) ?_⟩
    have s1 := s0.trans t1
    refine any_gives T hk [1, 2, 3, 9] (by decide) rfl (hx.same s1).has (by decide) fun H2 t2 => ⟨_, rfl, ifF (by decide +kernel) ?_⟩
    have s2 := s1.trans t2
    refine any_gives T hk [4, 6] (by decide) rfl (hx.same s2).has (by decide) fun H3 t3 => ⟨_, rfl, ifF (by decide +kernel) ?_⟩
    have s3 := s2.trans t3
    refine is_gives rfl ec (hx.same s3).has (kitAt T hk (j := 5) (by decide)) ⟨_, rfl, ifF (by decide +kernel) ?_⟩
    refine is_gives rfl ec (hx.same s3).has (kitAt T hk (j := 12) (by decide)) ⟨_, rfl, ifF (by decide +kernel) ?_⟩
    refine is_gives rfl ec (hx.same s3).has (kitAt T hk (j := 15) (by decide)) ⟨_, rfl, ifF (by decide +kernel) ?_⟩
    have ok' : xs = [] := ok
    subst ok'
    exact ⟨by show 0 ≤ sizeLine; decide, fun p n => q p _ (s3.trans (Same.new n _)) (SqT.of upd_same)⟩
  · have s0 := Same.refl H
    refine any_gives T hk [0, 8, 11] (by decide) rfl (hx.same s0).has (by decide) fun H1 t1 => ⟨_, rfl, ifT (by decide +kernel) ?_⟩
    have s1 := s0.trans t1
    have ok' := ok
    obtain ⟨x0, rfl, h0⟩ := ok'
    obtain ⟨z, _⟩ | ⟨_, dd, e, hdd⟩ := hx.same s1
    · cases z
    refine x_gives (f := "line") rfl e (ecOf T hk).xf ((ecOf T hk).no _ (by decide)) hdd rfl ?_
    exact ⟨by show 1 ≤ sizeLine; decide, fun p n => q p _ (s1.trans (Same.new n _)) (SqT.of upd_same)⟩
  · have s0 := Same.refl H
    refine any_gives T hk [0, 8, 11] (by decide) rfl (hx.same s0).has (by decide) fun H1 t1 => ⟨_, rfl, ifF (by decide +kernel) ?_⟩
    have s1 := s0.trans t1
    refine any_gives T hk [1, 2, 3, 9] (by decide) rfl (hx.same s1).has (by decide) fun H2 t2 => ⟨_, rfl, ifT (by decide +kernel) ?_⟩
    have s2 := s1.trans t2
    have ok' := ok
    obtain ⟨x0, rfl, h0⟩ := ok'
    obtain ⟨z, _⟩ | ⟨_, dd, e, hdd⟩ := hx.same s2
    · cases z
    refine x_gives (f := "name") rfl e (ecOf T hk).xf ((ecOf T hk).no _ (by decide)) hdd rfl ?_
    exact ⟨by show 1 ≤ sizeLine; decide, fun p n => q p _ (s2.trans (Same.new n _)) (SqT.of upd_same)⟩
  · have s0 := Same.refl H
    refine any_gives T hk [0, 8, 11] (by decide) rfl (hx.same s0).has (by decide) fun H1 t1 => ⟨_, rfl, ifF (by decide +kernel) ?_⟩
    have s1 := s0.trans t1
    refine any_gives T hk [1, 2, 3, 9] (by decide) rfl (hx.same s1).has (by decide) fun H2 t2 => ⟨_, rfl, ifF (by decide +kernel) ?_⟩
    have s2 := s1.trans t2
    refine any_gives T hk [4, 6] (by decide) rfl (hx.same s2).has (by decide) fun H3 t3 => ⟨_, rfl, ifF (by decide +kernel) ?_⟩
    have s3 := s2.trans t3
    refine is_gives rfl ec (hx.same s3).has (kitAt T hk (j := 5) (by decide)) ⟨_, rfl, ifF (by decide +kernel) ?_⟩
    refine is_gives rfl ec (hx.same s3).has (kitAt T hk (j := 12) (by decide)) ⟨_, rfl, ifF (by decide +kernel) ?_⟩
    refine is_gives rfl ec (hx.same s3).has (kitAt T hk (j := 15) (by decide)) ⟨_, rfl, ifF (by decide +kernel) ?_⟩
    have ok' : xs = [] := ok
    subst ok'
    exact ⟨by show 0 ≤ sizeLine; decide, fun p n => q p _ (s3.trans (Same.new n _)) (SqT.of upd_same)⟩
  · have s0 := Same.refl H
    refine any_gives T hk [0, 8, 11] (by decide) rfl (hx.same s0).has (by decide) fun H1 t1 => ⟨_, rfl, ifT (by decide +kernel) ?_⟩
    have s1 := s0.trans t1
    have ok' := ok
    obtain ⟨x0, rfl, h0⟩ := ok'
    obtain ⟨z, _⟩ | ⟨_, dd, e, hdd⟩ := hx.same s1
    · cases z
    refine x_gives (f := "line") rfl e (ecOf T hk).xf ((ecOf T hk).no _ (by decide)) hdd rfl ?_
    exact ⟨by show 1 ≤ sizeLine; decide, fun p n => q p _ (s1.trans (Same.new n _)) (SqT.of upd_same)⟩
  · have s0 := Same.refl H
    refine any_gives T hk [0, 8, 11] (by decide) rfl (hx.same s0).has (by decide) fun H1 t1 => ⟨_, rfl, ifF (by decide +kernel) ?_⟩
    have s1 := s0.trans t1
    refine any_gives T hk [1, 2, 3, 9] (by decide) rfl (hx.same s1).has (by decide) fun H2 t2 => ⟨_, rfl, ifF (by decide +kernel) ?_⟩
    have s2 := s1.trans t2
    refine any_gives T hk [4, 6] (by decide) rfl (hx.same s2).has (by decide) fun H3 t3 => ⟨_, rfl, ifF (by decide +kernel) ?_⟩
    have s3 := s2.trans t3
    refine is_gives rfl ec (hx.same s3).has (kitAt T hk (j := 5) (by decide)) ⟨_, rfl, ifF (by decide +kernel) ?_⟩
    refine is_gives rfl ec (hx.same s3).has (kitAt T hk (j := 12) (by decide)) ⟨_, rfl, ifT (by decide +kernel) ?_⟩
    have ok' := ok
    obtain ⟨x0, rfl, h0⟩ := ok'
    obtain ⟨z, _⟩ | ⟨_, dd, e, hdd⟩ := hx.same s3
    · cases z
    refine x_gives (f := "amount") rfl e (ecOf T hk).xf ((ecOf T hk).no _ (by decide)) hdd rfl ?_
    exact ⟨by show 1 ≤ sizeLine; decide, fun p n => q p _ (s3.trans (Same.new n _)) (SqT.of upd_same)⟩
  · have s0 := Same.refl H
    refine any_gives T hk [0, 8, 11] (by decide) rfl (hx.same s0).has (by decide) fun H1 t1 => ⟨_, rfl, ifF (by decide +kernel) ?_⟩
    have s1 := s0.trans t1
    refine any_gives T hk [1, 2, 3, 9] (by decide) rfl (hx.same s1).has (by decide) fun H2 t2 => ⟨_, rfl, ifF (by decide +kernel) ?_⟩
    have s2 := s1.trans t2
    refine any_gives T hk [4, 6] (by decide) rfl (hx.same s2).has (by decide) fun H3 t3 => ⟨_, rfl, ifF (by decide +kernel) ?_⟩
    have s3 := s2.trans t3
    refine is_gives rfl ec (hx.same s3).has (kitAt T hk (j := 5) (by decide)) ⟨_, rfl, ifF (by decide +kernel) ?_⟩
    refine is_gives rfl ec (hx.same s3).has (kitAt T hk (j := 12) (by decide)) ⟨_, rfl, ifF (by decide +kernel) ?_⟩
    refine is_gives rfl ec (hx.same s3).has (kitAt T hk (j := 15) (by decide)) ⟨_, rfl, ifF (by decide +kernel) ?_⟩
    have ok' : xs = [] := ok
    subst ok'
    exact ⟨by show 0 ≤ sizeLine; decide, fun p n => q p _ (s3.trans (Same.new n _)) (SqT.of upd_same)⟩
  · have s0 := Same.refl H
    refine any_gives T hk [0, 8, 11] (by decide) rfl (hx.same s0).has (by decide) fun H1 t1 => ⟨_, rfl, ifF (by decide +kernel) ?_⟩
    have s1 := s0.trans t1
    refine any_gives T hk [1, 2, 3, 9] (by decide) rfl (hx.same s1).has (by decide) fun H2 t2 => ⟨_, rfl, ifF (by decide +kernel) ?_⟩
    have s2 := s1.trans t2
    refine any_gives T hk [4, 6] (by decide) rfl (hx.same s2).has (by decide) fun H3 t3 => ⟨_, rfl, ifF (by decide +kernel) ?_⟩
    have s3 := s2.trans t3
    refine is_gives rfl ec (hx.same s3).has (kitAt T hk (j := 5) (by decide)) ⟨_, rfl, ifF (by decide +kernel) ?_⟩
    refine is_gives rfl ec (hx.same s3).has (kitAt T hk (j := 12) (by decide)) ⟨_, rfl, ifF (by decide +kernel) ?_⟩
    refine is_gives rfl ec (hx.same s3).has (kitAt T hk (j := 15) (by decide)) ⟨_, rfl, ifF (by decide +kernel) ?_⟩
    have ok' : xs = [] := ok
    subst ok'
    exact ⟨by show 0 ≤ sizeLine; decide, fun p n => q p _ (s3.trans (Same.new n _)) (SqT.of upd_same)⟩
  · have s0 := Same.refl H
    refine any_gives T hk [0, 8, 11] (by decide) rfl (hx.same s0).has (by decide) fun H1 t1 => ⟨_, rfl, ifF (by decide +kernel) ?_⟩
    have s1 := s0.trans t1
    refine any_gives T hk [1, 2, 3, 9] (by decide) rfl (hx.same s1).has (by decide) fun H2 t2 => ⟨_, rfl, ifF (by decide +kernel) ?_⟩
    have s2 := s1.trans t2
    refine any_gives T hk [4, 6] (by decide) rfl (hx.same s2).has (by decide) fun H3 t3 => ⟨_, rfl, ifF (by decide +kernel) ?_⟩
    have s3 := s2.trans t3
    refine is_gives rfl ec (hx.same s3).has (kitAt T hk (j := 5) (by decide)) ⟨_, rfl, ifF (by decide +kernel) ?_⟩
    refine is_gives rfl ec (hx.same s3).has (kitAt T hk (j := 12) (by decide)) ⟨_, rfl, ifF (by decide +kernel) ?_⟩
    refine is_gives rfl ec (hx.same s3).has (kitAt T hk (j := 15) (by decide)) ⟨_, rfl, ifT (by decide +kernel) ?_⟩
    have ok' := ok
    obtain ⟨x0, rfl, h0⟩ := ok'
    obtain ⟨z, _⟩ | ⟨_, dd, e, hdd⟩ := hx.same s3
    · cases z
    refine x_gives (f := "position") rfl e (ecOf T hk).xf ((ecOf T hk).no _ (by decide)) hdd rfl ?_
    exact ⟨by show 1 ≤ sizeLine; decide, fun p n => q p _ (s3.trans (Same.new n _)) (SqT.of upd_same)⟩
end
open PySem L2 L2H ExV
/-! ### one error: made, raised, caught, looked at -/
section
variable {w : World} {K : PySem.W.Frag} {mg : Str → Option Value} {base : Heap}
def marksD (k : Nat) : List PyData := (List.range 16).map fun j => .bool (decide (j = k))
theorem marks_eq {k : Nat} (h : k < 16) : PyData.eqv (.list (marksD k)) (.list (marksD k)) = true ∧ SeqAt.shaped (.list (marksD k)) = true := by
  rcases k16 h with rfl | rfl | rfl | rfl | rfl | rfl | rfl | rfl | rfl | rfl | rfl | rfl | rfl | rfl | rfl | rfl <;> exact ⟨by decide +kernel, by decide +kernel⟩
theorem dp_bools {H : Hp} : ∀ bs : List Bool, DpAll K H (bs.map V.bl) (bs.map PyData.bool)
  | [] => .nil
  | b :: bs => .cons (.bl b) (dp_bools bs)
theorem dp_marks {H : Hp} {p k : Nat} (h : H p = some (.lst (marksOf k))) : Dp K H (.ref p) (.list (marksD k)) := by
  refine .lst (SqL.of h) ?_
  have e := dp_bools (K := K) (H := H) ((List.range 16).map fun j => decide (j = k))
  rw [List.map_map, List.map_map] at e
  exact e
/-- what is given to an error: atoms -/
def AtomV (x : V) : Prop := (∃ i, x = .int i) ∨ (∃ s, x = .str s) ∨ x = .non
def spRight : Sp := fun vs H Q _ => ∃ (k : Nat) (g : Addr) (xs : List V), vs = [.int k, .ref g] ∧ k < 16 ∧ SqT K H g xs ∧ argOf k xs ∧ (∀ x ∈ xs, AtomV x) ∧ xs.length ≤ 3 ∧ ∀ H', Same H H' → Q (.bl true) H'
theorem dp_atoms {H : Hp} : ∀ {xs : List V}, (∀ x ∈ xs, AtomV x) → ∃ ds, DpAll K H xs ds ∧ ∀ H', DpAll K H' xs ds ∧ ∀ d ∈ ds, Dok 1 d
  | [], _ => ⟨[], .nil, fun _ => ⟨.nil, fun d z => by cases z⟩⟩
  | x :: xs, h => by
    obtain ⟨ds, h1, h2⟩ := dp_atoms (H := H) (xs := xs) fun y hy => h y (List.mem_cons_of_mem _ hy)
    rcases h x List.mem_cons_self with ⟨i, rfl⟩ | ⟨s, rfl⟩ | rfl
    · exact ⟨.int i :: ds, .cons (.int i) h1, fun H' => ⟨.cons (.int i) (h2 H').1, fun d hd => (List.mem_cons.mp hd).elim (fun z => by rw [z]; trivial) ((h2 H').2 d)⟩⟩
    · exact ⟨.str s :: ds, .cons (.str s) h1, fun H' => ⟨.cons (.str s) (h2 H').1, fun d hd => (List.mem_cons.mp hd).elim (fun z => by rw [z]; trivial) ((h2 H').2 d)⟩⟩
    · exact ⟨.none :: ds, .cons .non h1, fun H' => ⟨.cons .non (h2 H').1, fun d hd => (List.mem_cons.mp hd).elim (fun z => by rw [z]; trivial) ((h2 H').2 d)⟩⟩
def tsR (T : Txt w K mg) : Addr → Value → Option Addr → TS := fun a c d => tSeq (tIfS (tOr (tTest (tOp (rNeD K) (tCallP (spMarks T) a c d (tCons (tVar 2) tNil)) (tLc (iRng1 (tCons (tC (.int 16)) tNil)) (gName 3) tYes (tOp rEq (tVar 3) (tVar 0)) [3]))) (tNot (tB (tCB (rIsPc K a c d) (tCons (tVar 2) (tCons (tC (.ty "ValueError")) tNil)))))) (tRet (tC (.bl false))) tNext)
  (tRet (tCallP (fun _ _ _ => spSame K 2) a c d (tCons (tCallP (spAttr T) a c d (tCons (tVar 2) tNil)) (tCons (tVar 1) tNil))))
theorem suite_gives (T : Txt w K mg) {k a g : Nat} {d : Option Addr} {H : Hp} {xs : List V} (hk : k < 16) (hx : XSt k xs d H) (hg : SqT K H g xs) (ok : argOf k xs) (at_ : ∀ x ∈ xs, AtomV x) (hl : xs.length ≤ 3) {Dn : Ends} (q : ∀ H', Same H H' → Dn.rt (.bl true) H') :
    tsR T a (.ref (clsOf T k)) d Dn [some (.int k), some (.ref g), some (.ref a), none] H := by
  refine ⟨_, rfl, k, xs, rfl, hk, rfl, hx, fun p1 H1 s1 hp1 => ?_⟩
  refine ⟨16, rfl, by omega, by omega, fun D nD => ?_⟩
  refine lc_range (lo := 0) (n := 16) (fun i H' => Same H1 H' ∧ H' D = some (.lst ((List.range i).map fun j => V.bl (decide (j = k))))) ?_ ?_ ?_
  · exact ⟨Same.new nD _, upd_same⟩
  · rintro i H' hi ⟨s, hD⟩
    refine ⟨rfl, _, rfl, _, rfl, rfl, _, hD, small1000 (by rw [List.length_map, List.length_range]; omega), fun b o e => ?_, ?_⟩
    · rw [upd_ne (ne_of_none e nD)]
      exact s b o e
    · rw [upd_same, List.range_succ, List.map_append]
      have e : decide (V.int (0 + (i : Int)) = V.int (k : Int)) = decide (i = k) := by
        rw [Int.zero_add]
        by_cases z : i = k
        · rw [z, decide_eq_true rfl, decide_eq_true rfl]
        · rw [decide_eq_false z, decide_eq_false fun y => z (by injection y with y; exact Int.ofNat.inj y)]
      rw [e]
      rfl
  · rintro H2 ⟨s2, hD⟩
    have s12 := s1.trans s2
    refine ⟨_, _, dp_marks (s2 _ _ hp1), dp_marks hD, (marks_eq hk).2, (marks_eq hk).2, ?_⟩
    refine ⟨_, rfl, ?_⟩
    rw [(marks_eq hk).1]
    refine iteF ?_
    refine ⟨_, rfl, _, rfl, .ty "ValueError", _, true, rfl, (ecOf T hk).ec, (hx.same s12).has, fun u r => r, kitV T hk, _, rfl, iteF ?_⟩
    obtain ⟨ds, _, hds⟩ := dp_atoms (H := H2) at_
    refine ⟨_, rfl, k, xs, rfl, hk, rfl, hx.same s12, ok, fun p3 H3 s3 h3 => ?_⟩
    have e1 := dpAll_len (hds H3).1
    exact ⟨_, rfl, _, _, .tuple ds, rfl, .tup h3 (hds H3).1, .tup (Same.tup (s12.trans s3) hg) (hds H3).1, ⟨by omega, (hds H3).2⟩, q _ (s12.trans s3)⟩
theorem ok_right (T : Txt w K mg) : FnOk PWX w K mg base CX0 5 T.a_l_right T.d_l_right p_l_right (spRight (K := K)) := by
  have g_raise := ok_l_raise (base := base) T
  have g_marks := ok_marks (P := PWX) (base := base) T
  have g_attr := ok_attributes (P := PWX) (base := base) T
  have g_same := ok_sameP (P := PWX) (base := base) T 2
  refine T.F_l_right.ok sc_l_right (fun vs H Q E h => ?_) (fun cdv A outer s H vs Q E hr h => ?_)
  · obtain ⟨k, g, xs, rfl, _⟩ := h
    rfl
  obtain ⟨k, g, xs, rfl, hk, hg, ok, at_, hl, q⟩ := h
  refine ⟨_, pss_cons (L2N.ps_try_as (i := 2) (tb := fun W => tDrop (tCallS (spRaise T) (WE W) (tCons (tVar 0) (tCons (tVar 1) tNil)))) (ts := tsR T) (Wout := fun _ _ _ _ => False) rfl rfl sc_l_right.nd rfl rfl ⟨rfl, by decide, Or.inl T.mgc_NeverError⟩ takesN0
      (fun W pn xe tk _ => pss_one (ps_expr (pe_callS g_raise (hr.mono (by decide)) rfl T.m_l_raise T.F_l_raise.kp T.b_l_raise (fun σ => L2N.passAt tk σ) (pa_cons (pv 0) (pa_cons (pv 1) pa_nil)))))
      (fun a oe cls d pn hz hf => ?_)) (pss_one (ps_ret pe_bl)), ?_⟩
  · have hE := suite_exP (a := a) (X := (cxOf CX0 PWX w K mg base n_l_right "_law_right" (defScope s_l_right) T.a_l_right cdv A outer s H E).nox) (pn := pn) hz hf
    have hh : RoomH 4 (((cxOf CX0 PWX w K mg base n_l_right "_law_right" (defScope s_l_right) T.a_l_right cdv A outer s H E).nox).suite a ((a, oe) :: pn)).A := ⟨hr.dp, hr.un⟩
    have hu : (((cxOf CX0 PWX w K mg base n_l_right "_law_right" (defScope s_l_right) T.a_l_right cdv A outer s H E).nox).suite a ((a, oe) :: pn)).A.units + 64 < cLine := by have := hh.un; omega
    exact pss_cons (ps_if (PW.pt (pw_or (pt_cmpR (op_neD hu) (pe_callP hE g_marks (hh.mono (by decide)) rfl T.m_l_marks T.F_l_marks.kp T.b_l_marks (pa_cons (pv 2) pa_nil))
        (pe_lcH (own := [("_law_j", 3)]) (g := gName 3) (tt := tYes) hE.hot sc_l_right.nd (pi_range1H rfl T.z_range (pa_cons pe_int pa_nil)) (blkOk_by (own := [("_law_j", 3)]) (N := n_l_right) (sc := defScope s_l_right) (by decide +kernel))
          (fun _ _ _ _ _ _ => pg_name (i := 3) sc_l_right.nd rfl (Or.inl rfl)) (fun _ _ _ _ _ _ => pts_nil) (fun _ _ _ _ _ _ => pe_cmpR op_eq (pv 3) (pv 0) (nomark _))) (nomark _))
        (pw_or1 (pt_not (pt_val (pe_callB (call_isPc hE) rfl T.z_isinstance bb_isinstance (pa_cons (pv 2) (pa_cons (pe_bltn (v := .ty "ValueError") rfl T.z_ValueError PyProof.Rows.Boot.«ValueError» rfl) pa_nil)))))))) (pss_one (ps_ret pe_bl)) pss_nil)
      (pss_one (ps_ret (pe_callP hE g_same (hh.mono (by decide)) rfl T.m_l_same T.F_l_same.kp T.b_l_same (pa_cons (pe_callP hE g_attr (hh.mono (by decide)) rfl T.m_l_attributes T.F_l_attributes.kp T.b_l_attributes (pa_cons (pv 2) pa_nil)) (pa_cons (pv 1) pa_nil)))))
  · refine ⟨_, rfl, _, rfl, k, g, xs, rfl, hk, hg, ok, ?_⟩
    by_cases z : fsOf k = []
    · exact .inl ⟨z, true, exmN T hk, fun _ a na => suite_gives T hk (.inl ⟨z, rfl⟩) hg ok at_ hl q, fun z => nomatch z⟩
    · refine .inr ⟨z, fun d nd => ⟨true, exmN T hk, fun _ a na => suite_gives T hk (.inr ⟨z, d, rfl, upd_same⟩) (Same.tup (Same.new nd _) hg) ok at_ hl fun H' s' => q H' ((Same.new nd _).trans s'), fun z => nomatch z⟩⟩
end
open PySem L2 L2H ExV
/-! ### what is given to the errors -/
section
variable {P : Program} {w : World} {K : PySem.W.Frag} {mg : Str → Option Value} {base : Heap}
def spGiven : Sp := fun vs H Q _ => ∃ (a : Addr) (k : Nat), vs = [.ref a, .int k] ∧ Src H a ∧ k < 16 ∧ ∀ g xs H', Stp a H H' → SqT K H' g xs → argOf k xs → (∀ x ∈ xs, AtomV x) → xs.length ≤ 3 → Q (.ref g) H'
theorem words_ok : ∀ v ∈ ([.str "main", .str "k", .str "b7", .str "abcdefghijkl", .str "q"] : List V), ∃ s : Str, v = .str s ∧ s.length ≤ 12 := by
  intro v hv
  simp only [List.mem_cons, List.not_mem_nil, or_false] at hv
  rcases hv with rfl | rfl | rfl | rfl | rfl <;> exact ⟨_, rfl, by decide +kernel⟩
theorem faults_ok : ∀ v ∈ ([.str "null", .str "gone", .str "index", .str "range", .str "assert"] : List V), ∃ s : Str, v = .str s ∧ s.length ≤ 12 := by
  intro v hv
  simp only [List.mem_cons, List.not_mem_nil, or_false] at hv
  rcases hv with rfl | rfl | rfl | rfl | rfl <;> exact ⟨_, rfl, by decide +kernel⟩
theorem numbers_ok {r1 r2 : Int} (h1 : 0 ≤ r1) (h2 : r1 < 600 ∨ r1 = 0) (h3 : 0 ≤ r2) (h4 : r2 < 30000 ∨ r2 = 0) : ∀ v ∈ ([.int 0, .int 1, .int r1, .int (r2 * 33333)] : List V), ∃ i : Int, v = .int i ∧ (-1000000000 ≤ i ∧ i ≤ 1000000000) := by
  intro v hv
  simp only [List.mem_cons, List.not_mem_nil, or_false] at hv
  rcases hv with rfl | rfl | rfl | rfl <;> exact ⟨_, rfl, by omega, by omega⟩
theorem ok_given (T : Txt w K mg) : FnOk P w K mg base CX0 4 T.a_l_given T.d_l_given p_l_given (spGiven (K := K)) := by
  have g_l_pick := ok_l_pick (P := P) (base := base) T
  have g_l_one := ok_l_one (P := P) (base := base) T
  refine T.F_l_given.ok sc_l_given (fun vs H Q E h => ?_) (fun cdv A outer s H vs Q E hr h => ?_)
  · obtain ⟨a, k, rfl, _⟩ := h
    rfl
  obtain ⟨a, k, rfl, hS, hk, q⟩ := h
  refine ⟨_, (pss_cons (ps_set (i := 2) sc_l_given.nd rfl (Or.inl rfl) (pe_call g_l_one (hr.mono (by first | decide | omega)) rfl T.m_l_one T.F_l_one.kp T.b_l_one .nil pass0 (pa_cons (pv 0) (pa_cons (pe_lst (pa_cons pe_str (pa_cons pe_str (pa_cons pe_str (pa_cons pe_str (pa_cons pe_str pa_nil)))))) pa_nil))))
      (pss_cons (ps_set (i := 3) sc_l_given.nd rfl (Or.inl rfl) (pe_call g_l_one (hr.mono (by first | decide | omega)) rfl T.m_l_one T.F_l_one.kp T.b_l_one .nil pass0 (pa_cons (pv 0) (pa_cons (pe_lst (pa_cons pe_int (pa_cons pe_int (pa_cons (pe_call g_l_pick (hr.mono (by first | decide | omega)) rfl T.m_l_pick T.F_l_pick.kp T.b_l_pick .nil pass0 (pa_cons (pv 0) (pa_cons pe_int pa_nil))) (pa_cons (pe_op op_mul (pe_call g_l_pick (hr.mono (by first | decide | omega)) rfl T.m_l_pick T.F_l_pick.kp T.b_l_pick .nil pass0 (pa_cons (pv 0) (pa_cons pe_int pa_nil))) pe_int) pa_nil))))) pa_nil))))
      (pss_cons (ps_set (i := 4) sc_l_given.nd rfl (Or.inl rfl) (pe_call g_l_one (hr.mono (by first | decide | omega)) rfl T.m_l_one T.F_l_one.kp T.b_l_one .nil pass0 (pa_cons (pv 0) (pa_cons (pe_lst (pa_cons pe_str (pa_cons pe_str (pa_cons pe_str (pa_cons pe_str (pa_cons pe_str pa_nil)))))) pa_nil))))
      (pss_cons (ps_if (pt_cmpR op_in_seq (pv 1) (pe_lst (pa_cons pe_int (pa_cons pe_int (pa_cons pe_int (pa_cons pe_int (pa_cons pe_int pa_nil)))))) (by rfl)) (pss_one (ps_ret (pe_tup (pa_cons (pv 3) pa_nil)))) pss_nil)
      (pss_cons (ps_if (pt_cmpR op_in_seq (pv 1) (pe_lst (pa_cons pe_int (pa_cons pe_int (pa_cons pe_int (pa_cons pe_int pa_nil))))) (by rfl)) (pss_one (ps_ret (pe_tup (pa_cons (pv 2) pa_nil)))) pss_nil)
      (pss_cons (ps_if (pt_cmpR op_eq (pv 1) pe_int (nomark _)) (pss_one (ps_ret (pe_tup (pa_cons (pv 2) (pa_cons (pv 3) pa_nil))))) pss_nil)
      (pss_cons (ps_if (pt_cmpR op_eq (pv 1) pe_int (nomark _)) (pss_one (ps_ret (pe_tup (pa_cons (pv 2) (pa_cons (pv 3) (pa_cons (pv 4) pa_nil)))))) pss_nil)
      (pss_cons (ps_if (pt_cmpR op_eq (pv 1) pe_int (nomark _)) (pss_one (ps_ret (pe_tup (pa_cons (pv 2) (pa_cons (pe_call g_l_one (hr.mono (by first | decide | omega)) rfl T.m_l_one T.F_l_one.kp T.b_l_one .nil pass0 (pa_cons (pv 0) (pa_cons (pe_lst (pa_cons (pv 3) (pa_cons pe_non pa_nil))) pa_nil))) pa_nil))))) pss_nil)
      (pss_one (ps_ret (pe_tup pa_nil))))))))))), ?_⟩
  refine ⟨_, rfl, by show 5 ≤ sizeLine; decide, fun p1 n1 => ?_⟩
  have st1 := (Stp.refl hS).new (o := .lst [.str "main", .str "k", .str "b7", .str "abcdefghijkl", .str "q"]) n1
  refine ⟨a, _, rfl, st1.s, .inl ⟨p1, _, rfl, (hS.ne n1).symm, SqL.of upd_same, by decide, by decide, fun word H2 hw t2 => ?_⟩⟩
  obtain ⟨ws, rfl, hws⟩ := words_ok word hw
  have st2 := st1.trans t2
  refine ⟨_, rfl, _, rfl, a, 600, rfl, st2.s, by omega, fun r1 H3 t3 h1 h2 => ?_⟩
  have st3 := st2.trans t3
  refine ⟨_, rfl, a, 30000, rfl, st3.s, by omega, fun r2 H4 t4 h3 h4 => ?_⟩
  have st4 := st3.trans t4
  refine ⟨r2, 33333, rfl, rfl, .inl ⟨by omega, by omega⟩, ?_⟩
  refine ⟨by show 4 ≤ sizeLine; decide, fun p2 n2 => ?_⟩
  have st5 := st4.new (o := .lst [.int 0, .int 1, .int r1, .int (r2 * 33333)]) n2
  refine ⟨a, _, rfl, st5.s, .inl ⟨p2, _, rfl, (st4.s.ne n2).symm, SqL.of upd_same, by simp, by simp, fun number H5 hn t5 => ?_⟩⟩
  obtain ⟨nu, rfl, hnu⟩ := numbers_ok h1 h2 h3 h4 number hn
  have st6 := st5.trans t5
  refine ⟨_, rfl, by show 5 ≤ sizeLine; decide, fun p3 n3 => ?_⟩
  have st7 := st6.new (o := .lst [.str "null", .str "gone", .str "index", .str "range", .str "assert"]) n3
  refine ⟨a, _, rfl, st7.s, .inl ⟨p3, _, rfl, (st6.s.ne n3).symm, SqL.of upd_same, by decide, by decide, fun fault H7 hf t7 => ?_⟩⟩
  obtain ⟨fs, rfl, hfs⟩ := faults_ok fault hf
  have st8 := st7.trans t7
  have wA : AtomV (.str ws) := .inr (.inl ⟨_, rfl⟩)
  have nA : AtomV (.int nu) := .inl ⟨_, rfl⟩
  have fA : AtomV (.str fs) := .inr (.inl ⟨_, rfl⟩)
  rcases k16 hk with rfl | rfl | rfl | rfl | rfl | rfl | rfl | rfl | rfl | rfl | rfl | rfl | rfl | rfl | rfl | rfl
  · refine ⟨_, rfl, by show 5 ≤ sizeLine; decide, fun p4 n4 => ⟨p4, _, rfl, .inl (SqL.of upd_same), rfl, rfl, _, rfl, ifT (by decide +kernel) ?_⟩⟩
    have st9 := st8.new (o := .lst [.int 0, .int 8, .int 11, .int 12, .int 15]) n4
    refine ⟨_, rfl, by show 1 ≤ sizeLine; decide, fun pt nt => q pt _ _ (st9.new nt) (SqT.of upd_same) ⟨nu, rfl, hnu⟩ ?_ (by simp)⟩
    intro x hx
    simp only [List.mem_cons, List.not_mem_nil, or_false] at hx
    rw [hx]
    exact nA
  · refine ⟨_, rfl, by show 5 ≤ sizeLine; decide, fun p4 n4 => ⟨p4, _, rfl, .inl (SqL.of upd_same), rfl, rfl, _, rfl, ifF (by decide +kernel) ?_⟩⟩
    have st9 := st8.new (o := .lst [.int 0, .int 8, .int 11, .int 12, .int 15]) n4
    refine ⟨_, rfl, by show 4 ≤ sizeLine; decide, fun p5 n5 => ⟨p5, _, rfl, .inl (SqL.of upd_same), rfl, rfl, _, rfl, ifT (by decide +kernel) ?_⟩⟩
    have st10 := st9.new (o := .lst [.int 1, .int 2, .int 3, .int 9]) n5
    refine ⟨_, rfl, by show 1 ≤ sizeLine; decide, fun pt nt => q pt _ _ (st10.new nt) (SqT.of upd_same) ⟨ws, rfl, hws⟩ ?_ (by simp)⟩
    intro x hx
    simp only [List.mem_cons, List.not_mem_nil, or_false] at hx
    rw [hx]
    exact wA
  · refine ⟨_, rfl, by show 5 ≤ sizeLine; decide, fun p4 n4 => ⟨p4, _, rfl, .inl (SqL.of upd_same), rfl, rfl, _, rfl, ifF (by decide +kernel) ?_⟩⟩
    have st9 := st8.new (o := .lst [.int 0, .int 8, .int 11, .int 12, .int 15]) n4
    refine ⟨_, rfl, by show 4 ≤ sizeLine; decide, fun p5 n5 => ⟨p5, _, rfl, .inl (SqL.of upd_same), rfl, rfl, _, rfl, ifT (by decide +kernel) ?_⟩⟩
    have st10 := st9.new (o := .lst [.int 1, .int 2, .int 3, .int 9]) n5
    refine ⟨_, rfl, by show 1 ≤ sizeLine; decide, fun pt nt => q pt _ _ (st10.new nt) (SqT.of upd_same) ⟨ws, rfl, hws⟩ ?_ (by simp)⟩
    intro x hx
    simp only [List.mem_cons, List.not_mem_nil, or_false] at hx
    rw [hx]
    exact wA
  · refine ⟨_, rfl, by show 5 ≤ sizeLine; decide, fun p4 n4 => ⟨p4, _, rfl, .inl (SqL.of upd_same), rfl, rfl, _, rfl, ifF (by decide +kernel) ?_⟩⟩
    have st9 := st8.new (o := .lst [.int 0, .int 8, .int 11, .int 12, .int 15]) n4
    refine ⟨_, rfl, by show 4 ≤ sizeLine; decide, fun p5 n5 => ⟨p5, _, rfl, .inl (SqL.of upd_same), rfl, rfl, _, rfl, ifT (by decide +kernel) ?_⟩⟩
    have st10 := st9.new (o := .lst [.int 1, .int 2, .int 3, .int 9]) n5
    refine ⟨_, rfl, by show 1 ≤ sizeLine; decide, fun pt nt => q pt _ _ (st10.new nt) (SqT.of upd_same) ⟨ws, rfl, hws⟩ ?_ (by simp)⟩
    intro x hx
    simp only [List.mem_cons, List.not_mem_nil, or_false] at hx
    rw [hx]
    exact wA
  · refine ⟨_, rfl, by show 5 ≤ sizeLine; decide, fun p4 n4 => ⟨p4, _, rfl, .inl (SqL.of upd_same), rfl, rfl, _, rfl, ifF (by decide +kernel) ?_⟩⟩
    have st9 := st8.new (o := .lst [.int 0, .int 8, .int 11, .int 12, .int 15]) n4
    refine ⟨_, rfl, by show 4 ≤ sizeLine; decide, fun p5 n5 => ⟨p5, _, rfl, .inl (SqL.of upd_same), rfl, rfl, _, rfl, ifF (by decide +kernel) ?_⟩⟩
    have st10 := st9.new (o := .lst [.int 1, .int 2, .int 3, .int 9]) n5
    refine ⟨_, rfl, rfl, _, rfl, ifT (by decide +kernel) ?_⟩
    refine ⟨_, rfl, _, rfl, by show 2 ≤ sizeLine; decide, fun pt nt => q pt _ _ (st10.new nt) (SqT.of upd_same) ⟨ws, nu, rfl, hws, hnu⟩ ?_ (by simp)⟩
    intro x hx
    simp only [List.mem_cons, List.not_mem_nil, or_false] at hx
    rcases hx with rfl | rfl
    · exact wA
    · exact nA
  · refine ⟨_, rfl, by show 5 ≤ sizeLine; decide, fun p4 n4 => ⟨p4, _, rfl, .inl (SqL.of upd_same), rfl, rfl, _, rfl, ifF (by decide +kernel) ?_⟩⟩
    have st9 := st8.new (o := .lst [.int 0, .int 8, .int 11, .int 12, .int 15]) n4
    refine ⟨_, rfl, by show 4 ≤ sizeLine; decide, fun p5 n5 => ⟨p5, _, rfl, .inl (SqL.of upd_same), rfl, rfl, _, rfl, ifF (by decide +kernel) ?_⟩⟩
    have st10 := st9.new (o := .lst [.int 1, .int 2, .int 3, .int 9]) n5
    refine ⟨_, rfl, rfl, _, rfl, ifF (by decide +kernel) ?_⟩
    refine ⟨_, rfl, rfl, _, rfl, ifT (by decide +kernel) ?_⟩
    refine ⟨_, rfl, _, rfl, _, rfl, by show 3 ≤ sizeLine; decide, fun pt nt => q pt _ _ (st10.new nt) (SqT.of upd_same) ⟨ws, nu, fs, rfl, hws, hnu, hfs⟩ ?_ (by simp)⟩
    intro x hx
    simp only [List.mem_cons, List.not_mem_nil, or_false] at hx
    rcases hx with rfl | rfl | rfl
    · exact wA
    · exact nA
    · exact fA
  · refine ⟨_, rfl, by show 5 ≤ sizeLine; decide, fun p4 n4 => ⟨p4, _, rfl, .inl (SqL.of upd_same), rfl, rfl, _, rfl, ifF (by decide +kernel) ?_⟩⟩
    have st9 := st8.new (o := .lst [.int 0, .int 8, .int 11, .int 12, .int 15]) n4
    refine ⟨_, rfl, by show 4 ≤ sizeLine; decide, fun p5 n5 => ⟨p5, _, rfl, .inl (SqL.of upd_same), rfl, rfl, _, rfl, ifF (by decide +kernel) ?_⟩⟩
    have st10 := st9.new (o := .lst [.int 1, .int 2, .int 3, .int 9]) n5
    refine ⟨_, rfl, rfl, _, rfl, ifF (by decide +kernel) ?_⟩
    refine ⟨_, rfl, rfl, _, rfl, ifF (by decide +kernel) ?_⟩
    refine ⟨_, rfl, rfl, _, rfl, ifT (by decide +kernel) ?_⟩
    refine ⟨_, rfl, _, rfl, _, rfl, by show 2 ≤ sizeLine; decide, fun p6 n6 => ?_⟩
    have st11 := st10.new (o := .lst [.int nu, .non]) n6
    refine ⟨a, _, rfl, st11.s, .inl ⟨p6, _, rfl, (st10.s.ne n6).symm, SqL.of upd_same, by simp, by simp, fun pl H9 hp t9 => ?_⟩⟩
    have st12 := st11.trans t9
    have pA : AtomV pl := by
      simp only [List.mem_cons, List.not_mem_nil, or_false] at hp
      rcases hp with rfl | rfl
      · exact nA
      · exact .inr (.inr rfl)
    refine ⟨by show 2 ≤ sizeLine; decide, fun pt nt => q pt _ _ (st12.new nt) (SqT.of upd_same) ⟨ws, pl, rfl, hws⟩ ?_ (by simp)⟩
    intro x hx
    simp only [List.mem_cons, List.not_mem_nil, or_false] at hx
    rcases hx with rfl | rfl
    · exact wA
    · exact pA
  · refine ⟨_, rfl, by show 5 ≤ sizeLine; decide, fun p4 n4 => ⟨p4, _, rfl, .inl (SqL.of upd_same), rfl, rfl, _, rfl, ifF (by decide +kernel) ?_⟩⟩
    have st9 := st8.new (o := .lst [.int 0, .int 8, .int 11, .int 12, .int 15]) n4
    refine ⟨_, rfl, by show 4 ≤ sizeLine; decide, fun p5 n5 => ⟨p5, _, rfl, .inl (SqL.of upd_same), rfl, rfl, _, rfl, ifF (by decide +kernel) ?_⟩⟩
    have st10 := st9.new (o := .lst [.int 1, .int 2, .int 3, .int 9]) n5
    refine ⟨_, rfl, rfl, _, rfl, ifF (by decide +kernel) ?_⟩
    refine ⟨_, rfl, rfl, _, rfl, ifF (by decide +kernel) ?_⟩
    refine ⟨_, rfl, rfl, _, rfl, ifF (by decide +kernel) ?_⟩
    refine ⟨by show 0 ≤ sizeLine; decide, fun pt nt => q pt _ _ (st10.new nt) (SqT.of upd_same) rfl ?_ (by simp)⟩
    intro x hx
    cases hx
  · refine ⟨_, rfl, by show 5 ≤ sizeLine; decide, fun p4 n4 => ⟨p4, _, rfl, .inl (SqL.of upd_same), rfl, rfl, _, rfl, ifT (by decide +kernel) ?_⟩⟩
    have st9 := st8.new (o := .lst [.int 0, .int 8, .int 11, .int 12, .int 15]) n4
    refine ⟨_, rfl, by show 1 ≤ sizeLine; decide, fun pt nt => q pt _ _ (st9.new nt) (SqT.of upd_same) ⟨nu, rfl, hnu⟩ ?_ (by simp)⟩
    intro x hx
    simp only [List.mem_cons, List.not_mem_nil, or_false] at hx
    rw [hx]
    exact nA
  · refine ⟨_, rfl, by show 5 ≤ sizeLine; decide, fun p4 n4 => ⟨p4, _, rfl, .inl (SqL.of upd_same), rfl, rfl, _, rfl, ifF (by decide +kernel) ?_⟩⟩
    have st9 := st8.new (o := .lst [.int 0, .int 8, .int 11, .int 12, .int 15]) n4
    refine ⟨_, rfl, by show 4 ≤ sizeLine; decide, fun p5 n5 => ⟨p5, _, rfl, .inl (SqL.of upd_same), rfl, rfl, _, rfl, ifT (by decide +kernel) ?_⟩⟩
    have st10 := st9.new (o := .lst [.int 1, .int 2, .int 3, .int 9]) n5
    refine ⟨_, rfl, by show 1 ≤ sizeLine; decide, fun pt nt => q pt _ _ (st10.new nt) (SqT.of upd_same) ⟨ws, rfl, hws⟩ ?_ (by simp)⟩
    intro x hx
    simp only [List.mem_cons, List.not_mem_nil, or_false] at hx
    rw [hx]
    exact wA
  · refine ⟨_, rfl, by show 5 ≤ sizeLine; decide, fun p4 n4 => ⟨p4, _, rfl, .inl (SqL.of upd_same), rfl, rfl, _, rfl, ifF (by decide +kernel) ?_⟩⟩
    have st9 := st8.new (o := .lst [.int 0, .int 8, .int 11, .int 12, .int 15]) n4
    refine ⟨_, rfl, by show 4 ≤ sizeLine; decide, fun p5 n5 => ⟨p5, _, rfl, .inl (SqL.of upd_same), rfl, rfl, _, rfl, ifF (by decide +kernel) ?_⟩⟩
    have st10 := st9.new (o := .lst [.int 1, .int 2, .int 3, .int 9]) n5
    refine ⟨_, rfl, rfl, _, rfl, ifF (by decide +kernel) ?_⟩
    refine ⟨_, rfl, rfl, _, rfl, ifF (by decide +kernel) ?_⟩
    refine ⟨_, rfl, rfl, _, rfl, ifF (by decide +kernel) ?_⟩
    refine ⟨by show 0 ≤ sizeLine; decide, fun pt nt => q pt _ _ (st10.new nt) (SqT.of upd_same) rfl ?_ (by simp)⟩
    intro x hx
    cases hx
  · refine ⟨_, rfl, by show 5 ≤ sizeLine; decide, fun p4 n4 => ⟨p4, _, rfl, .inl (SqL.of upd_same), rfl, rfl, _, rfl, ifT (by decide +kernel) ?_⟩⟩
    have st9 := st8.new (o := .lst [.int 0, .int 8, .int 11, .int 12, .int 15]) n4
    refine ⟨_, rfl, by show 1 ≤ sizeLine; decide, fun pt nt => q pt _ _ (st9.new nt) (SqT.of upd_same) ⟨nu, rfl, hnu⟩ ?_ (by simp)⟩
    intro x hx
    simp only [List.mem_cons, List.not_mem_nil, or_false] at hx
    rw [hx]
    exact nA
  · refine ⟨_, rfl, by show 5 ≤ sizeLine; decide, fun p4 n4 => ⟨p4, _, rfl, .inl (SqL.of upd_same), rfl, rfl, _, rfl, ifT (by decide +kernel) ?_⟩⟩
    have st9 := st8.new (o := .lst [.int 0, .int 8, .int 11, .int 12, .int 15]) n4
    refine ⟨_, rfl, by show 1 ≤ sizeLine; decide, fun pt nt => q pt _ _ (st9.new nt) (SqT.of upd_same) ⟨nu, rfl, hnu⟩ ?_ (by simp)⟩
    intro x hx
    simp only [List.mem_cons, List.not_mem_nil, or_false] at hx
    rw [hx]
    exact nA
  · refine ⟨_, rfl, by show 5 ≤ sizeLine; decide, fun p4 n4 => ⟨p4, _, rfl, .inl (SqL.of upd_same), rfl, rfl, _, rfl, ifF (by decide +kernel) ?_⟩⟩
    have st9 := st8.new (o := .lst [.int 0, .int 8, .int 11, .int 12, .int 15]) n4
    refine ⟨_, rfl, by show 4 ≤ sizeLine; decide, fun p5 n5 => ⟨p5, _, rfl, .inl (SqL.of upd_same), rfl, rfl, _, rfl, ifF (by decide +kernel) ?_⟩⟩
    have st10 := st9.new (o := .lst [.int 1, .int 2, .int 3, .int 9]) n5
    refine ⟨_, rfl, rfl, _, rfl, ifF (by decide +kernel) ?_⟩
    refine ⟨_, rfl, rfl, _, rfl, ifF (by decide +kernel) ?_⟩
    refine ⟨_, rfl, rfl, _, rfl, ifF (by decide +kernel) ?_⟩
    refine ⟨by show 0 ≤ sizeLine; decide, fun pt nt => q pt _ _ (st10.new nt) (SqT.of upd_same) rfl ?_ (by simp)⟩
    intro x hx
    cases hx
  · refine ⟨_, rfl, by show 5 ≤ sizeLine; decide, fun p4 n4 => ⟨p4, _, rfl, .inl (SqL.of upd_same), rfl, rfl, _, rfl, ifF (by decide +kernel) ?_⟩⟩
    have st9 := st8.new (o := .lst [.int 0, .int 8, .int 11, .int 12, .int 15]) n4
    refine ⟨_, rfl, by show 4 ≤ sizeLine; decide, fun p5 n5 => ⟨p5, _, rfl, .inl (SqL.of upd_same), rfl, rfl, _, rfl, ifF (by decide +kernel) ?_⟩⟩
    have st10 := st9.new (o := .lst [.int 1, .int 2, .int 3, .int 9]) n5
    refine ⟨_, rfl, rfl, _, rfl, ifF (by decide +kernel) ?_⟩
    refine ⟨_, rfl, rfl, _, rfl, ifF (by decide +kernel) ?_⟩
    refine ⟨_, rfl, rfl, _, rfl, ifF (by decide +kernel) ?_⟩
    refine ⟨by show 0 ≤ sizeLine; decide, fun pt nt => q pt _ _ (st10.new nt) (SqT.of upd_same) rfl ?_ (by simp)⟩
    intro x hx
    cases hx
  · refine ⟨_, rfl, by show 5 ≤ sizeLine; decide, fun p4 n4 => ⟨p4, _, rfl, .inl (SqL.of upd_same), rfl, rfl, _, rfl, ifT (by decide +kernel) ?_⟩⟩
    have st9 := st8.new (o := .lst [.int 0, .int 8, .int 11, .int 12, .int 15]) n4
    refine ⟨_, rfl, by show 1 ≤ sizeLine; decide, fun pt nt => q pt _ _ (st9.new nt) (SqT.of upd_same) ⟨nu, rfl, hnu⟩ ?_ (by simp)⟩
    intro x hx
    simp only [List.mem_cons, List.not_mem_nil, or_false] at hx
    rw [hx]
    exact nA
end
open PySem L2 L2H ExV
/-! ### the law -/
def spLaw (K : PySem.W.Frag) : Sp := fun vs H Q _ => ∃ (a : Addr) (ns : List Int), vs = [.ref a] ∧ SqL K H a (ns.map V.int) ∧ ns.length ≤ 63 ∧ ∀ H', Q (.bl true) H'
section
variable {w : World} {K : PySem.W.Frag} {mg : Str → Option Value} {base : Heap}
theorem ok_law (T : Txt w K mg) : FnOk PWX w K mg base CX0 6 T.a_law T.d_law p_law (spLaw K) := by
  have g_l_cell := ok_l_cell (P := PWX) (K := K) (base := base) T
  have g_l_source := ok_l_source (P := PWX) (base := base) T
  have g_l_given := ok_given (P := PWX) (base := base) T
  have g_l_right := ok_right (base := base) T
  refine T.F_law.ok sc_law (fun vs H Q E h => ?_) (fun cdv A outer s H vs Q E hr h => ?_)
  · obtain ⟨a, ns, rfl, _⟩ := h
    rfl
  obtain ⟨a, ns, rfl, hS, h63, q⟩ := h
  refine ⟨_, (pss_cons (ps_for PassesOwn.never rfl (pi_range1 rfl T.z_range (pa_cons pe_int pa_nil)) (pg_name (i := 1) sc_law.nd rfl (Or.inl rfl))
        (pss_cons (ps_set (i := 2) sc_law.nd rfl (Or.inl rfl) (pe_call g_l_source (hr.mono (by first | decide | omega)) rfl T.m_l_source T.F_l_source.kp T.b_l_source .nil pass0 (pa_cons (pe_op op_add (pe_call g_l_cell (hr.mono (by first | decide | omega)) rfl T.m_l_cell T.F_l_cell.kp T.b_l_cell .nil pass0 (pa_cons (pv 0) (pa_cons (pv 1) pa_nil))) (pv 1)) pa_nil)))
      (pss_one (ps_for PassesOwn.never rfl (pi_range1 rfl T.z_range (pa_cons pe_int pa_nil)) (pg_name (i := 3) sc_law.nd rfl (Or.inl rfl))
        (pss_one (ps_if (pt_not (pt_val (pe_call g_l_right (hr.mono (by first | decide | omega)) rfl T.m_l_right T.F_l_right.kp T.b_l_right .nil pass0 (pa_cons (pv 3) (pa_cons (pe_call g_l_given (hr.mono (by first | decide | omega)) rfl T.m_l_given T.F_l_given.kp T.b_l_given .nil pass0 (pa_cons (pv 2) (pa_cons (pv 3) pa_nil))) pa_nil))))) (pss_one (ps_ret pe_bl)) pss_nil))))))
      (pss_one (ps_ret pe_bl))), ?_⟩
  refine ⟨2, rfl, by omega, by omega, for_range (lo := 0) (fun i σ H' => Same H H' ∧ ∃ v1 v2 v3 : Option V, σ = [some (.ref a), v1, v2, v3]) ⟨Same.refl H, none, none, none, rfl⟩ ?_ ?_⟩
  · rintro i σ H' hi ⟨s, v1, v2, v3, rfl⟩
    refine ⟨_, rfl, _, rfl, a, ns, 0 + (i : Int), rfl, s.seq hS, by omega, fun c => ?_⟩
    refine ⟨_, rfl, c, 0 + (i : Int), rfl, rfl, ?_⟩
    refine ⟨_, rfl, fun src H1 n1 s1 hsrc => ?_⟩
    refine ⟨16, rfl, by omega, by omega, for_range (lo := 0) (fun j σ H2 => Stp src H1 H2 ∧ ∃ v3 : Option V, σ = [some (.ref a), some (.int (0 + (i : Int))), some (.ref src), v3]) ⟨Stp.refl hsrc, v3, rfl⟩ ?_ ?_⟩
    · rintro j σ H2 hj ⟨st, v3, rfl⟩
      have ej : (0 + (j : Int)) = ((j : Nat) : Int) := Int.zero_add _
      refine ⟨_, rfl, _, rfl, _, rfl, src, j, by rw [ej]; rfl, st.s, by omega, fun g xs H3 t3 hg ok at_ hl => ?_⟩
      refine ⟨j, g, xs, by rw [ej]; rfl, by omega, hg, ok, at_, hl, fun H4 s4 => ?_⟩
      exact ⟨_, rfl, iteF ⟨(st.trans t3).same s4, _, rfl⟩⟩
    · rintro σ H2 ⟨st, v3, rfl⟩
      exact ⟨s.trans (Stp.fresh s1 n1 st), _, _, _, rfl⟩
  · rintro σ H' ⟨s, v1, v2, v3, rfl⟩
    exact q _
end
theorem all_mk {w : World} {K : PySem.W.Frag} {h : Heap} {mg : Str → Option Value} {fa : Addr} (X : K.In h) (G : h.Ns mainGlobals mg) (hfa : mg "law" = some (.ref fa))
    {f_l_cell : Addr} {od_l_cell an_l_cell : Option Addr} {sl_l_cell : Array (Option Value)} {oc_l_cell kV_l_cell dc_l_cell pm_l_cell cd_l_cell ct_l_cell : Value}
    (A_l_cell : PySem.W.nsIn K mainGlobals "_law_cell" = some (some (.ref f_l_cell))) (L_l_cell : K.lookup f_l_cell = some ⟨oc_l_cell, od_l_cell, .func (PySem.W.fnOf "_law_cell" "_law_cell" (defArgs s_l_cell) (defBody s_l_cell) (defScope s_l_cell) .none kV_l_cell dc_l_cell pm_l_cell an_l_cell cd_l_cell ct_l_cell), sl_l_cell⟩) (C_l_cell : PySem.W.codeIn K cd_l_cell "_law_cell" = true) (K_l_cell : PySem.W.keepIn K (.ref f_l_cell) = true)
    {f_l_source : Addr} {od_l_source an_l_source : Option Addr} {sl_l_source : Array (Option Value)} {oc_l_source kV_l_source dc_l_source pm_l_source cd_l_source ct_l_source : Value}
    (A_l_source : PySem.W.nsIn K mainGlobals "_law_source" = some (some (.ref f_l_source))) (L_l_source : K.lookup f_l_source = some ⟨oc_l_source, od_l_source, .func (PySem.W.fnOf "_law_source" "_law_source" (defArgs s_l_source) (defBody s_l_source) (defScope s_l_source) .none kV_l_source dc_l_source pm_l_source an_l_source cd_l_source ct_l_source), sl_l_source⟩) (C_l_source : PySem.W.codeIn K cd_l_source "_law_source" = true) (K_l_source : PySem.W.keepIn K (.ref f_l_source) = true)
    {f_l_pick : Addr} {od_l_pick an_l_pick : Option Addr} {sl_l_pick : Array (Option Value)} {oc_l_pick kV_l_pick dc_l_pick pm_l_pick cd_l_pick ct_l_pick : Value}
    (A_l_pick : PySem.W.nsIn K mainGlobals "_law_pick" = some (some (.ref f_l_pick))) (L_l_pick : K.lookup f_l_pick = some ⟨oc_l_pick, od_l_pick, .func (PySem.W.fnOf "_law_pick" "_law_pick" (defArgs s_l_pick) (defBody s_l_pick) (defScope s_l_pick) .none kV_l_pick dc_l_pick pm_l_pick an_l_pick cd_l_pick ct_l_pick), sl_l_pick⟩) (C_l_pick : PySem.W.codeIn K cd_l_pick "_law_pick" = true) (K_l_pick : PySem.W.keepIn K (.ref f_l_pick) = true)
    {f_l_one : Addr} {od_l_one an_l_one : Option Addr} {sl_l_one : Array (Option Value)} {oc_l_one kV_l_one dc_l_one pm_l_one cd_l_one ct_l_one : Value}
    (A_l_one : PySem.W.nsIn K mainGlobals "_law_one" = some (some (.ref f_l_one))) (L_l_one : K.lookup f_l_one = some ⟨oc_l_one, od_l_one, .func (PySem.W.fnOf "_law_one" "_law_one" (defArgs s_l_one) (defBody s_l_one) (defScope s_l_one) .none kV_l_one dc_l_one pm_l_one an_l_one cd_l_one ct_l_one), sl_l_one⟩) (C_l_one : PySem.W.codeIn K cd_l_one "_law_one" = true) (K_l_one : PySem.W.keepIn K (.ref f_l_one) = true)
    {f_l_same : Addr} {od_l_same an_l_same : Option Addr} {sl_l_same : Array (Option Value)} {oc_l_same kV_l_same dc_l_same pm_l_same cd_l_same ct_l_same : Value}
    (A_l_same : PySem.W.nsIn K mainGlobals "_law_same" = some (some (.ref f_l_same))) (L_l_same : K.lookup f_l_same = some ⟨oc_l_same, od_l_same, .func (PySem.W.fnOf "_law_same" "_law_same" (defArgs s_l_same) (defBody s_l_same) (defScope s_l_same) .none kV_l_same dc_l_same pm_l_same an_l_same cd_l_same ct_l_same), sl_l_same⟩) (C_l_same : PySem.W.codeIn K cd_l_same "_law_same" = true) (K_l_same : PySem.W.keepIn K (.ref f_l_same) = true)
    {f_l_given : Addr} {od_l_given an_l_given : Option Addr} {sl_l_given : Array (Option Value)} {oc_l_given kV_l_given dc_l_given pm_l_given cd_l_given ct_l_given : Value}
    (A_l_given : PySem.W.nsIn K mainGlobals "_law_given" = some (some (.ref f_l_given))) (L_l_given : K.lookup f_l_given = some ⟨oc_l_given, od_l_given, .func (PySem.W.fnOf "_law_given" "_law_given" (defArgs s_l_given) (defBody s_l_given) (defScope s_l_given) .none kV_l_given dc_l_given pm_l_given an_l_given cd_l_given ct_l_given), sl_l_given⟩) (C_l_given : PySem.W.codeIn K cd_l_given "_law_given" = true) (K_l_given : PySem.W.keepIn K (.ref f_l_given) = true)
    {f_l_raise : Addr} {od_l_raise an_l_raise : Option Addr} {sl_l_raise : Array (Option Value)} {oc_l_raise kV_l_raise dc_l_raise pm_l_raise cd_l_raise ct_l_raise : Value}
    (A_l_raise : PySem.W.nsIn K mainGlobals "_law_raise" = some (some (.ref f_l_raise))) (L_l_raise : K.lookup f_l_raise = some ⟨oc_l_raise, od_l_raise, .func (PySem.W.fnOf "_law_raise" "_law_raise" (defArgs s_l_raise) (defBody s_l_raise) (defScope s_l_raise) .none kV_l_raise dc_l_raise pm_l_raise an_l_raise cd_l_raise ct_l_raise), sl_l_raise⟩) (C_l_raise : PySem.W.codeIn K cd_l_raise "_law_raise" = true) (K_l_raise : PySem.W.keepIn K (.ref f_l_raise) = true)
    {f_l_marks : Addr} {od_l_marks an_l_marks : Option Addr} {sl_l_marks : Array (Option Value)} {oc_l_marks kV_l_marks dc_l_marks pm_l_marks cd_l_marks ct_l_marks : Value}
    (A_l_marks : PySem.W.nsIn K mainGlobals "_law_marks" = some (some (.ref f_l_marks))) (L_l_marks : K.lookup f_l_marks = some ⟨oc_l_marks, od_l_marks, .func (PySem.W.fnOf "_law_marks" "_law_marks" (defArgs s_l_marks) (defBody s_l_marks) (defScope s_l_marks) .none kV_l_marks dc_l_marks pm_l_marks an_l_marks cd_l_marks ct_l_marks), sl_l_marks⟩) (C_l_marks : PySem.W.codeIn K cd_l_marks "_law_marks" = true) (K_l_marks : PySem.W.keepIn K (.ref f_l_marks) = true)
    {f_l_attributes : Addr} {od_l_attributes an_l_attributes : Option Addr} {sl_l_attributes : Array (Option Value)} {oc_l_attributes kV_l_attributes dc_l_attributes pm_l_attributes cd_l_attributes ct_l_attributes : Value}
    (A_l_attributes : PySem.W.nsIn K mainGlobals "_law_attributes" = some (some (.ref f_l_attributes))) (L_l_attributes : K.lookup f_l_attributes = some ⟨oc_l_attributes, od_l_attributes, .func (PySem.W.fnOf "_law_attributes" "_law_attributes" (defArgs s_l_attributes) (defBody s_l_attributes) (defScope s_l_attributes) .none kV_l_attributes dc_l_attributes pm_l_attributes an_l_attributes cd_l_attributes ct_l_attributes), sl_l_attributes⟩) (C_l_attributes : PySem.W.codeIn K cd_l_attributes "_law_attributes" = true) (K_l_attributes : PySem.W.keepIn K (.ref f_l_attributes) = true)
    {f_l_right : Addr} {od_l_right an_l_right : Option Addr} {sl_l_right : Array (Option Value)} {oc_l_right kV_l_right dc_l_right pm_l_right cd_l_right ct_l_right : Value}
    (A_l_right : PySem.W.nsIn K mainGlobals "_law_right" = some (some (.ref f_l_right))) (L_l_right : K.lookup f_l_right = some ⟨oc_l_right, od_l_right, .func (PySem.W.fnOf "_law_right" "_law_right" (defArgs s_l_right) (defBody s_l_right) (defScope s_l_right) .none kV_l_right dc_l_right pm_l_right an_l_right cd_l_right ct_l_right), sl_l_right⟩) (C_l_right : PySem.W.codeIn K cd_l_right "_law_right" = true) (K_l_right : PySem.W.keepIn K (.ref f_l_right) = true)
    {f_law : Addr} {od_law an_law : Option Addr} {sl_law : Array (Option Value)} {oc_law kV_law dc_law pm_law cd_law ct_law : Value}
    (A_law : PySem.W.nsIn K mainGlobals "law" = some (some (.ref f_law))) (L_law : K.lookup f_law = some ⟨oc_law, od_law, .func (PySem.W.fnOf "law" "law" (defArgs s_law) (defBody s_law) (defScope s_law) .none kV_law dc_law pm_law an_law cd_law ct_law), sl_law⟩) (C_law : PySem.W.codeIn K cd_law "law" = true) (K_law : PySem.W.keepIn K (.ref f_law) = true)
    {C_NeverError : Addr} (A_NeverError : PySem.W.nsIn K mainGlobals "NeverError" = some (some (.ref C_NeverError))) (X_NeverError : excB K C_NeverError [] = true)
    {C_BadText : Addr} (A_BadText : PySem.W.nsIn K mainGlobals "BadText" = some (some (.ref C_BadText))) (X_BadText : excB K C_BadText ["line"] = true)
    {nm_BadText q_BadText : Str} {N_BadText : Addr} {bs_BadText bm_BadText sub_BadText : List Value} {sn_BadText : List Str} {ab_BadText : Bool} {col_BadText : Option Bool} {dd_BadText : Option Addr} {m0_BadText m1_BadText m2_BadText m3_BadText m5_BadText : Option Value} (xL_BadText : K.lookup C_BadText = some (PySem.excClassObj nm_BadText q_BadText C_BadText N_BadText bs_BadText bm_BadText true sn_BadText sub_BadText ab_BadText col_BadText dd_BadText m0_BadText m1_BadText m2_BadText m3_BadText m5_BadText "ValueError.__new__")) (rV_BadText : PySem.HandSPX.refsVE bm_BadText = true)
    {f_BadText_init cda_BadText_init cc_BadText_init : Addr} {od_BadText_init an_BadText_init cdd_BadText_init cld_BadText_init : Option Addr} {sl_BadText_init ccs_BadText_init csl_BadText_init : Array (Option Value)} {vs_BadText_init : Array Value} {file_BadText_init : Str} {tf_BadText_init : Tok} {oc_BadText_init kV_BadText_init dc_BadText_init pm_BadText_init ct_BadText_init ccl_BadText_init cl_BadText_init : Value}
    (iC_BadText : PySem.W.findIn K (.ref C_BadText) "__init__" = some (some (.ref f_BadText_init))) (tI_BadText : PySem.W.typeIn K (.ref f_BadText_init) = some (.type "function"))
    (L_BadText_init : K.lookup f_BadText_init = some ⟨oc_BadText_init, od_BadText_init, .func (PySem.W.ksFn "__init__" "BadText.__init__" (defArgs s_BadText_init) (defBody s_BadText_init) (defScope s_BadText_init) .none kV_BadText_init dc_BadText_init pm_BadText_init an_BadText_init (.ref cda_BadText_init) ct_BadText_init cc_BadText_init), sl_BadText_init⟩) (cd_BadText : PySem.W.codeIn K (.ref cda_BadText_init) "BadText.__init__" = true)
    (ck_BadText : K.lookup cda_BadText_init = some ⟨ccl_BadText_init, cdd_BadText_init, .fields vs_BadText_init, ccs_BadText_init⟩) (cv_BadText : vs_BadText_init[2]? = some (.str file_BadText_init tf_BadText_init)) (cf_BadText : ((PWX.main.file : Str) == file_BadText_init) = true) (cc_BadText : K.lookup cc_BadText_init = some ⟨cl_BadText_init, cld_BadText_init, .cell (some (.ref C_BadText)), csl_BadText_init⟩) (sp_BadText : supB K C_BadText = true)
    {C_Twice : Addr} (A_Twice : PySem.W.nsIn K mainGlobals "Twice" = some (some (.ref C_Twice))) (X_Twice : excB K C_Twice ["name"] = true)
    {nm_Twice q_Twice : Str} {N_Twice : Addr} {bs_Twice bm_Twice sub_Twice : List Value} {sn_Twice : List Str} {ab_Twice : Bool} {col_Twice : Option Bool} {dd_Twice : Option Addr} {m0_Twice m1_Twice m2_Twice m3_Twice m5_Twice : Option Value} (xL_Twice : K.lookup C_Twice = some (PySem.excClassObj nm_Twice q_Twice C_Twice N_Twice bs_Twice bm_Twice true sn_Twice sub_Twice ab_Twice col_Twice dd_Twice m0_Twice m1_Twice m2_Twice m3_Twice m5_Twice "ValueError.__new__")) (rV_Twice : PySem.HandSPX.refsVE bm_Twice = true)
    {f_Twice_init cda_Twice_init cc_Twice_init : Addr} {od_Twice_init an_Twice_init cdd_Twice_init cld_Twice_init : Option Addr} {sl_Twice_init ccs_Twice_init csl_Twice_init : Array (Option Value)} {vs_Twice_init : Array Value} {file_Twice_init : Str} {tf_Twice_init : Tok} {oc_Twice_init kV_Twice_init dc_Twice_init pm_Twice_init ct_Twice_init ccl_Twice_init cl_Twice_init : Value}
    (iC_Twice : PySem.W.findIn K (.ref C_Twice) "__init__" = some (some (.ref f_Twice_init))) (tI_Twice : PySem.W.typeIn K (.ref f_Twice_init) = some (.type "function"))
    (L_Twice_init : K.lookup f_Twice_init = some ⟨oc_Twice_init, od_Twice_init, .func (PySem.W.ksFn "__init__" "Twice.__init__" (defArgs s_Twice_init) (defBody s_Twice_init) (defScope s_Twice_init) .none kV_Twice_init dc_Twice_init pm_Twice_init an_Twice_init (.ref cda_Twice_init) ct_Twice_init cc_Twice_init), sl_Twice_init⟩) (cd_Twice : PySem.W.codeIn K (.ref cda_Twice_init) "Twice.__init__" = true)
    (ck_Twice : K.lookup cda_Twice_init = some ⟨ccl_Twice_init, cdd_Twice_init, .fields vs_Twice_init, ccs_Twice_init⟩) (cv_Twice : vs_Twice_init[2]? = some (.str file_Twice_init tf_Twice_init)) (cf_Twice : ((PWX.main.file : Str) == file_Twice_init) = true) (cc_Twice : K.lookup cc_Twice_init = some ⟨cl_Twice_init, cld_Twice_init, .cell (some (.ref C_Twice)), csl_Twice_init⟩) (sp_Twice : supB K C_Twice = true)
    {C_Unknown : Addr} (A_Unknown : PySem.W.nsIn K mainGlobals "Unknown" = some (some (.ref C_Unknown))) (X_Unknown : excB K C_Unknown ["name"] = true)
    {nm_Unknown q_Unknown : Str} {N_Unknown : Addr} {bs_Unknown bm_Unknown sub_Unknown : List Value} {sn_Unknown : List Str} {ab_Unknown : Bool} {col_Unknown : Option Bool} {dd_Unknown : Option Addr} {m0_Unknown m1_Unknown m2_Unknown m3_Unknown m5_Unknown : Option Value} (xL_Unknown : K.lookup C_Unknown = some (PySem.excClassObj nm_Unknown q_Unknown C_Unknown N_Unknown bs_Unknown bm_Unknown true sn_Unknown sub_Unknown ab_Unknown col_Unknown dd_Unknown m0_Unknown m1_Unknown m2_Unknown m3_Unknown m5_Unknown "ValueError.__new__")) (rV_Unknown : PySem.HandSPX.refsVE bm_Unknown = true)
    {f_Unknown_init cda_Unknown_init cc_Unknown_init : Addr} {od_Unknown_init an_Unknown_init cdd_Unknown_init cld_Unknown_init : Option Addr} {sl_Unknown_init ccs_Unknown_init csl_Unknown_init : Array (Option Value)} {vs_Unknown_init : Array Value} {file_Unknown_init : Str} {tf_Unknown_init : Tok} {oc_Unknown_init kV_Unknown_init dc_Unknown_init pm_Unknown_init ct_Unknown_init ccl_Unknown_init cl_Unknown_init : Value}
    (iC_Unknown : PySem.W.findIn K (.ref C_Unknown) "__init__" = some (some (.ref f_Unknown_init))) (tI_Unknown : PySem.W.typeIn K (.ref f_Unknown_init) = some (.type "function"))
    (L_Unknown_init : K.lookup f_Unknown_init = some ⟨oc_Unknown_init, od_Unknown_init, .func (PySem.W.ksFn "__init__" "Unknown.__init__" (defArgs s_Unknown_init) (defBody s_Unknown_init) (defScope s_Unknown_init) .none kV_Unknown_init dc_Unknown_init pm_Unknown_init an_Unknown_init (.ref cda_Unknown_init) ct_Unknown_init cc_Unknown_init), sl_Unknown_init⟩) (cd_Unknown : PySem.W.codeIn K (.ref cda_Unknown_init) "Unknown.__init__" = true)
    (ck_Unknown : K.lookup cda_Unknown_init = some ⟨ccl_Unknown_init, cdd_Unknown_init, .fields vs_Unknown_init, ccs_Unknown_init⟩) (cv_Unknown : vs_Unknown_init[2]? = some (.str file_Unknown_init tf_Unknown_init)) (cf_Unknown : ((PWX.main.file : Str) == file_Unknown_init) = true) (cc_Unknown : K.lookup cc_Unknown_init = some ⟨cl_Unknown_init, cld_Unknown_init, .cell (some (.ref C_Unknown)), csl_Unknown_init⟩) (sp_Unknown : supB K C_Unknown = true)
    {C_BadKind : Addr} (A_BadKind : PySem.W.nsIn K mainGlobals "BadKind" = some (some (.ref C_BadKind))) (X_BadKind : excB K C_BadKind ["name"] = true)
    {nm_BadKind q_BadKind : Str} {N_BadKind : Addr} {bs_BadKind bm_BadKind sub_BadKind : List Value} {sn_BadKind : List Str} {ab_BadKind : Bool} {col_BadKind : Option Bool} {dd_BadKind : Option Addr} {m0_BadKind m1_BadKind m2_BadKind m3_BadKind m5_BadKind : Option Value} (xL_BadKind : K.lookup C_BadKind = some (PySem.excClassObj nm_BadKind q_BadKind C_BadKind N_BadKind bs_BadKind bm_BadKind true sn_BadKind sub_BadKind ab_BadKind col_BadKind dd_BadKind m0_BadKind m1_BadKind m2_BadKind m3_BadKind m5_BadKind "ValueError.__new__")) (rV_BadKind : PySem.HandSPX.refsVE bm_BadKind = true)
    {f_BadKind_init cda_BadKind_init cc_BadKind_init : Addr} {od_BadKind_init an_BadKind_init cdd_BadKind_init cld_BadKind_init : Option Addr} {sl_BadKind_init ccs_BadKind_init csl_BadKind_init : Array (Option Value)} {vs_BadKind_init : Array Value} {file_BadKind_init : Str} {tf_BadKind_init : Tok} {oc_BadKind_init kV_BadKind_init dc_BadKind_init pm_BadKind_init ct_BadKind_init ccl_BadKind_init cl_BadKind_init : Value}
    (iC_BadKind : PySem.W.findIn K (.ref C_BadKind) "__init__" = some (some (.ref f_BadKind_init))) (tI_BadKind : PySem.W.typeIn K (.ref f_BadKind_init) = some (.type "function"))
    (L_BadKind_init : K.lookup f_BadKind_init = some ⟨oc_BadKind_init, od_BadKind_init, .func (PySem.W.ksFn "__init__" "BadKind.__init__" (defArgs s_BadKind_init) (defBody s_BadKind_init) (defScope s_BadKind_init) .none kV_BadKind_init dc_BadKind_init pm_BadKind_init an_BadKind_init (.ref cda_BadKind_init) ct_BadKind_init cc_BadKind_init), sl_BadKind_init⟩) (cd_BadKind : PySem.W.codeIn K (.ref cda_BadKind_init) "BadKind.__init__" = true)
    (ck_BadKind : K.lookup cda_BadKind_init = some ⟨ccl_BadKind_init, cdd_BadKind_init, .fields vs_BadKind_init, ccs_BadKind_init⟩) (cv_BadKind : vs_BadKind_init[2]? = some (.str file_BadKind_init tf_BadKind_init)) (cf_BadKind : ((PWX.main.file : Str) == file_BadKind_init) = true) (cc_BadKind : K.lookup cc_BadKind_init = some ⟨cl_BadKind_init, cld_BadKind_init, .cell (some (.ref C_BadKind)), csl_BadKind_init⟩) (sp_BadKind : supB K C_BadKind = true)
    {C_WrongKind : Addr} (A_WrongKind : PySem.W.nsIn K mainGlobals "WrongKind" = some (some (.ref C_WrongKind))) (X_WrongKind : excB K C_WrongKind ["function", "place"] = true)
    {nm_WrongKind q_WrongKind : Str} {N_WrongKind : Addr} {bs_WrongKind bm_WrongKind sub_WrongKind : List Value} {sn_WrongKind : List Str} {ab_WrongKind : Bool} {col_WrongKind : Option Bool} {dd_WrongKind : Option Addr} {m0_WrongKind m1_WrongKind m2_WrongKind m3_WrongKind m5_WrongKind : Option Value} (xL_WrongKind : K.lookup C_WrongKind = some (PySem.excClassObj nm_WrongKind q_WrongKind C_WrongKind N_WrongKind bs_WrongKind bm_WrongKind true sn_WrongKind sub_WrongKind ab_WrongKind col_WrongKind dd_WrongKind m0_WrongKind m1_WrongKind m2_WrongKind m3_WrongKind m5_WrongKind "ValueError.__new__")) (rV_WrongKind : PySem.HandSPX.refsVE bm_WrongKind = true)
    {f_WrongKind_init cda_WrongKind_init cc_WrongKind_init : Addr} {od_WrongKind_init an_WrongKind_init cdd_WrongKind_init cld_WrongKind_init : Option Addr} {sl_WrongKind_init ccs_WrongKind_init csl_WrongKind_init : Array (Option Value)} {vs_WrongKind_init : Array Value} {file_WrongKind_init : Str} {tf_WrongKind_init : Tok} {oc_WrongKind_init kV_WrongKind_init dc_WrongKind_init pm_WrongKind_init ct_WrongKind_init ccl_WrongKind_init cl_WrongKind_init : Value}
    (iC_WrongKind : PySem.W.findIn K (.ref C_WrongKind) "__init__" = some (some (.ref f_WrongKind_init))) (tI_WrongKind : PySem.W.typeIn K (.ref f_WrongKind_init) = some (.type "function"))
    (L_WrongKind_init : K.lookup f_WrongKind_init = some ⟨oc_WrongKind_init, od_WrongKind_init, .func (PySem.W.ksFn "__init__" "WrongKind.__init__" (defArgs s_WrongKind_init) (defBody s_WrongKind_init) (defScope s_WrongKind_init) .none kV_WrongKind_init dc_WrongKind_init pm_WrongKind_init an_WrongKind_init (.ref cda_WrongKind_init) ct_WrongKind_init cc_WrongKind_init), sl_WrongKind_init⟩) (cd_WrongKind : PySem.W.codeIn K (.ref cda_WrongKind_init) "WrongKind.__init__" = true)
    (ck_WrongKind : K.lookup cda_WrongKind_init = some ⟨ccl_WrongKind_init, cdd_WrongKind_init, .fields vs_WrongKind_init, ccs_WrongKind_init⟩) (cv_WrongKind : vs_WrongKind_init[2]? = some (.str file_WrongKind_init tf_WrongKind_init)) (cf_WrongKind : ((PWX.main.file : Str) == file_WrongKind_init) = true) (cc_WrongKind : K.lookup cc_WrongKind_init = some ⟨cl_WrongKind_init, cld_WrongKind_init, .cell (some (.ref C_WrongKind)), csl_WrongKind_init⟩) (sp_WrongKind : supB K C_WrongKind = true)
    {C_NoSite : Addr} (A_NoSite : PySem.W.nsIn K mainGlobals "NoSite" = some (some (.ref C_NoSite))) (X_NoSite : excB K C_NoSite ["function", "place", "fault"] = true)
    {nm_NoSite q_NoSite : Str} {N_NoSite : Addr} {bs_NoSite bm_NoSite sub_NoSite : List Value} {sn_NoSite : List Str} {ab_NoSite : Bool} {col_NoSite : Option Bool} {dd_NoSite : Option Addr} {m0_NoSite m1_NoSite m2_NoSite m3_NoSite m5_NoSite : Option Value} (xL_NoSite : K.lookup C_NoSite = some (PySem.excClassObj nm_NoSite q_NoSite C_NoSite N_NoSite bs_NoSite bm_NoSite true sn_NoSite sub_NoSite ab_NoSite col_NoSite dd_NoSite m0_NoSite m1_NoSite m2_NoSite m3_NoSite m5_NoSite "ValueError.__new__")) (rV_NoSite : PySem.HandSPX.refsVE bm_NoSite = true)
    {f_NoSite_init cda_NoSite_init cc_NoSite_init : Addr} {od_NoSite_init an_NoSite_init cdd_NoSite_init cld_NoSite_init : Option Addr} {sl_NoSite_init ccs_NoSite_init csl_NoSite_init : Array (Option Value)} {vs_NoSite_init : Array Value} {file_NoSite_init : Str} {tf_NoSite_init : Tok} {oc_NoSite_init kV_NoSite_init dc_NoSite_init pm_NoSite_init ct_NoSite_init ccl_NoSite_init cl_NoSite_init : Value}
    (iC_NoSite : PySem.W.findIn K (.ref C_NoSite) "__init__" = some (some (.ref f_NoSite_init))) (tI_NoSite : PySem.W.typeIn K (.ref f_NoSite_init) = some (.type "function"))
    (L_NoSite_init : K.lookup f_NoSite_init = some ⟨oc_NoSite_init, od_NoSite_init, .func (PySem.W.ksFn "__init__" "NoSite.__init__" (defArgs s_NoSite_init) (defBody s_NoSite_init) (defScope s_NoSite_init) .none kV_NoSite_init dc_NoSite_init pm_NoSite_init an_NoSite_init (.ref cda_NoSite_init) ct_NoSite_init cc_NoSite_init), sl_NoSite_init⟩) (cd_NoSite : PySem.W.codeIn K (.ref cda_NoSite_init) "NoSite.__init__" = true)
    (ck_NoSite : K.lookup cda_NoSite_init = some ⟨ccl_NoSite_init, cdd_NoSite_init, .fields vs_NoSite_init, ccs_NoSite_init⟩) (cv_NoSite : vs_NoSite_init[2]? = some (.str file_NoSite_init tf_NoSite_init)) (cf_NoSite : ((PWX.main.file : Str) == file_NoSite_init) = true) (cc_NoSite : K.lookup cc_NoSite_init = some ⟨cl_NoSite_init, cld_NoSite_init, .cell (some (.ref C_NoSite)), csl_NoSite_init⟩) (sp_NoSite : supB K C_NoSite = true)
    {C_NoPlace : Addr} (A_NoPlace : PySem.W.nsIn K mainGlobals "NoPlace" = some (some (.ref C_NoPlace))) (X_NoPlace : excB K C_NoPlace ["function", "place"] = true)
    {nm_NoPlace q_NoPlace : Str} {N_NoPlace : Addr} {bs_NoPlace bm_NoPlace sub_NoPlace : List Value} {sn_NoPlace : List Str} {ab_NoPlace : Bool} {col_NoPlace : Option Bool} {dd_NoPlace : Option Addr} {m0_NoPlace m1_NoPlace m2_NoPlace m3_NoPlace m5_NoPlace : Option Value} (xL_NoPlace : K.lookup C_NoPlace = some (PySem.excClassObj nm_NoPlace q_NoPlace C_NoPlace N_NoPlace bs_NoPlace bm_NoPlace true sn_NoPlace sub_NoPlace ab_NoPlace col_NoPlace dd_NoPlace m0_NoPlace m1_NoPlace m2_NoPlace m3_NoPlace m5_NoPlace "ValueError.__new__")) (rV_NoPlace : PySem.HandSPX.refsVE bm_NoPlace = true)
    {f_NoPlace_init cda_NoPlace_init cc_NoPlace_init : Addr} {od_NoPlace_init an_NoPlace_init cdd_NoPlace_init cld_NoPlace_init : Option Addr} {sl_NoPlace_init ccs_NoPlace_init csl_NoPlace_init : Array (Option Value)} {vs_NoPlace_init : Array Value} {file_NoPlace_init : Str} {tf_NoPlace_init : Tok} {oc_NoPlace_init kV_NoPlace_init dc_NoPlace_init pm_NoPlace_init ct_NoPlace_init ccl_NoPlace_init cl_NoPlace_init : Value}
    (iC_NoPlace : PySem.W.findIn K (.ref C_NoPlace) "__init__" = some (some (.ref f_NoPlace_init))) (tI_NoPlace : PySem.W.typeIn K (.ref f_NoPlace_init) = some (.type "function"))
    (L_NoPlace_init : K.lookup f_NoPlace_init = some ⟨oc_NoPlace_init, od_NoPlace_init, .func (PySem.W.ksFn "__init__" "NoPlace.__init__" (defArgs s_NoPlace_init) (defBody s_NoPlace_init) (defScope s_NoPlace_init) .none kV_NoPlace_init dc_NoPlace_init pm_NoPlace_init an_NoPlace_init (.ref cda_NoPlace_init) ct_NoPlace_init cc_NoPlace_init), sl_NoPlace_init⟩) (cd_NoPlace : PySem.W.codeIn K (.ref cda_NoPlace_init) "NoPlace.__init__" = true)
    (ck_NoPlace : K.lookup cda_NoPlace_init = some ⟨ccl_NoPlace_init, cdd_NoPlace_init, .fields vs_NoPlace_init, ccs_NoPlace_init⟩) (cv_NoPlace : vs_NoPlace_init[2]? = some (.str file_NoPlace_init tf_NoPlace_init)) (cf_NoPlace : ((PWX.main.file : Str) == file_NoPlace_init) = true) (cc_NoPlace : K.lookup cc_NoPlace_init = some ⟨cl_NoPlace_init, cld_NoPlace_init, .cell (some (.ref C_NoPlace)), csl_NoPlace_init⟩) (sp_NoPlace : supB K C_NoPlace = true)
    {C_NotAccepted : Addr} (A_NotAccepted : PySem.W.nsIn K mainGlobals "NotAccepted" = some (some (.ref C_NotAccepted))) (X_NotAccepted : excB K C_NotAccepted [] = true)
    {nm_NotAccepted q_NotAccepted : Str} {N_NotAccepted : Addr} {bs_NotAccepted bm_NotAccepted sub_NotAccepted : List Value} {sn_NotAccepted : List Str} {ab_NotAccepted : Bool} {col_NotAccepted : Option Bool} {dd_NotAccepted : Option Addr} {m0_NotAccepted m1_NotAccepted m2_NotAccepted m3_NotAccepted m5_NotAccepted : Option Value} (xL_NotAccepted : K.lookup C_NotAccepted = some (PySem.excClassObj nm_NotAccepted q_NotAccepted C_NotAccepted N_NotAccepted bs_NotAccepted bm_NotAccepted true sn_NotAccepted sub_NotAccepted ab_NotAccepted col_NotAccepted dd_NotAccepted m0_NotAccepted m1_NotAccepted m2_NotAccepted m3_NotAccepted m5_NotAccepted "ValueError.__new__")) (rV_NotAccepted : PySem.HandSPX.refsVE bm_NotAccepted = true)
    {f_NotAccepted_init cda_NotAccepted_init cc_NotAccepted_init : Addr} {od_NotAccepted_init an_NotAccepted_init cdd_NotAccepted_init cld_NotAccepted_init : Option Addr} {sl_NotAccepted_init ccs_NotAccepted_init csl_NotAccepted_init : Array (Option Value)} {vs_NotAccepted_init : Array Value} {file_NotAccepted_init : Str} {tf_NotAccepted_init : Tok} {oc_NotAccepted_init kV_NotAccepted_init dc_NotAccepted_init pm_NotAccepted_init ct_NotAccepted_init ccl_NotAccepted_init cl_NotAccepted_init : Value}
    (iC_NotAccepted : PySem.W.findIn K (.ref C_NotAccepted) "__init__" = some (some (.ref f_NotAccepted_init))) (tI_NotAccepted : PySem.W.typeIn K (.ref f_NotAccepted_init) = some (.type "function"))
    (L_NotAccepted_init : K.lookup f_NotAccepted_init = some ⟨oc_NotAccepted_init, od_NotAccepted_init, .func (PySem.W.ksFn "__init__" "NotAccepted.__init__" (defArgs s_NotAccepted_init) (defBody s_NotAccepted_init) (defScope s_NotAccepted_init) .none kV_NotAccepted_init dc_NotAccepted_init pm_NotAccepted_init an_NotAccepted_init (.ref cda_NotAccepted_init) ct_NotAccepted_init cc_NotAccepted_init), sl_NotAccepted_init⟩) (cd_NotAccepted : PySem.W.codeIn K (.ref cda_NotAccepted_init) "NotAccepted.__init__" = true)
    (ck_NotAccepted : K.lookup cda_NotAccepted_init = some ⟨ccl_NotAccepted_init, cdd_NotAccepted_init, .fields vs_NotAccepted_init, ccs_NotAccepted_init⟩) (cv_NotAccepted : vs_NotAccepted_init[2]? = some (.str file_NotAccepted_init tf_NotAccepted_init)) (cf_NotAccepted : ((PWX.main.file : Str) == file_NotAccepted_init) = true) (cc_NotAccepted : K.lookup cc_NotAccepted_init = some ⟨cl_NotAccepted_init, cld_NotAccepted_init, .cell (some (.ref C_NotAccepted)), csl_NotAccepted_init⟩) (sp_NotAccepted : supB K C_NotAccepted = true)
    {C_BadCertificate : Addr} (A_BadCertificate : PySem.W.nsIn K mainGlobals "BadCertificate" = some (some (.ref C_BadCertificate))) (X_BadCertificate : excB K C_BadCertificate ["line"] = true)
    {nm_BadCertificate q_BadCertificate : Str} {N_BadCertificate : Addr} {bs_BadCertificate bm_BadCertificate sub_BadCertificate : List Value} {sn_BadCertificate : List Str} {ab_BadCertificate : Bool} {col_BadCertificate : Option Bool} {dd_BadCertificate : Option Addr} {m0_BadCertificate m1_BadCertificate m2_BadCertificate m3_BadCertificate m5_BadCertificate : Option Value} (xL_BadCertificate : K.lookup C_BadCertificate = some (PySem.excClassObj nm_BadCertificate q_BadCertificate C_BadCertificate N_BadCertificate bs_BadCertificate bm_BadCertificate true sn_BadCertificate sub_BadCertificate ab_BadCertificate col_BadCertificate dd_BadCertificate m0_BadCertificate m1_BadCertificate m2_BadCertificate m3_BadCertificate m5_BadCertificate "ValueError.__new__")) (rV_BadCertificate : PySem.HandSPX.refsVE bm_BadCertificate = true)
    {f_BadCertificate_init cda_BadCertificate_init cc_BadCertificate_init : Addr} {od_BadCertificate_init an_BadCertificate_init cdd_BadCertificate_init cld_BadCertificate_init : Option Addr} {sl_BadCertificate_init ccs_BadCertificate_init csl_BadCertificate_init : Array (Option Value)} {vs_BadCertificate_init : Array Value} {file_BadCertificate_init : Str} {tf_BadCertificate_init : Tok} {oc_BadCertificate_init kV_BadCertificate_init dc_BadCertificate_init pm_BadCertificate_init ct_BadCertificate_init ccl_BadCertificate_init cl_BadCertificate_init : Value}
    (iC_BadCertificate : PySem.W.findIn K (.ref C_BadCertificate) "__init__" = some (some (.ref f_BadCertificate_init))) (tI_BadCertificate : PySem.W.typeIn K (.ref f_BadCertificate_init) = some (.type "function"))
    (L_BadCertificate_init : K.lookup f_BadCertificate_init = some ⟨oc_BadCertificate_init, od_BadCertificate_init, .func (PySem.W.ksFn "__init__" "BadCertificate.__init__" (defArgs s_BadCertificate_init) (defBody s_BadCertificate_init) (defScope s_BadCertificate_init) .none kV_BadCertificate_init dc_BadCertificate_init pm_BadCertificate_init an_BadCertificate_init (.ref cda_BadCertificate_init) ct_BadCertificate_init cc_BadCertificate_init), sl_BadCertificate_init⟩) (cd_BadCertificate : PySem.W.codeIn K (.ref cda_BadCertificate_init) "BadCertificate.__init__" = true)
    (ck_BadCertificate : K.lookup cda_BadCertificate_init = some ⟨ccl_BadCertificate_init, cdd_BadCertificate_init, .fields vs_BadCertificate_init, ccs_BadCertificate_init⟩) (cv_BadCertificate : vs_BadCertificate_init[2]? = some (.str file_BadCertificate_init tf_BadCertificate_init)) (cf_BadCertificate : ((PWX.main.file : Str) == file_BadCertificate_init) = true) (cc_BadCertificate : K.lookup cc_BadCertificate_init = some ⟨cl_BadCertificate_init, cld_BadCertificate_init, .cell (some (.ref C_BadCertificate)), csl_BadCertificate_init⟩) (sp_BadCertificate : supB K C_BadCertificate = true)
    {C_WrongChange : Addr} (A_WrongChange : PySem.W.nsIn K mainGlobals "WrongChange" = some (some (.ref C_WrongChange))) (X_WrongChange : excB K C_WrongChange ["name"] = true)
    {nm_WrongChange q_WrongChange : Str} {N_WrongChange : Addr} {bs_WrongChange bm_WrongChange sub_WrongChange : List Value} {sn_WrongChange : List Str} {ab_WrongChange : Bool} {col_WrongChange : Option Bool} {dd_WrongChange : Option Addr} {m0_WrongChange m1_WrongChange m2_WrongChange m3_WrongChange m5_WrongChange : Option Value} (xL_WrongChange : K.lookup C_WrongChange = some (PySem.excClassObj nm_WrongChange q_WrongChange C_WrongChange N_WrongChange bs_WrongChange bm_WrongChange true sn_WrongChange sub_WrongChange ab_WrongChange col_WrongChange dd_WrongChange m0_WrongChange m1_WrongChange m2_WrongChange m3_WrongChange m5_WrongChange "ValueError.__new__")) (rV_WrongChange : PySem.HandSPX.refsVE bm_WrongChange = true)
    {f_WrongChange_init cda_WrongChange_init cc_WrongChange_init : Addr} {od_WrongChange_init an_WrongChange_init cdd_WrongChange_init cld_WrongChange_init : Option Addr} {sl_WrongChange_init ccs_WrongChange_init csl_WrongChange_init : Array (Option Value)} {vs_WrongChange_init : Array Value} {file_WrongChange_init : Str} {tf_WrongChange_init : Tok} {oc_WrongChange_init kV_WrongChange_init dc_WrongChange_init pm_WrongChange_init ct_WrongChange_init ccl_WrongChange_init cl_WrongChange_init : Value}
    (iC_WrongChange : PySem.W.findIn K (.ref C_WrongChange) "__init__" = some (some (.ref f_WrongChange_init))) (tI_WrongChange : PySem.W.typeIn K (.ref f_WrongChange_init) = some (.type "function"))
    (L_WrongChange_init : K.lookup f_WrongChange_init = some ⟨oc_WrongChange_init, od_WrongChange_init, .func (PySem.W.ksFn "__init__" "WrongChange.__init__" (defArgs s_WrongChange_init) (defBody s_WrongChange_init) (defScope s_WrongChange_init) .none kV_WrongChange_init dc_WrongChange_init pm_WrongChange_init an_WrongChange_init (.ref cda_WrongChange_init) ct_WrongChange_init cc_WrongChange_init), sl_WrongChange_init⟩) (cd_WrongChange : PySem.W.codeIn K (.ref cda_WrongChange_init) "WrongChange.__init__" = true)
    (ck_WrongChange : K.lookup cda_WrongChange_init = some ⟨ccl_WrongChange_init, cdd_WrongChange_init, .fields vs_WrongChange_init, ccs_WrongChange_init⟩) (cv_WrongChange : vs_WrongChange_init[2]? = some (.str file_WrongChange_init tf_WrongChange_init)) (cf_WrongChange : ((PWX.main.file : Str) == file_WrongChange_init) = true) (cc_WrongChange : K.lookup cc_WrongChange_init = some ⟨cl_WrongChange_init, cld_WrongChange_init, .cell (some (.ref C_WrongChange)), csl_WrongChange_init⟩) (sp_WrongChange : supB K C_WrongChange = true)
    {C_NotPlain : Addr} (A_NotPlain : PySem.W.nsIn K mainGlobals "NotPlain" = some (some (.ref C_NotPlain))) (X_NotPlain : excB K C_NotPlain [] = true)
    {nm_NotPlain q_NotPlain : Str} {N_NotPlain : Addr} {bs_NotPlain bm_NotPlain sub_NotPlain : List Value} {sn_NotPlain : List Str} {ab_NotPlain : Bool} {col_NotPlain : Option Bool} {dd_NotPlain : Option Addr} {m0_NotPlain m1_NotPlain m2_NotPlain m3_NotPlain m5_NotPlain : Option Value} (xL_NotPlain : K.lookup C_NotPlain = some (PySem.excClassObj nm_NotPlain q_NotPlain C_NotPlain N_NotPlain bs_NotPlain bm_NotPlain true sn_NotPlain sub_NotPlain ab_NotPlain col_NotPlain dd_NotPlain m0_NotPlain m1_NotPlain m2_NotPlain m3_NotPlain m5_NotPlain "ValueError.__new__")) (rV_NotPlain : PySem.HandSPX.refsVE bm_NotPlain = true)
    {f_NotPlain_init cda_NotPlain_init cc_NotPlain_init : Addr} {od_NotPlain_init an_NotPlain_init cdd_NotPlain_init cld_NotPlain_init : Option Addr} {sl_NotPlain_init ccs_NotPlain_init csl_NotPlain_init : Array (Option Value)} {vs_NotPlain_init : Array Value} {file_NotPlain_init : Str} {tf_NotPlain_init : Tok} {oc_NotPlain_init kV_NotPlain_init dc_NotPlain_init pm_NotPlain_init ct_NotPlain_init ccl_NotPlain_init cl_NotPlain_init : Value}
    (iC_NotPlain : PySem.W.findIn K (.ref C_NotPlain) "__init__" = some (some (.ref f_NotPlain_init))) (tI_NotPlain : PySem.W.typeIn K (.ref f_NotPlain_init) = some (.type "function"))
    (L_NotPlain_init : K.lookup f_NotPlain_init = some ⟨oc_NotPlain_init, od_NotPlain_init, .func (PySem.W.ksFn "__init__" "NotPlain.__init__" (defArgs s_NotPlain_init) (defBody s_NotPlain_init) (defScope s_NotPlain_init) .none kV_NotPlain_init dc_NotPlain_init pm_NotPlain_init an_NotPlain_init (.ref cda_NotPlain_init) ct_NotPlain_init cc_NotPlain_init), sl_NotPlain_init⟩) (cd_NotPlain : PySem.W.codeIn K (.ref cda_NotPlain_init) "NotPlain.__init__" = true)
    (ck_NotPlain : K.lookup cda_NotPlain_init = some ⟨ccl_NotPlain_init, cdd_NotPlain_init, .fields vs_NotPlain_init, ccs_NotPlain_init⟩) (cv_NotPlain : vs_NotPlain_init[2]? = some (.str file_NotPlain_init tf_NotPlain_init)) (cf_NotPlain : ((PWX.main.file : Str) == file_NotPlain_init) = true) (cc_NotPlain : K.lookup cc_NotPlain_init = some ⟨cl_NotPlain_init, cld_NotPlain_init, .cell (some (.ref C_NotPlain)), csl_NotPlain_init⟩) (sp_NotPlain : supB K C_NotPlain = true)
    {C_BadWitness : Addr} (A_BadWitness : PySem.W.nsIn K mainGlobals "BadWitness" = some (some (.ref C_BadWitness))) (X_BadWitness : excB K C_BadWitness ["line"] = true)
    {nm_BadWitness q_BadWitness : Str} {N_BadWitness : Addr} {bs_BadWitness bm_BadWitness sub_BadWitness : List Value} {sn_BadWitness : List Str} {ab_BadWitness : Bool} {col_BadWitness : Option Bool} {dd_BadWitness : Option Addr} {m0_BadWitness m1_BadWitness m2_BadWitness m3_BadWitness m5_BadWitness : Option Value} (xL_BadWitness : K.lookup C_BadWitness = some (PySem.excClassObj nm_BadWitness q_BadWitness C_BadWitness N_BadWitness bs_BadWitness bm_BadWitness true sn_BadWitness sub_BadWitness ab_BadWitness col_BadWitness dd_BadWitness m0_BadWitness m1_BadWitness m2_BadWitness m3_BadWitness m5_BadWitness "ValueError.__new__")) (rV_BadWitness : PySem.HandSPX.refsVE bm_BadWitness = true)
    {f_BadWitness_init cda_BadWitness_init cc_BadWitness_init : Addr} {od_BadWitness_init an_BadWitness_init cdd_BadWitness_init cld_BadWitness_init : Option Addr} {sl_BadWitness_init ccs_BadWitness_init csl_BadWitness_init : Array (Option Value)} {vs_BadWitness_init : Array Value} {file_BadWitness_init : Str} {tf_BadWitness_init : Tok} {oc_BadWitness_init kV_BadWitness_init dc_BadWitness_init pm_BadWitness_init ct_BadWitness_init ccl_BadWitness_init cl_BadWitness_init : Value}
    (iC_BadWitness : PySem.W.findIn K (.ref C_BadWitness) "__init__" = some (some (.ref f_BadWitness_init))) (tI_BadWitness : PySem.W.typeIn K (.ref f_BadWitness_init) = some (.type "function"))
    (L_BadWitness_init : K.lookup f_BadWitness_init = some ⟨oc_BadWitness_init, od_BadWitness_init, .func (PySem.W.ksFn "__init__" "BadWitness.__init__" (defArgs s_BadWitness_init) (defBody s_BadWitness_init) (defScope s_BadWitness_init) .none kV_BadWitness_init dc_BadWitness_init pm_BadWitness_init an_BadWitness_init (.ref cda_BadWitness_init) ct_BadWitness_init cc_BadWitness_init), sl_BadWitness_init⟩) (cd_BadWitness : PySem.W.codeIn K (.ref cda_BadWitness_init) "BadWitness.__init__" = true)
    (ck_BadWitness : K.lookup cda_BadWitness_init = some ⟨ccl_BadWitness_init, cdd_BadWitness_init, .fields vs_BadWitness_init, ccs_BadWitness_init⟩) (cv_BadWitness : vs_BadWitness_init[2]? = some (.str file_BadWitness_init tf_BadWitness_init)) (cf_BadWitness : ((PWX.main.file : Str) == file_BadWitness_init) = true) (cc_BadWitness : K.lookup cc_BadWitness_init = some ⟨cl_BadWitness_init, cld_BadWitness_init, .cell (some (.ref C_BadWitness)), csl_BadWitness_init⟩) (sp_BadWitness : supB K C_BadWitness = true)
    {C_TooLong : Addr} (A_TooLong : PySem.W.nsIn K mainGlobals "TooLong" = some (some (.ref C_TooLong))) (X_TooLong : excB K C_TooLong ["amount"] = true)
    {nm_TooLong q_TooLong : Str} {N_TooLong : Addr} {bs_TooLong bm_TooLong sub_TooLong : List Value} {sn_TooLong : List Str} {ab_TooLong : Bool} {col_TooLong : Option Bool} {dd_TooLong : Option Addr} {m0_TooLong m1_TooLong m2_TooLong m3_TooLong m5_TooLong : Option Value} (xL_TooLong : K.lookup C_TooLong = some (PySem.excClassObj nm_TooLong q_TooLong C_TooLong N_TooLong bs_TooLong bm_TooLong true sn_TooLong sub_TooLong ab_TooLong col_TooLong dd_TooLong m0_TooLong m1_TooLong m2_TooLong m3_TooLong m5_TooLong "ValueError.__new__")) (rV_TooLong : PySem.HandSPX.refsVE bm_TooLong = true)
    {f_TooLong_init cda_TooLong_init cc_TooLong_init : Addr} {od_TooLong_init an_TooLong_init cdd_TooLong_init cld_TooLong_init : Option Addr} {sl_TooLong_init ccs_TooLong_init csl_TooLong_init : Array (Option Value)} {vs_TooLong_init : Array Value} {file_TooLong_init : Str} {tf_TooLong_init : Tok} {oc_TooLong_init kV_TooLong_init dc_TooLong_init pm_TooLong_init ct_TooLong_init ccl_TooLong_init cl_TooLong_init : Value}
    (iC_TooLong : PySem.W.findIn K (.ref C_TooLong) "__init__" = some (some (.ref f_TooLong_init))) (tI_TooLong : PySem.W.typeIn K (.ref f_TooLong_init) = some (.type "function"))
    (L_TooLong_init : K.lookup f_TooLong_init = some ⟨oc_TooLong_init, od_TooLong_init, .func (PySem.W.ksFn "__init__" "TooLong.__init__" (defArgs s_TooLong_init) (defBody s_TooLong_init) (defScope s_TooLong_init) .none kV_TooLong_init dc_TooLong_init pm_TooLong_init an_TooLong_init (.ref cda_TooLong_init) ct_TooLong_init cc_TooLong_init), sl_TooLong_init⟩) (cd_TooLong : PySem.W.codeIn K (.ref cda_TooLong_init) "TooLong.__init__" = true)
    (ck_TooLong : K.lookup cda_TooLong_init = some ⟨ccl_TooLong_init, cdd_TooLong_init, .fields vs_TooLong_init, ccs_TooLong_init⟩) (cv_TooLong : vs_TooLong_init[2]? = some (.str file_TooLong_init tf_TooLong_init)) (cf_TooLong : ((PWX.main.file : Str) == file_TooLong_init) = true) (cc_TooLong : K.lookup cc_TooLong_init = some ⟨cl_TooLong_init, cld_TooLong_init, .cell (some (.ref C_TooLong)), csl_TooLong_init⟩) (sp_TooLong : supB K C_TooLong = true)
    {C_NothingLoaded : Addr} (A_NothingLoaded : PySem.W.nsIn K mainGlobals "NothingLoaded" = some (some (.ref C_NothingLoaded))) (X_NothingLoaded : excB K C_NothingLoaded [] = true)
    {nm_NothingLoaded q_NothingLoaded : Str} {N_NothingLoaded : Addr} {bs_NothingLoaded bm_NothingLoaded sub_NothingLoaded : List Value} {sn_NothingLoaded : List Str} {ab_NothingLoaded : Bool} {col_NothingLoaded : Option Bool} {dd_NothingLoaded : Option Addr} {m0_NothingLoaded m1_NothingLoaded m2_NothingLoaded m3_NothingLoaded m5_NothingLoaded : Option Value} (xL_NothingLoaded : K.lookup C_NothingLoaded = some (PySem.excClassObj nm_NothingLoaded q_NothingLoaded C_NothingLoaded N_NothingLoaded bs_NothingLoaded bm_NothingLoaded true sn_NothingLoaded sub_NothingLoaded ab_NothingLoaded col_NothingLoaded dd_NothingLoaded m0_NothingLoaded m1_NothingLoaded m2_NothingLoaded m3_NothingLoaded m5_NothingLoaded "ValueError.__new__")) (rV_NothingLoaded : PySem.HandSPX.refsVE bm_NothingLoaded = true)
    {f_NothingLoaded_init cda_NothingLoaded_init cc_NothingLoaded_init : Addr} {od_NothingLoaded_init an_NothingLoaded_init cdd_NothingLoaded_init cld_NothingLoaded_init : Option Addr} {sl_NothingLoaded_init ccs_NothingLoaded_init csl_NothingLoaded_init : Array (Option Value)} {vs_NothingLoaded_init : Array Value} {file_NothingLoaded_init : Str} {tf_NothingLoaded_init : Tok} {oc_NothingLoaded_init kV_NothingLoaded_init dc_NothingLoaded_init pm_NothingLoaded_init ct_NothingLoaded_init ccl_NothingLoaded_init cl_NothingLoaded_init : Value}
    (iC_NothingLoaded : PySem.W.findIn K (.ref C_NothingLoaded) "__init__" = some (some (.ref f_NothingLoaded_init))) (tI_NothingLoaded : PySem.W.typeIn K (.ref f_NothingLoaded_init) = some (.type "function"))
    (L_NothingLoaded_init : K.lookup f_NothingLoaded_init = some ⟨oc_NothingLoaded_init, od_NothingLoaded_init, .func (PySem.W.ksFn "__init__" "NothingLoaded.__init__" (defArgs s_NothingLoaded_init) (defBody s_NothingLoaded_init) (defScope s_NothingLoaded_init) .none kV_NothingLoaded_init dc_NothingLoaded_init pm_NothingLoaded_init an_NothingLoaded_init (.ref cda_NothingLoaded_init) ct_NothingLoaded_init cc_NothingLoaded_init), sl_NothingLoaded_init⟩) (cd_NothingLoaded : PySem.W.codeIn K (.ref cda_NothingLoaded_init) "NothingLoaded.__init__" = true)
    (ck_NothingLoaded : K.lookup cda_NothingLoaded_init = some ⟨ccl_NothingLoaded_init, cdd_NothingLoaded_init, .fields vs_NothingLoaded_init, ccs_NothingLoaded_init⟩) (cv_NothingLoaded : vs_NothingLoaded_init[2]? = some (.str file_NothingLoaded_init tf_NothingLoaded_init)) (cf_NothingLoaded : ((PWX.main.file : Str) == file_NothingLoaded_init) = true) (cc_NothingLoaded : K.lookup cc_NothingLoaded_init = some ⟨cl_NothingLoaded_init, cld_NothingLoaded_init, .cell (some (.ref C_NothingLoaded)), csl_NothingLoaded_init⟩) (sp_NothingLoaded : supB K C_NothingLoaded = true)
    {C_NothingToUndo : Addr} (A_NothingToUndo : PySem.W.nsIn K mainGlobals "NothingToUndo" = some (some (.ref C_NothingToUndo))) (X_NothingToUndo : excB K C_NothingToUndo [] = true)
    {nm_NothingToUndo q_NothingToUndo : Str} {N_NothingToUndo : Addr} {bs_NothingToUndo bm_NothingToUndo sub_NothingToUndo : List Value} {sn_NothingToUndo : List Str} {ab_NothingToUndo : Bool} {col_NothingToUndo : Option Bool} {dd_NothingToUndo : Option Addr} {m0_NothingToUndo m1_NothingToUndo m2_NothingToUndo m3_NothingToUndo m5_NothingToUndo : Option Value} (xL_NothingToUndo : K.lookup C_NothingToUndo = some (PySem.excClassObj nm_NothingToUndo q_NothingToUndo C_NothingToUndo N_NothingToUndo bs_NothingToUndo bm_NothingToUndo true sn_NothingToUndo sub_NothingToUndo ab_NothingToUndo col_NothingToUndo dd_NothingToUndo m0_NothingToUndo m1_NothingToUndo m2_NothingToUndo m3_NothingToUndo m5_NothingToUndo "ValueError.__new__")) (rV_NothingToUndo : PySem.HandSPX.refsVE bm_NothingToUndo = true)
    {f_NothingToUndo_init cda_NothingToUndo_init cc_NothingToUndo_init : Addr} {od_NothingToUndo_init an_NothingToUndo_init cdd_NothingToUndo_init cld_NothingToUndo_init : Option Addr} {sl_NothingToUndo_init ccs_NothingToUndo_init csl_NothingToUndo_init : Array (Option Value)} {vs_NothingToUndo_init : Array Value} {file_NothingToUndo_init : Str} {tf_NothingToUndo_init : Tok} {oc_NothingToUndo_init kV_NothingToUndo_init dc_NothingToUndo_init pm_NothingToUndo_init ct_NothingToUndo_init ccl_NothingToUndo_init cl_NothingToUndo_init : Value}
    (iC_NothingToUndo : PySem.W.findIn K (.ref C_NothingToUndo) "__init__" = some (some (.ref f_NothingToUndo_init))) (tI_NothingToUndo : PySem.W.typeIn K (.ref f_NothingToUndo_init) = some (.type "function"))
    (L_NothingToUndo_init : K.lookup f_NothingToUndo_init = some ⟨oc_NothingToUndo_init, od_NothingToUndo_init, .func (PySem.W.ksFn "__init__" "NothingToUndo.__init__" (defArgs s_NothingToUndo_init) (defBody s_NothingToUndo_init) (defScope s_NothingToUndo_init) .none kV_NothingToUndo_init dc_NothingToUndo_init pm_NothingToUndo_init an_NothingToUndo_init (.ref cda_NothingToUndo_init) ct_NothingToUndo_init cc_NothingToUndo_init), sl_NothingToUndo_init⟩) (cd_NothingToUndo : PySem.W.codeIn K (.ref cda_NothingToUndo_init) "NothingToUndo.__init__" = true)
    (ck_NothingToUndo : K.lookup cda_NothingToUndo_init = some ⟨ccl_NothingToUndo_init, cdd_NothingToUndo_init, .fields vs_NothingToUndo_init, ccs_NothingToUndo_init⟩) (cv_NothingToUndo : vs_NothingToUndo_init[2]? = some (.str file_NothingToUndo_init tf_NothingToUndo_init)) (cf_NothingToUndo : ((PWX.main.file : Str) == file_NothingToUndo_init) = true) (cc_NothingToUndo : K.lookup cc_NothingToUndo_init = some ⟨cl_NothingToUndo_init, cld_NothingToUndo_init, .cell (some (.ref C_NothingToUndo)), csl_NothingToUndo_init⟩) (sp_NothingToUndo : supB K C_NothingToUndo = true)
    {C_BadJournal : Addr} (A_BadJournal : PySem.W.nsIn K mainGlobals "BadJournal" = some (some (.ref C_BadJournal))) (X_BadJournal : excB K C_BadJournal ["position"] = true)
    {nm_BadJournal q_BadJournal : Str} {N_BadJournal : Addr} {bs_BadJournal bm_BadJournal sub_BadJournal : List Value} {sn_BadJournal : List Str} {ab_BadJournal : Bool} {col_BadJournal : Option Bool} {dd_BadJournal : Option Addr} {m0_BadJournal m1_BadJournal m2_BadJournal m3_BadJournal m5_BadJournal : Option Value} (xL_BadJournal : K.lookup C_BadJournal = some (PySem.excClassObj nm_BadJournal q_BadJournal C_BadJournal N_BadJournal bs_BadJournal bm_BadJournal true sn_BadJournal sub_BadJournal ab_BadJournal col_BadJournal dd_BadJournal m0_BadJournal m1_BadJournal m2_BadJournal m3_BadJournal m5_BadJournal "ValueError.__new__")) (rV_BadJournal : PySem.HandSPX.refsVE bm_BadJournal = true)
    {f_BadJournal_init cda_BadJournal_init cc_BadJournal_init : Addr} {od_BadJournal_init an_BadJournal_init cdd_BadJournal_init cld_BadJournal_init : Option Addr} {sl_BadJournal_init ccs_BadJournal_init csl_BadJournal_init : Array (Option Value)} {vs_BadJournal_init : Array Value} {file_BadJournal_init : Str} {tf_BadJournal_init : Tok} {oc_BadJournal_init kV_BadJournal_init dc_BadJournal_init pm_BadJournal_init ct_BadJournal_init ccl_BadJournal_init cl_BadJournal_init : Value}
    (iC_BadJournal : PySem.W.findIn K (.ref C_BadJournal) "__init__" = some (some (.ref f_BadJournal_init))) (tI_BadJournal : PySem.W.typeIn K (.ref f_BadJournal_init) = some (.type "function"))
    (L_BadJournal_init : K.lookup f_BadJournal_init = some ⟨oc_BadJournal_init, od_BadJournal_init, .func (PySem.W.ksFn "__init__" "BadJournal.__init__" (defArgs s_BadJournal_init) (defBody s_BadJournal_init) (defScope s_BadJournal_init) .none kV_BadJournal_init dc_BadJournal_init pm_BadJournal_init an_BadJournal_init (.ref cda_BadJournal_init) ct_BadJournal_init cc_BadJournal_init), sl_BadJournal_init⟩) (cd_BadJournal : PySem.W.codeIn K (.ref cda_BadJournal_init) "BadJournal.__init__" = true)
    (ck_BadJournal : K.lookup cda_BadJournal_init = some ⟨ccl_BadJournal_init, cdd_BadJournal_init, .fields vs_BadJournal_init, ccs_BadJournal_init⟩) (cv_BadJournal : vs_BadJournal_init[2]? = some (.str file_BadJournal_init tf_BadJournal_init)) (cf_BadJournal : ((PWX.main.file : Str) == file_BadJournal_init) = true) (cc_BadJournal : K.lookup cc_BadJournal_init = some ⟨cl_BadJournal_init, cld_BadJournal_init, .cell (some (.ref C_BadJournal)), csl_BadJournal_init⟩) (sp_BadJournal : supB K C_BadJournal = true)
    (kr_NeverError : kitRow K C_NeverError [C_NeverError, C_BadText, C_Twice, C_Unknown, C_BadKind, C_WrongKind, C_NoSite, C_NoPlace, C_NotAccepted, C_BadCertificate, C_WrongChange, C_NotPlain, C_BadWitness, C_TooLong, C_NothingLoaded, C_NothingToUndo, C_BadJournal] = [some true, some false, some false, some false, some false, some false, some false, some false, some false, some false, some false, some false, some false, some false, some false, some false, some false]) (kv_NeverError : PySem.W.kitOne K (.ref C_NeverError) (.type "ValueError") = some true)
    (te_NeverError_NeverError : PySem.W.exmOne K (.ref C_NeverError) (.ref C_NeverError) = some true)
    (kr_BadText : kitRow K C_BadText [C_NeverError, C_BadText, C_Twice, C_Unknown, C_BadKind, C_WrongKind, C_NoSite, C_NoPlace, C_NotAccepted, C_BadCertificate, C_WrongChange, C_NotPlain, C_BadWitness, C_TooLong, C_NothingLoaded, C_NothingToUndo, C_BadJournal] = [some true, some true, some false, some false, some false, some false, some false, some false, some false, some false, some false, some false, some false, some false, some false, some false, some false]) (kv_BadText : PySem.W.kitOne K (.ref C_BadText) (.type "ValueError") = some true)
    (te_BadText_NeverError : PySem.W.exmOne K (.ref C_BadText) (.ref C_NeverError) = some true)
    (kr_Twice : kitRow K C_Twice [C_NeverError, C_BadText, C_Twice, C_Unknown, C_BadKind, C_WrongKind, C_NoSite, C_NoPlace, C_NotAccepted, C_BadCertificate, C_WrongChange, C_NotPlain, C_BadWitness, C_TooLong, C_NothingLoaded, C_NothingToUndo, C_BadJournal] = [some true, some false, some true, some false, some false, some false, some false, some false, some false, some false, some false, some false, some false, some false, some false, some false, some false]) (kv_Twice : PySem.W.kitOne K (.ref C_Twice) (.type "ValueError") = some true)
    (te_Twice_NeverError : PySem.W.exmOne K (.ref C_Twice) (.ref C_NeverError) = some true)
    (kr_Unknown : kitRow K C_Unknown [C_NeverError, C_BadText, C_Twice, C_Unknown, C_BadKind, C_WrongKind, C_NoSite, C_NoPlace, C_NotAccepted, C_BadCertificate, C_WrongChange, C_NotPlain, C_BadWitness, C_TooLong, C_NothingLoaded, C_NothingToUndo, C_BadJournal] = [some true, some false, some false, some true, some false, some false, some false, some false, some false, some false, some false, some false, some false, some false, some false, some false, some false]) (kv_Unknown : PySem.W.kitOne K (.ref C_Unknown) (.type "ValueError") = some true)
    (te_Unknown_NeverError : PySem.W.exmOne K (.ref C_Unknown) (.ref C_NeverError) = some true)
    (kr_BadKind : kitRow K C_BadKind [C_NeverError, C_BadText, C_Twice, C_Unknown, C_BadKind, C_WrongKind, C_NoSite, C_NoPlace, C_NotAccepted, C_BadCertificate, C_WrongChange, C_NotPlain, C_BadWitness, C_TooLong, C_NothingLoaded, C_NothingToUndo, C_BadJournal] = [some true, some false, some false, some false, some true, some false, some false, some false, some false, some false, some false, some false, some false, some false, some false, some false, some false]) (kv_BadKind : PySem.W.kitOne K (.ref C_BadKind) (.type "ValueError") = some true)
    (te_BadKind_NeverError : PySem.W.exmOne K (.ref C_BadKind) (.ref C_NeverError) = some true)
    (kr_WrongKind : kitRow K C_WrongKind [C_NeverError, C_BadText, C_Twice, C_Unknown, C_BadKind, C_WrongKind, C_NoSite, C_NoPlace, C_NotAccepted, C_BadCertificate, C_WrongChange, C_NotPlain, C_BadWitness, C_TooLong, C_NothingLoaded, C_NothingToUndo, C_BadJournal] = [some true, some false, some false, some false, some false, some true, some false, some false, some false, some false, some false, some false, some false, some false, some false, some false, some false]) (kv_WrongKind : PySem.W.kitOne K (.ref C_WrongKind) (.type "ValueError") = some true)
    (te_WrongKind_NeverError : PySem.W.exmOne K (.ref C_WrongKind) (.ref C_NeverError) = some true)
    (kr_NoSite : kitRow K C_NoSite [C_NeverError, C_BadText, C_Twice, C_Unknown, C_BadKind, C_WrongKind, C_NoSite, C_NoPlace, C_NotAccepted, C_BadCertificate, C_WrongChange, C_NotPlain, C_BadWitness, C_TooLong, C_NothingLoaded, C_NothingToUndo, C_BadJournal] = [some true, some false, some false, some false, some false, some false, some true, some false, some false, some false, some false, some false, some false, some false, some false, some false, some false]) (kv_NoSite : PySem.W.kitOne K (.ref C_NoSite) (.type "ValueError") = some true)
    (te_NoSite_NeverError : PySem.W.exmOne K (.ref C_NoSite) (.ref C_NeverError) = some true)
    (kr_NoPlace : kitRow K C_NoPlace [C_NeverError, C_BadText, C_Twice, C_Unknown, C_BadKind, C_WrongKind, C_NoSite, C_NoPlace, C_NotAccepted, C_BadCertificate, C_WrongChange, C_NotPlain, C_BadWitness, C_TooLong, C_NothingLoaded, C_NothingToUndo, C_BadJournal] = [some true, some false, some false, some false, some false, some false, some false, some true, some false, some false, some false, some false, some false, some false, some false, some false, some false]) (kv_NoPlace : PySem.W.kitOne K (.ref C_NoPlace) (.type "ValueError") = some true)
    (te_NoPlace_NeverError : PySem.W.exmOne K (.ref C_NoPlace) (.ref C_NeverError) = some true)
    (kr_NotAccepted : kitRow K C_NotAccepted [C_NeverError, C_BadText, C_Twice, C_Unknown, C_BadKind, C_WrongKind, C_NoSite, C_NoPlace, C_NotAccepted, C_BadCertificate, C_WrongChange, C_NotPlain, C_BadWitness, C_TooLong, C_NothingLoaded, C_NothingToUndo, C_BadJournal] = [some true, some false, some false, some false, some false, some false, some false, some false, some true, some false, some false, some false, some false, some false, some false, some false, some false]) (kv_NotAccepted : PySem.W.kitOne K (.ref C_NotAccepted) (.type "ValueError") = some true)
    (te_NotAccepted_NeverError : PySem.W.exmOne K (.ref C_NotAccepted) (.ref C_NeverError) = some true)
    (kr_BadCertificate : kitRow K C_BadCertificate [C_NeverError, C_BadText, C_Twice, C_Unknown, C_BadKind, C_WrongKind, C_NoSite, C_NoPlace, C_NotAccepted, C_BadCertificate, C_WrongChange, C_NotPlain, C_BadWitness, C_TooLong, C_NothingLoaded, C_NothingToUndo, C_BadJournal] = [some true, some false, some false, some false, some false, some false, some false, some false, some false, some true, some false, some false, some false, some false, some false, some false, some false]) (kv_BadCertificate : PySem.W.kitOne K (.ref C_BadCertificate) (.type "ValueError") = some true)
    (te_BadCertificate_NeverError : PySem.W.exmOne K (.ref C_BadCertificate) (.ref C_NeverError) = some true)
    (kr_WrongChange : kitRow K C_WrongChange [C_NeverError, C_BadText, C_Twice, C_Unknown, C_BadKind, C_WrongKind, C_NoSite, C_NoPlace, C_NotAccepted, C_BadCertificate, C_WrongChange, C_NotPlain, C_BadWitness, C_TooLong, C_NothingLoaded, C_NothingToUndo, C_BadJournal] = [some true, some false, some false, some false, some false, some false, some false, some false, some false, some false, some true, some false, some false, some false, some false, some false, some false]) (kv_WrongChange : PySem.W.kitOne K (.ref C_WrongChange) (.type "ValueError") = some true)
    (te_WrongChange_NeverError : PySem.W.exmOne K (.ref C_WrongChange) (.ref C_NeverError) = some true)
    (kr_NotPlain : kitRow K C_NotPlain [C_NeverError, C_BadText, C_Twice, C_Unknown, C_BadKind, C_WrongKind, C_NoSite, C_NoPlace, C_NotAccepted, C_BadCertificate, C_WrongChange, C_NotPlain, C_BadWitness, C_TooLong, C_NothingLoaded, C_NothingToUndo, C_BadJournal] = [some true, some false, some false, some false, some false, some false, some false, some false, some false, some false, some false, some true, some false, some false, some false, some false, some false]) (kv_NotPlain : PySem.W.kitOne K (.ref C_NotPlain) (.type "ValueError") = some true)
    (te_NotPlain_NeverError : PySem.W.exmOne K (.ref C_NotPlain) (.ref C_NeverError) = some true)
    (kr_BadWitness : kitRow K C_BadWitness [C_NeverError, C_BadText, C_Twice, C_Unknown, C_BadKind, C_WrongKind, C_NoSite, C_NoPlace, C_NotAccepted, C_BadCertificate, C_WrongChange, C_NotPlain, C_BadWitness, C_TooLong, C_NothingLoaded, C_NothingToUndo, C_BadJournal] = [some true, some false, some false, some false, some false, some false, some false, some false, some false, some false, some false, some false, some true, some false, some false, some false, some false]) (kv_BadWitness : PySem.W.kitOne K (.ref C_BadWitness) (.type "ValueError") = some true)
    (te_BadWitness_NeverError : PySem.W.exmOne K (.ref C_BadWitness) (.ref C_NeverError) = some true)
    (kr_TooLong : kitRow K C_TooLong [C_NeverError, C_BadText, C_Twice, C_Unknown, C_BadKind, C_WrongKind, C_NoSite, C_NoPlace, C_NotAccepted, C_BadCertificate, C_WrongChange, C_NotPlain, C_BadWitness, C_TooLong, C_NothingLoaded, C_NothingToUndo, C_BadJournal] = [some true, some false, some false, some false, some false, some false, some false, some false, some false, some false, some false, some false, some false, some true, some false, some false, some false]) (kv_TooLong : PySem.W.kitOne K (.ref C_TooLong) (.type "ValueError") = some true)
    (te_TooLong_NeverError : PySem.W.exmOne K (.ref C_TooLong) (.ref C_NeverError) = some true)
    (kr_NothingLoaded : kitRow K C_NothingLoaded [C_NeverError, C_BadText, C_Twice, C_Unknown, C_BadKind, C_WrongKind, C_NoSite, C_NoPlace, C_NotAccepted, C_BadCertificate, C_WrongChange, C_NotPlain, C_BadWitness, C_TooLong, C_NothingLoaded, C_NothingToUndo, C_BadJournal] = [some true, some false, some false, some false, some false, some false, some false, some false, some false, some false, some false, some false, some false, some false, some true, some false, some false]) (kv_NothingLoaded : PySem.W.kitOne K (.ref C_NothingLoaded) (.type "ValueError") = some true)
    (te_NothingLoaded_NeverError : PySem.W.exmOne K (.ref C_NothingLoaded) (.ref C_NeverError) = some true)
    (kr_NothingToUndo : kitRow K C_NothingToUndo [C_NeverError, C_BadText, C_Twice, C_Unknown, C_BadKind, C_WrongKind, C_NoSite, C_NoPlace, C_NotAccepted, C_BadCertificate, C_WrongChange, C_NotPlain, C_BadWitness, C_TooLong, C_NothingLoaded, C_NothingToUndo, C_BadJournal] = [some true, some false, some false, some false, some false, some false, some false, some false, some false, some false, some false, some false, some false, some false, some false, some true, some false]) (kv_NothingToUndo : PySem.W.kitOne K (.ref C_NothingToUndo) (.type "ValueError") = some true)
    (te_NothingToUndo_NeverError : PySem.W.exmOne K (.ref C_NothingToUndo) (.ref C_NeverError) = some true)
    (kr_BadJournal : kitRow K C_BadJournal [C_NeverError, C_BadText, C_Twice, C_Unknown, C_BadKind, C_WrongKind, C_NoSite, C_NoPlace, C_NotAccepted, C_BadCertificate, C_WrongChange, C_NotPlain, C_BadWitness, C_TooLong, C_NothingLoaded, C_NothingToUndo, C_BadJournal] = [some true, some false, some false, some false, some false, some false, some false, some false, some false, some false, some false, some false, some false, some false, some false, some false, some true]) (kv_BadJournal : PySem.W.kitOne K (.ref C_BadJournal) (.type "ValueError") = some true)
    (te_BadJournal_NeverError : PySem.W.exmOne K (.ref C_BadJournal) (.ref C_NeverError) = some true)
    (Z_ValueError : PySem.W.nsIn K mainGlobals "ValueError" = some none)
    (Z_bool : PySem.W.nsIn K mainGlobals "bool" = some none)
    (Z_int : PySem.W.nsIn K mainGlobals "int" = some none)
    (Z_isinstance : PySem.W.nsIn K mainGlobals "isinstance" = some none)
    (Z_len : PySem.W.nsIn K mainGlobals "len" = some none)
    (Z_list : PySem.W.nsIn K mainGlobals "list" = some none)
    (Z_range : PySem.W.nsIn K mainGlobals "range" = some none)
    (Z_str : PySem.W.nsIn K mainGlobals "str" = some none)
    (Z_super : PySem.W.nsIn K mainGlobals "super" = some none)
    (Z_tuple : PySem.W.nsIn K mainGlobals "tuple" = some none) :
    ∃ fd : FuncData, (∀ (s : Shared) (v : Value), BindsTo s fd ⟨[v], []⟩ [("_law_script", v)]) ∧ ∀ base : Heap, K.In base → base.Ns mainGlobals mg → FnOk PWX w K mg base CX0 6 fa fd ["_law_script"] (spLaw K) := by
  have e := hfa.symm.trans (PySem.W.mg_of X G A_law)
  cases e
  let T : Txt w K mg := {
    a_l_cell := f_l_cell, d_l_cell := _, F_l_cell := fun_mk (st := s_l_cell) L_l_cell C_l_cell K_l_cell, b_l_cell := (fun_mk (st := s_l_cell) L_l_cell C_l_cell K_l_cell).binds (ps := p_l_cell) (fun _ _ _ _ _ _ us hl => match us, hl with | [_, _], _ => rfl), m_l_cell := PySem.W.mg_of X G A_l_cell,
    a_l_source := f_l_source, d_l_source := _, F_l_source := fun_mk (st := s_l_source) L_l_source C_l_source K_l_source, b_l_source := (fun_mk (st := s_l_source) L_l_source C_l_source K_l_source).binds (ps := p_l_source) (fun _ _ _ _ _ _ us hl => match us, hl with | [_], _ => rfl), m_l_source := PySem.W.mg_of X G A_l_source,
    a_l_pick := f_l_pick, d_l_pick := _, F_l_pick := fun_mk (st := s_l_pick) L_l_pick C_l_pick K_l_pick, b_l_pick := (fun_mk (st := s_l_pick) L_l_pick C_l_pick K_l_pick).binds (ps := p_l_pick) (fun _ _ _ _ _ _ us hl => match us, hl with | [_, _], _ => rfl), m_l_pick := PySem.W.mg_of X G A_l_pick,
    a_l_one := f_l_one, d_l_one := _, F_l_one := fun_mk (st := s_l_one) L_l_one C_l_one K_l_one, b_l_one := (fun_mk (st := s_l_one) L_l_one C_l_one K_l_one).binds (ps := p_l_one) (fun _ _ _ _ _ _ us hl => match us, hl with | [_, _], _ => rfl), m_l_one := PySem.W.mg_of X G A_l_one,
    a_l_same := f_l_same, d_l_same := _, F_l_same := fun_mk (st := s_l_same) L_l_same C_l_same K_l_same, b_l_same := (fun_mk (st := s_l_same) L_l_same C_l_same K_l_same).binds (ps := p_l_same) (fun _ _ _ _ _ _ us hl => match us, hl with | [_, _], _ => rfl), m_l_same := PySem.W.mg_of X G A_l_same,
    a_l_given := f_l_given, d_l_given := _, F_l_given := fun_mk (st := s_l_given) L_l_given C_l_given K_l_given, b_l_given := (fun_mk (st := s_l_given) L_l_given C_l_given K_l_given).binds (ps := p_l_given) (fun _ _ _ _ _ _ us hl => match us, hl with | [_, _], _ => rfl), m_l_given := PySem.W.mg_of X G A_l_given,
    a_l_raise := f_l_raise, d_l_raise := _, F_l_raise := fun_mk (st := s_l_raise) L_l_raise C_l_raise K_l_raise, b_l_raise := (fun_mk (st := s_l_raise) L_l_raise C_l_raise K_l_raise).binds (ps := p_l_raise) (fun _ _ _ _ _ _ us hl => match us, hl with | [_, _], _ => rfl), m_l_raise := PySem.W.mg_of X G A_l_raise,
    a_l_marks := f_l_marks, d_l_marks := _, F_l_marks := fun_mk (st := s_l_marks) L_l_marks C_l_marks K_l_marks, b_l_marks := (fun_mk (st := s_l_marks) L_l_marks C_l_marks K_l_marks).binds (ps := p_l_marks) (fun _ _ _ _ _ _ us hl => match us, hl with | [_], _ => rfl), m_l_marks := PySem.W.mg_of X G A_l_marks,
    a_l_attributes := f_l_attributes, d_l_attributes := _, F_l_attributes := fun_mk (st := s_l_attributes) L_l_attributes C_l_attributes K_l_attributes, b_l_attributes := (fun_mk (st := s_l_attributes) L_l_attributes C_l_attributes K_l_attributes).binds (ps := p_l_attributes) (fun _ _ _ _ _ _ us hl => match us, hl with | [_], _ => rfl), m_l_attributes := PySem.W.mg_of X G A_l_attributes,
    a_l_right := f_l_right, d_l_right := _, F_l_right := fun_mk (st := s_l_right) L_l_right C_l_right K_l_right, b_l_right := (fun_mk (st := s_l_right) L_l_right C_l_right K_l_right).binds (ps := p_l_right) (fun _ _ _ _ _ _ us hl => match us, hl with | [_, _], _ => rfl), m_l_right := PySem.W.mg_of X G A_l_right,
    a_law := fa, d_law := _, F_law := fun_mk (st := s_law) L_law C_law K_law, b_law := (fun_mk (st := s_law) L_law C_law K_law).binds (ps := p_law) (fun _ _ _ _ _ _ us hl => match us, hl with | [_], _ => rfl), m_law := PySem.W.mg_of X G A_law,
    C_NeverError := C_NeverError, mgc_NeverError := PySem.W.mg_of X G A_NeverError, xb_NeverError := excB_ok X_NeverError,
    C_BadText := C_BadText, mgc_BadText := PySem.W.mg_of X G A_BadText, xb_BadText := excB_ok X_BadText,
    ox_BadText := ⟨⟨_, _, _, _, _, _, _, _, _, _, _, _, _, _, _, xL_BadText, rV_BadText⟩, (excB_ok X_BadText).sa, (excB_ok X_BadText).ec.hs, (excB_ok X_BadText).ty, (excB_ok X_BadText).kp⟩, a_BadText_init := f_BadText_init, d_BadText_init := _, I_BadText := ⟨⟨_, _, _, _, _, _, _, _, _, _, _, _, _, _, _, _, _, _, _, rfl, L_BadText_init, cd_BadText, ck_BadText, cv_BadText, cf_BadText, cc_BadText⟩, iC_BadText, tI_BadText, supB_ok sp_BadText⟩,
    b_BadText_init := IniF.binds (P := PWX) (C := C_BadText) ⟨⟨_, _, _, _, _, _, _, _, _, _, _, _, _, _, _, _, _, _, _, rfl, L_BadText_init, cd_BadText, ck_BadText, cv_BadText, cf_BadText, cc_BadText⟩, iC_BadText, tI_BadText, supB_ok sp_BadText⟩ (fun _ _ _ _ _ _ _ us hl => match us, hl with | [_, _], _ => rfl),
    C_Twice := C_Twice, mgc_Twice := PySem.W.mg_of X G A_Twice, xb_Twice := excB_ok X_Twice,
    ox_Twice := ⟨⟨_, _, _, _, _, _, _, _, _, _, _, _, _, _, _, xL_Twice, rV_Twice⟩, (excB_ok X_Twice).sa, (excB_ok X_Twice).ec.hs, (excB_ok X_Twice).ty, (excB_ok X_Twice).kp⟩, a_Twice_init := f_Twice_init, d_Twice_init := _, I_Twice := ⟨⟨_, _, _, _, _, _, _, _, _, _, _, _, _, _, _, _, _, _, _, rfl, L_Twice_init, cd_Twice, ck_Twice, cv_Twice, cf_Twice, cc_Twice⟩, iC_Twice, tI_Twice, supB_ok sp_Twice⟩,
    b_Twice_init := IniF.binds (P := PWX) (C := C_Twice) ⟨⟨_, _, _, _, _, _, _, _, _, _, _, _, _, _, _, _, _, _, _, rfl, L_Twice_init, cd_Twice, ck_Twice, cv_Twice, cf_Twice, cc_Twice⟩, iC_Twice, tI_Twice, supB_ok sp_Twice⟩ (fun _ _ _ _ _ _ _ us hl => match us, hl with | [_, _], _ => rfl),
    C_Unknown := C_Unknown, mgc_Unknown := PySem.W.mg_of X G A_Unknown, xb_Unknown := excB_ok X_Unknown,
    ox_Unknown := ⟨⟨_, _, _, _, _, _, _, _, _, _, _, _, _, _, _, xL_Unknown, rV_Unknown⟩, (excB_ok X_Unknown).sa, (excB_ok X_Unknown).ec.hs, (excB_ok X_Unknown).ty, (excB_ok X_Unknown).kp⟩, a_Unknown_init := f_Unknown_init, d_Unknown_init := _, I_Unknown := ⟨⟨_, _, _, _, _, _, _, _, _, _, _, _, _, _, _, _, _, _, _, rfl, L_Unknown_init, cd_Unknown, ck_Unknown, cv_Unknown, cf_Unknown, cc_Unknown⟩, iC_Unknown, tI_Unknown, supB_ok sp_Unknown⟩,
    b_Unknown_init := IniF.binds (P := PWX) (C := C_Unknown) ⟨⟨_, _, _, _, _, _, _, _, _, _, _, _, _, _, _, _, _, _, _, rfl, L_Unknown_init, cd_Unknown, ck_Unknown, cv_Unknown, cf_Unknown, cc_Unknown⟩, iC_Unknown, tI_Unknown, supB_ok sp_Unknown⟩ (fun _ _ _ _ _ _ _ us hl => match us, hl with | [_, _], _ => rfl),
    C_BadKind := C_BadKind, mgc_BadKind := PySem.W.mg_of X G A_BadKind, xb_BadKind := excB_ok X_BadKind,
    ox_BadKind := ⟨⟨_, _, _, _, _, _, _, _, _, _, _, _, _, _, _, xL_BadKind, rV_BadKind⟩, (excB_ok X_BadKind).sa, (excB_ok X_BadKind).ec.hs, (excB_ok X_BadKind).ty, (excB_ok X_BadKind).kp⟩, a_BadKind_init := f_BadKind_init, d_BadKind_init := _, I_BadKind := ⟨⟨_, _, _, _, _, _, _, _, _, _, _, _, _, _, _, _, _, _, _, rfl, L_BadKind_init, cd_BadKind, ck_BadKind, cv_BadKind, cf_BadKind, cc_BadKind⟩, iC_BadKind, tI_BadKind, supB_ok sp_BadKind⟩,
    b_BadKind_init := IniF.binds (P := PWX) (C := C_BadKind) ⟨⟨_, _, _, _, _, _, _, _, _, _, _, _, _, _, _, _, _, _, _, rfl, L_BadKind_init, cd_BadKind, ck_BadKind, cv_BadKind, cf_BadKind, cc_BadKind⟩, iC_BadKind, tI_BadKind, supB_ok sp_BadKind⟩ (fun _ _ _ _ _ _ _ us hl => match us, hl with | [_, _], _ => rfl),
    C_WrongKind := C_WrongKind, mgc_WrongKind := PySem.W.mg_of X G A_WrongKind, xb_WrongKind := excB_ok X_WrongKind,
    ox_WrongKind := ⟨⟨_, _, _, _, _, _, _, _, _, _, _, _, _, _, _, xL_WrongKind, rV_WrongKind⟩, (excB_ok X_WrongKind).sa, (excB_ok X_WrongKind).ec.hs, (excB_ok X_WrongKind).ty, (excB_ok X_WrongKind).kp⟩, a_WrongKind_init := f_WrongKind_init, d_WrongKind_init := _, I_WrongKind := ⟨⟨_, _, _, _, _, _, _, _, _, _, _, _, _, _, _, _, _, _, _, rfl, L_WrongKind_init, cd_WrongKind, ck_WrongKind, cv_WrongKind, cf_WrongKind, cc_WrongKind⟩, iC_WrongKind, tI_WrongKind, supB_ok sp_WrongKind⟩,
    b_WrongKind_init := IniF.binds (P := PWX) (C := C_WrongKind) ⟨⟨_, _, _, _, _, _, _, _, _, _, _, _, _, _, _, _, _, _, _, rfl, L_WrongKind_init, cd_WrongKind, ck_WrongKind, cv_WrongKind, cf_WrongKind, cc_WrongKind⟩, iC_WrongKind, tI_WrongKind, supB_ok sp_WrongKind⟩ (fun _ _ _ _ _ _ _ us hl => match us, hl with | [_, _, _], _ => rfl),
    C_NoSite := C_NoSite, mgc_NoSite := PySem.W.mg_of X G A_NoSite, xb_NoSite := excB_ok X_NoSite,
    ox_NoSite := ⟨⟨_, _, _, _, _, _, _, _, _, _, _, _, _, _, _, xL_NoSite, rV_NoSite⟩, (excB_ok X_NoSite).sa, (excB_ok X_NoSite).ec.hs, (excB_ok X_NoSite).ty, (excB_ok X_NoSite).kp⟩, a_NoSite_init := f_NoSite_init, d_NoSite_init := _, I_NoSite := ⟨⟨_, _, _, _, _, _, _, _, _, _, _, _, _, _, _, _, _, _, _, rfl, L_NoSite_init, cd_NoSite, ck_NoSite, cv_NoSite, cf_NoSite, cc_NoSite⟩, iC_NoSite, tI_NoSite, supB_ok sp_NoSite⟩,
    b_NoSite_init := IniF.binds (P := PWX) (C := C_NoSite) ⟨⟨_, _, _, _, _, _, _, _, _, _, _, _, _, _, _, _, _, _, _, rfl, L_NoSite_init, cd_NoSite, ck_NoSite, cv_NoSite, cf_NoSite, cc_NoSite⟩, iC_NoSite, tI_NoSite, supB_ok sp_NoSite⟩ (fun _ _ _ _ _ _ _ us hl => match us, hl with | [_, _, _, _], _ => rfl),
    C_NoPlace := C_NoPlace, mgc_NoPlace := PySem.W.mg_of X G A_NoPlace, xb_NoPlace := excB_ok X_NoPlace,
    ox_NoPlace := ⟨⟨_, _, _, _, _, _, _, _, _, _, _, _, _, _, _, xL_NoPlace, rV_NoPlace⟩, (excB_ok X_NoPlace).sa, (excB_ok X_NoPlace).ec.hs, (excB_ok X_NoPlace).ty, (excB_ok X_NoPlace).kp⟩, a_NoPlace_init := f_NoPlace_init, d_NoPlace_init := _, I_NoPlace := ⟨⟨_, _, _, _, _, _, _, _, _, _, _, _, _, _, _, _, _, _, _, rfl, L_NoPlace_init, cd_NoPlace, ck_NoPlace, cv_NoPlace, cf_NoPlace, cc_NoPlace⟩, iC_NoPlace, tI_NoPlace, supB_ok sp_NoPlace⟩,
    b_NoPlace_init := IniF.binds (P := PWX) (C := C_NoPlace) ⟨⟨_, _, _, _, _, _, _, _, _, _, _, _, _, _, _, _, _, _, _, rfl, L_NoPlace_init, cd_NoPlace, ck_NoPlace, cv_NoPlace, cf_NoPlace, cc_NoPlace⟩, iC_NoPlace, tI_NoPlace, supB_ok sp_NoPlace⟩ (fun _ _ _ _ _ _ _ us hl => match us, hl with | [_, _, _], _ => rfl),
    C_NotAccepted := C_NotAccepted, mgc_NotAccepted := PySem.W.mg_of X G A_NotAccepted, xb_NotAccepted := excB_ok X_NotAccepted,
    ox_NotAccepted := ⟨⟨_, _, _, _, _, _, _, _, _, _, _, _, _, _, _, xL_NotAccepted, rV_NotAccepted⟩, (excB_ok X_NotAccepted).sa, (excB_ok X_NotAccepted).ec.hs, (excB_ok X_NotAccepted).ty, (excB_ok X_NotAccepted).kp⟩, a_NotAccepted_init := f_NotAccepted_init, d_NotAccepted_init := _, I_NotAccepted := ⟨⟨_, _, _, _, _, _, _, _, _, _, _, _, _, _, _, _, _, _, _, rfl, L_NotAccepted_init, cd_NotAccepted, ck_NotAccepted, cv_NotAccepted, cf_NotAccepted, cc_NotAccepted⟩, iC_NotAccepted, tI_NotAccepted, supB_ok sp_NotAccepted⟩,
    b_NotAccepted_init := IniF.binds (P := PWX) (C := C_NotAccepted) ⟨⟨_, _, _, _, _, _, _, _, _, _, _, _, _, _, _, _, _, _, _, rfl, L_NotAccepted_init, cd_NotAccepted, ck_NotAccepted, cv_NotAccepted, cf_NotAccepted, cc_NotAccepted⟩, iC_NotAccepted, tI_NotAccepted, supB_ok sp_NotAccepted⟩ (fun _ _ _ _ _ _ _ us hl => match us, hl with | [_], _ => rfl),
    C_BadCertificate := C_BadCertificate, mgc_BadCertificate := PySem.W.mg_of X G A_BadCertificate, xb_BadCertificate := excB_ok X_BadCertificate,
    ox_BadCertificate := ⟨⟨_, _, _, _, _, _, _, _, _, _, _, _, _, _, _, xL_BadCertificate, rV_BadCertificate⟩, (excB_ok X_BadCertificate).sa, (excB_ok X_BadCertificate).ec.hs, (excB_ok X_BadCertificate).ty, (excB_ok X_BadCertificate).kp⟩, a_BadCertificate_init := f_BadCertificate_init, d_BadCertificate_init := _, I_BadCertificate := ⟨⟨_, _, _, _, _, _, _, _, _, _, _, _, _, _, _, _, _, _, _, rfl, L_BadCertificate_init, cd_BadCertificate, ck_BadCertificate, cv_BadCertificate, cf_BadCertificate, cc_BadCertificate⟩, iC_BadCertificate, tI_BadCertificate, supB_ok sp_BadCertificate⟩,
    b_BadCertificate_init := IniF.binds (P := PWX) (C := C_BadCertificate) ⟨⟨_, _, _, _, _, _, _, _, _, _, _, _, _, _, _, _, _, _, _, rfl, L_BadCertificate_init, cd_BadCertificate, ck_BadCertificate, cv_BadCertificate, cf_BadCertificate, cc_BadCertificate⟩, iC_BadCertificate, tI_BadCertificate, supB_ok sp_BadCertificate⟩ (fun _ _ _ _ _ _ _ us hl => match us, hl with | [_, _], _ => rfl),
    C_WrongChange := C_WrongChange, mgc_WrongChange := PySem.W.mg_of X G A_WrongChange, xb_WrongChange := excB_ok X_WrongChange,
    ox_WrongChange := ⟨⟨_, _, _, _, _, _, _, _, _, _, _, _, _, _, _, xL_WrongChange, rV_WrongChange⟩, (excB_ok X_WrongChange).sa, (excB_ok X_WrongChange).ec.hs, (excB_ok X_WrongChange).ty, (excB_ok X_WrongChange).kp⟩, a_WrongChange_init := f_WrongChange_init, d_WrongChange_init := _, I_WrongChange := ⟨⟨_, _, _, _, _, _, _, _, _, _, _, _, _, _, _, _, _, _, _, rfl, L_WrongChange_init, cd_WrongChange, ck_WrongChange, cv_WrongChange, cf_WrongChange, cc_WrongChange⟩, iC_WrongChange, tI_WrongChange, supB_ok sp_WrongChange⟩,
    b_WrongChange_init := IniF.binds (P := PWX) (C := C_WrongChange) ⟨⟨_, _, _, _, _, _, _, _, _, _, _, _, _, _, _, _, _, _, _, rfl, L_WrongChange_init, cd_WrongChange, ck_WrongChange, cv_WrongChange, cf_WrongChange, cc_WrongChange⟩, iC_WrongChange, tI_WrongChange, supB_ok sp_WrongChange⟩ (fun _ _ _ _ _ _ _ us hl => match us, hl with | [_, _], _ => rfl),
    C_NotPlain := C_NotPlain, mgc_NotPlain := PySem.W.mg_of X G A_NotPlain, xb_NotPlain := excB_ok X_NotPlain,
    ox_NotPlain := ⟨⟨_, _, _, _, _, _, _, _, _, _, _, _, _, _, _, xL_NotPlain, rV_NotPlain⟩, (excB_ok X_NotPlain).sa, (excB_ok X_NotPlain).ec.hs, (excB_ok X_NotPlain).ty, (excB_ok X_NotPlain).kp⟩, a_NotPlain_init := f_NotPlain_init, d_NotPlain_init := _, I_NotPlain := ⟨⟨_, _, _, _, _, _, _, _, _, _, _, _, _, _, _, _, _, _, _, rfl, L_NotPlain_init, cd_NotPlain, ck_NotPlain, cv_NotPlain, cf_NotPlain, cc_NotPlain⟩, iC_NotPlain, tI_NotPlain, supB_ok sp_NotPlain⟩,
    b_NotPlain_init := IniF.binds (P := PWX) (C := C_NotPlain) ⟨⟨_, _, _, _, _, _, _, _, _, _, _, _, _, _, _, _, _, _, _, rfl, L_NotPlain_init, cd_NotPlain, ck_NotPlain, cv_NotPlain, cf_NotPlain, cc_NotPlain⟩, iC_NotPlain, tI_NotPlain, supB_ok sp_NotPlain⟩ (fun _ _ _ _ _ _ _ us hl => match us, hl with | [_], _ => rfl),
    C_BadWitness := C_BadWitness, mgc_BadWitness := PySem.W.mg_of X G A_BadWitness, xb_BadWitness := excB_ok X_BadWitness,
    ox_BadWitness := ⟨⟨_, _, _, _, _, _, _, _, _, _, _, _, _, _, _, xL_BadWitness, rV_BadWitness⟩, (excB_ok X_BadWitness).sa, (excB_ok X_BadWitness).ec.hs, (excB_ok X_BadWitness).ty, (excB_ok X_BadWitness).kp⟩, a_BadWitness_init := f_BadWitness_init, d_BadWitness_init := _, I_BadWitness := ⟨⟨_, _, _, _, _, _, _, _, _, _, _, _, _, _, _, _, _, _, _, rfl, L_BadWitness_init, cd_BadWitness, ck_BadWitness, cv_BadWitness, cf_BadWitness, cc_BadWitness⟩, iC_BadWitness, tI_BadWitness, supB_ok sp_BadWitness⟩,
    b_BadWitness_init := IniF.binds (P := PWX) (C := C_BadWitness) ⟨⟨_, _, _, _, _, _, _, _, _, _, _, _, _, _, _, _, _, _, _, rfl, L_BadWitness_init, cd_BadWitness, ck_BadWitness, cv_BadWitness, cf_BadWitness, cc_BadWitness⟩, iC_BadWitness, tI_BadWitness, supB_ok sp_BadWitness⟩ (fun _ _ _ _ _ _ _ us hl => match us, hl with | [_, _], _ => rfl),
    C_TooLong := C_TooLong, mgc_TooLong := PySem.W.mg_of X G A_TooLong, xb_TooLong := excB_ok X_TooLong,
    ox_TooLong := ⟨⟨_, _, _, _, _, _, _, _, _, _, _, _, _, _, _, xL_TooLong, rV_TooLong⟩, (excB_ok X_TooLong).sa, (excB_ok X_TooLong).ec.hs, (excB_ok X_TooLong).ty, (excB_ok X_TooLong).kp⟩, a_TooLong_init := f_TooLong_init, d_TooLong_init := _, I_TooLong := ⟨⟨_, _, _, _, _, _, _, _, _, _, _, _, _, _, _, _, _, _, _, rfl, L_TooLong_init, cd_TooLong, ck_TooLong, cv_TooLong, cf_TooLong, cc_TooLong⟩, iC_TooLong, tI_TooLong, supB_ok sp_TooLong⟩,
    b_TooLong_init := IniF.binds (P := PWX) (C := C_TooLong) ⟨⟨_, _, _, _, _, _, _, _, _, _, _, _, _, _, _, _, _, _, _, rfl, L_TooLong_init, cd_TooLong, ck_TooLong, cv_TooLong, cf_TooLong, cc_TooLong⟩, iC_TooLong, tI_TooLong, supB_ok sp_TooLong⟩ (fun _ _ _ _ _ _ _ us hl => match us, hl with | [_, _], _ => rfl),
    C_NothingLoaded := C_NothingLoaded, mgc_NothingLoaded := PySem.W.mg_of X G A_NothingLoaded, xb_NothingLoaded := excB_ok X_NothingLoaded,
    ox_NothingLoaded := ⟨⟨_, _, _, _, _, _, _, _, _, _, _, _, _, _, _, xL_NothingLoaded, rV_NothingLoaded⟩, (excB_ok X_NothingLoaded).sa, (excB_ok X_NothingLoaded).ec.hs, (excB_ok X_NothingLoaded).ty, (excB_ok X_NothingLoaded).kp⟩, a_NothingLoaded_init := f_NothingLoaded_init, d_NothingLoaded_init := _, I_NothingLoaded := ⟨⟨_, _, _, _, _, _, _, _, _, _, _, _, _, _, _, _, _, _, _, rfl, L_NothingLoaded_init, cd_NothingLoaded, ck_NothingLoaded, cv_NothingLoaded, cf_NothingLoaded, cc_NothingLoaded⟩, iC_NothingLoaded, tI_NothingLoaded, supB_ok sp_NothingLoaded⟩,
    b_NothingLoaded_init := IniF.binds (P := PWX) (C := C_NothingLoaded) ⟨⟨_, _, _, _, _, _, _, _, _, _, _, _, _, _, _, _, _, _, _, rfl, L_NothingLoaded_init, cd_NothingLoaded, ck_NothingLoaded, cv_NothingLoaded, cf_NothingLoaded, cc_NothingLoaded⟩, iC_NothingLoaded, tI_NothingLoaded, supB_ok sp_NothingLoaded⟩ (fun _ _ _ _ _ _ _ us hl => match us, hl with | [_], _ => rfl),
    C_NothingToUndo := C_NothingToUndo, mgc_NothingToUndo := PySem.W.mg_of X G A_NothingToUndo, xb_NothingToUndo := excB_ok X_NothingToUndo,
    ox_NothingToUndo := ⟨⟨_, _, _, _, _, _, _, _, _, _, _, _, _, _, _, xL_NothingToUndo, rV_NothingToUndo⟩, (excB_ok X_NothingToUndo).sa, (excB_ok X_NothingToUndo).ec.hs, (excB_ok X_NothingToUndo).ty, (excB_ok X_NothingToUndo).kp⟩, a_NothingToUndo_init := f_NothingToUndo_init, d_NothingToUndo_init := _, I_NothingToUndo := ⟨⟨_, _, _, _, _, _, _, _, _, _, _, _, _, _, _, _, _, _, _, rfl, L_NothingToUndo_init, cd_NothingToUndo, ck_NothingToUndo, cv_NothingToUndo, cf_NothingToUndo, cc_NothingToUndo⟩, iC_NothingToUndo, tI_NothingToUndo, supB_ok sp_NothingToUndo⟩,
    b_NothingToUndo_init := IniF.binds (P := PWX) (C := C_NothingToUndo) ⟨⟨_, _, _, _, _, _, _, _, _, _, _, _, _, _, _, _, _, _, _, rfl, L_NothingToUndo_init, cd_NothingToUndo, ck_NothingToUndo, cv_NothingToUndo, cf_NothingToUndo, cc_NothingToUndo⟩, iC_NothingToUndo, tI_NothingToUndo, supB_ok sp_NothingToUndo⟩ (fun _ _ _ _ _ _ _ us hl => match us, hl with | [_], _ => rfl),
    C_BadJournal := C_BadJournal, mgc_BadJournal := PySem.W.mg_of X G A_BadJournal, xb_BadJournal := excB_ok X_BadJournal,
    ox_BadJournal := ⟨⟨_, _, _, _, _, _, _, _, _, _, _, _, _, _, _, xL_BadJournal, rV_BadJournal⟩, (excB_ok X_BadJournal).sa, (excB_ok X_BadJournal).ec.hs, (excB_ok X_BadJournal).ty, (excB_ok X_BadJournal).kp⟩, a_BadJournal_init := f_BadJournal_init, d_BadJournal_init := _, I_BadJournal := ⟨⟨_, _, _, _, _, _, _, _, _, _, _, _, _, _, _, _, _, _, _, rfl, L_BadJournal_init, cd_BadJournal, ck_BadJournal, cv_BadJournal, cf_BadJournal, cc_BadJournal⟩, iC_BadJournal, tI_BadJournal, supB_ok sp_BadJournal⟩,
    b_BadJournal_init := IniF.binds (P := PWX) (C := C_BadJournal) ⟨⟨_, _, _, _, _, _, _, _, _, _, _, _, _, _, _, _, _, _, _, rfl, L_BadJournal_init, cd_BadJournal, ck_BadJournal, cv_BadJournal, cf_BadJournal, cc_BadJournal⟩, iC_BadJournal, tI_BadJournal, supB_ok sp_BadJournal⟩ (fun _ _ _ _ _ _ _ us hl => match us, hl with | [_, _], _ => rfl),
    kr_NeverError := kr_NeverError, kv_NeverError := kv_NeverError,
    te_NeverError_NeverError := te_NeverError_NeverError,
    kr_BadText := kr_BadText, kv_BadText := kv_BadText,
    te_BadText_NeverError := te_BadText_NeverError,
    kr_Twice := kr_Twice, kv_Twice := kv_Twice,
    te_Twice_NeverError := te_Twice_NeverError,
    kr_Unknown := kr_Unknown, kv_Unknown := kv_Unknown,
    te_Unknown_NeverError := te_Unknown_NeverError,
    kr_BadKind := kr_BadKind, kv_BadKind := kv_BadKind,
    te_BadKind_NeverError := te_BadKind_NeverError,
    kr_WrongKind := kr_WrongKind, kv_WrongKind := kv_WrongKind,
    te_WrongKind_NeverError := te_WrongKind_NeverError,
    kr_NoSite := kr_NoSite, kv_NoSite := kv_NoSite,
    te_NoSite_NeverError := te_NoSite_NeverError,
    kr_NoPlace := kr_NoPlace, kv_NoPlace := kv_NoPlace,
    te_NoPlace_NeverError := te_NoPlace_NeverError,
    kr_NotAccepted := kr_NotAccepted, kv_NotAccepted := kv_NotAccepted,
    te_NotAccepted_NeverError := te_NotAccepted_NeverError,
    kr_BadCertificate := kr_BadCertificate, kv_BadCertificate := kv_BadCertificate,
    te_BadCertificate_NeverError := te_BadCertificate_NeverError,
    kr_WrongChange := kr_WrongChange, kv_WrongChange := kv_WrongChange,
    te_WrongChange_NeverError := te_WrongChange_NeverError,
    kr_NotPlain := kr_NotPlain, kv_NotPlain := kv_NotPlain,
    te_NotPlain_NeverError := te_NotPlain_NeverError,
    kr_BadWitness := kr_BadWitness, kv_BadWitness := kv_BadWitness,
    te_BadWitness_NeverError := te_BadWitness_NeverError,
    kr_TooLong := kr_TooLong, kv_TooLong := kv_TooLong,
    te_TooLong_NeverError := te_TooLong_NeverError,
    kr_NothingLoaded := kr_NothingLoaded, kv_NothingLoaded := kv_NothingLoaded,
    te_NothingLoaded_NeverError := te_NothingLoaded_NeverError,
    kr_NothingToUndo := kr_NothingToUndo, kv_NothingToUndo := kv_NothingToUndo,
    te_NothingToUndo_NeverError := te_NothingToUndo_NeverError,
    kr_BadJournal := kr_BadJournal, kv_BadJournal := kv_BadJournal,
    te_BadJournal_NeverError := te_BadJournal_NeverError,
    z_ValueError := PySem.W.mg_none_of X G Z_ValueError,
    z_bool := PySem.W.mg_none_of X G Z_bool,
    z_int := PySem.W.mg_none_of X G Z_int,
    z_isinstance := PySem.W.mg_none_of X G Z_isinstance,
    z_len := PySem.W.mg_none_of X G Z_len,
    z_list := PySem.W.mg_none_of X G Z_list,
    z_range := PySem.W.mg_none_of X G Z_range,
    z_str := PySem.W.mg_none_of X G Z_str,
    z_super := PySem.W.mg_none_of X G Z_super,
    z_tuple := PySem.W.mg_none_of X G Z_tuple }
  refine ⟨PySem.W.fnOf "law" "law" (defArgs s_law) (defBody s_law) (defScope s_law) .none kV_law dc_law pm_law an_law cd_law ct_law, fun s v => .of_eq rfl, fun base _ _ => ok_law T⟩
theorem walk {l : PySem.W.OpenLaw} {q : Program} {loose : List Str} {XP : (Str → Option Value) → Heap → Prop} {YP : World → Heap → Prop} {d : DefRec} {K : Params → PySem.W.Frag} (hn : l.most = some 63) (hdf : d.params.defaults = [])
    (hY : ∀ (w : World) (h : Heap), YP w h → (K w.params).In h)
    (F : ∀ (w : World) (mg : Str → Option Value) (fa : Addr) (h : Heap), (K w.params).In h → h.Ns mainGlobals mg → mg d.name = some (.ref fa) →
      ∃ fd : FuncData, (∀ (s : Shared) (u : Value), BindsTo s fd ⟨[u], []⟩ [("_law_script", u)]) ∧ ∀ base : Heap, (K w.params).In base → base.Ns mainGlobals mg → FnOk l.prog w (K w.params) mg base CX0 6 fa fd ["_law_script"] (spLaw (K w.params))) :
    PySem.W.WalkO q loose XP YP l.row.toRowW d [] (fun f vs => PySem.call f vs) :=
  L2.walk_of (n := 63) (k := 6) (x := "_law_script") (CX := fun _ => CX0) (sp := fun w => spLaw (K w.params)) hn (by decide) hdf ⟨rfl, by decide, by decide⟩ hY F (fun _ _ a ns hl _ hS => ⟨a, ns, rfl, hS, hl, fun _ => rfl⟩) fun _ _ _ _ _ z => z
end Mine
open PySem PySem.W PyProof.Rows
set_option maxRecDepth 100000 in
set_option maxHeartbeats 0 in
theorem PySem.Challenge.cw_neverhappens_k79_errors_holds : PySem.Challenge.rw_neverhappens_k79_errors.Holds := by
  w_on; o_law; k_head; (case hw => w_witness2)
  k_fill
  refine Mine.walk (l := PySem.Challenge.rw_neverhappens_k79_errors) rfl rfl (fun w h Y => PySem.W.kIn_of Y) ?F
  case F =>
    intro w mg fa h KX G hmg
    refine' Mine.all_mk KX G hmg ?A_l_cell ?L_l_cell ?C_l_cell ?K_l_cell ?A_l_source ?L_l_source ?C_l_source ?K_l_source ?A_l_pick ?L_l_pick ?C_l_pick ?K_l_pick ?A_l_one ?L_l_one ?C_l_one ?K_l_one ?A_l_same ?L_l_same ?C_l_same ?K_l_same ?A_l_given ?L_l_given ?C_l_given ?K_l_given ?A_l_raise ?L_l_raise ?C_l_raise ?K_l_raise ?A_l_marks ?L_l_marks ?C_l_marks ?K_l_marks ?A_l_attributes ?L_l_attributes ?C_l_attributes ?K_l_attributes ?A_l_right ?L_l_right ?C_l_right ?K_l_right ?A_law ?L_law ?C_law ?K_law ?A_NeverError ?X_NeverError ?A_BadText ?X_BadText ?xL_BadText ?rV_BadText ?iC_BadText ?tI_BadText ?L_BadText_init ?cd_BadText ?ck_BadText ?cv_BadText ?cf_BadText ?cc_BadText ?sp_BadText ?A_Twice ?X_Twice ?xL_Twice ?rV_Twice ?iC_Twice ?tI_Twice ?L_Twice_init ?cd_Twice ?ck_Twice ?cv_Twice ?cf_Twice ?cc_Twice ?sp_Twice ?A_Unknown ?X_Unknown ?xL_Unknown ?rV_Unknown ?iC_Unknown ?tI_Unknown ?L_Unknown_init ?cd_Unknown ?ck_Unknown ?cv_Unknown ?cf_Unknown ?cc_Unknown ?sp_Unknown ?A_BadKind ?X_BadKind ?xL_BadKind ?rV_BadKind ?iC_BadKind ?tI_BadKind ?L_BadKind_init ?cd_BadKind ?ck_BadKind ?cv_BadKind ?cf_BadKind ?cc_BadKind ?sp_BadKind ?A_WrongKind ?X_WrongKind ?xL_WrongKind ?rV_WrongKind ?iC_WrongKind ?tI_WrongKind ?L_WrongKind_init ?cd_WrongKind ?ck_WrongKind ?cv_WrongKind ?cf_WrongKind ?cc_WrongKind ?sp_WrongKind ?A_NoSite ?X_NoSite ?xL_NoSite ?rV_NoSite ?iC_NoSite ?tI_NoSite ?L_NoSite_init ?cd_NoSite ?ck_NoSite ?cv_NoSite ?cf_NoSite ?cc_NoSite ?sp_NoSite ?A_NoPlace ?X_NoPlace ?xL_NoPlace ?rV_NoPlace ?iC_NoPlace ?tI_NoPlace ?L_NoPlace_init ?cd_NoPlace ?ck_NoPlace ?cv_NoPlace ?cf_NoPlace ?cc_NoPlace ?sp_NoPlace ?A_NotAccepted ?X_NotAccepted ?xL_NotAccepted ?rV_NotAccepted ?iC_NotAccepted ?tI_NotAccepted ?L_NotAccepted_init ?cd_NotAccepted ?ck_NotAccepted ?cv_NotAccepted ?cf_NotAccepted ?cc_NotAccepted ?sp_NotAccepted ?A_BadCertificate ?X_BadCertificate ?xL_BadCertificate ?rV_BadCertificate ?iC_BadCertificate ?tI_BadCertificate ?L_BadCertificate_init ?cd_BadCertificate ?ck_BadCertificate ?cv_BadCertificate ?cf_BadCertificate ?cc_BadCertificate ?sp_BadCertificate ?A_WrongChange ?X_WrongChange ?xL_WrongChange ?rV_WrongChange ?iC_WrongChange ?tI_WrongChange ?L_WrongChange_init ?cd_WrongChange ?ck_WrongChange ?cv_WrongChange ?cf_WrongChange ?cc_WrongChange ?sp_WrongChange ?A_NotPlain ?X_NotPlain ?xL_NotPlain ?rV_NotPlain ?iC_NotPlain ?tI_NotPlain ?L_NotPlain_init ?cd_NotPlain ?ck_NotPlain ?cv_NotPlain ?cf_NotPlain ?cc_NotPlain ?sp_NotPlain ?A_BadWitness ?X_BadWitness ?xL_BadWitness ?rV_BadWitness ?iC_BadWitness ?tI_BadWitness ?L_BadWitness_init ?cd_BadWitness ?ck_BadWitness ?cv_BadWitness ?cf_BadWitness ?cc_BadWitness ?sp_BadWitness ?A_TooLong ?X_TooLong ?xL_TooLong ?rV_TooLong ?iC_TooLong ?tI_TooLong ?L_TooLong_init ?cd_TooLong ?ck_TooLong ?cv_TooLong ?cf_TooLong ?cc_TooLong ?sp_TooLong ?A_NothingLoaded ?X_NothingLoaded ?xL_NothingLoaded ?rV_NothingLoaded ?iC_NothingLoaded ?tI_NothingLoaded ?L_NothingLoaded_init ?cd_NothingLoaded ?ck_NothingLoaded ?cv_NothingLoaded ?cf_NothingLoaded ?cc_NothingLoaded ?sp_NothingLoaded ?A_NothingToUndo ?X_NothingToUndo ?xL_NothingToUndo ?rV_NothingToUndo ?iC_NothingToUndo ?tI_NothingToUndo ?L_NothingToUndo_init ?cd_NothingToUndo ?ck_NothingToUndo ?cv_NothingToUndo ?cf_NothingToUndo ?cc_NothingToUndo ?sp_NothingToUndo ?A_BadJournal ?X_BadJournal ?xL_BadJournal ?rV_BadJournal ?iC_BadJournal ?tI_BadJournal ?L_BadJournal_init ?cd_BadJournal ?ck_BadJournal ?cv_BadJournal ?cf_BadJournal ?cc_BadJournal ?sp_BadJournal ?kr_NeverError ?kv_NeverError ?te_NeverError_NeverError ?kr_BadText ?kv_BadText ?te_BadText_NeverError ?kr_Twice ?kv_Twice ?te_Twice_NeverError ?kr_Unknown ?kv_Unknown ?te_Unknown_NeverError ?kr_BadKind ?kv_BadKind ?te_BadKind_NeverError ?kr_WrongKind ?kv_WrongKind ?te_WrongKind_NeverError ?kr_NoSite ?kv_NoSite ?te_NoSite_NeverError ?kr_NoPlace ?kv_NoPlace ?te_NoPlace_NeverError ?kr_NotAccepted ?kv_NotAccepted ?te_NotAccepted_NeverError ?kr_BadCertificate ?kv_BadCertificate ?te_BadCertificate_NeverError ?kr_WrongChange ?kv_WrongChange ?te_WrongChange_NeverError ?kr_NotPlain ?kv_NotPlain ?te_NotPlain_NeverError ?kr_BadWitness ?kv_BadWitness ?te_BadWitness_NeverError ?kr_TooLong ?kv_TooLong ?te_TooLong_NeverError ?kr_NothingLoaded ?kv_NothingLoaded ?te_NothingLoaded_NeverError ?kr_NothingToUndo ?kv_NothingToUndo ?te_NothingToUndo_NeverError ?kr_BadJournal ?kv_BadJournal ?te_BadJournal_NeverError ?Z_ValueError ?Z_bool ?Z_int ?Z_isinstance ?Z_len ?Z_list ?Z_range ?Z_str ?Z_super ?Z_tuple
    (case A_l_cell => k_is)
    (case L_l_cell => k_is)
    (case C_l_cell => k_is)
    (case K_l_cell => k_is)
    (case A_l_source => k_is)
    (case L_l_source => k_is)
    (case C_l_source => k_is)
    (case K_l_source => k_is)
    (case A_l_pick => k_is)
    (case L_l_pick => k_is)
    (case C_l_pick => k_is)
    (case K_l_pick => k_is)
    (case A_l_one => k_is)
    (case L_l_one => k_is)
    (case C_l_one => k_is)
    (case K_l_one => k_is)
    (case A_l_same => k_is)
    (case L_l_same => k_is)
    (case C_l_same => k_is)
    (case K_l_same => k_is)
    (case A_l_given => k_is)
    (case L_l_given => k_is)
    (case C_l_given => k_is)
    (case K_l_given => k_is)
    (case A_l_raise => k_is)
    (case L_l_raise => k_is)
    (case C_l_raise => k_is)
    (case K_l_raise => k_is)
    (case A_l_marks => k_is)
    (case L_l_marks => k_is)
    (case C_l_marks => k_is)
    (case K_l_marks => k_is)
    (case A_l_attributes => k_is)
    (case L_l_attributes => k_is)
    (case C_l_attributes => k_is)
    (case K_l_attributes => k_is)
    (case A_l_right => k_is)
    (case L_l_right => k_is)
    (case C_l_right => k_is)
    (case K_l_right => k_is)
    (case A_law => k_is)
    (case L_law => k_is)
    (case C_law => k_is)
    (case K_law => k_is)
    (case A_NeverError => k_is)
    (case X_NeverError => kernel_rfl)
    (case A_BadText => k_is)
    (case X_BadText => kernel_rfl)
    (case xL_BadText => k_is)
    (case rV_BadText => kernel_rfl)
    (case iC_BadText => k_is)
    (case tI_BadText => k_is)
    (case L_BadText_init => k_is)
    (case cd_BadText => k_is)
    (case ck_BadText => k_is)
    (case cv_BadText => rfl)
    (case cf_BadText => kernel_rfl)
    (case cc_BadText => k_is)
    (case sp_BadText => kernel_rfl)
    (case A_Twice => k_is)
    (case X_Twice => kernel_rfl)
    (case xL_Twice => k_is)
    (case rV_Twice => kernel_rfl)
    (case iC_Twice => k_is)
    (case tI_Twice => k_is)
    (case L_Twice_init => k_is)
    (case cd_Twice => k_is)
    (case ck_Twice => k_is)
    (case cv_Twice => rfl)
    (case cf_Twice => kernel_rfl)
    (case cc_Twice => k_is)
    (case sp_Twice => kernel_rfl)
    (case A_Unknown => k_is)
    (case X_Unknown => kernel_rfl)
    (case xL_Unknown => k_is)
    (case rV_Unknown => kernel_rfl)
    (case iC_Unknown => k_is)
    (case tI_Unknown => k_is)
    (case L_Unknown_init => k_is)
    (case cd_Unknown => k_is)
    (case ck_Unknown => k_is)
    (case cv_Unknown => rfl)
    (case cf_Unknown => kernel_rfl)
    (case cc_Unknown => k_is)
    (case sp_Unknown => kernel_rfl)
    (case A_BadKind => k_is)
    (case X_BadKind => kernel_rfl)
    (case xL_BadKind => k_is)
    (case rV_BadKind => kernel_rfl)
    (case iC_BadKind => k_is)
    (case tI_BadKind => k_is)
    (case L_BadKind_init => k_is)
    (case cd_BadKind => k_is)
    (case ck_BadKind => k_is)
    (case cv_BadKind => rfl)
    (case cf_BadKind => kernel_rfl)
    (case cc_BadKind => k_is)
    (case sp_BadKind => kernel_rfl)
    (case A_WrongKind => k_is)
    (case X_WrongKind => kernel_rfl)
    (case xL_WrongKind => k_is)
    (case rV_WrongKind => kernel_rfl)
    (case iC_WrongKind => k_is)
    (case tI_WrongKind => k_is)
    (case L_WrongKind_init => k_is)
    (case cd_WrongKind => k_is)
    (case ck_WrongKind => k_is)
    (case cv_WrongKind => rfl)
    (case cf_WrongKind => kernel_rfl)
    (case cc_WrongKind => k_is)
    (case sp_WrongKind => kernel_rfl)
    (case A_NoSite => k_is)
    (case X_NoSite => kernel_rfl)
    (case xL_NoSite => k_is)
    (case rV_NoSite => kernel_rfl)
    (case iC_NoSite => k_is)
    (case tI_NoSite => k_is)
    (case L_NoSite_init => k_is)
    (case cd_NoSite => k_is)
    (case ck_NoSite => k_is)
    (case cv_NoSite => rfl)
    (case cf_NoSite => kernel_rfl)
    (case cc_NoSite => k_is)
    (case sp_NoSite => kernel_rfl)
    (case A_NoPlace => k_is)
    (case X_NoPlace => kernel_rfl)
    (case xL_NoPlace => k_is)
    (case rV_NoPlace => kernel_rfl)
    (case iC_NoPlace => k_is)
    (case tI_NoPlace => k_is)
    (case L_NoPlace_init => k_is)
    (case cd_NoPlace => k_is)
    (case ck_NoPlace => k_is)
    (case cv_NoPlace => rfl)
    (case cf_NoPlace => kernel_rfl)
    (case cc_NoPlace => k_is)
    (case sp_NoPlace => kernel_rfl)
    (case A_NotAccepted => k_is)
    (case X_NotAccepted => kernel_rfl)
    (case xL_NotAccepted => k_is)
    (case rV_NotAccepted => kernel_rfl)
    (case iC_NotAccepted => k_is)
    (case tI_NotAccepted => k_is)
    (case L_NotAccepted_init => k_is)
    (case cd_NotAccepted => k_is)
    (case ck_NotAccepted => k_is)
    (case cv_NotAccepted => rfl)
    (case cf_NotAccepted => kernel_rfl)
    (case cc_NotAccepted => k_is)
    (case sp_NotAccepted => kernel_rfl)
    (case A_BadCertificate => k_is)
    (case X_BadCertificate => kernel_rfl)
    (case xL_BadCertificate => k_is)
    (case rV_BadCertificate => kernel_rfl)
    (case iC_BadCertificate => k_is)
    (case tI_BadCertificate => k_is)
    (case L_BadCertificate_init => k_is)
    (case cd_BadCertificate => k_is)
    (case ck_BadCertificate => k_is)
    (case cv_BadCertificate => rfl)
    (case cf_BadCertificate => kernel_rfl)
    (case cc_BadCertificate => k_is)
    (case sp_BadCertificate => kernel_rfl)
    (case A_WrongChange => k_is)
    (case X_WrongChange => kernel_rfl)
    (case xL_WrongChange => k_is)
    (case rV_WrongChange => kernel_rfl)
    (case iC_WrongChange => k_is)
    (case tI_WrongChange => k_is)
    (case L_WrongChange_init => k_is)
    (case cd_WrongChange => k_is)
    (case ck_WrongChange => k_is)
    (case cv_WrongChange => rfl)
    (case cf_WrongChange => kernel_rfl)
    (case cc_WrongChange => k_is)
    (case sp_WrongChange => kernel_rfl)
    (case A_NotPlain => k_is)
    (case X_NotPlain => kernel_rfl)
    (case xL_NotPlain => k_is)
    (case rV_NotPlain => kernel_rfl)
    (case iC_NotPlain => k_is)
    (case tI_NotPlain => k_is)
    (case L_NotPlain_init => k_is)
    (case cd_NotPlain => k_is)
    (case ck_NotPlain => k_is)
    (case cv_NotPlain => rfl)
    (case cf_NotPlain => kernel_rfl)
    (case cc_NotPlain => k_is)
    (case sp_NotPlain => kernel_rfl)
    (case A_BadWitness => k_is)
    (case X_BadWitness => kernel_rfl)
    (case xL_BadWitness => k_is)
    (case rV_BadWitness => kernel_rfl)
    (case iC_BadWitness => k_is)
    (case tI_BadWitness => k_is)
    (case L_BadWitness_init => k_is)
    (case cd_BadWitness => k_is)
    (case ck_BadWitness => k_is)
    (case cv_BadWitness => rfl)
    (case cf_BadWitness => kernel_rfl)
    (case cc_BadWitness => k_is)
    (case sp_BadWitness => kernel_rfl)
    (case A_TooLong => k_is)
    (case X_TooLong => kernel_rfl)
    (case xL_TooLong => k_is)
    (case rV_TooLong => kernel_rfl)
    (case iC_TooLong => k_is)
    (case tI_TooLong => k_is)
    (case L_TooLong_init => k_is)
    (case cd_TooLong => k_is)
    (case ck_TooLong => k_is)
    (case cv_TooLong => rfl)
    (case cf_TooLong => kernel_rfl)
    (case cc_TooLong => k_is)
    (case sp_TooLong => kernel_rfl)
    (case A_NothingLoaded => k_is)
    (case X_NothingLoaded => kernel_rfl)
    (case xL_NothingLoaded => k_is)
    (case rV_NothingLoaded => kernel_rfl)
    (case iC_NothingLoaded => k_is)
    (case tI_NothingLoaded => k_is)
    (case L_NothingLoaded_init => k_is)
    (case cd_NothingLoaded => k_is)
    (case ck_NothingLoaded => k_is)
    (case cv_NothingLoaded => rfl)
    (case cf_NothingLoaded => kernel_rfl)
    (case cc_NothingLoaded => k_is)
    (case sp_NothingLoaded => kernel_rfl)
    (case A_NothingToUndo => k_is)
    (case X_NothingToUndo => kernel_rfl)
    (case xL_NothingToUndo => k_is)
    (case rV_NothingToUndo => kernel_rfl)
    (case iC_NothingToUndo => k_is)
    (case tI_NothingToUndo => k_is)
    (case L_NothingToUndo_init => k_is)
    (case cd_NothingToUndo => k_is)
    (case ck_NothingToUndo => k_is)
    (case cv_NothingToUndo => rfl)
    (case cf_NothingToUndo => kernel_rfl)
    (case cc_NothingToUndo => k_is)
    (case sp_NothingToUndo => kernel_rfl)
    (case A_BadJournal => k_is)
    (case X_BadJournal => kernel_rfl)
    (case xL_BadJournal => k_is)
    (case rV_BadJournal => kernel_rfl)
    (case iC_BadJournal => k_is)
    (case tI_BadJournal => k_is)
    (case L_BadJournal_init => k_is)
    (case cd_BadJournal => k_is)
    (case ck_BadJournal => k_is)
    (case cv_BadJournal => rfl)
    (case cf_BadJournal => kernel_rfl)
    (case cc_BadJournal => k_is)
    (case sp_BadJournal => kernel_rfl)
    (case kr_NeverError => kernel_rfl)
    (case kv_NeverError => kernel_rfl)
    (case te_NeverError_NeverError => kernel_rfl)
    (case kr_BadText => kernel_rfl)
    (case kv_BadText => kernel_rfl)
    (case te_BadText_NeverError => kernel_rfl)
    (case kr_Twice => kernel_rfl)
    (case kv_Twice => kernel_rfl)
    (case te_Twice_NeverError => kernel_rfl)
    (case kr_Unknown => kernel_rfl)
    (case kv_Unknown => kernel_rfl)
    (case te_Unknown_NeverError => kernel_rfl)
    (case kr_BadKind => kernel_rfl)
    (case kv_BadKind => kernel_rfl)
    (case te_BadKind_NeverError => kernel_rfl)
    (case kr_WrongKind => kernel_rfl)
    (case kv_WrongKind => kernel_rfl)
    (case te_WrongKind_NeverError => kernel_rfl)
    (case kr_NoSite => kernel_rfl)
    (case kv_NoSite => kernel_rfl)
    (case te_NoSite_NeverError => kernel_rfl)
    (case kr_NoPlace => kernel_rfl)
    (case kv_NoPlace => kernel_rfl)
    (case te_NoPlace_NeverError => kernel_rfl)
    (case kr_NotAccepted => kernel_rfl)
    (case kv_NotAccepted => kernel_rfl)
    (case te_NotAccepted_NeverError => kernel_rfl)
    (case kr_BadCertificate => kernel_rfl)
    (case kv_BadCertificate => kernel_rfl)
    (case te_BadCertificate_NeverError => kernel_rfl)
    (case kr_WrongChange => kernel_rfl)
    (case kv_WrongChange => kernel_rfl)
    (case te_WrongChange_NeverError => kernel_rfl)
    (case kr_NotPlain => kernel_rfl)
    (case kv_NotPlain => kernel_rfl)
    (case te_NotPlain_NeverError => kernel_rfl)
    (case kr_BadWitness => kernel_rfl)
    (case kv_BadWitness => kernel_rfl)
    (case te_BadWitness_NeverError => kernel_rfl)
    (case kr_TooLong => kernel_rfl)
    (case kv_TooLong => kernel_rfl)
    (case te_TooLong_NeverError => kernel_rfl)
    (case kr_NothingLoaded => kernel_rfl)
    (case kv_NothingLoaded => kernel_rfl)
    (case te_NothingLoaded_NeverError => kernel_rfl)
    (case kr_NothingToUndo => kernel_rfl)
    (case kv_NothingToUndo => kernel_rfl)
    (case te_NothingToUndo_NeverError => kernel_rfl)
    (case kr_BadJournal => kernel_rfl)
    (case kv_BadJournal => kernel_rfl)
    (case te_BadJournal_NeverError => kernel_rfl)
    (case Z_ValueError => k_is)
    (case Z_bool => k_is)
    (case Z_int => k_is)
    (case Z_isinstance => k_is)
    (case Z_len => k_is)
    (case Z_list => k_is)
    (case Z_range => k_is)
    (case Z_str => k_is)
    (case Z_super => k_is)
    (case Z_tuple => k_is)
#print axioms PySem.Challenge.cw_neverhappens_k79_errors_holds
