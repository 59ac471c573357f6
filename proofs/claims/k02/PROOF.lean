import PyProof.Rows.All
import Wide.All
import OpenK.AllK
import Wide.FinOn
import HandS.ForMost
import HandS.IsInst
import HandS.FStr
import HandS.Codes
import HandS.Star
import HandS.Zip
import HandS.More
import HandS.Defaults
import HandS.Rev
import HandS.Walk
import HandS.TupAny
import HandS.Style
import HandS.Iter
import HandS.Conv
import KE.KTurns
import HandS.Exc
import HandS.ExcIs
import HandS.ExcField
import HandS.ExcInit
import KE.KExcIs
import HandS.StrMore
import HandS.Text
import KE.KIntText
import KE.IntTextLaws
import PyProof.StrLawsFrom
import PyProof.StrLawsAffix
import HandS.Nested
import KE.KSuper
import KE.KExcSuper
import HandS.HotCalls
import PySem.Challenge.RW_neverhappens_k02_whole_expression_reader
set_option Elab.async false
set_option linter.all false
set_option maxRecDepth 100000
set_option maxHeartbeats 4000000
namespace ExV
open PySem PySem.Spec PyProof.Rows L2
/-! ### a caught exception that is handed to a def -/
/-- how it stands in the callee's heap -/
abbrev exH (a : Addr) (oe : Obj) : HO := .frz oe (.own a)
/-- at a: the exception oe (of the class cls, its dict at d) -/
def ExAt (base : Heap) (H : Hp) (a : Addr) (oe : Obj) (cls : Value) (d : Option Addr) : Prop := (H a = some (exH a oe) ∨ (base.get? a = some oe ∧ H a = none)) ∧ Zc cls d oe ∧ ∃ vs, oe.data = .fields vs
theorem ExAt.at {X : Cx} {pins : List (Addr × Obj)} {σ : L2.St} {H : Hp} {s : Shared} {a : Addr} {oe : Obj} {cls : Value} {d : Option Addr} (I : Inv X pins σ H s) (h : ExAt X.base H a oe cls d) : s.heap.get? a = some oe := by
  rcases h.1 with e | e
  · exact (show ObjOk X.prog X.w H s.heap a (exH a oe) from I.hok a _ e).1
  · exact I.bk _ _ e.1
/-- isinstance(e, c), c a class -/
def rIsX (K : PySem.W.Frag) (base : Heap) : List V → Hp → VK → Prop := fun xs H Q => ∃ (a D : Addr) (oe : Obj) (d : Option Addr) (c : V) (cv : Value) (b : Bool), xs = [.ref a, c] ∧ ExAt base H a oe (.ref D) d ∧ ExcC K D ∧ (∀ dd, d = some dd → ∃ fs, H dd = some (.xd fs)) ∧ (∀ u, RelV c u → u = cv) ∧ PySem.W.kitOne K (.ref D) cv = some b ∧ Q (.bl b) H
theorem inst_at {X : Cx} {pins : List (Addr × Obj)} {σ : L2.St} {H : Hp} {s : Shared} {a D : Addr} {oe : Obj} {d : Option Addr} (I : Inv X pins σ H s) (h : ExAt X.base H a oe (.ref D) d) (hd : ∀ dd, d = some dd → ∃ fs, H dd = some (.xd fs)) : ∃ od, PySem.W.InstAt s.heap a oe D od := by
  have hget := h.at I
  obtain ⟨_, ⟨h1, h2⟩, vs, hv⟩ := h
  cases d with
  | none => exact ⟨none, hget, h1, by unfold PySem.W.notCls; rw [hv] <;> rfl, by rw [h2]; trivial⟩
  | some dd =>
    obtain ⟨fs, hx⟩ := hd dd rfl
    obtain ⟨mA, hns, _⟩ := (show ObjOk X.prog X.w H s.heap dd (.xd fs) from I.hok dd _ hx)
    obtain ⟨od, ho, _⟩ := lookIn_ns hns
    exact ⟨some od, hget, h1, by unfold PySem.W.notCls; rw [hv] <;> rfl, by rw [h2]; exact ho⟩
theorem kitX {K : PySem.W.Frag} {a D : Addr} {oe : Obj} {od : Option Obj} (C : ExcC K D) : PySem.W.KitX K (.ref a) (.ref D) (fun h => PySem.W.InstAt h a oe D od) := by
  have hcl : (PySem.W.clsIn K D).isSome = true := by
    obtain ⟨cd, hc, _⟩ := PySem.W.any_some C.hd
    rw [hc]
    rfl
  exact PySem.W.kitx_exc hcl C.hg C.hk C.hs C.ha C.hn C.ht C.hm
/-- isinstance(e, (c, ..)) -/
def rIsXT (K : PySem.W.Frag) (base : Heap) : List V → Hp → VK → Prop := fun xs H Q => ∃ (a D : Addr) (oe : Obj) (d : Option Addr) (tp : Addr) (cs : List V) (ws : List Value) (b : Bool), xs = [.ref a, .ref tp] ∧ ExAt base H a oe (.ref D) d ∧ ExcC K D ∧ (∀ dd, d = some dd → ∃ fs, H dd = some (.xd fs)) ∧ H tp = some (.tup cs) ∧ Paired ClsV cs ws ∧ PySem.W.kitAny K (.ref D) ws = some b ∧ Q (.bl b) H
theorem call_isXT {X : Cx} : CallR X (.builtin "isinstance") (rIsXT X.K X.base) := by
  intro pins s σ H xs us Q I r h
  obtain ⟨a, D, oe, d, tp, cs, ws, b, rfl, hE, C, hd, hT, k, e, q⟩ := h
  cases r with
  | cons rx rr =>
    cases rr with
    | cons rt rr =>
      cases rr
      cases rx
      cases rt
      obtain ⟨od, J⟩ := inst_at I hE hd
      obtain ⟨_, its, rv, o, h1, h2, n, h3⟩ := (show ObjOk X.prog X.w H s.heap tp (.tup cs) from I.hok tp _ hT)
      have e3 := ClsV.all k rv
      subst e3
      obtain ⟨oc, odd, dt, sl⟩ := o
      simp only at h2 h3
      subst h2 h3
      exact PySem.W.kia_tup (kitX C) I.kIn J h1 e (fun z => nomatch z) fun tk => ⟨.bl b, H, I.tok tk, rfl, q⟩
theorem call_isX {X : Cx} : CallR X (.builtin "isinstance") (rIsX X.K X.base) := by
  intro pins s σ H xs us Q I r h
  obtain ⟨a, D, oe, d, c, cv, b, rfl, hE, C, hd, hcv, e, q⟩ := h
  cases r with
  | cons rx rr =>
    cases rr with
    | cons rt rr =>
      cases rr
      cases rx
      have ec := hcv _ rt
      subst ec
      obtain ⟨od, J⟩ := inst_at I hE hd
      exact PySem.W.kia_one (kitX C) I.kIn J e (fun z => nomatch z) fun tk => ⟨.bl b, H, I.kept (t' := tk) fun _ _ z => z, rfl, q⟩
/-- e.f -/
def tXv (K : PySem.W.Frag) (base : Heap) (n : Str) (te : TE) : TE := fun σ H Q => te σ H fun x H1 => ∃ (a C : Addr) (oe : Obj) (dd : Addr) (fs : List (Str × V)) (v : V), x = .ref a ∧ ExAt base H1 a oe (.ref C) (some dd) ∧ XfC K C ∧ PySem.W.findIn K (.ref C) n = some none ∧ H1 dd = some (.xd fs) ∧ fs.lookup n = some v ∧ Q v H1
theorem pe_xv {X : Cx} {e : Expr} {te : TE} {pos : Pos} {n : Str} (he : PE X e te) (hb : attributeBase e n X.env (eval e X.env) = eval e X.env := by rfl) : PE X (.Attribute e n pos) (tXv X.K X.base n te) := by
  refine ⟨fun pins s σ H Q I h => ?_⟩
  refine attr_of hb (thn (he.run pins s σ H _ I h) fun u s1 hh => ?_)
  obtain ⟨x, H1, I1, rx, a, C, oe, dd, fs, v, ex, hE, T, hno, ea, l, q⟩ := hh
  subst ex
  obtain rfl : u = Value.ref a := rx
  have ha := hE.at I1
  obtain ⟨_, hz, vs, hd⟩ := hE
  obtain ⟨mA, hns, hr⟩ := (show ObjOk X.prog X.w H1 s1.heap dd (.xd fs) from I1.hok dd _ ea)
  obtain ⟨od, ho, hl⟩ := lookIn_ns hns
  obtain ⟨u, hu, ru⟩ := RelO.some_of (v := v) (o := mA n) (by rw [← l]; exact hr n)
  have J : PySem.W.InstAt s1.heap a oe C (some od) := ⟨ha, hz.1, by unfold PySem.W.notCls; rw [hd] <;> rfl, by rw [hz.2]; exact ho⟩
  exact HandSPX.exc_get I1.kIn J T.ga T.gg T.exC (PySem.W.findObj_own T.hdC hno rfl (by rw [hl, hu])) (handed_of ru) ⟨v, H1, I1.tok _, ru, q⟩
/-! ### f(.., e, ..) in the suite that holds e -/
theorem run_fnE {X : Cx} {a : Addr} {oe : Obj} {pn : List (Addr × Obj)} {k : Nat} {f : Addr} {fd : FuncData} {ps : List Str} {sp : Sp} {dvs : List V} {ds : List Value} {pins : List (Addr × Obj)} {σ : L2.St} {H : Hp} {s : Shared} {Q : VK} {us : List Value} {vs : List V}
    (F : FnOk X.prog X.w X.K X.mg X.base CX0 k f fd ps sp) (hr : Room k (X.suite a ((a, oe) :: pn)).A) (hb : Binds X.K fd ps ds) (hd : Vals dvs ds) (I : Inv (X.suite a ((a, oe) :: pn)) pins σ H s) (r : Vals vs us)
    (h : ∀ H', (H' a = some (exH a oe) ∨ (X.base.get? a = some oe ∧ H' a = none)) → (∀ b, b ≠ a → H' b = H b) → sp (vs ++ dvs) H' (fun v H2 => Q v (del H2 a)) E0) :
    wpAny (model X.prog X.w) (X.suite a ((a, oe) :: pn)).A (call (.ref f) us) (EP (X.suite a ((a, oe) :: pn)) pins σ Q) (X.suite a ((a, oe) :: pn)).xe s := by
  obtain ⟨pg, pH, pL, pF, pc⟩ := I.pin (a, oe) (List.mem_append_left _ List.mem_cons_self)
  have r2 : Vals (vs ++ dvs) (us ++ ds) := r.append hd
  have E1 := I.env0
  cases hbase : X.base.get? a with
  | some o1 =>
    have e1 : o1 = oe := by
      have := I.bk _ _ hbase
      rw [pg] at this
      exact (Option.some.inj this).symm
    subst e1
    have h := h H (.inr ⟨hbase, pH⟩) fun _ _ => rfl
    have hl : (us ++ ds).length = ps.length := by rw [← r2.length]; exact F.len _ _ _ _ h
    refine wpAny_call (codeAny_mono (F.run _ X.stack s H ⟨us, []⟩ (us ++ ds) (vs ++ dvs) _ E0 hr E1 (hb s us I.kIn hl) r2 h) fun r s' hq => ?_)
    cases r with
    | error e => exact hq.elim
    | ok fl =>
      cases fl with
      | ret u =>
        obtain ⟨v, H2, os, bare, un, hok, rv, q⟩ := hq
        have n2 : H2 a = none := un.free a _ pg pH (by simp)
        have e2 : del H2 a = H2 := by
          funext b
          by_cases hb : b = a
          · rw [hb, del_same, n2]
          · rw [del_ne hb]
        rw [e2] at q
        exact I.after ⟨v, H2, os, bare, un, hok, rv, q⟩
      | next => exact False.elim hq
      | brk => exact False.elim hq
      | cont => exact False.elim hq
  | none =>
    have h := h (upd H a (exH a oe)) (.inl upd_same) fun b hb => upd_ne hb
    have hl : (us ++ ds).length = ps.length := by rw [← r2.length]; exact F.len _ _ _ _ h
    have nf : a ∉ frs X.stack := fun z => (List.mem_cons.mp (I.stkSub a z)).elim pL pF
    have E2 : Env0 X.prog X.w X.K X.mg X.base (X.suite a ((a, oe) :: pn)).A X.stack s (upd H a (exH a oe)) := ⟨E1.frames, E1.mod, fun b o z => ⟨(E1.bs b o z).1, by
        rw [upd_ne (fun y => by rw [y, hbase] at z; cases z)]
        exact (E1.bs b o z).2⟩, E1.bsz, E1.funs, fun b z => by
        rw [upd_ne (fun y => nf (by rw [← y]; exact z))]
        exact E1.frf b z, fun b o z => by
        by_cases hb : b = a
        · subst hb
          rw [upd_same] at z
          cases z
          exact ⟨pg, _, pg⟩
        · rw [upd_ne hb] at z
          exact (E1.hok b o z).stay (fun c v _ y => y) (fun c y => by rw [upd_ne (ne_of_none y pH)]; exact y) (fun c xs y => by rw [upd_ne (ne_of_none y pH)]; exact y), E1.bare⟩
    refine wpAny_call (codeAny_mono (F.run _ X.stack s _ ⟨us, []⟩ (us ++ ds) (vs ++ dvs) _ E0 hr E2 (hb s us I.kIn hl) r2 h) fun r s' hq => ?_)
    cases r with
    | error e => exact hq.elim
    | ok fl =>
      cases fl with
      | ret u =>
        obtain ⟨v, H2, os, bare, un, hok, rv, q⟩ := hq
        have e2 : H2 a = some (exH a oe) := un.frzs a _ _ upd_same
        have g2 : s'.heap.get? a = some oe := (show ObjOk X.prog X.w H2 s'.heap a (exH a oe) from hok a _ e2).1
        have ne : ∀ {b : Addr} {o : HO}, H b = some o → b ≠ a := fun {b o} z => ne_of_none z pH
        refine I.after ⟨v, del H2 a, os, bare, ⟨fun b o z n hf hx => ?_, fun b o z n hf hx => ?_, fun b o z n hx => ?_, fun b o z hx => un.there b o z hx, fun b xs z => ?_, fun b o u z => ?_, fun b p z => ?_⟩, fun b o z => ?_, rv, q⟩
        · by_cases hb : b = a
          · subst hb
            rw [pg] at z
            cases z
            exact g2
          · exact un.keep b o z (by rw [upd_ne hb]; exact n) hf hx
        · exact un.slot b o z (by rw [upd_ne (fun y => nf (by rw [← y]; exact hf))]; exact n) hf hx
        · by_cases hb : b = a
          · rw [hb, del_same]
          · rw [del_ne hb]
            exact un.free b o z (by rw [upd_ne hb]; exact n) hx
        · rw [del_ne (ne z)]
          exact un.tups b xs (by rw [upd_ne (ne z)]; exact z)
        · rw [del_ne (ne z)]
          exact un.frzs b o u (by rw [upd_ne (ne z)]; exact z)
        · rw [del_ne (ne z)]
          exact un.tbls b p (by rw [upd_ne (ne z)]; exact z)
        · have hba : b ≠ a := fun y => by
            rw [y, del_same] at z
            cases z
          rw [del_ne hba] at z
          have na : ∀ {c : Addr} {o : HO}, H2 c = some o → (∀ oe u, o ≠ .frz oe u) → c ≠ a := fun {c o} y n w => by
            rw [w, e2] at y
            exact n _ _ (Option.some.inj y).symm
          exact (hok b o z).stay (fun c v _ y => y) (fun c y => by rw [del_ne (na y fun _ _ z => nomatch z)]; exact y) (fun c xs y => by rw [del_ne (na y fun _ _ z => nomatch z)]; exact y)
      | next => exact False.elim hq
      | brk => exact False.elim hq
      | cont => exact False.elim hq
def tCallE (base : Heap) (sp : Sp) (dvs : List V) (a : Addr) (cls : Value) (d : Option Addr) (t : TA) : TE := fun σ H Q => t σ H fun vs H1 => ∀ oe H', ExAt base H' a oe cls d → (∀ b, b ≠ a → H' b = H1 b) → sp (vs ++ dvs) H' (fun v H2 => Q v (del H2 a)) E0
theorem pe_callE {X : Cx} {a : Addr} {oe : Obj} {pn : List (Addr × Obj)} {cls : Value} {d : Option Addr} {k : Nat} {f : Addr} {fd : FuncData} {ps : List Str} {sp : Sp} {dvs : List V} {ds : List Value} {x : Str} {p pos : Pos} {e : Expr} {es : List Expr} {t : TA}
    (hz : Zc cls d oe) (hf : ∃ vs, oe.data = .fields vs) (F : FnOk X.prog X.w X.K X.mg X.base CX0 k f fd ps sp) (hr : Room k (X.suite a ((a, oe) :: pn)).A) (hg : Gl X x) (hm : X.mg x = some (.ref f)) (hk : PySem.W.keepIn X.K (.ref f) = true) (hb : Binds X.K fd ps ds) (hd : Vals dvs ds)
    (ha : PA (X.suite a ((a, oe) :: pn)) (e :: es) t) (hdb : (x == ("__debug__" : Str)) = false := by decide) (he : starEach (e :: es) X.env = (false, eval e X.env) :: starEach es X.env := by rfl) (hpl : (backTo pos (starEach es X.env)).any (·.1) = false := by rfl) :
    PE (X.suite a ((a, oe) :: pn)) (.Call (.Name x p) (e :: es) [] pos) (tCallE X.base sp dvs a cls d t) := by
  refine ⟨fun pins s σ H Q I h => ?_⟩
  refine wpAny_Call_Name_kw (ld_glob I hg hm ?_ hdb)
  refine PySem.W.callWith_K (h₀ := X.base) I.ok.mod.kin hk (thn (ha.run pos pins s σ H _ I h) fun us s1 ⟨vs, H1, I1, r, q⟩ => ⟨I1.kIn, ?_⟩) he hpl
  exact run_fnE F hr hb hd I1 r fun H' hH hb => q oe H' ⟨hH, hz, hf⟩ hb
/-! ### an own exception that stores no field -/
def tMk0 (C : Addr) (sp : Sp) (dvs : List V) (ta : TA) : L2.St → Hp → XK → Prop := fun σ H Q => ta σ H fun vs H1 => vs.length ≤ 1000 ∧ ∀ a, H1 a = none → sp (.ref a :: (vs ++ dvs)) (upd H1 a (exo a C none))
  (fun v H2 => v = .non ∧ H2 a = some (exo a C none) ∧ Q (.ref C) none (del H2 a)) (fun _ _ _ => False)
theorem let_go {X : Cx} {pins : List (Addr × Obj)} {σ : L2.St} {H1 H2 : Hp} {Q : XK} {hp hp2 h2 : Heap} {g1 g2 : Array GenState} {d1 d2 : Drawn} {t1 t2 : Nat} {os1 os2 : OsState} {a C : Addr} (T : Raises X (.ref C)) (I1 : Inv X pins σ H1 ⟨hp, g1, d1, t1, os1⟩)
    (ha : hp.objs.size ≤ a) (k : ∀ b o, hp.get? b = some o → hp2.get? b = some o) (un : Un (frs X.stack) [] (upd H1 a (exo a C none)) H2 hp2 h2) (hok : HOk X.prog X.w H2 h2) (ho : os2 = os1) (hb : AllBare g2)
    (ea : H2 a = some (exo a C none)) (q : Q (.ref C) none (del H2 a)) : MkP X pins σ Q (.ref a) ⟨h2, g2, d2, t2, os2⟩ := by
  obtain ⟨t0, hoe⟩ := exo_at hok ea
  have hn : H1 a = none := I1.hok.fresh ha
  obtain ⟨G, g1', g2'⟩ := restrict h2 fun b => decide (b ≠ a)
  have gk : ∀ b, b ≠ a → G.get? b = h2.get? b := fun b hb => g1' b (decide_eq_true hb)
  have ge : G.get? a = none := g2' a (by simp)
  have nha : ∀ {b : Addr} {o : Obj}, hp.get? b = some o → b ≠ a := fun {b o} z => Nat.ne_of_lt (Nat.lt_of_lt_of_le (Heap.lt_size z) ha)
  have up : ∀ {b : Addr}, b ≠ a → H1 b = none → upd H1 a (exo a C none) b = none := fun {b} hb n => by rw [upd_ne hb]; exact n
  have U : Un (frs X.stack) [] H1 (del H2 a) hp G := {
    keep := fun b o z n hf hx => by
      rw [gk b (nha z)]
      exact un.keep b o (k b o z) (up (nha z) n) hf hx
    slot := fun b o z n hf hx => by
      rw [gk b (nha z)]
      exact un.slot b o (k b o z) (up (nha z) n) hf hx
    free := fun b o z n hx => by
      rw [del_ne (nha z)]
      exact un.free b o (k b o z) (up (nha z) n) hx
    there := fun b o z hx => by
      rw [gk b (nha z)]
      exact un.there b o (k b o z) hx
    tups := fun b xs z => by
      rw [del_ne (ne_of_none z hn)]
      exact un.tups b xs (by rw [upd_ne (ne_of_none z hn)]; exact z)
    frzs := fun b o v z => by
      rw [del_ne (ne_of_none z hn)]
      exact un.frzs b o v (by rw [upd_ne (ne_of_none z hn)]; exact z)
    tbls := fun b ps z => by
      rw [del_ne (ne_of_none z hn)]
      exact un.tbls b ps (by rw [upd_ne (ne_of_none z hn)]; exact z) }
  have hok3 : HOk X.prog X.w (del H2 a) G := fun b o z => by
    have hba : b ≠ a := fun e => by
      rw [e, del_same] at z
      cases z
    rw [del_ne hba] at z
    have noa : ∀ {c : Addr}, H2 c = some (.own b) → c ≠ a := fun {c} hc => at_ne ea hc exo_own
    exact (hok b o z).stay (fun c v hc y => by
        have hca : c ≠ a := by
          rcases hc with hc | hc
          · rw [hc]
            exact hba
          · exact noa hc
        rw [gk c hca]
        exact y)
      (fun c hc => by rw [del_ne (noa hc)]; exact hc) (fun c xs hc => by rw [del_ne (at_ne ea hc exo_tup)]; exact hc)
  have J : Inv X pins σ (del H2 a) ⟨G, g2, d2, t2, os2⟩ := I1.call' (ch := []) ho U hok3 hb (fun b z => absurd z (by simp))
  exact ⟨a, _, _, ⟨G, g2, d2, t2, os2⟩, _, .ref C, none, rfl, J, (fun b o z => by
    by_cases hba : b = a
    · rw [hba, ge] at z
      cases z
    · exact (gk b hba).symm.trans z), ge, hoe, ⟨rfl, rfl⟩, rfl, rfl, del_same, rfl, hb, T, q⟩
/-- C() of a class that stores no field -/
theorem pmk_0 {X : Cx} {CX : CXT} {x : Str} {C fI : Addr} {k : Nat} {fd : FuncData} {ps : List Str} {sp : Sp} {ds : List Value} {dvs : List V} {p pos : Pos} (T : OexC X.K C) (iC : PySem.W.findIn X.K (.ref C) "__init__" = some (some (.ref fI))) (tI : PySem.W.typeIn X.K (.ref fI) = some (.type "function"))
    (F1 : FnOk X.prog X.w X.K X.mg X.base CX k fI fd ps sp) (hr : Room (k + 1) X.A) (hb : Binds X.K fd ps ds) (hd : Vals dvs ds) (hx : Passes CX X (fun _ _ _ => False)) (hg : Gl X x) (hm : X.mg x = some (.ref C)) (hdb : (x == ("__debug__" : Str)) = false := by decide) :
    PMk X (.Call (.Name x p) [] [] pos) (tMk0 C sp dvs tNil) := by
  intro pins s σ H Q I h
  obtain ⟨nm, q, N, bs, bm, sn, sub, ab, col, dd, k0, k1, k2, k3, k5, hC, hbm⟩ := T.cls
  refine wpAny_Call_Name_kw (ld_glob I hg hm ?_ hdb)
  refine PySem.W.callWith_K0 I.kIn T.kC ?_
  obtain ⟨_, q1⟩ := h
  obtain ⟨hp, g, dr, tk, os⟩ := s
  have hsz : hp.objs.size ≤ hp.objs.size + 1 := Nat.le_succ _
  have hn : H (hp.objs.size + 1) = none := I.hok.fresh hsz
  have hq : sp (.ref (hp.objs.size + 1) :: dvs) _ _ _ := q1 (hp.objs.size + 1) hn
  have kk : ∀ b o, hp.get? b = some o → ((hp.push (PySem.W.kdv_tup [])).push (PySem.HandSPX.excO C hp.objs.size)).get? b = some o := fun b o e => Heap.get?_push_of_some _ (Heap.get?_push_of_some _ e)
  have hget : ((hp.push (PySem.W.kdv_tup [])).push (PySem.HandSPX.excO C hp.objs.size)).get? (hp.objs.size + 1) = some (PySem.HandSPX.excO C hp.objs.size) := by heap_get
  have I2 : Inv X pins σ (upd H (hp.objs.size + 1) (exo (hp.objs.size + 1) C none)) ⟨(hp.push (PySem.W.kdv_tup [])).push (PySem.HandSPX.excO C hp.objs.size), g, dr, tk, os⟩ :=
    I.laid (t' := tk) (a := hp.objs.size + 1) (o := exo (hp.objs.size + 1) C none) (h' := (hp.push (PySem.W.kdv_tup [])).push (PySem.HandSPX.excO C hp.objs.size)) kk hsz (exo_ok hget)
  have r2 : Vals (V.ref (hp.objs.size + 1) :: dvs) (Value.ref (hp.objs.size + 1) :: ds) := .cons rfl hd
  have hl : (Value.ref (hp.objs.size + 1) :: ds).length = ps.length := by
    have e := r2.length
    rw [F1.len _ _ _ _ hq] at e
    exact e.symm
  refine wpAny_call (PySem.HandSPX.call_own F.excBase_ValueError (fun Y => PySem.HandSPX.refsVE_contains Y bm hbm) (I.kIn _ _ hC) (PySem.W.looks_findIn I.kIn iC) (fun self => PySem.W.bind_fn I.kIn self tI) (Nat.zero_le _)
    (codeAny_mono (F1.run _ X.stack _ _ ⟨[Value.ref (hp.objs.size + 1)], []⟩ (Value.ref (hp.objs.size + 1) :: ds) _ _ (fun _ _ _ => False) (hr.make C [] []) (I2.env0.make C [] []) (hb _ [Value.ref (hp.objs.size + 1)] I2.kIn hl) r2 hq) fun r s' hq' => ?_))
  cases r with
  | error er => exact hx pins σ _ _ er s' I2 hq'
  | ok fl =>
    cases fl with
    | ret u =>
      obtain ⟨v, H2, os2, bare2, un2, hok2, rv, ev, ea, q2⟩ := hq'
      subst ev
      obtain ⟨h2, g2, d2, t2, os'⟩ := s'
      exact ⟨rv, let_go (raises_own T.exC T.tyC) I hsz kk un2 hok2 os2 bare2 ea q2⟩
    | next => exact False.elim hq'
    | brk => exact False.elim hq'
    | cont => exact False.elim hq'
end ExV
namespace ExV
open PySem PySem.Spec PyProof.Rows L2 NdefX
/-! ### super().__init__(..) of an own exception class -/
structure SupF (K : PySem.W.Frag) (C D : Addr) : Prop where
  cD : (PySem.W.clsIn K D).isSome = true
  sub : PySem.W.mroIn K C (.ref D) = some true
  m : PySem.W.ks_superIn K C D "__init__" = some (some (.builtin "ValueError.__init__"))
  isB : PySem.W.subIn K (.ref C) (.type "ValueError") = some true
  op : PySem.W.nsIn K cStatics "thirdparty.any" = some none
theorem mw_init {X : Cx} {pins : List (Addr × Obj)} {σ : L2.St} {H : Hp} {s : Shared} {a C u : Addr} {us : List Value} {Q : Value → Shared → Prop} (T : OexC X.K C) (I : Inv X pins σ H s) (e : H a = some (exo a C none)) (hu : s.heap.get? u = some (PySem.W.kxs_mw "ValueError.__init__" a)) (hl : us.length ≤ sizeLine)
    (h : ∀ s', Inv X pins σ H s' → Q .none s') : wpAny (model X.prog X.w) X.A (call (.ref u) us) Q X.xe s := by
  obtain ⟨nm, q, N, bs, bm, sn, sub, ab, col, dd, k0, k1, k2, k3, k5, hC, hbm⟩ := T.cls
  obtain ⟨t1, ho⟩ := exo_at I.hok e
  have hC' := I.kIn _ _ hC
  obtain ⟨hp, g, d, t, os⟩ := s
  refine wpAny_call (codeAny_of_tree ?_)
  show wpAny _ X.A.in1 (callAny (.ref u) ⟨us, []⟩) _ _ _
  simp only [callAny]
  refine wpAny_bind (wpAny_load hu ?_)
  simp only [PySem.W.kxs_mw, show (Value.type "method-wrapper" == Value.type "method" || Value.type "method-wrapper" == Value.type "builtin_function_or_method" || Value.type "method-wrapper" == Value.type "method-wrapper") = true by decide, if_true]
  refine PySem.W.KFB.if_so (by decide) ?_
  refine wpAny_bind (PySem.W.check_bound_init F.excBase_ValueError.toExcCallFacts hC' ho rfl ?_)
  refine wpAny_bind (wpAny_pure (wpAny_pure ?_))
  refine ⟨plainId_quiet F.excBase_ValueError.init.plain _, codeAny_builtin F.excBase_ValueError.initEntry ?_⟩
  refine PySem.W.exc_init_tree (cls := .ref C) (t0 := t1) (dv := none) (c2 := .none) (c3 := .none) (b4 := .bool false) ho hl fun h' k hx _ => ?_
  have J := I.write (t' := t) (x := a) (e := a) (o := exo a C none) (by rw [e]; exact True.intro) (.inl rfl) k ⟨_, hx⟩ (exo_ok hx)
  have eu : upd H a (exo a C none) = H := by
    funext b
    by_cases hb : b = a
    · rw [hb, upd_same, e]
    · rw [upd_ne hb]
  rw [eu] at J
  exact h _ J
/-- the statement itself, in the frame of the def -/
theorem run_sup {X : Cx} {pins : List (Addr × Obj)} {σ : L2.St} {H : Hp} {s : Shared} {body : List Stmt} {p0 p1 p2 p3 p4 : Pos} {e : Expr} {es : List Expr} {f a C D cc cda : Addr} {of : Obj} {fd : FuncData} {ar : Arg} {vs : Array Value} {file : Str} {tf : Tok} {ccl cl : Value} {cdd cld : Option Addr} {ccs csl : Array (Option Value)} {ta : TA} {pl : Sem Bool} {Qn : Hp → Prop}
    (hk : X.env.scope.kind = .function) (hks : X.env.kindOf "super" = some .globalImplicit) (hkc : X.env.kindOf "__class__" = some .free) (hka : X.env.kindOf ar.arg = some .local) (hfu : X.env.func = some f) (hf : X.K.lookup f = some of) (hfd : of.data = .func fd)
    (hp : (fd.params.posonlyargs ++ fd.params.args).head? = some ar) (hco : X.env.code = .ref cda) (hcode : X.K.lookup cda = some ⟨ccl, cdd, .fields vs, ccs⟩) (hvs : vs[2]? = some (.str file tf)) (hfile : ((X.prog.main.file : Str) == file) = true)
    (htop : (X.prog.main.scope.names.lookup ("super" : Str)).isSome = false) (hcc : X.env.cells.lookup ("__class__" : Str) = some cc) (hcell : X.K.lookup cc = some ⟨cl, cld, .cell (some (.ref D)), csl⟩) (hms : X.mg "super" = none) (T : OexC X.K C) (S : SupF X.K C D) (hN : X.N[0]? = some ar.arg) (ha : PA X (e :: es) ta)
    (I : Inv X pins σ H s) (h0 : σ[0]? = some (some (.ref a))) (eH : H a = some (exo a C none)) (ht : ta σ H fun us H1 => us.length ≤ 1000 ∧ H1 a = some (exo a C none) ∧ Qn H1)
    (hi : interactive X.env = false) (hsw : swapsWith (.Call (.Attribute (.Call (.Name "super" p0) [] [] p1) "__init__" p2) (e :: es) [] p3) none p4.line X.env = pure false)
    (he : eval (.Call (.Attribute (.Call (.Name "super" p0) [] [] p1) "__init__" p2) (e :: es) [] p3) X.env = (do
      let ov ← attributeBase (.Call (.Name "super" p0) [] [] p1) "__init__" X.env (eval (.Call (.Name "super" p0) [] [] p1) X.env)
      standAt p2.atName
      let (f, first) ← holding [ov] (getMethod ov "__init__" pl)
      callWith p3 f first (backTo p3 (starEach (e :: es) X.env)) []))
    (hse : starEach (e :: es) X.env = (false, eval e X.env) :: starEach es X.env) (hpl : (backTo p3 (starEach es X.env)).any (·.1) = false) :
    PySem.wpAt (model X.prog X.w) X.A (.func body X.env) (exec (.Expr (.Call (.Attribute (.Call (.Name "super" p0) [] [] p1) "__init__" p2) (e :: es) [] p3) p4) X.env) (fun fl s' => fl = .next ∧ ∃ H1, Inv X pins σ H1 s' ∧ Qn H1) X.xe s := by
  refine ks_wpAt_Expr_any ?_ hi hsw
  refine ks_wpAt_MethodCall (pl := pl) ?_ he
  obtain ⟨cd, hcd⟩ : ∃ cd, PySem.W.clsIn X.K D = some cd := by
    have := S.cD
    cases z : PySem.W.clsIn X.K D with
    | none => rw [z] at this; cases this
    | some c => exact ⟨c, rfl⟩
  obtain ⟨cC, hcC⟩ : ∃ cd, PySem.W.clsIn X.K C = some cd := by
    have := S.m
    unfold PySem.W.ks_superIn at this
    cases z : PySem.W.clsIn X.K C with
    | none => rw [z] at this; cases this
    | some c => exact ⟨c, rfl⟩
  have hal : PySem.W.alongIn X.K "__init__" ((cC.mro.dropWhile (· != .ref D)).drop 1) = some (some (.builtin "ValueError.__init__")) := by
    have := S.m
    unfold PySem.W.ks_superIn at this
    rw [hcC] at this
    exact this
  obtain ⟨oD, hD1, hD2⟩ : ∃ oD, s.heap.get? D = some oD ∧ oD.data = .cls cd := by
    unfold PySem.W.clsIn at hcd
    split at hcd
    · rename_i c d cd' sl ho
      cases hcd
      exact ⟨_, I.kIn _ _ ho, rfl⟩
    · cases hcd
  obtain ⟨t1, ho⟩ := exo_at I.hok eH
  obtain ⟨m, hns, hl⟩ := I.loc
  obtain ⟨u, ru, hlook⟩ := hl 0 ar.arg (.ref a) hN h0 (.inl hka)
  obtain rfl : u = Value.ref a := ru
  have hm : m ar.arg = some (.ref a) := by
    rcases hlook with ⟨_, z⟩ | ⟨z, _⟩
    · exact z
    · rcases z with z | z <;> rw [hka] at z <;> cases z
  obtain ⟨mb, h1, h2⟩ := I.mod.blt
  refine ks_wpAt_super_base hks hkc (by decide) hfu (I.kIn _ _ hf) hfd hp hco (I.kIn _ _ hcode) rfl hvs hfile htop ?_
  refine PySem.W.ks_loadName_global hk hks (Calls.loadGlobal_builtin (by rw [I.ok.glob]; exact I.mod.glob.keeps I.bk) hms (by rw [I.ok.blt]; exact h1.keeps I.bk) ((h2 "super" (by decide)).trans PyProof.Rows.Boot.super) ⟨rfl, ?_⟩)
  refine wpAny_loadName_free hk hkc hcc ⟨_, I.kIn _ _ hcell, rfl⟩ ?_
  refine wpAny_loadName_local hk hka hns hm ?_
  refine ks_wpAny_isType_cls hD1 hD2 ⟨rfl, ?_⟩
  have IA : PySem.W.InstAt s.heap a ({ cls := .ref C, dict := none, data := .fields #[.ref t1, .none, .none, .none, .bool false, .none] } : Obj) C none := ⟨ho, rfl, rfl, trivial⟩
  have hxC := PySem.W.ks_ne I.kIn IA hcC
  obtain ⟨hp0, g, d, t, os⟩ := s
  refine ks_wpAny_call_super hD1 hD2 ho rfl (fun c z => by cases z) (PySem.W.looks_mroIn I.kIn S.sub) fun h' hso k => ?_
  have I1 : Inv X pins σ H ⟨h', g, d, t, os⟩ := I.kept (t' := t) k
  have ho1 := k _ _ ho
  have IA1 : PySem.W.InstAt h' a ({ cls := .ref C, dict := none, data := .fields #[.ref t1, .none, .none, .none, .bool false, .none] } : Obj) C none := ⟨ho1, rfl, rfl, trivial⟩
  have hI : PySem.W.Looks (model X.prog X.w) h' (isInstance (.ref a) (.type "ValueError")) true := IA1.type.andThen (PySem.W.looks_subIn I1.kIn S.isB)
  refine PySem.W.kxs_getMethod (K := X.K) PySem.W.kxs_ValueError hso (PySem.W.looks_opaque I1.kIn S.op) (l₀ := cC.mro) (fun A Q E s k q => wpAny_bind ((PySem.W.looks_clsIn I1.kIn hcC) A _ E s k (wpAny_pure q))) rfl I1.kIn hal hI hxC (by decide) ?_
  have k2 : ∀ b o, h'.get? b = some o → (h'.push (PySem.W.kxs_mw "ValueError.__init__" a)).get? b = some o := fun b o z => Heap.get?_push_of_some _ z
  have I2 : Inv X pins σ H ⟨h'.push (PySem.W.kxs_mw "ValueError.__init__" a), g, d, t + 1, os⟩ := I1.kept (t' := t + 1) k2
  have hq : (h'.push (PySem.W.kxs_mw "ValueError.__init__" a)).get? h'.objs.size = some (PySem.W.kxs_mw "ValueError.__init__" a) := Heap.get?_push_size _ rfl
  have I3 : Inv X (pins ++ [(h'.objs.size, PySem.W.kxs_mw "ValueError.__init__" a)]) σ H ⟨h'.push (PySem.W.kxs_mw "ValueError.__init__" a), g, d, t + 1, os⟩ := I2.pins_of fun p hp => by
    rcases List.mem_append.mp hp with hp | hp
    · exact I2.pin p (List.mem_append_right _ hp)
    · rw [List.mem_singleton.mp hp]
      exact ⟨hq, I1.hok.fresh (Nat.le_refl _), Nat.ne_of_gt I1.lt, I1.nofs (Nat.le_refl _), fun v z => by cases z⟩
  rw [hse]
  refine PySem.W.kxs_callWith (i := "ValueError.__init__") (x := a) (by show (false || (backTo p3 (starEach es X.env)).any (·.1)) = false; rw [hpl]; rfl) ?_
  have hrun := ha.run p3 _ _ σ H _ I3 ht
  rw [hse] at hrun
  refine Calls.evalArgs_plain (thn hrun fun us s1 ⟨vs1, H1, I4, r1, hz, eH1, q⟩ => ?_)
  have hpin := (I4.pin (h'.objs.size, PySem.W.kxs_mw "ValueError.__init__" a) (List.mem_append_right _ (List.mem_append_right _ (List.mem_singleton.mpr rfl)))).1
  refine ⟨hpin, mw_init T I4 eH1 hpin ?_ fun s' J => ⟨rfl, H1, J.unpinned, q⟩⟩
  show us.length ≤ sizeLine
  rw [← r1.length, sizeLine_eq]
  omega
/-- a def of an exception class whose first statement is super().__init__(e, ..) -/
theorem fn_sup {CX : CXT} {P : Program} {w : World} {K : PySem.W.Frag} {mg : Str → Option Value} {base : Heap} {k : Nat} {f : Addr} {name qual : Str} {params : Arguments} {body : List Stmt} {scope : Scope} {dV kV doc pm ct oc : Value} {an od : Option Addr}
    {osl : Array (Option Value)} {N ps : List Str} {sp : Sp} {p0 p1 p2 p3 p4 : Pos} {e : Expr} {es : List Expr} {C D cc cda : Addr} {ar : Arg} {vs : Array Value} {file : Str} {tf : Tok} {ccl cl : Value} {cdd cld : Option Addr} {ccs csl : Array (Option Value)} {pl : Addr → Sem Bool}
    (lk : K.lookup f = some ⟨oc, od, .func (PySem.W.ksFn name qual params (.Expr (.Call (.Attribute (.Call (.Name "super" p0) [] [] p1) "__init__" p2) (e :: es) [] p3) p4 :: body) scope dV kV doc pm an (.ref cda) ct cc), osl⟩) (hcd : PySem.W.codeIn K (.ref cda) qual = true) (S : NScope N ps ["__class__"] scope)
    (hp : (params.posonlyargs ++ params.args).head? = some ar) (hps : ps.head? = some ar.arg) (hcode : K.lookup cda = some ⟨ccl, cdd, .fields vs, ccs⟩) (hvs : vs[2]? = some (.str file tf)) (hfile : ((P.main.file : Str) == file) = true)
    (htop : (P.main.scope.names.lookup ("super" : Str)).isSome = false) (hcell : K.lookup cc = some ⟨cl, cld, .cell (some (.ref D)), csl⟩) (hms : mg "super" = none) (hks : scope.names.lookup ("super" : Str) = some .globalImplicit) (T : OexC K C) (SF : SupF K C D)
    (len : ∀ vs H Q E, sp vs H Q E → vs.length = ps.length)
    (hi : ∀ L, interactive (PySem.W.ksEnv qual scope L f (.ref cda) cc) = false) (hsw : ∀ L, swapsWith (.Call (.Attribute (.Call (.Name "super" p0) [] [] p1) "__init__" p2) (e :: es) [] p3) none p4.line (PySem.W.ksEnv qual scope L f (.ref cda) cc) = pure false)
    (he : ∀ L, eval (.Call (.Attribute (.Call (.Name "super" p0) [] [] p1) "__init__" p2) (e :: es) [] p3) (PySem.W.ksEnv qual scope L f (.ref cda) cc) = (do
      let ov ← attributeBase (.Call (.Name "super" p0) [] [] p1) "__init__" (PySem.W.ksEnv qual scope L f (.ref cda) cc) (eval (.Call (.Name "super" p0) [] [] p1) (PySem.W.ksEnv qual scope L f (.ref cda) cc))
      standAt p2.atName
      let (fm, first) ← holding [ov] (getMethod ov "__init__" (pl L))
      callWith p3 fm first (backTo p3 (starEach (e :: es) (PySem.W.ksEnv qual scope L f (.ref cda) cc))) []))
    (hse : ∀ L, starEach (e :: es) (PySem.W.ksEnv qual scope L f (.ref cda) cc) = (false, eval e (PySem.W.ksEnv qual scope L f (.ref cda) cc)) :: starEach es (PySem.W.ksEnv qual scope L f (.ref cda) cc)) (hpl : ∀ L, (backTo p3 (starEach es (PySem.W.ksEnv qual scope L f (.ref cda) cc))).any (·.1) = false)
    (hbody : ∀ (A : Around) (outer : List Env) (s : Shared) (H : Hp) (vs : List V) (Q : VK) (E : XK), Room k (A.deeper (PySem.W.ksEnv qual scope s.heap.objs.size f (.ref cda) cc)) → sp vs H Q E →
      ∃ a ta t, vs.head? = some (.ref a) ∧ H a = some (exo a C none) ∧ PA (ncx CX P w K mg base N ⟨name, qual, params, .Expr (.Call (.Attribute (.Call (.Name "super" p0) [] [] p1) "__init__" p2) (e :: es) [] p3) p4 :: body, scope, [("__class__", cc)], cda⟩ f A outer s H E) (e :: es) ta ∧
        PSs (ncx CX P w K mg base N ⟨name, qual, params, .Expr (.Call (.Attribute (.Call (.Name "super" p0) [] [] p1) "__init__" p2) (e :: es) [] p3) p4 :: body, scope, [("__class__", cc)], cda⟩ f A outer s H E) body t ∧
        ta (startF N vs [none]) H fun us H1 => us.length ≤ 1000 ∧ H1 a = some (exo a C none) ∧ t { nx := fun _ H' => Q .non H', rt := Q } (startF N vs [none]) H1) :
    FnOk P w K mg base CX (k + 1) f (PySem.W.ksFn name qual params (.Expr (.Call (.Attribute (.Call (.Name "super" p0) [] [] p1) "__init__" p2) (e :: es) [] p3) p4 :: body) scope dV kV doc pm an (.ref cda) ct cc) ps sp := by
  refine ⟨len, fun A outer s H args us vs Q E hr e0 hb r hsp => ?_⟩
  have hl := len _ _ _ _ hsp
  have KX : K.In s.heap := e0.mod.kin.keeps fun b o e => (e0.bs b o e).1
  have lim : s.heap.NoLimit := e0.mod.nolimit.keeps fun b o e => (e0.bs b o e).1
  have hcc0 : base.get? cc = some ⟨cl, cld, .cell (some (.ref D)), csl⟩ := e0.mod.kin _ _ hcell
  have hcc1 := e0.bs _ _ hcc0
  have CA : CellsAt [("__class__", cc)] ["__class__"] [none] s.heap H := by
    refine ⟨rfl, fun y c z => ?_, fun x y c z1 z2 => ?_, fun i y z => ?_⟩
    · simp only [List.lookup] at z
      split at z
      · cases z
        exact ⟨hcc1.2, some (.ref D), _, hcc1.1, rfl⟩
      · cases z
    · simp only [List.lookup] at z1 z2
      split at z1
      · rename_i q1
        split at z2
        · rename_i q2
          exact (beq_iff_eq.mp q1).trans (beq_iff_eq.mp q2).symm
        · cases z2
      · cases z1
    · match i, z with
      | 0, z =>
        cases z
        exact ⟨cc, rfl, fun v z => by cases z⟩
      | i + 1, z => simp at z
  refine ks_codeAny_call_defAt hr.depth (KX _ _ lk) rfl lim (PySem.W.codeRec_of KX hcd) rfl (hb) S.nocell (fun ⟨n, _⟩ hy => S.par n (List.of_mem_zip hy).1) (fun h₁ hns kp => ?_) S.co S.gen S.kind
  obtain ⟨a, ta, t, hv0, eH, ha, ht, hq⟩ := hbody A outer s H vs Q E (hr.deeper _) hsp
  have I := inv_startN (CX := CX) (P := P) (w := w) (K := K) (mg := mg) (base := base) (E := E) (F := ⟨name, qual, params, .Expr (.Call (.Attribute (.Call (.Name "super" p0) [] [] p1) "__init__" p2) (e :: es) [] p3) p4 :: body, scope, [("__class__", cc)], cda⟩) (f := f) (tk := s.toks + (ps.zip us).length) S hr.hd e0 hl r CA hns kp
  have hN0 : N[0]? = some ar.arg := by
    have q := S.pre
    cases ps with
    | nil => cases hps
    | cons p0 ps' =>
      cases hps
      cases N with
      | nil => simp at q
      | cons n0 N' =>
        simp [Nat.add_right_comm] at q
        rw [q.1]
        rfl
  have hpar : ar.arg ∈ ps := by
    cases ps with
    | nil => cases hps
    | cons p0 ps' => cases hps; exact List.mem_cons_self
  have hs0 : (startF N vs [none])[0]? = some (some (.ref a)) := by
    cases vs with
    | nil => cases hv0
    | cons v0 vs' => cases hv0; rfl
  have fin : ∀ {σ' : L2.St} {H' : Hp} {v : V} {u : Value} {s' : Shared}, Inv (ncx CX P w K mg base N ⟨name, qual, params, .Expr (.Call (.Attribute (.Call (.Name "super" p0) [] [] p1) "__init__" p2) (e :: es) [] p3) p4 :: body, scope, [("__class__", cc)], cda⟩ f A outer s H E) [] σ' H' s' → L2.RelV v u → Q v H' → CE outer P w H s Q u s' :=
    fun {σ' H' v u s'} J rv q => ⟨v, H', J.os, J.bare, J.base, J.hok, rv, q⟩
  refine ks_wpAt_execs_cons (ks_wpAt_mono (run_sup (X := ncx CX P w K mg base N ⟨name, qual, params, .Expr (.Call (.Attribute (.Call (.Name "super" p0) [] [] p1) "__init__" p2) (e :: es) [] p3) p4 :: body, scope, [("__class__", cc)], cda⟩ f A outer s H E)
    S.kind hks (S.frk _ (List.mem_singleton.mpr rfl)) (S.par _ hpar) rfl lk rfl hp rfl hcode hvs hfile htop rfl hcell hms T SF hN0 ha I hs0 eH hq (hi _) (hsw _) (he _) (hse _) (hpl _)) (fun fl s' hfl => ?_) fun _ _ z => z)
  obtain ⟨rfl, H1, J, q⟩ := hfl
  refine wpAt_of_wpAny (wpAny_mono (ht.run [] s' _ H1 _ J q) (fun fl s'' hs => ?_) fun _ _ z => z)
  cases fl with
  | ret u =>
    obtain ⟨v, σ', H', J, rv, q⟩ := hs
    exact fin J rv q
  | next =>
    obtain ⟨σ', H', J, q⟩ := hs
    exact fin (v := V.non) (u := Value.none) J rfl q
  | brk =>
    obtain ⟨_, _, _, q⟩ := hs
    exact False.elim q
  | cont =>
    obtain ⟨_, _, _, q⟩ := hs
    exact False.elim q
end ExV
namespace ExV
open PySem PySem.Spec PyProof.Rows L2 L2H HotX
/-! ### defs that are called in the suite of an except clause, the exception itself may be handed to them -/
/-- what such a def promises: the exception's address, class and dict are told -/
structure FnP (P : Program) (w : World) (K : PySem.W.Frag) (mg : Str → Option Value) (base : Heap) (k : Nat) (f : Addr) (fd : FuncData) (ps : List Str) (sp : Addr → Value → Option Addr → Sp) : Prop where
  len : ∀ a c d vs H Q E, sp a c d vs H Q E → vs.length = ps.length
  run : ∀ (A : Around) (outer : List Env) (s : Shared) (H : Hp) (us : List Value) (vs : List V) (Q : VK) (E : XK) (p : Addr × Obj) (c : Value) (d : Option Addr), RoomH k A → Hot1 A p → L2N.Zn c d p.2 → PinOk outer H s p → Env0 P w K mg base A outer s H →
    BindsTo s fd ⟨us, []⟩ (ps.zip us) → Vals vs us → sp p.1 c d vs H Q E → codeAny (model P w) A (.call (.ref f) ⟨us, []⟩) (CR CX0 outer P w H s Q E) s
theorem FnP.mono {P : Program} {w : World} {K : PySem.W.Frag} {mg : Str → Option Value} {base : Heap} {j k : Nat} {f : Addr} {fd : FuncData} {ps : List Str} {sp : Addr → Value → Option Addr → Sp} (F : FnP P w K mg base j f fd ps sp) (h : j ≤ k) : FnP P w K mg base k f fd ps sp :=
  ⟨F.len, fun A outer s H us vs Q E p c d hr => F.run A outer s H us vs Q E p c d (hr.mono h)⟩
/-- the exception of a context: pinned there, and handled -/
def ExP (X : Cx) (a : Addr) (c : Value) (d : Option Addr) : Prop := ∃ oe : Obj, (a, oe) ∈ X.pn ∧ Hot1 X.A (a, oe) ∧ L2N.Zn c d oe
theorem ExP.hot {X : Cx} {a : Addr} {c : Value} {d : Option Addr} (h : ExP X a c d) : HotC X := h.elim fun oe q => ⟨(a, oe), q.2.1, q.1⟩
theorem fnP_of {P : Program} {w : World} {K : PySem.W.Frag} {mg : Str → Option Value} {base : Heap} {x qual : Str} {st : Stmt} {f : Addr} {fd : FuncData} {N ps : List Str} {k : Nat} {sp : Addr → Value → Option Addr → Sp} (F : Fun K x qual st f fd) (S : FnScope N ps (defScope st))
    (len : ∀ a c d vs H Q E, sp a c d vs H Q E → vs.length = ps.length)
    (body : ∀ (cdv : Value) (A : Around) (outer : List Env) (s : Shared) (H : Hp) (vs : List V) (Q : VK) (E : XK) (p : Addr × Obj) (c : Value) (d : Option Addr), ExP ((cxH CX0 P w K mg base N qual (defScope st) f cdv A outer s H E p).nox) p.1 c d → RoomH k (A.deeper (envOfC qual (defScope st) s.heap.objs.size f cdv)) → sp p.1 c d vs H Q E →
      ∃ t, PSs ((cxH CX0 P w K mg base N qual (defScope st) f cdv A outer s H E p).nox) (defBody st) t ∧ t { nx := fun _ H' => Q .non H', rt := Q } (L2.start N vs) H) : FnP P w K mg base (k + 1) f fd ps sp := by
  obtain ⟨oc, od, kV, doc, pm, an, cdv, ct, osl, rfl, lk, hcd⟩ := F.ex
  refine ⟨len, fun A outer s H us vs Q E p c d room hot hz hpin e0 hbi rv hsp => ?_⟩
  have e1 := len _ _ _ _ _ _ _ hsp
  have inK : K.In s.heap := e0.mod.kin.keeps fun b o e => (e0.bs b o e).1
  have kinds : ∀ y ∈ ps.zip us, (defScope st).names.lookup y.1 = some .local ∨ ((defScope st).names.lookup y.1 = some .cell ∧ ((cellsFrom (s.heap.objs.size + 1) (defScope st).names []).lookup y.1).isSome = true) := by
    rintro ⟨n, v⟩ hy
    rcases S.par n (List.of_mem_zip hy).1 with q | q
    · exact .inl q
    · exact .inr ⟨q, PySem.W.cellsFrom_some _ _ _ (.inl q)⟩
  refine codeAny_call_function room.depth (inK _ _ lk) rfl S.co S.gen rfl (PySem.W.codeRec_of inK hcd) (hbi _ _ _ _ (wpAny_newFunctionEnv_cells S.kind kinds fun env he s1 x => ?_))
  subst he
  refine ⟨(e0.mod.nolimit.keeps fun b o e => (e0.bs b o e).1).keeps x.toInCall.keep, codeAny_func ?_⟩
  obtain ⟨t, ht, hq⟩ := body cdv A outer s H vs Q E p c d ⟨p.2, List.mem_singleton.mpr rfl, hot, hz⟩ (room.deeper _) hsp
  have J0 : Inv (cxH CX0 P w K mg base N qual (defScope st) f cdv A outer s H E p) [] (L2.start N vs) H s1 := inv_startH S hpin e0 e1 rv x
  refine wpAny_mono (ht.nox.run [] s1 (L2.start N vs) H _ J0 hq) (fun fl s2 hs => ?_) fun e s2 hs => hs
  have done : ∀ {σ' : L2.St} {H' : Hp} {v : V} {u : Value}, Inv (cxH CX0 P w K mg base N qual (defScope st) f cdv A outer s H E p) [] σ' H' s2 → L2.RelV v u → Q v H' → CE outer P w H s Q u s2 := fun {_ H' v _} J r q => ⟨v, H', J.os, J.bare, J.base, J.hok, r, q⟩
  match fl, hs with
  | .ret u, ⟨v, σ', H', J, r, q⟩ => exact done J r q
  | .next, ⟨σ', H', J, q⟩ => exact done (v := V.non) (u := Value.none) J rfl q
  | .brk, ⟨_, _, _, q⟩ => exact False.elim q
  | .cont, ⟨_, _, _, q⟩ => exact False.elim q
/-- f(..) there -/
def tCallP (sp : Addr → Value → Option Addr → Sp) (a : Addr) (c : Value) (d : Option Addr) (t : TA) : TE := fun σ H Q => t σ H fun vs H1 => sp a c d vs H1 Q E0
theorem pe_callP {X : Cx} {a : Addr} {c : Value} {d : Option Addr} {k : Nat} {f : Addr} {fd : FuncData} {ps : List Str} {sp : Addr → Value → Option Addr → Sp} {x : Str} {q pos : Pos} {e : Expr} {es : List Expr} {t : TA}
    (hE : ExP X a c d) (F : FnP X.prog X.w X.K X.mg X.base k f fd ps sp) (hr : RoomH k X.A) (hg : Gl X x) (hm : X.mg x = some (.ref f)) (hk : PySem.W.keepIn X.K (.ref f) = true) (hb : Binds X.K fd ps []) (ha : PA X (e :: es) t)
    (hdb : (x == ("__debug__" : Str)) = false := by decide) (he : starEach (e :: es) X.env = (false, eval e X.env) :: starEach es X.env := by rfl) (hpl : (backTo pos (starEach es X.env)).any (·.1) = false := by rfl) :
    PE X (.Call (.Name x q) (e :: es) [] pos) (tCallP sp a c d t) := by
  refine ⟨fun pins s σ H Q I h => wpAny_Call_Name_kw (ld_glob I hg hm ?_ hdb)⟩
  refine PySem.W.callWith_K (h₀ := X.base) I.ok.mod.kin hk (thn (ha.run pos pins s σ H _ I h) fun us s1 ⟨vs, H1, I1, r, q1⟩ => ⟨I1.kIn, ?_⟩) he hpl
  obtain ⟨oe, hin, hot, hz⟩ := hE
  have hl : us.length = ps.length := by rw [← r.length]; exact F.len _ _ _ _ _ _ _ q1
  have b := hb s1 us I1.kIn (by rw [List.append_nil]; exact hl)
  rw [List.append_nil] at b
  have P1 := I1.pin (a, oe) (List.mem_append_left _ hin)
  have hpin : PinOk X.stack H1 s1 (a, oe) := ⟨P1.1, P1.2.1, fun hm => (List.mem_cons.mp (I1.stkSub a hm)).elim P1.2.2.1 P1.2.2.2.1, P1.2.2.2.2⟩
  refine wpAny_call (codeAny_mono (F.run X.A X.stack s1 H1 us vs Q E0 (a, oe) c d hr hot hz hpin I1.env0 b r q1) fun r2 s2 hq => ?_)
  match r2, hq with
  | .error e, hq => exact hq.elim
  | .ok (.ret u), hq => exact I1.after hq
  | .ok .next, hq => exact False.elim hq
  | .ok .brk, hq => exact False.elim hq
  | .ok .cont, hq => exact False.elim hq
/-- isinstance(e, c) and isinstance(e, (c, ..)) of the handled exception -/
def rIsP (K : PySem.W.Frag) (a D : Addr) (d : Option Addr) : List V → Hp → VK → Prop := fun xs H Q => ∃ (c : V) (cv : Value) (b : Bool), xs = [.ref a, c] ∧ ExcC K D ∧ (∀ dd, d = some dd → ∃ fs, H dd = some (.xd fs)) ∧ (∀ u, RelV c u → u = cv) ∧ PySem.W.kitOne K (.ref D) cv = some b ∧ Q (.bl b) H
theorem instP {X : Cx} {pins : List (Addr × Obj)} {σ : L2.St} {H : Hp} {s : Shared} {a D : Addr} {d : Option Addr} (I : Inv X pins σ H s) (hE : ExP X a (.ref D) d) (hd : ∀ dd, d = some dd → ∃ fs, H dd = some (.xd fs)) : ∃ oe od, PySem.W.InstAt s.heap a oe D od := by
  obtain ⟨oe, hin, ⟨_, vs, hv, _⟩, hz⟩ := hE
  have hget := (I.pin (a, oe) (List.mem_append_left _ hin)).1
  refine ⟨oe, ?_⟩
  cases d with
  | none => exact ⟨none, hget, hz.1, by unfold PySem.W.notCls; rw [show oe.data = _ from hv] <;> rfl, by rw [hz.2.1]; trivial⟩
  | some dd =>
    obtain ⟨fs, hx⟩ := hd dd rfl
    obtain ⟨mA, hns, _⟩ := (show ObjOk X.prog X.w H s.heap dd (.xd fs) from I.hok dd _ hx)
    obtain ⟨od, ho, _⟩ := lookIn_ns hns
    exact ⟨some od, hget, hz.1, by unfold PySem.W.notCls; rw [show oe.data = _ from hv] <;> rfl, by rw [hz.2.1]; exact ho⟩
theorem kitP {K : PySem.W.Frag} {a D : Addr} {oe : Obj} {od : Option Obj} (C : ExcC K D) : PySem.W.KitX K (.ref a) (.ref D) (fun h => PySem.W.InstAt h a oe D od) := by
  obtain ⟨cd, hc, _⟩ := PySem.W.any_some C.hd
  exact PySem.W.kitx_exc (by rw [hc]; rfl) C.hg C.hk C.hs C.ha C.hn C.ht C.hm
theorem call_isP {X : Cx} {a D : Addr} {d : Option Addr} (hE : ExP X a (.ref D) d) : CallR X (.builtin "isinstance") (rIsP X.K a D d) := by
  intro pins s σ H xs us Q I r h
  obtain ⟨c, cv, b, rfl, C, hd, hcv, e, q⟩ := h
  match r with
  | .cons rx (.cons rt .nil) =>
    cases rx
    have ec := hcv _ rt
    subst ec
    obtain ⟨oe, od, J⟩ := instP I hE hd
    exact PySem.W.kia_one (kitP C) I.kIn J e (fun z => nomatch z) fun tk => ⟨.bl b, H, I.kept (t' := tk) fun _ _ z => z, rfl, q⟩
def rIsPT (K : PySem.W.Frag) (a D : Addr) (d : Option Addr) : List V → Hp → VK → Prop := fun xs H Q => ∃ (tp : Addr) (cs : List V) (ws : List Value) (b : Bool), xs = [.ref a, .ref tp] ∧ ExcC K D ∧ (∀ dd, d = some dd → ∃ fs, H dd = some (.xd fs)) ∧ H tp = some (.tup cs) ∧ Paired ClsV cs ws ∧ PySem.W.kitAny K (.ref D) ws = some b ∧ Q (.bl b) H
theorem call_isPT {X : Cx} {a D : Addr} {d : Option Addr} (hE : ExP X a (.ref D) d) : CallR X (.builtin "isinstance") (rIsPT X.K a D d) := by
  intro pins s σ H xs us Q I r h
  obtain ⟨tp, cs, ws, b, rfl, C, hd, hT, k, e, q⟩ := h
  match r with
  | .cons rx (.cons rt .nil) =>
    cases rx
    cases rt
    obtain ⟨oe, od, J⟩ := instP I hE hd
    obtain ⟨_, its, rv, o, h1, h2, n, h3⟩ := (show ObjOk X.prog X.w H s.heap tp (.tup cs) from I.hok tp _ hT)
    have e3 := ClsV.all k rv
    subst e3
    obtain ⟨oc, odd, dt, sl⟩ := o
    simp only at h2 h3
    subst h2 h3
    exact PySem.W.kia_tup (kitP C) I.kIn J h1 e (fun z => nomatch z) fun tk => ⟨.bl b, H, I.tok tk, rfl, q⟩
/-- e.f of the handled exception -/
def tXp (K : PySem.W.Frag) (a D : Addr) (d : Option Addr) (n : Str) (te : TE) : TE := fun σ H Q => te σ H fun x H1 => ∃ (dd : Addr) (fs : List (Str × V)) (v : V), x = .ref a ∧ d = some dd ∧ XfC K D ∧ PySem.W.findIn K (.ref D) n = some none ∧ H1 dd = some (.xd fs) ∧ fs.lookup n = some v ∧ Q v H1
theorem pe_xp {X : Cx} {a D : Addr} {d : Option Addr} {e : Expr} {te : TE} {pos : Pos} {n : Str} (hE : ExP X a (.ref D) d) (he : PE X e te) (hb : attributeBase e n X.env (eval e X.env) = eval e X.env := by rfl) : PE X (.Attribute e n pos) (tXp X.K a D d n te) := by
  refine ⟨fun pins s σ H Q I h => attr_of hb (thn (he.run pins s σ H _ I h) fun u s1 ⟨x, H1, I1, rx, dd, fs, v, ex, ed, T, hno, ea, l, q⟩ => ?_)⟩
  subst ex
  subst ed
  obtain rfl : u = Value.ref a := rx
  obtain ⟨oe, hin, ⟨_, vs, hv, _⟩, hz⟩ := hE
  have ha := (I1.pin (a, oe) (List.mem_append_left _ hin)).1
  obtain ⟨mA, hns, hr⟩ := (show ObjOk X.prog X.w H1 s1.heap dd (.xd fs) from I1.hok dd _ ea)
  obtain ⟨od, ho, hl⟩ := lookIn_ns hns
  obtain ⟨u, hu, ru⟩ := RelO.some_of (v := v) (o := mA n) (by rw [← l]; exact hr n)
  have J : PySem.W.InstAt s1.heap a oe D (some od) := ⟨ha, hz.1, by unfold PySem.W.notCls; rw [show oe.data = _ from hv] <;> rfl, by rw [hz.2.1]; exact ho⟩
  exact HandSPX.exc_get I1.kIn J T.ga T.gg T.exC (PySem.W.findObj_own T.hdC hno rfl (by rw [hl, hu])) (handed_of ru) ⟨v, H1, I1.tok _, ru, q⟩
/-- the same, the class told as a value -/
def rIsPc (K : PySem.W.Frag) (a : Addr) (c : Value) (d : Option Addr) : List V → Hp → VK → Prop := fun xs H Q => ∃ D : Addr, c = .ref D ∧ rIsP K a D d xs H Q
theorem call_isPc {X : Cx} {a : Addr} {c : Value} {d : Option Addr} (hE : ExP X a c d) : CallR X (.builtin "isinstance") (rIsPc X.K a c d) := by
  intro pins s σ H xs us Q I r h
  obtain ⟨D, rfl, h⟩ := h
  exact call_isP hE pins s σ H xs us Q I r h
theorem takesN0 {X : Cx} : L2N.Takes X (fun _ _ _ _ => False) := fun u s' x => by
  obtain ⟨a, B, sI, pins, σ, H, cls, d, e, I, nb, up, sky, na, os, ag, z⟩ := x
  exact z.elim
theorem suite_exP {X : Cx} {a : Addr} {oe : Obj} {c : Value} {d : Option Addr} {pn : List (Addr × Obj)} (hz : L2N.Zn c d oe) (hf : ∃ vs, oe.data = .fields vs) : ExP (X.suite a ((a, oe) :: pn)) a c d := by
  obtain ⟨vs, hv⟩ := hf
  exact ⟨oe, List.mem_cons_self, ⟨rfl, vs, hv, hz.2.2 vs hv⟩, hz⟩
end ExV
namespace ExV
open PySem PySem.Spec PyProof.Rows L2 L2H HotX
/-! ### a list comprehension in the suite of an except clause -/
/-- the block's context there: the handled exception stays pinned -/
abbrev blkH (X : Cx) (p : Addr × Obj) (s : Shared) (H : Hp) (scope : Scope) (ce : Env) (fp : List Addr) : Cx := (X.blk s H scope ce fp).tr [p] fun _ _ => False
theorem pe_lcH {X : Cx} {elt tg iter : Expr} {ifs : List Expr} {scope : Scope} {own : List (Str × Nat)} {pos : Pos} {wi : TI} {g : TG} {tt : TT} {te : TE} (hot : HotC X) (hN : X.N.Nodup) (hi : PIH X tg iter wi) (ok : BlkOk X.N X.env.scope scope own)
    (hg : ∀ (p : Addr × Obj) (s : Shared) (H : Hp) (C : Addr) (cl : List (Str × Addr)) (fp : List Addr), PG (blkH X p s H scope (compEnvC scope cl C X.env) fp) tg g)
    (ht : ∀ (p : Addr × Obj) (s : Shared) (H : Hp) (C : Addr) (cl : List (Str × Addr)) (fp : List Addr), PTs (blkH X p s H scope (compEnvC scope cl C X.env) fp) ifs tt)
    (he : ∀ (p : Addr × Obj) (s : Shared) (H : Hp) (C : Addr) (cl : List (Str × Addr)) (fp : List Addr), PE (blkH X p s H scope (compEnvC scope cl C X.env) fp) elt te)
    (hs : ∀ x, foldedSetIterable iter X.env x = pure x := by intro _; rfl) : PE X (.ListComp elt [⟨tg, iter, ifs, 0⟩] scope pos) (tLc wi g tt te (own.map (·.2))) := by
  refine ⟨fun pins s σ H Q I h => ?_⟩
  obtain ⟨p, hp1, hpn⟩ := hot
  rw [eval_ListComp]
  have known : ∀ y ∈ scope.names, y.2 = .free → ∃ c, X.env.cells.lookup y.1 = some c := fun y hy e => (ok.free y hy e).elim (fun k => I.ok.has _ (.inl k)) fun k => I.ok.has _ (.inr k)
  refine wpAny_comprehension_free (use := none) rfl hs (closure_ok known) ok.kind (fun y hy e => by rw [ok.uniq y hy, e]) (thn (hi.run pins s σ H _ I h) fun xv s1 hx => thn hx fun itv s2 hit => ?_)
  obtain ⟨it, fp, tn, J, H2, rfl, I2, T, tn2, fp2, rest⟩ := hit
  refine wpAny_newObj_type (newEnv_comp ?_) (by show 0 ≤ sizeLine; decide)
  generalize hD : s2.heap.objs.size = D
  obtain ⟨W, ⟨m0, w0⟩, turn⟩ := rest D (I2.hok.fresh (Nat.le_of_eq hD))
  generalize hs3 : ({ s2 with heap := s2.heap.push { cls := .type "list", data := .seq ([] : List Value).toArray } } : Shared) = s3
  have I3 : Inv X pins σ (upd H2 D (.lst [])) s3 := hs3 ▸ I2.laid (t' := s2.toks) (fun b o e => Heap.get?_push_of_some _ e) (Nat.le_of_eq hD) ⟨Nat.zero_le _, [], 0, .nil, hD ▸ Heap.get?_push_size _ rfl⟩
  have heap3 : s3.heap = s2.heap.push { cls := .type "list", data := .seq ([] : List Value).toArray } := hs3 ▸ rfl
  have fp3 : ∀ b ∈ fp, FpOk X pins (upd H2 D (.lst [])) b ∧ b < s3.heap.objs.size := fun b hb => by
    obtain ⟨o, eo, _⟩ := T.obj _ _ tn2 b hb
    have lt := Heap.lt_size eo
    exact ⟨⟨(upd_ne (hD ▸ Nat.ne_of_lt lt)).trans (fp2 b hb).1, (fp2 b hb).2⟩, by rw [heap3, Heap.size_push]; exact Nat.lt_succ_of_lt lt⟩
  have tn3 : tn 0 s3.heap := T.keep _ _ _ tn2 fun b _ o e => heap3 ▸ Heap.get?_push_of_some _ e
  generalize hC : s3.heap.objs.size = C
  have I4' := block_start I3 ok hN fp3
  have pg := hg p s3 (upd H2 D (.lst [])) s3.heap.objs.size (cellsFrom (s3.heap.objs.size + 1) scope.names (cloFrom X.env.cells scope.names [])) fp
  have pt := ht p s3 (upd H2 D (.lst [])) s3.heap.objs.size (cellsFrom (s3.heap.objs.size + 1) scope.names (cloFrom X.env.cells scope.names [])) fp
  have pe := he p s3 (upd H2 D (.lst [])) s3.heap.objs.size (cellsFrom (s3.heap.objs.size + 1) scope.names (cloFrom X.env.cells scope.names [])) fp
  have nil3 : ∀ b ∈ fp, (upd H2 D (.lst [])) b = none := fun b hb => (fp3 b hb).1.1
  rw [hC] at I4' pg pt pe
  change codeAny _ _ (.compStart (.ListComp elt [⟨tg, iter, ifs, 0⟩] scope pos) 0 (.ref it) (.ref D) (compEnvC scope (cellsFrom (C + 1) scope.names (cloFrom X.env.cells scope.names [])) C X.env)) (compPost (model X.prog X.w) X.A X.xe none (EP X pins σ Q) (.ref D) C) _
  generalize hce : compEnvC scope (cellsFrom (C + 1) scope.names (cloFrom X.env.cells scope.names [])) C X.env = ce at I4' pg pt pe ⊢
  have ceL : ce.locals = C := hce ▸ rfl
  generalize hH3 : upd H2 D (.lst []) = H3 at I3 I4' pg pt pe w0 nil3 fp3
  generalize hs4 : ({ s3 with heap := pushCells (s3.heap.push { cls := .type "dict", data := .dict #[] }) scope.names } : Shared) = s4 at I4' ⊢
  have grow : ∀ b o, s3.heap.get? b = some o → s4.heap.get? b = some o := fun b o e => hs4 ▸ pushCells_keeps _ _ _ _ (Heap.get?_push_of_some _ e)
  have tn4 : tn 0 s4.heap := T.keep _ _ _ tn3 fun b _ o e => grow b o e
  have pin3 := I3.pin p (List.mem_append_left _ hpn)
  have I4 : Inv (blkH X p s3 H3 scope ce fp) [] (wipe σ (own.map (·.2))) H3 s4 :=
    ⟨I4'.ok.toTry _ _, I4'.os, I4'.bare, I4'.base, I4'.loc, I4'.cell, I4'.free, I4'.freeC, fun q hq => by
      obtain rfl : q = p := by simpa using (show q ∈ [p] ++ ([] : List (Addr × Obj)) from hq)
      refine ⟨grow _ _ pin3.1, pin3.2.1, fun z => ?_, fun z => ?_, pin3.2.2.2.2⟩
      · have lt := Heap.lt_size pin3.1
        rw [show q.1 = ce.locals from z, ceL, hC] at lt
        exact absurd lt (Nat.lt_irrefl _)
      · exact (List.mem_cons.mp (I3.stkSub q.1 z)).elim pin3.2.2.1 pin3.2.2.2.1, I4'.hok, I4'.len⟩
  have hotB : HotC (blkH X p s3 H3 scope ce fp) := ⟨p, hp1, List.mem_singleton.mpr rfl⟩
  have stay : ∀ {σ' : L2.St} {H' : Hp} {s' : Shared}, Inv (blkH X p s3 H3 scope ce fp) [] σ' H' s' → (∀ b ∈ fp, H' b = none) → ∀ b ∈ fp, FpOk (blkH X p s3 H3 scope ce fp) [] H' b := fun {_ _ _} J hn b hb =>
    ⟨hn b hb, (J.ok.exf b hb).1, J.ok.exfs b hb, .inl hb, fun x c e => (J.ok.exf b hb).2 x c e, fun q hq => by
      obtain rfl : q = p := by simpa using (show q ∈ [p] ++ ([] : List (Addr × Obj)) from hq)
      exact (fp3 b hb).1.2.2.2.2.2 q (List.mem_append_left _ hpn)⟩
  have loop : codeAny (model X.prog X.w) X.A (.compLoop (.ListComp elt [⟨tg, iter, ifs, 0⟩] scope pos) 0 (.ref it) (.ref D) ce) (compPost (model X.prog X.w) X.A X.xe none (EP X pins σ Q) (.ref D) C) s4 := by
    refine compLoop_any (fun n s' => ∃ i H', Inv (blkH X p s3 H3 scope ce fp) [] (wipe σ (own.map (·.2))) H' s' ∧ tn i s'.heap ∧ (∀ b ∈ fp, H' b = none) ∧ W i n H') (fun n s5 hn => ?_) m0 ⟨0, H3, I4, tn4, nil3, w0⟩
    obtain ⟨i, H5, I5, tn5, nil5, w5⟩ := hn
    rcases turn i n H5 w5 with ⟨hstop, hq⟩ | ⟨hgo, Nx, less, step⟩
    · refine thnF (T.done (blkH X p s3 H3 scope ce fp) rfl rfl rfl hotB i [] s5 _ H5 (fun _ _ => False) I5 (stay I5 nil5) tn5 hstop) fun r s6 ⟨hr, I6⟩ => ?_
      subst hr
      have I7 : Inv X pins σ H5 s6 := I3.call' (ch := fp) I6.os I6.base I6.hok I6.bare fun b hb => ⟨(fp3 b hb).1.2.2.2.1, (fp3 b hb).1.2.1, (fp3 b hb).1.2.2.2.2.1, (fp3 b hb).1.2.2.2.2.2⟩
      have atC : H5 C = none := ceL ▸ I6.free
      obtain ⟨m, hns, _⟩ := I6.loc
      have hns : s6.heap.Ns C m := ceL ▸ hns
      obtain ⟨f0, f1, f2, f3, f4, f5⟩ := I3.fpOk (Nat.le_of_eq hC) atC
      exact ⟨m, hns, fun h2 sb => ⟨.ref D, H5, I7.turned (t' := s6.toks) (fun b o hb e => (sb.2 b hb).trans e) f0 f1 f3 f4 f5, rfl, hq⟩⟩
    · refine thnF (T.item (blkH X p s3 H3 scope ce fp) rfl rfl rfl hotB i [] s5 _ H5 (fun _ _ => False) I5 (stay I5 nil5) tn5 hgo) fun r s6 ⟨u, hr, h6⟩ => ?_
      subst hr
      refine thnF h6 fun _ s7 ⟨x, H7, I7, r7, y7, tn7, nil7⟩ => ?_
      refine thnF (pg.run _ s7 _ H7 x u _ (I7.pinned (stay I7 nil7) (T.obj _ _ tn7)) r7 (step x H7 y7)) fun _ s8 ⟨σ8, H8, I8, same8, q8⟩ => ?_
      refine thnF (pt.run _ s8 σ8 H8 _ I8 q8) fun b s9 ⟨H9, I9, q9⟩ => ?_
      have next : ∀ {s' : Shared} {H' : Hp}, Inv (blkH X p s3 H3 scope ce fp) ([] ++ pinsAt fp s7.heap) σ8 H' s' → Nx H' → ∃ m, m < n ∧ ∃ i H', Inv (blkH X p s3 H3 scope ce fp) [] (wipe σ (own.map (·.2))) H' s' ∧ tn i s'.heap ∧ (∀ b ∈ fp, H' b = none) ∧ W i m H' := fun {s' H'} J nx => by
        obtain ⟨m', lt, w'⟩ := less H' nx
        have at_ : ∀ b ∈ fp, ∀ o, s7.heap.get? b = some o → s'.heap.get? b = some o ∧ H' b = none := fun b hb o e => ⟨(J.pin (b, o) (List.mem_append_right _ (List.mem_append_right _ (mem_pinsAt hb e)))).1, (J.pin (b, o) (List.mem_append_right _ (List.mem_append_right _ (mem_pinsAt hb e)))).2.1⟩
        refine ⟨m', lt, i + 1, H', (J.unpinned (pins := [])).weak (by rw [← same8, wipe_length]) (fun j v e => (wipe_some (same8 ▸ e)).1), T.keep _ _ _ tn7 fun b hb o e => (at_ b hb o e).1, fun b hb => ?_, w'⟩
        obtain ⟨o, e, _⟩ := T.obj _ _ tn7 b hb
        exact (at_ b hb o e).2
      cases b with
      | false => exact next I9 q9
      | true =>
        refine thnF (pe.run _ s9 σ8 H9 _ I9 q9) fun z s10 ⟨yv, H10, I10, r10, acc, at10, lt10, nx⟩ => ?_
        exact app_ok (X := blkH X p s3 H3 scope ce fp) I10 at10 lt10 r10 fun s11 J => next J nx
  exact codeAny_compStart_list loop (T.self X.A 0 _ _ _ tn4 loop)
end ExV
namespace ExV
open PySem PySem.Spec PyProof.Rows L2 NdefX
/-! ### C(..) of an own exception class, its context told -/
theorem let_goN {X : Cx} {pins : List (Addr × Obj)} {σ : L2.St} {H1 H2 : Hp} {Q : XK} {hp hp2 h2 : Heap} {g1 g2 : Array GenState} {d1 d2 : Drawn} {t1 t2 : Nat} {os1 os2 : OsState} {a C : Addr} (T : Raises X (.ref C)) (I1 : Inv X pins σ H1 ⟨hp, g1, d1, t1, os1⟩)
    (ha : hp.objs.size ≤ a) (k : ∀ b o, hp.get? b = some o → hp2.get? b = some o) (un : Un (frs X.stack) [] (upd H1 a (exo a C none)) H2 hp2 h2) (hok : HOk X.prog X.w H2 h2) (ho : os2 = os1) (hb : AllBare g2)
    (ea : H2 a = some (exo a C none)) (q : Q (.ref C) none (del H2 a)) : L2N.MkP X pins σ Q (.ref a) ⟨h2, g2, d2, t2, os2⟩ := by
  obtain ⟨a', oe, vs, sI, H', cls, d, e1, J, k2, ne, hoe, hz, hd, h1, na, eos, bare, R, q'⟩ := let_go (d2 := d2) (t2 := t2) (Q := fun c d H' => c = .ref C ∧ d = none ∧ H' = del H2 a) T I1 ha k un hok ho hb ea ⟨rfl, rfl, rfl⟩
  cases e1
  obtain ⟨rfl, rfl, rfl⟩ := q'
  obtain ⟨t0, hoe'⟩ := exo_at hok ea
  have hoe'' : h2.get? a = some oe := hoe
  rw [hoe''] at hoe'
  cases hoe'
  exact ⟨a, _, vs, sI, _, _, _, rfl, J, k2, ne, hoe, ⟨hz.1, hz.2, fun vs e => by cases e; rfl⟩, hd, h1, na, eos, bare, R, q⟩
/-- what such a class's making tells: nothing stored, or a dict -/
def rMkN (C : Addr) (sp : Sp) (dvs : List V) (Q : XK) (vs : List V) (H1 : Hp) : Prop := vs.length ≤ 1000 ∧ ∀ a, H1 a = none → sp (.ref a :: (vs ++ dvs)) (upd H1 a (exo a C none)) (fun v H2 => v = .non ∧ ((H2 a = some (exo a C none) ∧ Q (.ref C) none (del H2 a)) ∨
  ∃ (d : Addr) (fs : List (Str × V)), H2 a = some (exo a C (some d)) ∧ H2 d = some (exd d fs) ∧ H1 d = none ∧ Q (.ref C) (some d) (upd (del H2 a) d (.xd fs)))) (fun _ _ _ => False)
theorem made_run {X : Cx} {CX : CXT} {pins : List (Addr × Obj)} {σ : L2.St} {H1 : Hp} {s1 : Shared} {C fI : Addr} {k : Nat} {fd : FuncData} {ps : List Str} {sp : Sp} {ds us : List Value} {vs dvs : List V} {Q : XK} (T : OexC X.K C) (iC : PySem.W.findIn X.K (.ref C) "__init__" = some (some (.ref fI)))
    (tI : PySem.W.typeIn X.K (.ref fI) = some (.type "function")) (F1 : FnOk X.prog X.w X.K X.mg X.base CX k fI fd ps sp) (hr : Room (k + 1) X.A) (hb : Binds X.K fd ps ds) (hd : Vals dvs ds) (hx : Passes CX X (fun _ _ _ => False)) (I1 : Inv X pins σ H1 s1) (r1 : Vals vs us) (h : rMkN C sp dvs Q vs H1) :
    wpAny (model X.prog X.w) X.A (call (.ref C) us) (L2N.MkP X pins σ Q) X.xe s1 := by
  obtain ⟨nm, q, N, bs, bm, sn, sub, ab, col, dd, k0, k1, k2, k3, k5, hC, hbm⟩ := T.cls
  obtain ⟨hl1, q1⟩ := h
  obtain ⟨hp, g, dr, tk, os⟩ := s1
  have big : hp.objs.size ≤ hp.objs.size + 1 := Nat.le_succ _
  have free : H1 (hp.objs.size + 1) = none := I1.hok.fresh big
  have hq := q1 (hp.objs.size + 1) free
  have old : ∀ b o, hp.get? b = some o → ((hp.push (PySem.W.kdv_tup us)).push (PySem.HandSPX.excO C hp.objs.size)).get? b = some o := fun b o e => Heap.get?_push_of_some _ (Heap.get?_push_of_some _ e)
  have new : ((hp.push (PySem.W.kdv_tup us)).push (PySem.HandSPX.excO C hp.objs.size)).get? (hp.objs.size + 1) = some (PySem.HandSPX.excO C hp.objs.size) := by heap_get
  have J : Inv X pins σ (upd H1 (hp.objs.size + 1) (exo (hp.objs.size + 1) C none)) ⟨(hp.push (PySem.W.kdv_tup us)).push (PySem.HandSPX.excO C hp.objs.size), g, dr, tk, os⟩ := I1.laid (t' := tk) old big (exo_ok new)
  have vals : Vals (V.ref (hp.objs.size + 1) :: (vs ++ dvs)) (Value.ref (hp.objs.size + 1) :: (us ++ ds)) := .cons rfl (r1.append hd)
  have len : (Value.ref (hp.objs.size + 1) :: us ++ ds).length = ps.length := by rw [← F1.len _ _ _ _ hq]; exact vals.length.symm
  have few : us.length ≤ sizeLine := by rw [← Paired.length r1, sizeLine_eq]; omega
  refine wpAny_call (PySem.HandSPX.call_own F.excBase_ValueError (fun Y => PySem.HandSPX.refsVE_contains Y bm hbm) (I1.kIn _ _ hC) (PySem.W.looks_findIn I1.kIn iC) (fun self => PySem.W.bind_fn I1.kIn self tI) few
    (codeAny_mono (F1.run _ X.stack _ _ ⟨Value.ref (hp.objs.size + 1) :: us, []⟩ _ _ _ (fun _ _ _ => False) (hr.make C us []) (J.env0.make C us []) (hb _ (Value.ref (hp.objs.size + 1) :: us) J.kIn len) vals hq) fun r s2 hq2 => ?_))
  match r, hq2 with
  | .error er, hq2 => exact hx pins σ _ _ er s2 J hq2
  | .ok .next, hq2 => exact False.elim hq2
  | .ok .brk, hq2 => exact False.elim hq2
  | .ok .cont, hq2 => exact False.elim hq2
  | .ok (.ret u), hq2 =>
    obtain ⟨v, H2, os2, bare2, un2, hok2, rv, ev, fin⟩ := hq2
    subst ev
    obtain ⟨h2, g2, d2, t2, os'⟩ := s2
    rcases fin with ⟨ea, q2⟩ | ⟨d, fs, ea, ed, hd1, q2⟩
    · exact ⟨rv, let_goN (raises_own T.exC T.tyC) I1 big old un2 hok2 os2 bare2 ea q2⟩
    · obtain ⟨t0, G, J2, kG, ge, hoe, na⟩ := mk_end0 (d2 := d2) (t2 := t2) I1 big old un2 hok2 os2 bare2 ea ed hd1
      exact ⟨rv, _, _, _, ⟨G, g2, d2, t2, os'⟩, _, .ref C, some d, rfl, J2, kG, ge, hoe, ⟨rfl, rfl, fun vs e => by cases e; rfl⟩, rfl, rfl, na, rfl, bare2, raises_own T.exC T.tyC, q2⟩
section
variable {X : Cx} {CX : CXT} {x : Str} {C fI : Addr} {k : Nat} {fd : FuncData} {ps : List Str} {sp : Sp} {p pos : Pos} {e : Expr} {es : List Expr} {ta : TA}
theorem pmkN (T : OexC X.K C) (iC : PySem.W.findIn X.K (.ref C) "__init__" = some (some (.ref fI))) (tI : PySem.W.typeIn X.K (.ref fI) = some (.type "function")) (F1 : FnOk X.prog X.w X.K X.mg X.base CX k fI fd ps sp) (hr : Room (k + 1) X.A) (hb : Binds X.K fd ps [])
    (hx : Passes CX X (fun _ _ _ => False)) (hg : Gl X x) (hm : X.mg x = some (.ref C)) (ha : PA X (e :: es) ta) (hdb : (x == ("__debug__" : Str)) = false := by decide) (he : starEach (e :: es) X.env = (false, eval e X.env) :: starEach es X.env := by rfl)
    (hpl : (backTo pos (starEach es X.env)).any (·.1) = false := by rfl) : L2N.PMk X (.Call (.Name x p) (e :: es) [] pos) (fun σ H Q => ta σ H (rMkN C sp [] Q)) := fun pins s σ H Q I h =>
  wpAny_Call_Name_kw (ld_glob I hg hm (PySem.W.callWith_K (h₀ := X.base) I.ok.mod.kin T.kC (thn (ha.run pos pins s σ H _ I h) fun us s1 ⟨vs, H1, I1, r1, q1⟩ => ⟨I1.kIn, made_run T iC tI F1 hr hb .nil hx I1 r1 q1⟩) he hpl) hdb)
theorem pmkN0 (T : OexC X.K C) (iC : PySem.W.findIn X.K (.ref C) "__init__" = some (some (.ref fI))) (tI : PySem.W.typeIn X.K (.ref fI) = some (.type "function")) (F1 : FnOk X.prog X.w X.K X.mg X.base CX k fI fd ps sp) (hr : Room (k + 1) X.A) (hb : Binds X.K fd ps [])
    (hx : Passes CX X (fun _ _ _ => False)) (hg : Gl X x) (hm : X.mg x = some (.ref C)) (hdb : (x == ("__debug__" : Str)) = false := by decide) : L2N.PMk X (.Call (.Name x p) [] [] pos) (fun _ H Q => rMkN C sp [] Q [] H) := fun pins s σ H Q I h =>
  wpAny_Call_Name_kw (ld_glob I hg hm (PySem.W.callWith_K0 I.kIn T.kC (made_run T iC tI F1 hr hb .nil hx I .nil h)) hdb)
end
/-! ### what the text says of its exception classes -/
def excB (K : PySem.W.Frag) (C : Addr) (fs : List Str) : Bool :=
  decide (PySem.W.findIn K (.ref C) "__setattr__" = some (some (.builtin "object.__setattr__"))) && decide (PySem.W.findIn K (.ref C) "__getattribute__" = some (some (.builtin "BaseException.__getattribute__"))) && decide (PySem.W.findIn K (.ref C) "__getattr__" = some none) &&
    decide (PySem.W.subIn K (.ref C) (.type "BaseException") = some true) && decide (PySem.W.typeIn K (.ref C) = some (.type "type")) && PySem.W.keepIn K (.ref C) && PySem.W.hasDictIn K C && decide (PySem.W.findIn K (.ref C) "__class__" = some (some (.builtin "object.__class__"))) &&
    decide (PySem.W.specialIn K (.builtin "object.__class__") "__get__" = some (some (.builtin "getset_descriptor.__get__"))) && decide (PySem.W.takesIn K (.builtin "object.__class__") = some true) && decide (PySem.W.mroIn K C (.type "object") = some true) && fs.all fun f => decide (PySem.W.findIn K (.ref C) f = some none)
structure ExcF (K : PySem.W.Frag) (C : Addr) (fs : List Str) : Prop where
  sa : PySem.W.findIn K (.ref C) "__setattr__" = some (some (.builtin "object.__setattr__"))
  ty : PySem.W.typeIn K (.ref C) = some (.type "type")
  kp : PySem.W.keepIn K (.ref C) = true
  ec : ExcC K C
  xf : XfC K C
  no : ∀ f ∈ fs, PySem.W.findIn K (.ref C) f = some none
theorem excB_ok {K : PySem.W.Frag} {C : Addr} {fs : List Str} (h : excB K C fs = true) : ExcF K C fs := by
  unfold excB at h
  simp only [Bool.and_eq_true, decide_eq_true_eq, List.all_eq_true] at h
  obtain ⟨⟨⟨⟨⟨⟨⟨⟨⟨⟨⟨h1, h2⟩, h3⟩, h4⟩, h5⟩, h6⟩, h7⟩, h8⟩, h9⟩, ha⟩, hb⟩, hc⟩ := h
  exact ⟨h1, h5, h6, ⟨h2, h3, h4, h7, h8, h9, ha, hb⟩, ⟨h2, h3, h4, h7⟩, hc⟩
/-- isinstance of an instance of C, class by class -/
def kitRow (K : PySem.W.Frag) (C : Addr) (Ds : List Addr) : List (Option Bool) := Ds.map fun D => PySem.W.kitOne K (.ref C) (.ref D)
def supB (K : PySem.W.Frag) (C : Addr) : Bool := (PySem.W.clsIn K C).isSome && decide (PySem.W.mroIn K C (.ref C) = some true) && decide (PySem.W.ks_superIn K C C "__init__" = some (some (.builtin "ValueError.__init__"))) && decide (PySem.W.subIn K (.ref C) (.type "ValueError") = some true) &&
  decide (PySem.W.nsIn K cStatics "thirdparty.any" = some none)
theorem supB_ok {K : PySem.W.Frag} {C : Addr} (h : supB K C = true) : SupF K C C := by
  unfold supB at h
  simp only [Bool.and_eq_true, decide_eq_true_eq] at h
  obtain ⟨⟨⟨⟨h1, h2⟩, h3⟩, h4⟩, h5⟩ := h
  exact ⟨h1, h2, h3, h4, h5⟩
/-- its own __init__ -/
structure IniF (P : Program) (K : PySem.W.Frag) (qual : Str) (st : Stmt) (C f : Addr) (fd : FuncData) : Prop where
  ex : ∃ (oc kV doc pm ct ccl cl : Value) (od an cdd cld : Option Addr) (osl ccs csl : Array (Option Value)) (cc cda : Addr) (vs : Array Value) (file : Str) (tf : Tok), fd = PySem.W.ksFn "__init__" qual (defArgs st) (defBody st) (defScope st) .none kV doc pm an (.ref cda) ct cc ∧
    K.lookup f = some ⟨oc, od, .func fd, osl⟩ ∧ PySem.W.codeIn K (.ref cda) qual = true ∧ K.lookup cda = some ⟨ccl, cdd, .fields vs, ccs⟩ ∧ vs[2]? = some (.str file tf) ∧ ((P.main.file : Str) == file) = true ∧ K.lookup cc = some ⟨cl, cld, .cell (some (.ref C)), csl⟩
  iC : PySem.W.findIn K (.ref C) "__init__" = some (some (.ref f))
  tI : PySem.W.typeIn K (.ref f) = some (.type "function")
  sup : SupF K C C
/-- it binds its parameters -/
theorem IniF.binds {P : Program} {K : PySem.W.Frag} {qual : Str} {st : Stmt} {C f : Addr} {fd : FuncData} {ps : List Str} (F : IniF P K qual st C f fd)
    (h : ∀ (kV doc pm : Value) (an : Option Addr) (cdv ct : Value) (cc : Addr) (us : List Value), us.length = ps.length → bindArgs (PySem.W.ksFn "__init__" qual (defArgs st) (defBody st) (defScope st) .none kV doc pm an cdv ct cc) ⟨us, []⟩ = pure (ps.zip us)) : Binds K fd ps [] := by
  obtain ⟨oc, kV, doc, pm, ct, ccl, cl, od, an, cdd, cld, osl, ccs, csl, cc, cda, vs, file, tf, rfl, _⟩ := F.ex
  exact .all (h kV doc pm an (.ref cda) ct cc)
/-- the promise of an __init__ that stores its arguments under the names fs -/
def spIni (C : Addr) (fs : List Str) (ok : List V → Prop) : Sp := fun vs H Q _ => ∃ (a : Addr) (xs : List V), vs = .ref a :: xs ∧ ok xs ∧ H a = some (exo a C none) ∧ ((fs = [] ∧ Q .non H) ∨
  (fs ≠ [] ∧ ∀ d H', H d = none → d ≠ a → H' a = some (exo a C (some d)) → H' d = some (exd d (fs.zip xs).reverse) → (∀ b, b ≠ a → b ≠ d → H' b = H b) → Q .non H'))
section
variable {P : Program} {w : World} {K : PySem.W.Frag} {mg : Str → Option Value} {base : Heap}
theorem IniF.fn {qual : Str} {st : Stmt} {body : List Stmt} {C f : Addr} {fd : FuncData} {N ps fs : List Str} {ok : List V → Prop} {p0 p1 p2 p3 p4 : Pos} {e : Expr} {es : List Expr} {ar : Arg} {pl : Addr → Addr → Addr → Sem Bool} (F : IniF P K qual st C f fd) (T : OexC K C)
    (hB : defBody st = .Expr (.Call (.Attribute (.Call (.Name "super" p0) [] [] p1) "__init__" p2) (e :: es) [] p3) p4 :: body) (S : NScope N ps ["__class__"] (defScope st)) (hp : ((defArgs st).posonlyargs ++ (defArgs st).args).head? = some ar) (hps : ps.head? = some ar.arg)
    (htop : (P.main.scope.names.lookup ("super" : Str)).isSome = false) (hms : mg "super" = none) (hks : (defScope st).names.lookup ("super" : Str) = some .globalImplicit) (hok : ∀ xs, ok xs → xs.length + 1 = ps.length)
    (hi : ∀ L cda cc, interactive (PySem.W.ksEnv qual (defScope st) L f (.ref cda) cc) = false) (hsw : ∀ L cda cc, swapsWith (.Call (.Attribute (.Call (.Name "super" p0) [] [] p1) "__init__" p2) (e :: es) [] p3) none p4.line (PySem.W.ksEnv qual (defScope st) L f (.ref cda) cc) = pure false)
    (he : ∀ L cda cc, eval (.Call (.Attribute (.Call (.Name "super" p0) [] [] p1) "__init__" p2) (e :: es) [] p3) (PySem.W.ksEnv qual (defScope st) L f (.ref cda) cc) = (do
      let ov ← attributeBase (.Call (.Name "super" p0) [] [] p1) "__init__" (PySem.W.ksEnv qual (defScope st) L f (.ref cda) cc) (eval (.Call (.Name "super" p0) [] [] p1) (PySem.W.ksEnv qual (defScope st) L f (.ref cda) cc))
      standAt p2.atName
      let (fm, first) ← holding [ov] (getMethod ov "__init__" (pl L cda cc))
      callWith p3 fm first (backTo p3 (starEach (e :: es) (PySem.W.ksEnv qual (defScope st) L f (.ref cda) cc))) []))
    (hse : ∀ L cda cc, starEach (e :: es) (PySem.W.ksEnv qual (defScope st) L f (.ref cda) cc) = (false, eval e (PySem.W.ksEnv qual (defScope st) L f (.ref cda) cc)) :: starEach es (PySem.W.ksEnv qual (defScope st) L f (.ref cda) cc))
    (hpl : ∀ L cda cc, (backTo p3 (starEach es (PySem.W.ksEnv qual (defScope st) L f (.ref cda) cc))).any (·.1) = false)
    (hbody : ∀ (cda cc : Addr) (A : Around) (outer : List Env) (s : Shared) (H : Hp) (a : Addr) (xs : List V) (Q : VK) (E : XK), ok xs → H a = some (exo a C none) → ((fs = [] ∧ Q .non H) ∨ (fs ≠ [] ∧ ∀ d H', H d = none → d ≠ a → H' a = some (exo a C (some d)) → H' d = some (exd d (fs.zip xs).reverse) → (∀ b, b ≠ a → b ≠ d → H' b = H b) → Q .non H')) →
      ∃ ta t, PA (ncx CX0 P w K mg base N ⟨"__init__", qual, defArgs st, defBody st, defScope st, [("__class__", cc)], cda⟩ f A outer s H E) (e :: es) ta ∧ PSs (ncx CX0 P w K mg base N ⟨"__init__", qual, defArgs st, defBody st, defScope st, [("__class__", cc)], cda⟩ f A outer s H E) body t ∧
        ta (startF N (.ref a :: xs) [none]) H fun us H1 => us.length ≤ 1000 ∧ H1 a = some (exo a C none) ∧ t { nx := fun _ H' => Q .non H', rt := Q } (startF N (.ref a :: xs) [none]) H1) :
    FnOk P w K mg base CX0 1 f fd ps (spIni C fs ok) := by
  obtain ⟨oc, kV, doc, pm, ct, ccl, cl, od, an, cdd, cld, osl, ccs, csl, cc, cda, vs, file, tf, rfl, lk, hcd, hcode, hvs, hfile, hcell⟩ := F.ex
  generalize hb : defBody st = B at *
  subst hB
  refine fn_sup (k := 0) (pl := fun L => pl L cda cc) lk hcd S hp hps hcode hvs hfile htop hcell hms hks T F.sup (fun vs H Q E h => ?_) (fun L => hi L _ _) (fun L => hsw L _ _) (fun L => he L _ _) (fun L => hse L _ _) (fun L => hpl L _ _) (fun A outer s H vs Q E hr h => ?_)
  · obtain ⟨a, xs, rfl, h1, _⟩ := h
    exact hok xs h1
  · obtain ⟨a, xs, rfl, h1, h2, h3⟩ := h
    obtain ⟨ta, t, ha, ht, hq⟩ := hbody cda cc A outer s H a xs Q E h1 h2 h3
    exact ⟨a, ta, t, rfl, h2, ha, ht, hq⟩
end
end ExV
namespace Mine
open PySem L2 ExV
def top (i : Nat) : Stmt := PySem.Challenge.pw_neverhappens_k02_whole_expression_reader.main.body.getD i (.Pass ⟨0, 0, 0, 0⟩)
abbrev s_consists_of : Stmt := top 5
abbrev s_is_name : Stmt := top 6
abbrev s_number_of : Stmt := top 7
abbrev s_atom_of : Stmt := top 11
abbrev s_open_brackets : Stmt := top 12
abbrev s_word_end : Stmt := top 13
abbrev s_close_brackets : Stmt := top 14
abbrev s_operator_end : Stmt := top 15
abbrev s_scan_expression : Stmt := top 16
abbrev s_read_expression : Stmt := top 36
abbrev s_l_cell : Stmt := top 38
abbrev s_l_source : Stmt := top 39
abbrev s_l_pick : Stmt := top 40
abbrev s_l_one : Stmt := top 41
abbrev s_l_reserved : Stmt := top 42
abbrev s_l_name : Stmt := top 43
abbrev s_l_word : Stmt := top 44
abbrev s_l_number : Stmt := top 45
abbrev s_l_node : Stmt := top 46
abbrev s_l_expression : Stmt := top 47
abbrev s_l_text : Stmt := top 48
abbrev s_l_same : Stmt := top 49
abbrev s_l_is_name : Stmt := top 50
abbrev s_l_is_number : Stmt := top 51
abbrev s_l_atom_end : Stmt := top 52
abbrev s_l_atom : Stmt := top 53
abbrev s_l_read : Stmt := top 54
abbrev s_l_sign : Stmt := top 55
abbrev s_l_changed : Stmt := top 56
abbrev s_l_near : Stmt := top 57
abbrev s_l_with_reserved : Stmt := top 58
abbrev s_l_row : Stmt := top 59
abbrev s_l_asked : Stmt := top 60
abbrev s_l_due : Stmt := top 61
abbrev s_law : Stmt := top 62
abbrev p_consists_of : List Str := ["text", "characters"]
abbrev p_is_name : List Str := ["text"]
abbrev p_number_of : List Str := ["text", "most"]
abbrev p_atom_of : List Str := ["text"]
abbrev p_open_brackets : List Str := ["text", "at", "pending"]
abbrev p_word_end : List Str := ["text", "at"]
abbrev p_close_brackets : List Str := ["text", "at", "pending", "operand"]
abbrev p_operator_end : List Str := ["text", "at"]
abbrev p_scan_expression : List Str := ["text"]
abbrev p_read_expression : List Str := ["text"]
abbrev p_l_cell : List Str := ["_law_script", "_law_at"]
abbrev p_l_source : List Str := ["_law_cell_here"]
abbrev p_l_pick : List Str := ["_law_source_here", "_law_size"]
abbrev p_l_one : List Str := ["_law_source_here", "_law_row_here"]
abbrev p_l_reserved : List Str := []
abbrev p_l_name : List Str := ["_law_source_here", "_law_world"]
abbrev p_l_word : List Str := ["_law_source_here", "_law_world"]
abbrev p_l_number : List Str := ["_law_source_here", "_law_world"]
abbrev p_l_node : List Str := ["_law_source_here", "_law_world", "_law_choice", "_law_depth"]
abbrev p_l_expression : List Str := ["_law_source_here", "_law_world", "_law_depth"]
abbrev p_l_text : List Str := ["_law_expression_here"]
abbrev p_l_same : List Str := ["_law_actual", "_law_due_here"]
abbrev p_l_is_name : List Str := ["_law_word_here"]
abbrev p_l_is_number : List Str := ["_law_word_here"]
abbrev p_l_atom_end : List Str := ["_law_text_here", "_law_at"]
abbrev p_l_atom : List Str := ["_law_text_here", "_law_at"]
abbrev p_l_read : List Str := ["_law_text_here", "_law_at", "_law_depth"]
abbrev p_l_sign : List Str := ["_law_source_here"]
abbrev p_l_changed : List Str := ["_law_source_here", "_law_text_here"]
abbrev p_l_near : List Str := ["_law_source_here", "_law_text_here"]
abbrev p_l_with_reserved : List Str := ["_law_source_here"]
abbrev p_l_row : List Str := ["_law_source_here"]
abbrev p_l_asked : List Str := ["_law_text_here"]
abbrev p_l_due : List Str := ["_law_text_here"]
abbrev p_law : List Str := ["_law_script"]
abbrev PWX : Program := PySem.Challenge.pw_neverhappens_k02_whole_expression_reader
abbrev s_BadText_init : Stmt := inClass (top 19) 0
abbrev p_BadText_init : List Str := ["self", "line"]
abbrev s_Twice_init : Stmt := inClass (top 20) 0
abbrev p_Twice_init : List Str := ["self", "name"]
abbrev s_Unknown_init : Stmt := inClass (top 21) 0
abbrev p_Unknown_init : List Str := ["self", "name"]
abbrev s_BadKind_init : Stmt := inClass (top 22) 0
abbrev p_BadKind_init : List Str := ["self", "name"]
abbrev s_WrongKind_init : Stmt := inClass (top 23) 0
abbrev p_WrongKind_init : List Str := ["self", "function", "place"]
abbrev s_NoSite_init : Stmt := inClass (top 24) 0
abbrev p_NoSite_init : List Str := ["self", "function", "place", "fault"]
abbrev s_NoPlace_init : Stmt := inClass (top 25) 0
abbrev p_NoPlace_init : List Str := ["self", "function", "place"]
abbrev s_NotAccepted_init : Stmt := inClass (top 26) 0
abbrev p_NotAccepted_init : List Str := ["self"]
abbrev s_BadCertificate_init : Stmt := inClass (top 27) 0
abbrev p_BadCertificate_init : List Str := ["self", "line"]
abbrev s_WrongChange_init : Stmt := inClass (top 28) 0
abbrev p_WrongChange_init : List Str := ["self", "name"]
abbrev s_NotPlain_init : Stmt := inClass (top 29) 0
abbrev p_NotPlain_init : List Str := ["self"]
abbrev s_BadWitness_init : Stmt := inClass (top 30) 0
abbrev p_BadWitness_init : List Str := ["self", "line"]
abbrev s_TooLong_init : Stmt := inClass (top 31) 0
abbrev p_TooLong_init : List Str := ["self", "amount"]
abbrev s_NothingLoaded_init : Stmt := inClass (top 32) 0
abbrev p_NothingLoaded_init : List Str := ["self"]
abbrev s_NothingToUndo_init : Stmt := inClass (top 33) 0
abbrev p_NothingToUndo_init : List Str := ["self"]
abbrev s_BadJournal_init : Stmt := inClass (top 34) 0
abbrev p_BadJournal_init : List Str := ["self", "position"]
-- what the program's top leaves: where each def stands
/-- a list of strings, as values -/
def isStrs : List Str → List Value → Bool
  | [], [] => true
  | x :: xs, v :: vs => Value.isStrOf x v && isStrs xs vs
  | _, _ => false
theorem isStrs_vals : ∀ {xs : List Str} {vs : List Value}, isStrs xs vs = true → Vals (xs.map V.str) vs
  | [], [], _ => .nil
  | [], _ :: _, h => by cases h
  | _ :: _, [], h => by cases h
  | x :: xs, v :: vs, h => by
    have h' := (Bool.and_eq_true_iff).mp h
    obtain ⟨t, e⟩ := Value.isStrOf_shape (x := x) (v := v) h'.1
    exact .cons ⟨t, e⟩ (isStrs_vals h'.2)
/-- an entry of a written dict: a tuple of strings -/
def KPart (w : World) (K : PySem.W.Frag) (d : Addr) (x : Str) (rs : List Str) : Prop := ∃ r, KDct K w d x (.ref r) ∧ ∀ H, SqT K H r (rs.map V.str)
theorem kpart {w : World} {K : PySem.W.Frag} {d r : Addr} {es : Array DictEntry} {n m : Nat} {x : Str} {rs : List Str} {dd : Option Addr} {its : Array Value} {sl : Array (Option Value)} (D : K.lookup d = some ⟨.type "dict", none, .dict es n, #[]⟩) (Y : PySem.W.KeysLit w.params es.toList)
    (N : PySem.W.nsIn K d x = some (some (.ref r))) (R : K.lookup r = some ⟨.type "tuple", dd, .seq its m, sl⟩) (z : rs.length ≤ 1000) (v : isStrs rs its.toList = true) : KPart w K d x rs := by
  have r1 := isStrs_vals v
  refine ⟨r, ⟨es, n, .ref r, D, Y, N, rfl⟩, fun H => .inr ⟨_, its, m, R, rfl, rfl, ?_, r1⟩⟩
  have e := r1.length
  rw [List.length_map] at e
  have e2 : its.toList.length = its.size := by simp
  rw [sizeLine_eq]
  omega
/-- a written tuple of strings -/
theorem ktup {K : PySem.W.Frag} {r : Addr} {rs : List Str} {m : Nat} {dd : Option Addr} {its : Array Value} {sl : Array (Option Value)} (R : K.lookup r = some ⟨.type "tuple", dd, .seq its m, sl⟩) (z : rs.length ≤ 1000) (v : isStrs rs its.toList = true) : ∀ H, SqT K H r (rs.map V.str) := by
  have r1 := isStrs_vals v
  refine fun H => .inr ⟨_, its, m, R, rfl, rfl, ?_, r1⟩
  have e := r1.length
  rw [List.length_map] at e
  have e2 : its.toList.length = its.size := by simp
  rw [sizeLine_eq]
  omega

/-- values of defaults -/
def isV : V → Value → Bool
  | .bl b, .bool c => b == c
  | .non, .none => true
  | .int n, .int m _ => n == m
  | _, _ => false
def isVs : List V → List Value → Bool
  | [], [] => true
  | x :: xs, v :: vs => isV x v && isVs xs vs
  | _, _ => false
theorem isV_rel : ∀ {x : V} {v : Value}, isV x v = true → RelV x v
  | .bl b, .bool c, h => by
    have e : b = c := by simpa [isV] using h
    subst e
    rfl
  | .non, .none, _ => rfl
  | .int n, .int m t, h => by
    have e : n = m := by simpa [isV] using h
    subst e
    exact ⟨t, rfl⟩
theorem isVs_vals : ∀ {xs : List V} {vs : List Value}, isVs xs vs = true → Vals xs vs
  | [], [], _ => .nil
  | [], _ :: _, h => by cases h
  | _ :: _, [], h => by cases h
  | x :: xs, v :: vs, h => by
    have h' := (Bool.and_eq_true_iff).mp h
    exact .cons (isV_rel h'.1) (isVs_vals h'.2)
theorem fund_mk {K : PySem.W.Frag} {x qual : Str} {st : Stmt} {f td : Addr} {oc tt : Value} {od an dd : Option Addr} {osl sk : Array (Option Value)} {kV doc pm cdv ct : Value} {its : Array Value} {n : Nat} {dvs : List V}
    (l : K.lookup f = some ⟨oc, od, .func (PySem.W.fnOf x qual (defArgs st) (defBody st) (defScope st) (.ref td) kV doc pm an cdv ct), osl⟩) (r : K.lookup td = some ⟨tt, dd, .seq its n, sk⟩) (v : Vals dvs its.toList) (ne : dvs ≠ [])
    (c : PySem.W.codeIn K cdv qual = true) (k : PySem.W.keepIn K (.ref f) = true) : FunD K x qual (defArgs st) (defBody st) (defScope st) dvs [] f (PySem.W.fnOf x qual (defArgs st) (defBody st) (defScope st) (.ref td) kV doc pm an cdv ct) :=
  ⟨⟨oc, od, .ref td, kV, doc, pm, an, cdv, ct, osl, rfl, l, c, .inr ⟨ne, td, _, its.toList, n, rfl, r, by simp, v⟩, .inl rfl⟩, k⟩
theorem fund_ok {P : Program} {w : World} {K : PySem.W.Frag} {mg : Str → Option Value} {base : Heap} {x qual : Str} {params : Arguments} {body : List Stmt} {scope : Scope} {dvs : List V} {kws : List (Str × V)} {f : Addr} {fd : FuncData} {N ps : List Str} {k : Nat} {sp : Sp} (F : FunD K x qual params body scope dvs kws f fd) (S : FnScope N ps scope) (len : ∀ vs H Q E, sp vs H Q E → vs.length = ps.length)
    (hbody : ∀ (cdv : Value) (A : Around) (outer : List Env) (s : Shared) (H : Hp) (vs : List V) (Q : VK) (E : XK), Room k (A.deeper (PyProof.Rows.envOfC qual scope s.heap.objs.size f cdv)) → sp vs H Q E →
      ∃ t, PSs (cxOf CX0 P w K mg base N qual scope f cdv A outer s H E).nox body t ∧ t { nx := fun _ H' => Q .non H', rt := Q } (L2.start N vs) H) : FnOk P w K mg base CX0 (k + 1) f fd ps sp :=
  F.ok S len fun cdv A outer s H vs Q E hr h => by
    obtain ⟨t, h, q⟩ := hbody cdv A outer s H vs Q E hr h
    exact ⟨t, h.nox, q⟩
structure Txt (w : World) (K : PySem.W.Frag) (mg : Str → Option Value) where
  a_consists_of : Addr
  d_consists_of : FuncData
  F_consists_of : Fun K "consists_of" "consists_of" s_consists_of a_consists_of d_consists_of
  b_consists_of : Binds K d_consists_of p_consists_of []
  m_consists_of : mg "consists_of" = some (.ref a_consists_of)
  a_is_name : Addr
  d_is_name : FuncData
  F_is_name : Fun K "is_name" "is_name" s_is_name a_is_name d_is_name
  b_is_name : Binds K d_is_name p_is_name []
  m_is_name : mg "is_name" = some (.ref a_is_name)
  a_number_of : Addr
  d_number_of : FuncData
  F_number_of : FunD K "number_of" "number_of" (defArgs s_number_of) (defBody s_number_of) (defScope s_number_of) [.int 4000] [] a_number_of d_number_of
  b_number_of : ∃ ds, Vals [] ds ∧ Binds K d_number_of p_number_of ds
  e_number_of : ∃ ds, Vals [.int 4000] ds ∧ Binds K d_number_of p_number_of ds
  m_number_of : mg "number_of" = some (.ref a_number_of)
  a_atom_of : Addr
  d_atom_of : FuncData
  F_atom_of : Fun K "atom_of" "atom_of" s_atom_of a_atom_of d_atom_of
  b_atom_of : Binds K d_atom_of p_atom_of []
  m_atom_of : mg "atom_of" = some (.ref a_atom_of)
  a_open_brackets : Addr
  d_open_brackets : FuncData
  F_open_brackets : Fun K "open_brackets" "open_brackets" s_open_brackets a_open_brackets d_open_brackets
  b_open_brackets : Binds K d_open_brackets p_open_brackets []
  m_open_brackets : mg "open_brackets" = some (.ref a_open_brackets)
  a_word_end : Addr
  d_word_end : FuncData
  F_word_end : Fun K "word_end" "word_end" s_word_end a_word_end d_word_end
  b_word_end : Binds K d_word_end p_word_end []
  m_word_end : mg "word_end" = some (.ref a_word_end)
  a_close_brackets : Addr
  d_close_brackets : FuncData
  F_close_brackets : Fun K "close_brackets" "close_brackets" s_close_brackets a_close_brackets d_close_brackets
  b_close_brackets : Binds K d_close_brackets p_close_brackets []
  m_close_brackets : mg "close_brackets" = some (.ref a_close_brackets)
  a_operator_end : Addr
  d_operator_end : FuncData
  F_operator_end : Fun K "operator_end" "operator_end" s_operator_end a_operator_end d_operator_end
  b_operator_end : Binds K d_operator_end p_operator_end []
  m_operator_end : mg "operator_end" = some (.ref a_operator_end)
  a_scan_expression : Addr
  d_scan_expression : FuncData
  F_scan_expression : Fun K "scan_expression" "scan_expression" s_scan_expression a_scan_expression d_scan_expression
  b_scan_expression : Binds K d_scan_expression p_scan_expression []
  m_scan_expression : mg "scan_expression" = some (.ref a_scan_expression)
  a_read_expression : Addr
  d_read_expression : FuncData
  F_read_expression : Fun K "read_expression" "read_expression" s_read_expression a_read_expression d_read_expression
  b_read_expression : Binds K d_read_expression p_read_expression []
  m_read_expression : mg "read_expression" = some (.ref a_read_expression)
  a_l_cell : Addr
  d_l_cell : FuncData
  F_l_cell : Fun K "_law_cell" "_law_cell" s_l_cell a_l_cell d_l_cell
  b_l_cell : Binds K d_l_cell p_l_cell []
  m_l_cell : mg "_law_cell" = some (.ref a_l_cell)
  a_l_source : Addr
  d_l_source : FuncData
  F_l_source : Fun K "_law_source" "_law_source" s_l_source a_l_source d_l_source
  b_l_source : Binds K d_l_source p_l_source []
  m_l_source : mg "_law_source" = some (.ref a_l_source)
  a_l_pick : Addr
  d_l_pick : FuncData
  F_l_pick : Fun K "_law_pick" "_law_pick" s_l_pick a_l_pick d_l_pick
  b_l_pick : Binds K d_l_pick p_l_pick []
  m_l_pick : mg "_law_pick" = some (.ref a_l_pick)
  a_l_one : Addr
  d_l_one : FuncData
  F_l_one : Fun K "_law_one" "_law_one" s_l_one a_l_one d_l_one
  b_l_one : Binds K d_l_one p_l_one []
  m_l_one : mg "_law_one" = some (.ref a_l_one)
  a_l_reserved : Addr
  d_l_reserved : FuncData
  F_l_reserved : Fun K "_law_reserved" "_law_reserved" s_l_reserved a_l_reserved d_l_reserved
  b_l_reserved : Binds K d_l_reserved p_l_reserved []
  m_l_reserved : mg "_law_reserved" = some (.ref a_l_reserved)
  a_l_name : Addr
  d_l_name : FuncData
  F_l_name : Fun K "_law_name" "_law_name" s_l_name a_l_name d_l_name
  b_l_name : Binds K d_l_name p_l_name []
  m_l_name : mg "_law_name" = some (.ref a_l_name)
  a_l_word : Addr
  d_l_word : FuncData
  F_l_word : Fun K "_law_word" "_law_word" s_l_word a_l_word d_l_word
  b_l_word : Binds K d_l_word p_l_word []
  m_l_word : mg "_law_word" = some (.ref a_l_word)
  a_l_number : Addr
  d_l_number : FuncData
  F_l_number : Fun K "_law_number" "_law_number" s_l_number a_l_number d_l_number
  b_l_number : Binds K d_l_number p_l_number []
  m_l_number : mg "_law_number" = some (.ref a_l_number)
  a_l_node : Addr
  d_l_node : FuncData
  F_l_node : Fun K "_law_node" "_law_node" s_l_node a_l_node d_l_node
  b_l_node : Binds K d_l_node p_l_node []
  m_l_node : mg "_law_node" = some (.ref a_l_node)
  a_l_expression : Addr
  d_l_expression : FuncData
  F_l_expression : Fun K "_law_expression" "_law_expression" s_l_expression a_l_expression d_l_expression
  b_l_expression : Binds K d_l_expression p_l_expression []
  m_l_expression : mg "_law_expression" = some (.ref a_l_expression)
  a_l_text : Addr
  d_l_text : FuncData
  F_l_text : Fun K "_law_text" "_law_text" s_l_text a_l_text d_l_text
  b_l_text : Binds K d_l_text p_l_text []
  m_l_text : mg "_law_text" = some (.ref a_l_text)
  a_l_same : Addr
  d_l_same : FuncData
  F_l_same : Fun K "_law_same" "_law_same" s_l_same a_l_same d_l_same
  b_l_same : Binds K d_l_same p_l_same []
  m_l_same : mg "_law_same" = some (.ref a_l_same)
  a_l_is_name : Addr
  d_l_is_name : FuncData
  F_l_is_name : Fun K "_law_is_name" "_law_is_name" s_l_is_name a_l_is_name d_l_is_name
  b_l_is_name : Binds K d_l_is_name p_l_is_name []
  m_l_is_name : mg "_law_is_name" = some (.ref a_l_is_name)
  a_l_is_number : Addr
  d_l_is_number : FuncData
  F_l_is_number : Fun K "_law_is_number" "_law_is_number" s_l_is_number a_l_is_number d_l_is_number
  b_l_is_number : Binds K d_l_is_number p_l_is_number []
  m_l_is_number : mg "_law_is_number" = some (.ref a_l_is_number)
  a_l_atom_end : Addr
  d_l_atom_end : FuncData
  F_l_atom_end : Fun K "_law_atom_end" "_law_atom_end" s_l_atom_end a_l_atom_end d_l_atom_end
  b_l_atom_end : Binds K d_l_atom_end p_l_atom_end []
  m_l_atom_end : mg "_law_atom_end" = some (.ref a_l_atom_end)
  a_l_atom : Addr
  d_l_atom : FuncData
  F_l_atom : Fun K "_law_atom" "_law_atom" s_l_atom a_l_atom d_l_atom
  b_l_atom : Binds K d_l_atom p_l_atom []
  m_l_atom : mg "_law_atom" = some (.ref a_l_atom)
  a_l_read : Addr
  d_l_read : FuncData
  F_l_read : Fun K "_law_read" "_law_read" s_l_read a_l_read d_l_read
  b_l_read : Binds K d_l_read p_l_read []
  m_l_read : mg "_law_read" = some (.ref a_l_read)
  a_l_sign : Addr
  d_l_sign : FuncData
  F_l_sign : Fun K "_law_sign" "_law_sign" s_l_sign a_l_sign d_l_sign
  b_l_sign : Binds K d_l_sign p_l_sign []
  m_l_sign : mg "_law_sign" = some (.ref a_l_sign)
  a_l_changed : Addr
  d_l_changed : FuncData
  F_l_changed : Fun K "_law_changed" "_law_changed" s_l_changed a_l_changed d_l_changed
  b_l_changed : Binds K d_l_changed p_l_changed []
  m_l_changed : mg "_law_changed" = some (.ref a_l_changed)
  a_l_near : Addr
  d_l_near : FuncData
  F_l_near : Fun K "_law_near" "_law_near" s_l_near a_l_near d_l_near
  b_l_near : Binds K d_l_near p_l_near []
  m_l_near : mg "_law_near" = some (.ref a_l_near)
  a_l_with_reserved : Addr
  d_l_with_reserved : FuncData
  F_l_with_reserved : Fun K "_law_with_reserved" "_law_with_reserved" s_l_with_reserved a_l_with_reserved d_l_with_reserved
  b_l_with_reserved : Binds K d_l_with_reserved p_l_with_reserved []
  m_l_with_reserved : mg "_law_with_reserved" = some (.ref a_l_with_reserved)
  a_l_row : Addr
  d_l_row : FuncData
  F_l_row : Fun K "_law_row" "_law_row" s_l_row a_l_row d_l_row
  b_l_row : Binds K d_l_row p_l_row []
  m_l_row : mg "_law_row" = some (.ref a_l_row)
  a_l_asked : Addr
  d_l_asked : FuncData
  F_l_asked : Fun K "_law_asked" "_law_asked" s_l_asked a_l_asked d_l_asked
  b_l_asked : Binds K d_l_asked p_l_asked []
  m_l_asked : mg "_law_asked" = some (.ref a_l_asked)
  a_l_due : Addr
  d_l_due : FuncData
  F_l_due : Fun K "_law_due" "_law_due" s_l_due a_l_due d_l_due
  b_l_due : Binds K d_l_due p_l_due []
  m_l_due : mg "_law_due" = some (.ref a_l_due)
  a_law : Addr
  d_law : FuncData
  F_law : Fun K "law" "law" s_law a_law d_law
  b_law : Binds K d_law p_law []
  m_law : mg "law" = some (.ref a_law)
  C_NeverError : Addr
  mgc_NeverError : mg "NeverError" = some (.ref C_NeverError)
  xb_NeverError : ExcF K C_NeverError []
  C_BadText : Addr
  mgc_BadText : mg "BadText" = some (.ref C_BadText)
  xb_BadText : ExcF K C_BadText ["line"]
  ox_BadText : OexC K C_BadText
  a_BadText_init : Addr
  d_BadText_init : FuncData
  I_BadText : IniF PWX K "BadText.__init__" s_BadText_init C_BadText a_BadText_init d_BadText_init
  b_BadText_init : Binds K d_BadText_init p_BadText_init []
  C_Twice : Addr
  mgc_Twice : mg "Twice" = some (.ref C_Twice)
  xb_Twice : ExcF K C_Twice ["name"]
  ox_Twice : OexC K C_Twice
  a_Twice_init : Addr
  d_Twice_init : FuncData
  I_Twice : IniF PWX K "Twice.__init__" s_Twice_init C_Twice a_Twice_init d_Twice_init
  b_Twice_init : Binds K d_Twice_init p_Twice_init []
  C_Unknown : Addr
  mgc_Unknown : mg "Unknown" = some (.ref C_Unknown)
  xb_Unknown : ExcF K C_Unknown ["name"]
  ox_Unknown : OexC K C_Unknown
  a_Unknown_init : Addr
  d_Unknown_init : FuncData
  I_Unknown : IniF PWX K "Unknown.__init__" s_Unknown_init C_Unknown a_Unknown_init d_Unknown_init
  b_Unknown_init : Binds K d_Unknown_init p_Unknown_init []
  C_BadKind : Addr
  mgc_BadKind : mg "BadKind" = some (.ref C_BadKind)
  xb_BadKind : ExcF K C_BadKind ["name"]
  ox_BadKind : OexC K C_BadKind
  a_BadKind_init : Addr
  d_BadKind_init : FuncData
  I_BadKind : IniF PWX K "BadKind.__init__" s_BadKind_init C_BadKind a_BadKind_init d_BadKind_init
  b_BadKind_init : Binds K d_BadKind_init p_BadKind_init []
  C_WrongKind : Addr
  mgc_WrongKind : mg "WrongKind" = some (.ref C_WrongKind)
  xb_WrongKind : ExcF K C_WrongKind ["function", "place"]
  ox_WrongKind : OexC K C_WrongKind
  a_WrongKind_init : Addr
  d_WrongKind_init : FuncData
  I_WrongKind : IniF PWX K "WrongKind.__init__" s_WrongKind_init C_WrongKind a_WrongKind_init d_WrongKind_init
  b_WrongKind_init : Binds K d_WrongKind_init p_WrongKind_init []
  C_NoSite : Addr
  mgc_NoSite : mg "NoSite" = some (.ref C_NoSite)
  xb_NoSite : ExcF K C_NoSite ["function", "place", "fault"]
  ox_NoSite : OexC K C_NoSite
  a_NoSite_init : Addr
  d_NoSite_init : FuncData
  I_NoSite : IniF PWX K "NoSite.__init__" s_NoSite_init C_NoSite a_NoSite_init d_NoSite_init
  b_NoSite_init : Binds K d_NoSite_init p_NoSite_init []
  C_NoPlace : Addr
  mgc_NoPlace : mg "NoPlace" = some (.ref C_NoPlace)
  xb_NoPlace : ExcF K C_NoPlace ["function", "place"]
  ox_NoPlace : OexC K C_NoPlace
  a_NoPlace_init : Addr
  d_NoPlace_init : FuncData
  I_NoPlace : IniF PWX K "NoPlace.__init__" s_NoPlace_init C_NoPlace a_NoPlace_init d_NoPlace_init
  b_NoPlace_init : Binds K d_NoPlace_init p_NoPlace_init []
  C_NotAccepted : Addr
  mgc_NotAccepted : mg "NotAccepted" = some (.ref C_NotAccepted)
  xb_NotAccepted : ExcF K C_NotAccepted []
  ox_NotAccepted : OexC K C_NotAccepted
  a_NotAccepted_init : Addr
  d_NotAccepted_init : FuncData
  I_NotAccepted : IniF PWX K "NotAccepted.__init__" s_NotAccepted_init C_NotAccepted a_NotAccepted_init d_NotAccepted_init
  b_NotAccepted_init : Binds K d_NotAccepted_init p_NotAccepted_init []
  C_BadCertificate : Addr
  mgc_BadCertificate : mg "BadCertificate" = some (.ref C_BadCertificate)
  xb_BadCertificate : ExcF K C_BadCertificate ["line"]
  ox_BadCertificate : OexC K C_BadCertificate
  a_BadCertificate_init : Addr
  d_BadCertificate_init : FuncData
  I_BadCertificate : IniF PWX K "BadCertificate.__init__" s_BadCertificate_init C_BadCertificate a_BadCertificate_init d_BadCertificate_init
  b_BadCertificate_init : Binds K d_BadCertificate_init p_BadCertificate_init []
  C_WrongChange : Addr
  mgc_WrongChange : mg "WrongChange" = some (.ref C_WrongChange)
  xb_WrongChange : ExcF K C_WrongChange ["name"]
  ox_WrongChange : OexC K C_WrongChange
  a_WrongChange_init : Addr
  d_WrongChange_init : FuncData
  I_WrongChange : IniF PWX K "WrongChange.__init__" s_WrongChange_init C_WrongChange a_WrongChange_init d_WrongChange_init
  b_WrongChange_init : Binds K d_WrongChange_init p_WrongChange_init []
  C_NotPlain : Addr
  mgc_NotPlain : mg "NotPlain" = some (.ref C_NotPlain)
  xb_NotPlain : ExcF K C_NotPlain []
  ox_NotPlain : OexC K C_NotPlain
  a_NotPlain_init : Addr
  d_NotPlain_init : FuncData
  I_NotPlain : IniF PWX K "NotPlain.__init__" s_NotPlain_init C_NotPlain a_NotPlain_init d_NotPlain_init
  b_NotPlain_init : Binds K d_NotPlain_init p_NotPlain_init []
  C_BadWitness : Addr
  mgc_BadWitness : mg "BadWitness" = some (.ref C_BadWitness)
  xb_BadWitness : ExcF K C_BadWitness ["line"]
  ox_BadWitness : OexC K C_BadWitness
  a_BadWitness_init : Addr
  d_BadWitness_init : FuncData
  I_BadWitness : IniF PWX K "BadWitness.__init__" s_BadWitness_init C_BadWitness a_BadWitness_init d_BadWitness_init
  b_BadWitness_init : Binds K d_BadWitness_init p_BadWitness_init []
  C_TooLong : Addr
  mgc_TooLong : mg "TooLong" = some (.ref C_TooLong)
  xb_TooLong : ExcF K C_TooLong ["amount"]
  ox_TooLong : OexC K C_TooLong
  a_TooLong_init : Addr
  d_TooLong_init : FuncData
  I_TooLong : IniF PWX K "TooLong.__init__" s_TooLong_init C_TooLong a_TooLong_init d_TooLong_init
  b_TooLong_init : Binds K d_TooLong_init p_TooLong_init []
  C_NothingLoaded : Addr
  mgc_NothingLoaded : mg "NothingLoaded" = some (.ref C_NothingLoaded)
  xb_NothingLoaded : ExcF K C_NothingLoaded []
  ox_NothingLoaded : OexC K C_NothingLoaded
  a_NothingLoaded_init : Addr
  d_NothingLoaded_init : FuncData
  I_NothingLoaded : IniF PWX K "NothingLoaded.__init__" s_NothingLoaded_init C_NothingLoaded a_NothingLoaded_init d_NothingLoaded_init
  b_NothingLoaded_init : Binds K d_NothingLoaded_init p_NothingLoaded_init []
  C_NothingToUndo : Addr
  mgc_NothingToUndo : mg "NothingToUndo" = some (.ref C_NothingToUndo)
  xb_NothingToUndo : ExcF K C_NothingToUndo []
  ox_NothingToUndo : OexC K C_NothingToUndo
  a_NothingToUndo_init : Addr
  d_NothingToUndo_init : FuncData
  I_NothingToUndo : IniF PWX K "NothingToUndo.__init__" s_NothingToUndo_init C_NothingToUndo a_NothingToUndo_init d_NothingToUndo_init
  b_NothingToUndo_init : Binds K d_NothingToUndo_init p_NothingToUndo_init []
  C_BadJournal : Addr
  mgc_BadJournal : mg "BadJournal" = some (.ref C_BadJournal)
  xb_BadJournal : ExcF K C_BadJournal ["position"]
  ox_BadJournal : OexC K C_BadJournal
  a_BadJournal_init : Addr
  d_BadJournal_init : FuncData
  I_BadJournal : IniF PWX K "BadJournal.__init__" s_BadJournal_init C_BadJournal a_BadJournal_init d_BadJournal_init
  b_BadJournal_init : Binds K d_BadJournal_init p_BadJournal_init []
  kr_NeverError : kitRow K C_NeverError [C_NeverError, C_BadText, C_Twice, C_Unknown, C_BadKind, C_WrongKind, C_NoSite, C_NoPlace, C_NotAccepted, C_BadCertificate, C_WrongChange, C_NotPlain, C_BadWitness, C_TooLong, C_NothingLoaded, C_NothingToUndo, C_BadJournal] = [some true, some false, some false, some false, some false, some false, some false, some false, some false, some false, some false, some false, some false, some false, some false, some false, some false]
  kv_NeverError : PySem.W.kitOne K (.ref C_NeverError) (.type "ValueError") = some true
  te_NeverError_BadText : PySem.W.exmOne K (.ref C_NeverError) (.ref C_BadText) = some false
  kr_BadText : kitRow K C_BadText [C_NeverError, C_BadText, C_Twice, C_Unknown, C_BadKind, C_WrongKind, C_NoSite, C_NoPlace, C_NotAccepted, C_BadCertificate, C_WrongChange, C_NotPlain, C_BadWitness, C_TooLong, C_NothingLoaded, C_NothingToUndo, C_BadJournal] = [some true, some true, some false, some false, some false, some false, some false, some false, some false, some false, some false, some false, some false, some false, some false, some false, some false]
  kv_BadText : PySem.W.kitOne K (.ref C_BadText) (.type "ValueError") = some true
  te_BadText_BadText : PySem.W.exmOne K (.ref C_BadText) (.ref C_BadText) = some true
  kr_Twice : kitRow K C_Twice [C_NeverError, C_BadText, C_Twice, C_Unknown, C_BadKind, C_WrongKind, C_NoSite, C_NoPlace, C_NotAccepted, C_BadCertificate, C_WrongChange, C_NotPlain, C_BadWitness, C_TooLong, C_NothingLoaded, C_NothingToUndo, C_BadJournal] = [some true, some false, some true, some false, some false, some false, some false, some false, some false, some false, some false, some false, some false, some false, some false, some false, some false]
  kv_Twice : PySem.W.kitOne K (.ref C_Twice) (.type "ValueError") = some true
  te_Twice_BadText : PySem.W.exmOne K (.ref C_Twice) (.ref C_BadText) = some false
  kr_Unknown : kitRow K C_Unknown [C_NeverError, C_BadText, C_Twice, C_Unknown, C_BadKind, C_WrongKind, C_NoSite, C_NoPlace, C_NotAccepted, C_BadCertificate, C_WrongChange, C_NotPlain, C_BadWitness, C_TooLong, C_NothingLoaded, C_NothingToUndo, C_BadJournal] = [some true, some false, some false, some true, some false, some false, some false, some false, some false, some false, some false, some false, some false, some false, some false, some false, some false]
  kv_Unknown : PySem.W.kitOne K (.ref C_Unknown) (.type "ValueError") = some true
  te_Unknown_BadText : PySem.W.exmOne K (.ref C_Unknown) (.ref C_BadText) = some false
  kr_BadKind : kitRow K C_BadKind [C_NeverError, C_BadText, C_Twice, C_Unknown, C_BadKind, C_WrongKind, C_NoSite, C_NoPlace, C_NotAccepted, C_BadCertificate, C_WrongChange, C_NotPlain, C_BadWitness, C_TooLong, C_NothingLoaded, C_NothingToUndo, C_BadJournal] = [some true, some false, some false, some false, some true, some false, some false, some false, some false, some false, some false, some false, some false, some false, some false, some false, some false]
  kv_BadKind : PySem.W.kitOne K (.ref C_BadKind) (.type "ValueError") = some true
  te_BadKind_BadText : PySem.W.exmOne K (.ref C_BadKind) (.ref C_BadText) = some false
  kr_WrongKind : kitRow K C_WrongKind [C_NeverError, C_BadText, C_Twice, C_Unknown, C_BadKind, C_WrongKind, C_NoSite, C_NoPlace, C_NotAccepted, C_BadCertificate, C_WrongChange, C_NotPlain, C_BadWitness, C_TooLong, C_NothingLoaded, C_NothingToUndo, C_BadJournal] = [some true, some false, some false, some false, some false, some true, some false, some false, some false, some false, some false, some false, some false, some false, some false, some false, some false]
  kv_WrongKind : PySem.W.kitOne K (.ref C_WrongKind) (.type "ValueError") = some true
  te_WrongKind_BadText : PySem.W.exmOne K (.ref C_WrongKind) (.ref C_BadText) = some false
  kr_NoSite : kitRow K C_NoSite [C_NeverError, C_BadText, C_Twice, C_Unknown, C_BadKind, C_WrongKind, C_NoSite, C_NoPlace, C_NotAccepted, C_BadCertificate, C_WrongChange, C_NotPlain, C_BadWitness, C_TooLong, C_NothingLoaded, C_NothingToUndo, C_BadJournal] = [some true, some false, some false, some false, some false, some false, some true, some false, some false, some false, some false, some false, some false, some false, some false, some false, some false]
  kv_NoSite : PySem.W.kitOne K (.ref C_NoSite) (.type "ValueError") = some true
  te_NoSite_BadText : PySem.W.exmOne K (.ref C_NoSite) (.ref C_BadText) = some false
  kr_NoPlace : kitRow K C_NoPlace [C_NeverError, C_BadText, C_Twice, C_Unknown, C_BadKind, C_WrongKind, C_NoSite, C_NoPlace, C_NotAccepted, C_BadCertificate, C_WrongChange, C_NotPlain, C_BadWitness, C_TooLong, C_NothingLoaded, C_NothingToUndo, C_BadJournal] = [some true, some false, some false, some false, some false, some false, some false, some true, some false, some false, some false, some false, some false, some false, some false, some false, some false]
  kv_NoPlace : PySem.W.kitOne K (.ref C_NoPlace) (.type "ValueError") = some true
  te_NoPlace_BadText : PySem.W.exmOne K (.ref C_NoPlace) (.ref C_BadText) = some false
  kr_NotAccepted : kitRow K C_NotAccepted [C_NeverError, C_BadText, C_Twice, C_Unknown, C_BadKind, C_WrongKind, C_NoSite, C_NoPlace, C_NotAccepted, C_BadCertificate, C_WrongChange, C_NotPlain, C_BadWitness, C_TooLong, C_NothingLoaded, C_NothingToUndo, C_BadJournal] = [some true, some false, some false, some false, some false, some false, some false, some false, some true, some false, some false, some false, some false, some false, some false, some false, some false]
  kv_NotAccepted : PySem.W.kitOne K (.ref C_NotAccepted) (.type "ValueError") = some true
  te_NotAccepted_BadText : PySem.W.exmOne K (.ref C_NotAccepted) (.ref C_BadText) = some false
  kr_BadCertificate : kitRow K C_BadCertificate [C_NeverError, C_BadText, C_Twice, C_Unknown, C_BadKind, C_WrongKind, C_NoSite, C_NoPlace, C_NotAccepted, C_BadCertificate, C_WrongChange, C_NotPlain, C_BadWitness, C_TooLong, C_NothingLoaded, C_NothingToUndo, C_BadJournal] = [some true, some false, some false, some false, some false, some false, some false, some false, some false, some true, some false, some false, some false, some false, some false, some false, some false]
  kv_BadCertificate : PySem.W.kitOne K (.ref C_BadCertificate) (.type "ValueError") = some true
  te_BadCertificate_BadText : PySem.W.exmOne K (.ref C_BadCertificate) (.ref C_BadText) = some false
  kr_WrongChange : kitRow K C_WrongChange [C_NeverError, C_BadText, C_Twice, C_Unknown, C_BadKind, C_WrongKind, C_NoSite, C_NoPlace, C_NotAccepted, C_BadCertificate, C_WrongChange, C_NotPlain, C_BadWitness, C_TooLong, C_NothingLoaded, C_NothingToUndo, C_BadJournal] = [some true, some false, some false, some false, some false, some false, some false, some false, some false, some false, some true, some false, some false, some false, some false, some false, some false]
  kv_WrongChange : PySem.W.kitOne K (.ref C_WrongChange) (.type "ValueError") = some true
  te_WrongChange_BadText : PySem.W.exmOne K (.ref C_WrongChange) (.ref C_BadText) = some false
  kr_NotPlain : kitRow K C_NotPlain [C_NeverError, C_BadText, C_Twice, C_Unknown, C_BadKind, C_WrongKind, C_NoSite, C_NoPlace, C_NotAccepted, C_BadCertificate, C_WrongChange, C_NotPlain, C_BadWitness, C_TooLong, C_NothingLoaded, C_NothingToUndo, C_BadJournal] = [some true, some false, some false, some false, some false, some false, some false, some false, some false, some false, some false, some true, some false, some false, some false, some false, some false]
  kv_NotPlain : PySem.W.kitOne K (.ref C_NotPlain) (.type "ValueError") = some true
  te_NotPlain_BadText : PySem.W.exmOne K (.ref C_NotPlain) (.ref C_BadText) = some false
  kr_BadWitness : kitRow K C_BadWitness [C_NeverError, C_BadText, C_Twice, C_Unknown, C_BadKind, C_WrongKind, C_NoSite, C_NoPlace, C_NotAccepted, C_BadCertificate, C_WrongChange, C_NotPlain, C_BadWitness, C_TooLong, C_NothingLoaded, C_NothingToUndo, C_BadJournal] = [some true, some false, some false, some false, some false, some false, some false, some false, some false, some false, some false, some false, some true, some false, some false, some false, some false]
  kv_BadWitness : PySem.W.kitOne K (.ref C_BadWitness) (.type "ValueError") = some true
  te_BadWitness_BadText : PySem.W.exmOne K (.ref C_BadWitness) (.ref C_BadText) = some false
  kr_TooLong : kitRow K C_TooLong [C_NeverError, C_BadText, C_Twice, C_Unknown, C_BadKind, C_WrongKind, C_NoSite, C_NoPlace, C_NotAccepted, C_BadCertificate, C_WrongChange, C_NotPlain, C_BadWitness, C_TooLong, C_NothingLoaded, C_NothingToUndo, C_BadJournal] = [some true, some false, some false, some false, some false, some false, some false, some false, some false, some false, some false, some false, some false, some true, some false, some false, some false]
  kv_TooLong : PySem.W.kitOne K (.ref C_TooLong) (.type "ValueError") = some true
  te_TooLong_BadText : PySem.W.exmOne K (.ref C_TooLong) (.ref C_BadText) = some false
  kr_NothingLoaded : kitRow K C_NothingLoaded [C_NeverError, C_BadText, C_Twice, C_Unknown, C_BadKind, C_WrongKind, C_NoSite, C_NoPlace, C_NotAccepted, C_BadCertificate, C_WrongChange, C_NotPlain, C_BadWitness, C_TooLong, C_NothingLoaded, C_NothingToUndo, C_BadJournal] = [some true, some false, some false, some false, some false, some false, some false, some false, some false, some false, some false, some false, some false, some false, some true, some false, some false]
  kv_NothingLoaded : PySem.W.kitOne K (.ref C_NothingLoaded) (.type "ValueError") = some true
  te_NothingLoaded_BadText : PySem.W.exmOne K (.ref C_NothingLoaded) (.ref C_BadText) = some false
  kr_NothingToUndo : kitRow K C_NothingToUndo [C_NeverError, C_BadText, C_Twice, C_Unknown, C_BadKind, C_WrongKind, C_NoSite, C_NoPlace, C_NotAccepted, C_BadCertificate, C_WrongChange, C_NotPlain, C_BadWitness, C_TooLong, C_NothingLoaded, C_NothingToUndo, C_BadJournal] = [some true, some false, some false, some false, some false, some false, some false, some false, some false, some false, some false, some false, some false, some false, some false, some true, some false]
  kv_NothingToUndo : PySem.W.kitOne K (.ref C_NothingToUndo) (.type "ValueError") = some true
  te_NothingToUndo_BadText : PySem.W.exmOne K (.ref C_NothingToUndo) (.ref C_BadText) = some false
  kr_BadJournal : kitRow K C_BadJournal [C_NeverError, C_BadText, C_Twice, C_Unknown, C_BadKind, C_WrongKind, C_NoSite, C_NoPlace, C_NotAccepted, C_BadCertificate, C_WrongChange, C_NotPlain, C_BadWitness, C_TooLong, C_NothingLoaded, C_NothingToUndo, C_BadJournal] = [some true, some false, some false, some false, some false, some false, some false, some false, some false, some false, some false, some false, some false, some false, some false, some false, some true]
  kv_BadJournal : PySem.W.kitOne K (.ref C_BadJournal) (.type "ValueError") = some true
  te_BadJournal_BadText : PySem.W.exmOne K (.ref C_BadJournal) (.ref C_BadText) = some false
  c_LETTERS : ∃ t, mg "LETTERS" = some (.str "abcdefghijklmnopqrstuvwxyz" t)
  c_DIGITS : ∃ t, mg "DIGITS" = some (.str "0123456789" t)
  c_MOST_DIGITS : ∃ t, mg "MOST_DIGITS" = some (.int 4000 t)
  c_RESERVED : ∃ a, mg "RESERVED" = some (.ref a)
  t_RESERVED : ∀ a, mg "RESERVED" = some (.ref a) → ∀ H, SqT K H a ((["record", "end", "array", "global", "def", "var", "flag", "input", "new", "free", "return", "if", "else", "while", "break", "assert", "null", "true", "false", "not", "and", "or", "same", "result"] : List Str).map V.str)
  c_OPERATORS : ∃ a, mg "OPERATORS" = some (.ref a)
  t_OPERATORS : ∀ a, mg "OPERATORS" = some (.ref a) → ∀ H, SqT K H a ((["+", "-", "*", "<", "<=", "==", "!=", "same", "and", "or"] : List Str).map V.str)
  c_NEGATION : ∃ t, mg "NEGATION" = some (.str "(not " t)
  z_ValueError : mg "ValueError" = none
  z_all : mg "all" = none
  z_bool : mg "bool" = none
  z_int : mg "int" = none
  z_isinstance : mg "isinstance" = none
  z_len : mg "len" = none
  z_list : mg "list" = none
  z_max : mg "max" = none
  z_min : mg "min" = none
  z_range : mg "range" = none
  z_str : mg "str" = none
  z_super : mg "super" = none
  z_tuple : mg "tuple" = none
abbrev n_consists_of : List Str := ["text", "characters", "character"]
theorem sc_consists_of : FnScope n_consists_of p_consists_of (defScope s_consists_of) := ⟨rfl, rfl, rfl, by decide +kernel, rfl, by decide +kernel, by decide +kernel⟩
abbrev n_is_name : List Str := ["text"]
theorem sc_is_name : FnScope n_is_name p_is_name (defScope s_is_name) := ⟨rfl, rfl, rfl, by decide +kernel, rfl, by decide +kernel, by decide +kernel⟩
abbrev n_number_of : List Str := ["text", "most", "digits"]
theorem sc_number_of : FnScope n_number_of p_number_of (defScope s_number_of) := ⟨rfl, rfl, rfl, by decide +kernel, rfl, by decide +kernel, by decide +kernel⟩
abbrev n_atom_of : List Str := ["text", "number"]
theorem sc_atom_of : FnScope n_atom_of p_atom_of (defScope s_atom_of) := ⟨rfl, rfl, rfl, by decide +kernel, rfl, by decide +kernel, by decide +kernel⟩
abbrev n_open_brackets : List Str := ["text", "at", "pending"]
theorem sc_open_brackets : FnScope n_open_brackets p_open_brackets (defScope s_open_brackets) := ⟨rfl, rfl, rfl, by decide +kernel, rfl, by decide +kernel, by decide +kernel⟩
abbrev n_word_end : List Str := ["text", "at"]
theorem sc_word_end : FnScope n_word_end p_word_end (defScope s_word_end) := ⟨rfl, rfl, rfl, by decide +kernel, rfl, by decide +kernel, by decide +kernel⟩
abbrev n_close_brackets : List Str := ["text", "at", "pending", "operand"]
theorem sc_close_brackets : FnScope n_close_brackets p_close_brackets (defScope s_close_brackets) := ⟨rfl, rfl, rfl, by decide +kernel, rfl, by decide +kernel, by decide +kernel⟩
abbrev n_operator_end : List Str := ["text", "at", "end"]
theorem sc_operator_end : FnScope n_operator_end p_operator_end (defScope s_operator_end) := ⟨rfl, rfl, rfl, by decide +kernel, rfl, by decide +kernel, by decide +kernel⟩
abbrev n_scan_expression : List Str := ["text", "pending", "at", "end", "atom", "operand"]
theorem sc_scan_expression : FnScope n_scan_expression p_scan_expression (defScope s_scan_expression) := ⟨rfl, rfl, rfl, by decide +kernel, rfl, by decide +kernel, by decide +kernel⟩
abbrev n_read_expression : List Str := ["text", "expression"]
theorem sc_read_expression : FnScope n_read_expression p_read_expression (defScope s_read_expression) := ⟨rfl, rfl, rfl, by decide +kernel, rfl, by decide +kernel, by decide +kernel⟩
abbrev n_l_cell : List Str := ["_law_script", "_law_at"]
theorem sc_l_cell : FnScope n_l_cell p_l_cell (defScope s_l_cell) := ⟨rfl, rfl, rfl, by decide +kernel, rfl, by decide +kernel, by decide +kernel⟩
abbrev n_l_source : List Str := ["_law_cell_here"]
theorem sc_l_source : FnScope n_l_source p_l_source (defScope s_l_source) := ⟨rfl, rfl, rfl, by decide +kernel, rfl, by decide +kernel, by decide +kernel⟩
abbrev n_l_pick : List Str := ["_law_source_here", "_law_size", "_law_k", "_law_digit", "_law_mixed"]
theorem sc_l_pick : FnScope n_l_pick p_l_pick (defScope s_l_pick) := ⟨rfl, rfl, rfl, by decide +kernel, rfl, by decide +kernel, by decide +kernel⟩
abbrev n_l_one : List Str := ["_law_source_here", "_law_row_here"]
theorem sc_l_one : FnScope n_l_one p_l_one (defScope s_l_one) := ⟨rfl, rfl, rfl, by decide +kernel, rfl, by decide +kernel, by decide +kernel⟩
abbrev n_l_reserved : List Str := ["_law_words"]
theorem sc_l_reserved : FnScope n_l_reserved p_l_reserved (defScope s_l_reserved) := ⟨rfl, rfl, rfl, by decide +kernel, rfl, by decide +kernel, by decide +kernel⟩
abbrev n_l_name : List Str := ["_law_source_here", "_law_world", "_law_size", "_law_word_here", "_law_k"]
theorem sc_l_name : FnScope n_l_name p_l_name (defScope s_l_name) := ⟨rfl, rfl, rfl, by decide +kernel, rfl, by decide +kernel, by decide +kernel⟩
abbrev n_l_word : List Str := ["_law_source_here", "_law_world", "_law_at"]
theorem sc_l_word : FnScope n_l_word p_l_word (defScope s_l_word) := ⟨rfl, rfl, rfl, by decide +kernel, rfl, by decide +kernel, by decide +kernel⟩
abbrev n_l_number : List Str := ["_law_source_here", "_law_world", "_law_choice", "_law_size"]
theorem sc_l_number : FnScope n_l_number p_l_number (defScope s_l_number) := ⟨rfl, rfl, rfl, by decide +kernel, rfl, by decide +kernel, by decide +kernel⟩
abbrev n_l_node : List Str := ["_law_source_here", "_law_world", "_law_choice", "_law_depth", "_law_left", "_law_sign_here"]
theorem sc_l_node : FnScope n_l_node p_l_node (defScope s_l_node) := ⟨rfl, rfl, rfl, by decide +kernel, rfl, by decide +kernel, by decide +kernel⟩
abbrev n_l_expression : List Str := ["_law_source_here", "_law_world", "_law_depth", "_law_choice"]
theorem sc_l_expression : FnScope n_l_expression p_l_expression (defScope s_l_expression) := ⟨rfl, rfl, rfl, by decide +kernel, rfl, by decide +kernel, by decide +kernel⟩
abbrev n_l_text : List Str := ["_law_expression_here", "_law_sign_here"]
theorem sc_l_text : FnScope n_l_text p_l_text (defScope s_l_text) := ⟨rfl, rfl, rfl, by decide +kernel, rfl, by decide +kernel, by decide +kernel⟩
abbrev n_l_same : List Str := ["_law_actual", "_law_due_here", "_law_k"]
theorem sc_l_same : FnScope n_l_same p_l_same (defScope s_l_same) := ⟨rfl, rfl, rfl, by decide +kernel, rfl, by decide +kernel, by decide +kernel⟩
abbrev n_l_is_name : List Str := ["_law_word_here", "_law_sign_here"]
theorem sc_l_is_name : FnScope n_l_is_name p_l_is_name (defScope s_l_is_name) := ⟨rfl, rfl, rfl, by decide +kernel, rfl, by decide +kernel, by decide +kernel⟩
abbrev n_l_is_number : List Str := ["_law_word_here", "_law_digits", "_law_sign_here"]
theorem sc_l_is_number : FnScope n_l_is_number p_l_is_number (defScope s_l_is_number) := ⟨rfl, rfl, rfl, by decide +kernel, rfl, by decide +kernel, by decide +kernel⟩
abbrev n_l_atom_end : List Str := ["_law_text_here", "_law_at", "_law_start", "_law_k"]
theorem sc_l_atom_end : FnScope n_l_atom_end p_l_atom_end (defScope s_l_atom_end) := ⟨rfl, rfl, rfl, by decide +kernel, rfl, by decide +kernel, by decide +kernel⟩
abbrev n_l_atom : List Str := ["_law_text_here", "_law_at", "_law_end", "_law_word_here"]
theorem sc_l_atom : FnScope n_l_atom p_l_atom (defScope s_l_atom) := ⟨rfl, rfl, rfl, by decide +kernel, rfl, by decide +kernel, by decide +kernel⟩
abbrev n_l_read : List Str := ["_law_text_here", "_law_at", "_law_depth", "_law_inner", "_law_left", "_law_sign_here", "_law_behind", "_law_right"]
theorem sc_l_read : FnScope n_l_read p_l_read (defScope s_l_read) := ⟨rfl, rfl, rfl, by decide +kernel, rfl, by decide +kernel, by decide +kernel⟩
abbrev n_l_sign : List Str := ["_law_source_here", "_law_signs"]
theorem sc_l_sign : FnScope n_l_sign p_l_sign (defScope s_l_sign) := ⟨rfl, rfl, rfl, by decide +kernel, rfl, by decide +kernel, by decide +kernel⟩
abbrev n_l_changed : List Str := ["_law_source_here", "_law_text_here", "_law_at", "_law_way"]
theorem sc_l_changed : FnScope n_l_changed p_l_changed (defScope s_l_changed) := ⟨rfl, rfl, rfl, by decide +kernel, rfl, by decide +kernel, by decide +kernel⟩
abbrev n_l_near : List Str := ["_law_source_here", "_law_text_here", "_law_rows"]
theorem sc_l_near : FnScope n_l_near p_l_near (defScope s_l_near) := ⟨rfl, rfl, rfl, by decide +kernel, rfl, by decide +kernel, by decide +kernel⟩
abbrev n_l_with_reserved : List Str := ["_law_source_here", "_law_word_here"]
theorem sc_l_with_reserved : FnScope n_l_with_reserved p_l_with_reserved (defScope s_l_with_reserved) := ⟨rfl, rfl, rfl, by decide +kernel, rfl, by decide +kernel, by decide +kernel⟩
abbrev n_l_row : List Str := ["_law_source_here", "_law_row_here", "_law_run", "_law_k", "_law_sign_here", "_law_pieces", "_law_piece"]
theorem sc_l_row : FnScope n_l_row p_l_row (defScope s_l_row) := ⟨rfl, rfl, rfl, by decide +kernel, rfl, by decide +kernel, by decide +kernel⟩
abbrev n_l_asked : List Str := ["_law_text_here", "e", "_law_others"]
theorem sc_l_asked : FnScope n_l_asked p_l_asked (defScope s_l_asked) := ⟨rfl, rfl, rfl, by decide +kernel, rfl, by decide +kernel, by decide +kernel⟩
abbrev n_l_due : List Str := ["_law_text_here", "_law_found"]
theorem sc_l_due : FnScope n_l_due p_l_due (defScope s_l_due) := ⟨rfl, rfl, rfl, by decide +kernel, rfl, by decide +kernel, by decide +kernel⟩
abbrev n_law : List Str := ["_law_script", "_law_world", "_law_source_here", "_law_expression_here", "_law_text_here", "_law_way", "_law_other", "_law_blanks", "_law_k", "_law_at"]
theorem sc_law : FnScope n_law p_law (defScope s_law) := ⟨rfl, rfl, rfl, by decide +kernel, rfl, by decide +kernel, by decide +kernel⟩
abbrev n_BadText_init : List Str := ["self", "line", "__class__"]
theorem nsc_BadText_init : NdefX.NScope n_BadText_init p_BadText_init ["__class__"] (defScope s_BadText_init) := NdefX.nscope_by (by decide +kernel)
abbrev n_Twice_init : List Str := ["self", "name", "__class__"]
theorem nsc_Twice_init : NdefX.NScope n_Twice_init p_Twice_init ["__class__"] (defScope s_Twice_init) := NdefX.nscope_by (by decide +kernel)
abbrev n_Unknown_init : List Str := ["self", "name", "__class__"]
theorem nsc_Unknown_init : NdefX.NScope n_Unknown_init p_Unknown_init ["__class__"] (defScope s_Unknown_init) := NdefX.nscope_by (by decide +kernel)
abbrev n_BadKind_init : List Str := ["self", "name", "__class__"]
theorem nsc_BadKind_init : NdefX.NScope n_BadKind_init p_BadKind_init ["__class__"] (defScope s_BadKind_init) := NdefX.nscope_by (by decide +kernel)
abbrev n_WrongKind_init : List Str := ["self", "function", "place", "__class__"]
theorem nsc_WrongKind_init : NdefX.NScope n_WrongKind_init p_WrongKind_init ["__class__"] (defScope s_WrongKind_init) := NdefX.nscope_by (by decide +kernel)
abbrev n_NoSite_init : List Str := ["self", "function", "place", "fault", "__class__"]
theorem nsc_NoSite_init : NdefX.NScope n_NoSite_init p_NoSite_init ["__class__"] (defScope s_NoSite_init) := NdefX.nscope_by (by decide +kernel)
abbrev n_NoPlace_init : List Str := ["self", "function", "place", "__class__"]
theorem nsc_NoPlace_init : NdefX.NScope n_NoPlace_init p_NoPlace_init ["__class__"] (defScope s_NoPlace_init) := NdefX.nscope_by (by decide +kernel)
abbrev n_NotAccepted_init : List Str := ["self", "__class__"]
theorem nsc_NotAccepted_init : NdefX.NScope n_NotAccepted_init p_NotAccepted_init ["__class__"] (defScope s_NotAccepted_init) := NdefX.nscope_by (by decide +kernel)
abbrev n_BadCertificate_init : List Str := ["self", "line", "__class__"]
theorem nsc_BadCertificate_init : NdefX.NScope n_BadCertificate_init p_BadCertificate_init ["__class__"] (defScope s_BadCertificate_init) := NdefX.nscope_by (by decide +kernel)
abbrev n_WrongChange_init : List Str := ["self", "name", "__class__"]
theorem nsc_WrongChange_init : NdefX.NScope n_WrongChange_init p_WrongChange_init ["__class__"] (defScope s_WrongChange_init) := NdefX.nscope_by (by decide +kernel)
abbrev n_NotPlain_init : List Str := ["self", "__class__"]
theorem nsc_NotPlain_init : NdefX.NScope n_NotPlain_init p_NotPlain_init ["__class__"] (defScope s_NotPlain_init) := NdefX.nscope_by (by decide +kernel)
abbrev n_BadWitness_init : List Str := ["self", "line", "__class__"]
theorem nsc_BadWitness_init : NdefX.NScope n_BadWitness_init p_BadWitness_init ["__class__"] (defScope s_BadWitness_init) := NdefX.nscope_by (by decide +kernel)
abbrev n_TooLong_init : List Str := ["self", "amount", "__class__"]
theorem nsc_TooLong_init : NdefX.NScope n_TooLong_init p_TooLong_init ["__class__"] (defScope s_TooLong_init) := NdefX.nscope_by (by decide +kernel)
abbrev n_NothingLoaded_init : List Str := ["self", "__class__"]
theorem nsc_NothingLoaded_init : NdefX.NScope n_NothingLoaded_init p_NothingLoaded_init ["__class__"] (defScope s_NothingLoaded_init) := NdefX.nscope_by (by decide +kernel)
abbrev n_NothingToUndo_init : List Str := ["self", "__class__"]
theorem nsc_NothingToUndo_init : NdefX.NScope n_NothingToUndo_init p_NothingToUndo_init ["__class__"] (defScope s_NothingToUndo_init) := NdefX.nscope_by (by decide +kernel)
abbrev n_BadJournal_init : List Str := ["self", "position", "__class__"]
theorem nsc_BadJournal_init : NdefX.NScope n_BadJournal_init p_BadJournal_init ["__class__"] (defScope s_BadJournal_init) := NdefX.nscope_by (by decide +kernel)
open PySem L2 ExV
/-! ### built-in names -/
theorem bt_int : bootBuiltins "int" = some (.type "int") := by decide +kernel
theorem bt_str : bootBuiltins "str" = some (.type "str") := by decide +kernel
theorem bt_bool : bootBuiltins "bool" = some (.type "bool") := by decide +kernel
theorem bt_tuple : bootBuiltins "tuple" = some (.type "tuple") := by decide +kernel
theorem bt_list : bootBuiltins "list" = some (.type "list") := by decide +kernel
theorem bt_dict : bootBuiltins "dict" = some (.type "dict") := by decide +kernel
theorem bb_max : bootBuiltins "max" = some (.builtin "max") := by decide +kernel
theorem bb_min : bootBuiltins "min" = some (.builtin "min") := by decide +kernel
theorem bb_isinstance : bootBuiltins "isinstance" = some (.builtin "isinstance") := by decide +kernel
/-! ### a source of draws: a list of three ints, which draws alone change -/
def Src (H : Hp) (a : Addr) : Prop := ∃ c m k : Int, H a = some (.lst [.int c, .int m, .int k])
/-- a source stands at a, and nothing else that was tracked has changed -/
structure Stp (a : Addr) (H H' : Hp) : Prop where
  s : Src H' a
  k : ∀ b o, b ≠ a → H b = some o → H' b = some o
theorem Stp.refl {a : Addr} {H : Hp} (h : Src H a) : Stp a H H := ⟨h, fun _ _ _ e => e⟩
theorem Stp.trans {a : Addr} {H H1 H2 : Hp} (x : Stp a H H1) (y : Stp a H1 H2) : Stp a H H2 := ⟨y.s, fun b o hb e => y.k b o hb (x.k b o hb e)⟩
theorem Src.ne {a p : Addr} {H : Hp} (h : Src H a) (n : H p = none) : a ≠ p := by
  obtain ⟨c, m, k, h⟩ := h
  exact ne_of_none h n
theorem Stp.free {a p : Addr} {H H' : Hp} (x : Stp a H H') (n : H' p = none) : H p = none := by
  cases q : H p with
  | none => rfl
  | some o =>
    have ne : p ≠ a := fun z => x.s.ne n z.symm
    rw [x.k p o ne q] at n
    cases n
/-- a new object beside the source -/
theorem Stp.new {a p : Addr} {H H' : Hp} {o : HO} (x : Stp a H H') (n : H' p = none) : Stp a H (upd H' p o) := by
  have ne := x.s.ne n
  obtain ⟨c, m, k, h⟩ := x.s
  refine ⟨⟨c, m, k, by rw [upd_ne ne]; exact h⟩, fun b u hb e => ?_⟩
  have e' := x.k b u hb e
  rw [upd_ne (ne_of_none e' n)]
  exact e'
theorem Stp.same {a : Addr} {H H' H2 : Hp} (x : Stp a H H') (s : Same H' H2) : Stp a H H2 := by
  obtain ⟨c, m, k, h⟩ := x.s
  exact ⟨⟨c, m, k, s _ _ h⟩, fun b o hb e => s b o (x.k b o hb e)⟩
theorem Stp.of_same {a : Addr} {H H' : Hp} (h : Src H a) (s : Same H H') : Stp a H H' := (Stp.refl h).same s
theorem Same.new {H : Hp} {p : Addr} (h : H p = none) (o : HO) : Same H (upd H p o) := fun b u q => by rw [upd_ne (ne_of_none q h)]; exact q
/-- a source that is new ahead of its draws: all that was tracked stands -/
theorem Stp.fresh {a : Addr} {H H1 H2 : Hp} (s : Same H H1) (n : H a = none) (x : Stp a H1 H2) : Same H H2 := fun b o e => x.k b o (ne_of_none e n) (s b o e)
theorem Stp.rd {K : PySem.W.Frag} {a p : Addr} {H H' : Hp} {xs : List V} (x : Stp a H H') (h : SqT K H p xs) (hs : Src H a) : SqT K H' p xs := by
  obtain ⟨c, m, k, hs⟩ := hs
  rcases h with (h | ⟨o, h⟩) | h
  · exact .inl (.inl (x.k _ _ (ne_of h hs (by intro z; cases z)) h))
  · exact .inl (.inr ⟨o, x.k _ _ (ne_of h hs (by intro z; cases z)) h⟩)
  · exact .inr h
theorem Stp.rdL {K : PySem.W.Frag} {a p : Addr} {H H' : Hp} {xs : List V} (x : Stp a H H') (h : SqL K H p xs) (ne : p ≠ a) : SqL K H' p xs := by
  rcases h with (h | ⟨o, h⟩) | h
  · exact .inl (.inl (x.k _ _ ne h))
  · exact .inl (.inr ⟨o, x.k _ _ ne h⟩)
  · exact .inr h
theorem Same.tup {K : PySem.W.Frag} {p : Addr} {H H' : Hp} {xs : List V} (x : Same H H') (h : SqT K H p xs) : SqT K H' p xs := by
  rcases h with (h | ⟨o, h⟩) | h
  · exact .inl (.inl (x _ _ h))
  · exact .inl (.inr ⟨o, x _ _ h⟩)
  · exact .inr h
/-! ### numbers -/
theorem ifT {c : Bool} {A B : Prop} (h : c = true) (a : A) : if c = true then A else B := by rw [if_pos h]; exact a
theorem ifF {c : Bool} {A B : Prop} (h : c = false) (b : B) : if c = true then A else B := by rw [h]; exact iteF b
theorem fmod_bd {x m : Int} (h : 0 < m) : 0 ≤ x.fmod m ∧ x.fmod m < m := ⟨Int.fmod_nonneg_of_pos x h, Int.fmod_lt_of_pos x h⟩
theorem fm64 {x m : Int} (h : 0 < m) (h2 : m ≤ 2 ^ 64) : -(2 ^ 64) < x.fmod m ∧ x.fmod m < 2 ^ 64 :=
  ⟨Int.lt_of_lt_of_le (by decide) (fmod_bd h).1, Int.lt_of_lt_of_le (fmod_bd h).2 h2⟩
theorem atI_int {α : Type} {xs : List α} {r : Int} (h0 : 0 ≤ r) (h : r.toNat < xs.length) : atI xs r = some xs[r.toNat] := by
  have e := atI_nat (xs := xs) (j := r.toNat) (List.getElem?_eq_getElem h)
  rwa [Int.toNat_of_nonneg h0] at e
/-! ### the promises of the draws -/
def spCell (K : PySem.W.Frag) : Sp := fun vs H Q _ => ∃ (l : Addr) (ns : List Int) (j : Int), vs = [.ref l, .int j] ∧ SqL K H l (ns.map V.int) ∧ 0 ≤ j ∧ ∀ i : Int, Q (.int i) H
def spSource : Sp := fun vs H Q _ => ∃ c : Int, vs = [.int c] ∧ ∀ p H', H p = none → Same H H' → Src H' p → Q (.ref p) H'
def spPick : Sp := fun vs H Q _ => ∃ (a : Addr) (n : Int), vs = [.ref a, .int n] ∧ Src H a ∧ n < 1073741824 ∧ ∀ (r : Int) (H' : Hp), Stp a H H' → 0 ≤ r → (r < n ∨ r = 0) → Q (.int r) H'
def spOne (K : PySem.W.Frag) : Sp := fun vs H Q _ => ∃ (a : Addr) (row : V), vs = [.ref a, row] ∧ Src H a ∧
  ((∃ (p : Addr) (xs : List V), row = .ref p ∧ p ≠ a ∧ SqL K H p xs ∧ 0 < xs.length ∧ xs.length < 1000 ∧ ∀ v H', v ∈ xs → Stp a H H' → Q v H') ∨
   (∃ z : Str, row = .str z ∧ 0 < z.length ∧ z.length < 1000 ∧ ∀ (c : Nat) H', c ∈ z.cps.toList → Stp a H H' → Q (.str ⟨#[c]⟩) H'))
section
variable {P : Program} {w : World} {K : PySem.W.Frag} {mg : Str → Option Value} {base : Heap}
theorem ok_l_cell (T : Txt w K mg) : FnOk P w K mg base CX0 1 T.a_l_cell T.d_l_cell p_l_cell (spCell K) := by
  refine T.F_l_cell.ok sc_l_cell (fun vs H Q E h => ?_) (fun cdv A outer s H vs Q E hr h => ?_)
  · obtain ⟨l, ns, j, rfl, _⟩ := h
    rfl
  obtain ⟨l, ns, j, rfl, hS, h0, q⟩ := h
  refine ⟨_, (pss_cons (ps_if (pt_cmpR op_lt (pv 1) (pe_callB call_len_seq rfl T.z_len PySem.boot_len (pa_cons (pv 0) pa_nil)) (nomark _)) (pss_one (ps_ret (pe_ix ix_list (pv 0) (pv 1) (fun _ _ => rfl)))) pss_nil)
      (pss_one (ps_ret pe_int))), ?_⟩
  have hl : (ns.map V.int).length = ns.length := List.length_map _
  refine ⟨_, rfl, _, rfl, l, _, rfl, .inl hS, _, _, rfl, rfl, _, rfl, ?_⟩
  refine ite2 (fun c => ?_) (fun c => ?_)
  · have c' : j < (((ns.map V.int).length : Nat) : Int) := of_decide_eq_true c
    rw [hl] at c'
    have hk : j.toNat < ns.length := by omega
    have e := atI_int (xs := ns.map V.int) h0 (by omega)
    rw [List.getElem_map] at e
    exact ⟨_, rfl, _, rfl, l, _, _, _, rfl, rfl, hS, e, q _⟩
  · exact q 0
theorem ok_l_source (T : Txt w K mg) : FnOk P w K mg base CX0 1 T.a_l_source T.d_l_source p_l_source spSource := by
  refine T.F_l_source.ok sc_l_source (fun vs H Q E h => ?_) (fun cdv A outer s H vs Q E hr h => ?_)
  · obtain ⟨c, rfl, _⟩ := h
    rfl
  obtain ⟨c, rfl, q⟩ := h
  refine ⟨_, (pss_one (ps_ret (pe_lst (pa_cons (pv 0) (pa_cons (pv 0) (pa_cons pe_int pa_nil)))))), ?_⟩
  refine ⟨_, rfl, _, rfl, (by show 3 ≤ sizeLine; decide), fun p hp => ?_⟩
  exact q p _ hp (Same.new hp _) ⟨c, c, 0, upd_same⟩
theorem ok_l_pick (T : Txt w K mg) : FnOk P w K mg base CX0 1 T.a_l_pick T.d_l_pick p_l_pick spPick := by
  refine T.F_l_pick.ok sc_l_pick (fun vs H Q E h => ?_) (fun cdv A outer s H vs Q E hr h => ?_)
  · obtain ⟨a, n, rfl, _⟩ := h
    rfl
  obtain ⟨a, n, rfl, ⟨c, m, k, hS⟩, hn, q⟩ := h
  refine ⟨_, (pss_cons (ps_set (i := 2) sc_l_pick.nd rfl (Or.inl rfl) (pe_ix ix_list (pv 0) pe_int (fun _ _ => rfl)))
      (pss_cons (ps_asg (pe_op op_add (pv 2) pe_int) (pg_sub (pv 0) pe_int set_list))
      (pss_cons (ps_if (pt_cmpR op_lt (pv 1) pe_int (nomark _)) (pss_one (ps_ret pe_int)) pss_nil)
      (pss_cons (ps_if (PW.pt (pw_and (pt_cmpR op_ge (pe_ix ix_list (pv 0) pe_int (fun _ _ => rfl)) (pe_op op_pow pe_int pe_int) (nomark _)) (pw_and1 (pt_cmpR op_gt (pe_ix ix_list (pv 0) pe_int (fun _ _ => rfl)) pe_int (nomark _))))) (pss_cons (ps_set (i := 3) sc_l_pick.nd rfl (Or.inl rfl) (pe_op op_modN (pe_callTy call_int1 rfl T.z_int bt_int (pa_cons (pe_ix ix_list (pv 0) pe_int (fun _ _ => rfl)) pa_nil)) (pv 1)))
      (pss_cons (ps_asg (pe_op op_fdivN (pe_ix ix_list (pv 0) pe_int (fun _ _ => rfl)) (pv 1)) (pg_sub (pv 0) pe_int set_list))
      (pss_one (ps_ret (pv 3))))) pss_nil)
      (pss_cons (ps_set (i := 4) sc_l_pick.nd rfl (Or.inl rfl) (pe_op op_modN (pe_callTy call_int1 rfl T.z_int bt_int (pa_cons (pe_op op_add (pe_op op_add (pe_ix ix_list (pv 0) pe_int (fun _ _ => rfl)) (pe_op op_mul pe_int (pv 2))) pe_int) pa_nil)) pe_int))
      (pss_cons (ps_set (i := 4) sc_l_pick.nd rfl (Or.inl rfl) (pe_op op_modN (pe_callTy call_int1 rfl T.z_int bt_int (pa_cons (pe_op op_mul (pv 4) (pe_op op_add (pv 4) pe_int)) pa_nil)) pe_int))
      (pss_cons (ps_set (i := 4) sc_l_pick.nd rfl (Or.inl rfl) (pe_op op_modN (pe_callTy call_int1 rfl T.z_int bt_int (pa_cons (pe_op op_add (pe_op op_mul (pv 4) (pe_op op_add (pv 4) pe_int)) (pe_op op_mul pe_int (pv 2))) pa_nil)) pe_int))
      (pss_one (ps_ret (pe_op op_modN (pe_callTy call_int1 rfl T.z_int bt_int (pa_cons (pe_op op_fdivN (pv 4) pe_int) pa_nil)) (pv 1))))))))))), ?_⟩
  refine ⟨_, rfl, a, _, 2, _, rfl, rfl, SqL.of hS, rfl, ?_⟩
  refine ⟨_, rfl, k, 1, rfl, rfl, _, rfl, a, _, 2, 2, rfl, rfl, hS, rfl, ?_⟩
  have h1 : (upd H a (.lst [.int c, .int m, .int (k + 1)])) a = some (.lst [.int c, .int m, .int (k + 1)]) := upd_same
  have st : Stp a H (upd H a (.lst [.int c, .int m, .int (k + 1)])) := ⟨⟨c, m, k + 1, upd_same⟩, fun b o hb e => by rw [upd_ne hb]; exact e⟩
  refine ⟨_, rfl, n, 2, rfl, rfl, _, rfl, ?_⟩
  refine ite2 (fun _ => ?_) (fun c2 => ?_)
  · exact q 0 _ st (Int.le_refl 0) (.inr rfl)
  have hn2 : ¬ n < 2 := of_decide_eq_false (Bool.eq_false_iff.mpr c2)
  refine ⟨_, rfl, a, _, 0, _, rfl, rfl, SqL.of h1, rfl, 10, 18, rfl, rfl, ⟨by decide, by decide, by decide⟩, _, _, rfl, rfl, _, rfl, ?_⟩
  refine ite2 (fun _ => ⟨_, rfl, a, _, 1, _, rfl, rfl, SqL.of h1, rfl, _, _, rfl, rfl, _, rfl, ite2 (fun _ => ?first) (fun _ => ?second)⟩) (fun _ => iteF ?third)
  case first =>
    refine ⟨_, rfl, a, _, 1, _, rfl, rfl, SqL.of h1, rfl, .inl ⟨_, rfl, ?_⟩⟩
    refine ⟨_, rfl, _, _, rfl, rfl, by omega, ?_⟩
    refine ⟨_, rfl, a, _, 1, _, rfl, rfl, SqL.of h1, rfl, _, rfl, m, n, rfl, rfl, ⟨by omega, by omega⟩, _, rfl, a, _, 1, 1, rfl, rfl, h1, rfl, ?_⟩
    refine ⟨_, rfl, ?_⟩
    have b := fmod_bd (x := m) (m := n) (by omega)
    refine q _ _ ⟨⟨c, m.fdiv n, k + 1, upd_same⟩, fun b o hb e => ?_⟩ b.1 (.inl b.2)
    rw [upd_ne hb]
    exact st.k b o hb e
  all_goals
    refine ⟨_, rfl, a, _, 0, _, rfl, rfl, SqL.of h1, rfl, _, rfl, 7919, k, rfl, rfl, .inl ⟨by decide, by decide⟩, _, _, rfl, rfl, _, _, rfl, rfl, .inl ⟨_, rfl, ?_⟩⟩
    refine ⟨_, _, rfl, rfl, (by intro z; cases z), ?_⟩
    refine ⟨_, rfl, _, rfl, _, _, rfl, rfl, _, _, rfl, rfl, .inl (fm64 (by decide) (by decide)), .inl ⟨_, rfl, ?_⟩⟩
    refine ⟨_, _, rfl, rfl, (by intro z; cases z), ?_⟩
    refine ⟨_, rfl, _, rfl, _, _, rfl, rfl, _, _, rfl, rfl, .inl (fm64 (by decide) (by decide)), _, rfl, 31, k, rfl, rfl, .inl ⟨by decide, by decide⟩, _, _, rfl, rfl, .inl ⟨_, rfl, ?_⟩⟩
    refine ⟨_, _, rfl, rfl, (by intro z; cases z), ?_⟩
    refine ⟨_, rfl, _, _, rfl, rfl, ⟨by decide, by decide⟩, .inl ⟨_, rfl, ?_⟩⟩
    refine ⟨_, rfl, _, _, rfl, rfl, (by omega), ?_⟩
    exact q _ _ st (fmod_bd (by omega)).1 (.inl (fmod_bd (by omega)).2)
theorem ok_l_one (T : Txt w K mg) : FnOk P w K mg base CX0 2 T.a_l_one T.d_l_one p_l_one (spOne K) := by
  have g_l_pick := ok_l_pick (P := P) (w := w) (base := base) T
  refine T.F_l_one.ok sc_l_one (fun vs H Q E h => ?_) (fun cdv A outer s H vs Q E hr h => ?_)
  · obtain ⟨a, row, rfl, _⟩ := h
    rfl
  obtain ⟨a, row, rfl, hS, h⟩ := h
  refine ⟨_, (pss_one (ps_ret (pe_ix ix_seq (pv 1) (pe_call g_l_pick (hr.mono (by first | decide | omega)) rfl T.m_l_pick T.F_l_pick.kp T.b_l_pick .nil pass0 (pa_cons (pv 0) (pa_cons (pe_callB call_len rfl T.z_len PySem.boot_len (pa_cons (pv 1) pa_nil)) pa_nil))) (fun _ _ => rfl)))), ?_⟩
  rcases h with ⟨p, xs, rfl, ne, hx, h0, h9, q⟩ | ⟨z, rfl, h0, h9, q⟩
  · refine ⟨_, rfl, _, rfl, _, rfl, .ref p, xs.length, rfl, .inl ⟨_, hx, rfl⟩, ?_⟩
    refine ⟨a, _, rfl, hS, by omega, fun r H' st r0 r1 => ?_⟩
    have hr' : r.toNat < xs.length := by omega
    have e := atI_int (xs := xs) r0 hr'
    exact .inl ⟨p, xs, r, _, rfl, rfl, st.rdL hx ne, e, q _ _ (List.getElem_mem hr') st⟩
  · refine ⟨_, rfl, _, rfl, _, rfl, .str z, z.length, rfl, ⟨Nat.le_of_lt (small1000 (by omega)), rfl⟩, ?_⟩
    refine ⟨a, _, rfl, hS, by omega, fun r H' st r0 r1 => ?_⟩
    have ez : z.length = z.cps.toList.length := by simp [Str.length]
    have hr' : r.toNat < z.cps.toList.length := by omega
    have e := atI_int (xs := z.cps.toList) r0 hr'
    exact .inr (.inr ⟨z, r, _, rfl, rfl, Nat.le_of_lt (small1000 (by omega)), e, q _ _ (List.getElem_mem hr') st⟩)
end
/-! ### data: equal data are the same to _law_same -/
def Dok : Nat → PyData → Prop
  | 0, _ => False
  | _ + 1, .none => True
  | _ + 1, .bool _ => True
  | _ + 1, .int _ => True
  | _ + 1, .str _ => True
  | n + 1, .tuple ds => ds.length ≤ 100000 ∧ ∀ d ∈ ds, Dok n d
  | n + 1, .list ds => ds.length ≤ 100000 ∧ ∀ d ∈ ds, Dok n d
  | _ + 1, .dict _ => False
theorem dpAll_len {K : PySem.W.Frag} {H : Hp} : ∀ {vs : List V} {ds : List PyData}, DpAll K H vs ds → vs.length = ds.length
  | _, _, .nil => rfl
  | _, _, .cons _ r => congrArg (· + 1) (dpAll_len r)
theorem dpAll_get {K : PySem.W.Frag} {H : Hp} : ∀ {vs : List V} {ds : List PyData} {i : Nat} {d : PyData}, DpAll K H vs ds → ds[i]? = some d → ∃ v, vs[i]? = some v ∧ Dp K H v d
  | _, _, _, _, .nil, e => by simp at e
  | _, _, 0, d, .cons h _, e => by
    simp at e
    subst e
    exact ⟨_, rfl, h⟩
  | _, _, i + 1, d, .cons _ r, e => by
    obtain ⟨v, h1, h2⟩ := dpAll_get (i := i) r (by simpa using e)
    exact ⟨v, by simpa using h1, h2⟩
theorem tyL {K : PySem.W.Frag} {H : Hp} {a : Addr} {xs : List V} (h : SqL K H a xs) : TyX K H (.ref a) (.type "list") := by
  rcases h with (h | ⟨o, h⟩) | ⟨o, its, n, h, c, _⟩
  · exact .base (.lst h)
  · exact .base (.frz h)
  · exact .kList h c
theorem tyT {K : PySem.W.Frag} {H : Hp} {a : Addr} {xs : List V} (h : SqT K H a xs) : TyX K H (.ref a) (.type "tuple") := by
  rcases h with (h | ⟨o, h⟩) | ⟨o, its, n, h, c, _⟩
  · exact .base (.tup h)
  · exact .fTuple h
  · exact .kTuple h c
theorem isi {K : PySem.W.Frag} {H : Hp} {Q : VK} {x : V} {t c : String} (b : Bool) (ty : TyX K H x (.type t)) (kb : kitB t c = some b) (q : Q (.bl b) H) : rIsi K [x, .ty c] H Q := ⟨x, .ty c, _, _, b, rfl, .ty c, ty, kit_ty kb, q⟩
theorem kb_nt : kitB "NoneType" "tuple" = some false := by decide +kernel
theorem kb_nl : kitB "NoneType" "list" = some false := by decide +kernel
theorem kb_bt : kitB "bool" "tuple" = some false := by decide +kernel
theorem kb_bl : kitB "bool" "list" = some false := by decide +kernel
theorem kb_bb : kitB "bool" "bool" = some true := by decide +kernel
theorem kb_it : kitB "int" "tuple" = some false := by decide +kernel
theorem kb_il : kitB "int" "list" = some false := by decide +kernel
theorem kb_ib : kitB "int" "bool" = some false := by decide +kernel
theorem kb_ii : kitB "int" "int" = some true := by decide +kernel
theorem kb_st : kitB "str" "tuple" = some false := by decide +kernel
theorem kb_sl : kitB "str" "list" = some false := by decide +kernel
theorem kb_sb : kitB "str" "bool" = some false := by decide +kernel
theorem kb_si : kitB "str" "int" = some false := by decide +kernel
theorem kb_ss : kitB "str" "str" = some true := by decide +kernel
theorem kb_tt : kitB "tuple" "tuple" = some true := by decide +kernel
theorem kb_tl : kitB "tuple" "list" = some false := by decide +kernel
theorem kb_lt : kitB "list" "tuple" = some false := by decide +kernel
theorem kb_ll : kitB "list" "list" = some true := by decide +kernel
def spSame (K : PySem.W.Frag) (n : Nat) : Sp := fun vs H Q _ => ∃ (x y : V) (d : PyData), vs = [x, y] ∧ Dp K H x d ∧ Dp K H y d ∧ Dok n d ∧ Q (.bl true) H
section
variable {P : Program} {w : World} {K : PySem.W.Frag} {mg : Str → Option Value} {base : Heap}
theorem ok_l_same0 (T : Txt w K mg) : FnOk P w K mg base CX0 0 T.a_l_same T.d_l_same p_l_same (spSame K 0) := by
  have no : ∀ vs H Q E, ¬ spSame K 0 vs H Q E := fun vs H Q E h => by
    obtain ⟨x, y, d, _, _, _, h, _⟩ := h
    exact h
  exact ⟨fun vs H Q E h => absurd h (no vs H Q E), fun A outer s H args us vs Q E _ _ _ _ h => absurd h (no vs H Q E)⟩
/-- the part for two lists or two tuples -/
theorem same_seq {n : Nat} {H : Hp} {p r : Addr} {xs ys : List V} {ds : List PyData} (h1 : SqL K H p xs ∨ SqT K H p xs) (h2 : SqL K H r ys ∨ SqT K H r ys) (d1 : DpAll K H xs ds) (d2 : DpAll K H ys ds)
    (hd : ∀ d ∈ ds, Dok n d) {i : Nat} (hi : i < ds.length) {R : V → Hp → Prop} (q : R (.bl true) H) :
    tCall (spSame K n) [] E0 (tCons (tOp (rIx K) (tVar 0) (tVar 2)) (tCons (tOp (rIx K) (tVar 1) (tVar 2)) tNil)) [some (.ref p), some (.ref r), some (.int (0 + (i : Int)))] H R := by
  obtain ⟨x, e1, q1⟩ := dpAll_get (i := i) d1 (List.getElem?_eq_getElem hi)
  obtain ⟨y, e2, q2⟩ := dpAll_get (i := i) d2 (List.getElem?_eq_getElem hi)
  have a1 : atI xs (0 + (i : Int)) = some x := by rw [Int.zero_add]; exact atI_nat e1
  have a2 : atI ys (0 + (i : Int)) = some y := by rw [Int.zero_add]; exact atI_nat e2
  have k2 : tOp (rIx K) (tVar 1) (tVar 2) [some (.ref p), some (.ref r), some (.int (0 + (i : Int)))] H (fun v H' => tNil [some (.ref p), some (.ref r), some (.int (0 + (i : Int)))] H' fun vs H'' => spSame K n ((x :: v :: vs) ++ []) H'' R E0) := by
    refine ⟨_, rfl, _, rfl, ?_⟩
    have z : spSame K n [x, y] H R E0 := ⟨x, y, _, rfl, q1, q2, hd _ (List.getElem_mem hi), q⟩
    rcases h2 with h2 | h2
    · exact .inl ⟨r, _, _, _, rfl, rfl, h2, a2, z⟩
    · exact .inr (.inl ⟨r, _, _, _, rfl, rfl, h2, a2, z⟩)
  refine ⟨_, rfl, _, rfl, ?_⟩
  rcases h1 with h1 | h1
  · exact .inl ⟨p, _, _, _, rfl, rfl, h1, a1, k2⟩
  · exact .inr (.inl ⟨p, _, _, _, rfl, rfl, h1, a1, k2⟩)
theorem ok_l_same (T : Txt w K mg) : ∀ n : Nat, FnOk P w K mg base CX0 n T.a_l_same T.d_l_same p_l_same (spSame K n)
  | 0 => ok_l_same0 T
  | n + 1 => by
    have g_l_same := ok_l_same T n
    refine T.F_l_same.ok sc_l_same (fun vs H Q E h => ?_) (fun cdv A outer s H vs Q E hr h => ?_)
    · obtain ⟨x, y, d, rfl, _⟩ := h
      rfl
    obtain ⟨x, y, d, rfl, hx, hy, hd, q⟩ := h
    refine ⟨_, (pss_cons (ps_if (PW.pt (pw_or (pt_val (pe_callB call_isi rfl T.z_isinstance bb_isinstance (pa_cons (pv 1) (pa_cons (pe_bltn (v := .ty "tuple") rfl T.z_tuple bt_tuple rfl) pa_nil)))) (pw_or1 (pt_val (pe_callB call_isi rfl T.z_isinstance bb_isinstance (pa_cons (pv 1) (pa_cons (pe_bltn (v := .ty "list") rfl T.z_list bt_list rfl) pa_nil))))))) (pss_cons (ps_if (PW.pt (pw_or (pt_cmpR op_ne (pe_callB call_isi rfl T.z_isinstance bb_isinstance (pa_cons (pv 1) (pa_cons (pe_bltn (v := .ty "tuple") rfl T.z_tuple bt_tuple rfl) pa_nil))) (pe_callB call_isi rfl T.z_isinstance bb_isinstance (pa_cons (pv 0) (pa_cons (pe_bltn (v := .ty "tuple") rfl T.z_tuple bt_tuple rfl) pa_nil))) (nomark _)) (pw_or1 (pt_cmpR op_ne (pe_callB call_isi rfl T.z_isinstance bb_isinstance (pa_cons (pv 1) (pa_cons (pe_bltn (v := .ty "list") rfl T.z_list bt_list rfl) pa_nil))) (pe_callB call_isi rfl T.z_isinstance bb_isinstance (pa_cons (pv 0) (pa_cons (pe_bltn (v := .ty "list") rfl T.z_list bt_list rfl) pa_nil))) (nomark _))))) (pss_one (ps_ret pe_bl)) pss_nil)
      (pss_cons (ps_if (pt_cmpR op_ne (pe_callB call_len_seq rfl T.z_len PySem.boot_len (pa_cons (pv 0) pa_nil)) (pe_callB call_len_seq rfl T.z_len PySem.boot_len (pa_cons (pv 1) pa_nil)) (nomark _)) (pss_one (ps_ret pe_bl)) pss_nil)
      (pss_cons (ps_for PassesOwn.never rfl (pi_range1 rfl T.z_range (pa_cons (pe_callB call_len_seq rfl T.z_len PySem.boot_len (pa_cons (pv 1) pa_nil)) pa_nil)) (pg_name (i := 2) sc_l_same.nd rfl (Or.inl rfl))
        (pss_one (ps_if (pt_not (pt_val (pe_call g_l_same (hr.mono (by first | decide | omega)) rfl T.m_l_same T.F_l_same.kp T.b_l_same .nil pass0 (pa_cons (pe_ix ix_seq (pv 0) (pv 2) (fun _ _ => rfl)) (pa_cons (pe_ix ix_seq (pv 1) (pv 2) (fun _ _ => rfl)) pa_nil))))) (pss_one (ps_ret pe_bl)) pss_nil)))
      (pss_one (ps_ret pe_bl))))) pss_nil)
      (pss_cons (ps_if (pt_cmpR op_isN (pv 1) pe_non (nomark _)) (pss_one (ps_ret (pe_cmpR op_isN (pv 0) pe_non (nomark _)))) pss_nil)
      (pss_cons (ps_if (pt_val (pe_callB call_isi rfl T.z_isinstance bb_isinstance (pa_cons (pv 1) (pa_cons (pe_bltn (v := .ty "bool") rfl T.z_bool bt_bool rfl) pa_nil)))) (pss_one (ps_ret (pe_and (pe_callB call_isi rfl T.z_isinstance bb_isinstance (pa_cons (pv 0) (pa_cons (pe_bltn (v := .ty "bool") rfl T.z_bool bt_bool rfl) pa_nil))) (pe_one (pe_cmpR op_eq (pv 0) (pv 1) (nomark _)))))) pss_nil)
      (pss_cons (ps_if (pt_val (pe_callB call_isi rfl T.z_isinstance bb_isinstance (pa_cons (pv 1) (pa_cons (pe_bltn (v := .ty "int") rfl T.z_int bt_int rfl) pa_nil)))) (pss_one (ps_ret (pe_and (pe_callB call_isi rfl T.z_isinstance bb_isinstance (pa_cons (pv 0) (pa_cons (pe_bltn (v := .ty "int") rfl T.z_int bt_int rfl) pa_nil))) (pe_and (pe_not (pe_callB call_isi rfl T.z_isinstance bb_isinstance (pa_cons (pv 0) (pa_cons (pe_bltn (v := .ty "bool") rfl T.z_bool bt_bool rfl) pa_nil)))) (pe_one (pe_cmpR op_eq (pv 0) (pv 1) (nomark _))))))) pss_nil)
      (pss_one (ps_ret (pe_and (pe_callB call_isi rfl T.z_isinstance bb_isinstance (pa_cons (pv 0) (pa_cons (pe_bltn (v := .ty "str") rfl T.z_str bt_str rfl) pa_nil))) (pe_one (pe_cmpR op_eq (pv 0) (pv 1) (nomark _)))))))))), ?_⟩
    cases hx with
    | non =>
      cases hy
      refine ⟨_, rfl, _, _, _, _, false, rfl, .ty _, (.base .non), kit_ty kb_nt, ⟨_, rfl, iteF ⟨_, rfl, _, _, _, _, false, rfl, .ty _, (.base .non), kit_ty kb_nl, ⟨_, rfl, iteF ?_⟩⟩⟩⟩
      refine ⟨_, rfl, rfl, _, rfl, iteT ?_⟩
      exact ⟨_, rfl, rfl, q⟩
    | bl b =>
      cases hy
      refine ⟨_, rfl, _, _, _, _, false, rfl, .ty _, (.base (.bl _)), kit_ty kb_bt, ⟨_, rfl, iteF ⟨_, rfl, _, _, _, _, false, rfl, .ty _, (.base (.bl _)), kit_ty kb_bl, ⟨_, rfl, iteF ?_⟩⟩⟩⟩
      refine ⟨_, rfl, rfl, _, rfl, iteF ?_⟩
      refine ⟨_, rfl, _, _, _, _, true, rfl, .ty _, (.base (.bl _)), kit_ty kb_bb, ⟨_, rfl, iteT ?_⟩⟩
      refine ⟨_, rfl, _, _, _, _, true, rfl, .ty _, (.base (.bl _)), kit_ty kb_bb, ⟨_, rfl, iteT ?_⟩⟩
      refine ⟨_, rfl, _, rfl, rfl, ?_⟩
      rw [decide_eq_true rfl]
      exact q
    | int b =>
      cases hy
      refine ⟨_, rfl, _, _, _, _, false, rfl, .ty _, (.base (.int _)), kit_ty kb_it, ⟨_, rfl, iteF ⟨_, rfl, _, _, _, _, false, rfl, .ty _, (.base (.int _)), kit_ty kb_il, ⟨_, rfl, iteF ?_⟩⟩⟩⟩
      refine ⟨_, rfl, rfl, _, rfl, iteF ?_⟩
      refine ⟨_, rfl, _, _, _, _, false, rfl, .ty _, (.base (.int _)), kit_ty kb_ib, ⟨_, rfl, iteF ?_⟩⟩
      refine ⟨_, rfl, _, _, _, _, true, rfl, .ty _, (.base (.int _)), kit_ty kb_ii, ⟨_, rfl, iteT ?_⟩⟩
      refine ⟨_, rfl, _, _, _, _, true, rfl, .ty _, (.base (.int _)), kit_ty kb_ii, ⟨_, rfl, iteT ?_⟩⟩
      refine ⟨_, rfl, _, _, _, _, false, rfl, .ty _, (.base (.int _)), kit_ty kb_ib, ⟨_, rfl, _, rfl, iteT ?_⟩⟩
      refine ⟨_, rfl, _, rfl, rfl, ?_⟩
      rw [decide_eq_true rfl]
      exact q
    | str b =>
      cases hy
      refine ⟨_, rfl, _, _, _, _, false, rfl, .ty _, (.base (.str _)), kit_ty kb_st, ⟨_, rfl, iteF ⟨_, rfl, _, _, _, _, false, rfl, .ty _, (.base (.str _)), kit_ty kb_sl, ⟨_, rfl, iteF ?_⟩⟩⟩⟩
      refine ⟨_, rfl, rfl, _, rfl, iteF ?_⟩
      refine ⟨_, rfl, _, _, _, _, false, rfl, .ty _, (.base (.str _)), kit_ty kb_sb, ⟨_, rfl, iteF ?_⟩⟩
      refine ⟨_, rfl, _, _, _, _, false, rfl, .ty _, (.base (.str _)), kit_ty kb_si, ⟨_, rfl, iteF ?_⟩⟩
      refine ⟨_, rfl, _, _, _, _, true, rfl, .ty _, (.base (.str _)), kit_ty kb_ss, ⟨_, rfl, iteT ?_⟩⟩
      refine ⟨_, rfl, _, rfl, rfl, ?_⟩
      rw [decide_eq_true rfl]
      exact q
    | @lst p xs ds h1 d1 =>
      cases hy with
      | @lst r ys _ h2 d2 =>
      have l1 := dpAll_len d1
      have l2 := dpAll_len d2
      obtain ⟨hlen, hd⟩ := hd
      refine ⟨_, rfl, _, _, _, _, false, rfl, .ty _, (tyL h2), kit_ty kb_lt, ⟨_, rfl, iteF ⟨_, rfl, _, _, _, _, true, rfl, .ty _, (tyL h2), kit_ty kb_ll, ⟨_, rfl, iteT ?_⟩⟩⟩⟩
      refine ⟨_, rfl, _, _, _, _, false, rfl, .ty _, (tyL h2), kit_ty kb_lt, ⟨_, rfl, _, _, _, _, false, rfl, .ty _, (tyL h1), kit_ty kb_lt, ⟨rfl, _, rfl, iteF ?_⟩⟩⟩
      refine ⟨_, rfl, _, _, _, _, true, rfl, .ty _, (tyL h2), kit_ty kb_ll, ⟨_, rfl, _, _, _, _, true, rfl, .ty _, (tyL h1), kit_ty kb_ll, ⟨rfl, _, rfl, iteF ?_⟩⟩⟩
      refine ⟨_, rfl, p, _, rfl, .inl h1, _, rfl, r, _, rfl, .inl h2, rfl, _, rfl, ?_⟩
      refine iteNS (congrArg V.int (by omega)) ?_
      refine ⟨_, rfl, r, _, rfl, .inl h2, _, rfl, by omega, by omega, for_range (lo := 0) (fun i σ H' => H' = H ∧ ∃ v : Option V, σ = [some (.ref p), some (.ref r), v]) ⟨rfl, none, rfl⟩ ?_ ?_⟩
      · rintro i σ H' hi ⟨rfl, v, rfl⟩
        refine same_seq (.inl h1) (.inl h2) d1 d2 hd (by omega) ⟨_, rfl, iteF ?_⟩
        exact ⟨rfl, _, rfl⟩
      · rintro σ H' ⟨rfl, v, rfl⟩
        exact q
    | @tup p xs ds h1 d1 =>
      cases hy with
      | @tup r ys _ h2 d2 =>
      have l1 := dpAll_len d1
      have l2 := dpAll_len d2
      obtain ⟨hlen, hd⟩ := hd
      refine ⟨_, rfl, _, _, _, _, true, rfl, .ty _, (tyT h2), kit_ty kb_tt, ⟨_, rfl, iteT ?_⟩⟩
      refine ⟨_, rfl, _, _, _, _, true, rfl, .ty _, (tyT h2), kit_ty kb_tt, ⟨_, rfl, _, _, _, _, true, rfl, .ty _, (tyT h1), kit_ty kb_tt, ⟨rfl, _, rfl, iteF ?_⟩⟩⟩
      refine ⟨_, rfl, _, _, _, _, false, rfl, .ty _, (tyT h2), kit_ty kb_tl, ⟨_, rfl, _, _, _, _, false, rfl, .ty _, (tyT h1), kit_ty kb_tl, ⟨rfl, _, rfl, iteF ?_⟩⟩⟩
      refine ⟨_, rfl, p, _, rfl, .inr h1, _, rfl, r, _, rfl, .inr h2, rfl, _, rfl, ?_⟩
      refine iteNS (congrArg V.int (by omega)) ?_
      refine ⟨_, rfl, r, _, rfl, .inr h2, _, rfl, by omega, by omega, for_range (lo := 0) (fun i σ H' => H' = H ∧ ∃ v : Option V, σ = [some (.ref p), some (.ref r), v]) ⟨rfl, none, rfl⟩ ?_ ?_⟩
      · rintro i σ H' hi ⟨rfl, v, rfl⟩
        refine same_seq (.inr h1) (.inr h2) d1 d2 hd (by omega) ⟨_, rfl, iteF ?_⟩
        exact ⟨rfl, _, rfl⟩
      · rintro σ H' ⟨rfl, v, rfl⟩
        exact q
end
open PySem L2 ExV
/-! ### texts as lists of signs -/
def S (l : List Nat) : Str := ⟨l.toArray⟩
theorem S_cps (l : List Nat) : (S l).cps.toList = l := rfl
theorem S_len (l : List Nat) : (S l).length = l.length := rfl
theorem S_of (z : Str) : S z.cps.toList = z := by
  cases z
  rfl
theorem S_inj {a b : List Nat} (h : S a = S b) : a = b := by
  have := congrArg (fun z : Str => z.cps.toList) h
  exact this
theorem S_app (a b : List Nat) : S a ++ S b = S (a ++ b) := by
  show (⟨a.toArray ++ b.toArray⟩ : Str) = ⟨(a ++ b).toArray⟩
  rw [List.append_toArray]
theorem fromIx (n k : Nat) : fromIndex n (k : Int) = k := by
  unfold fromIndex
  rw [if_neg (by omega)]
  omega
theorem sw3 (l p : List Nat) (k : Nat) : Txt.startswith3 (S l) (S p) (k : Int) = (decide (k + p.length ≤ l.length) && ((l.drop k).take p.length == p)) := by
  unfold Txt.startswith3
  rw [fromIx, PySem.StrLaws.subAt_eq]
  rfl
theorem sw3_pre {l p r : List Nat} {k : Nat} (h : l.drop k = p ++ r) (hk : k ≤ l.length) : Txt.startswith3 (S l) (S p) (k : Int) = true := by
  rw [sw3, h]
  have e := congrArg List.length h
  rw [List.length_drop, List.length_append] at e
  rw [decide_eq_true (by omega), List.take_left, beq_self_eq_true]
  rfl
theorem sw3_not {l p : List Nat} {k : Nat} (h : ∀ r, l.drop k ≠ p ++ r) : Txt.startswith3 (S l) (S p) (k : Int) = false := by
  rw [sw3]
  cases hh : ((l.drop k).take p.length == p) with
  | false => rw [Bool.and_false]
  | true =>
    have e := eq_of_beq hh
    exact absurd (show l.drop k = p ++ (l.drop k).drop p.length by
      conv => lhs; rw [← List.take_append_drop p.length (l.drop k), e]) (h _)
theorem drop_get {l t : List Nat} {k c : Nat} (h : l.drop k = c :: t) : l[k]? = some c := by
  have e : (l.drop k)[0]? = l[k + 0]? := List.getElem?_drop
  rw [h] at e
  exact e.symm
theorem drop_lt {l t : List Nat} {k c : Nat} (h : l.drop k = c :: t) : k < l.length := by
  have e := congrArg List.length h
  rw [List.length_drop, List.length_cons] at e
  omega
theorem drop_next {l t : List Nat} {k c : Nat} (h : l.drop k = c :: t) : l.drop (k + 1) = t := by
  rw [← List.drop_drop, h]
  rfl
/-- find of one sign -/
theorem find_none {l : List Nat} {c k : Nat} (h : c ∉ l.drop k) : Txt.find3 (S l) (S [c]) (k : Int) = -1 := by
  rcases PySem.StrLaws.find3_spec (S l) c (k : Int) with ⟨h0, _⟩ | ⟨j, _, h1, h2, h3, _⟩
  · exact h0
  · rw [fromIx] at h1
    have h4 := PySem.StrLaws.getElem?_of_getD h2 h3
    rw [S_cps] at h4
    refine absurd (List.mem_iff_getElem?.mpr ⟨j - k, ?_⟩) h
    rw [List.getElem?_drop, show k + (j - k) = j by omega]
    exact h4
theorem find_some {l a t : List Nat} {c k : Nat} (h : l.drop k = a ++ c :: t) (hn : c ∉ a) : Txt.find3 (S l) (S [c]) (k : Int) = ((k + a.length : Nat) : Int) := by
  have at0 : l[k + a.length]? = some c := by
    have e : (l.drop k)[a.length]? = l[k + a.length]? := List.getElem?_drop
    rw [← e, h, List.getElem?_append_right (Nat.le_refl _), Nat.sub_self]
    rfl
  rcases PySem.StrLaws.find3_spec (S l) c (k : Int) with ⟨_, h0⟩ | ⟨j, e, h1, h2, h3, h4⟩
  · refine absurd (PySem.StrLaws.getD_of_getElem? (x := S l) (v := k + a.length) (by rw [S_cps]; exact at0)) (h0 _ (by rw [fromIx]; omega) ?_)
    exact (List.getElem?_eq_some_iff.mp at0).1
  · rw [fromIx] at h1 h4
    refine Eq.trans e ?_
    have h5 := PySem.StrLaws.getElem?_of_getD h2 h3
    rw [S_cps] at h5
    by_cases z : j < k + a.length
    · refine absurd (List.mem_iff_getElem?.mpr ⟨j - k, ?_⟩) hn
      have e2 : (l.drop k)[j - k]? = l[k + (j - k)]? := List.getElem?_drop
      rw [h, show k + (j - k) = j by omega, h5, List.getElem?_append_left (by omega)] at e2
      exact e2
    · by_cases z2 : k + a.length < j
      · exact absurd (PySem.StrLaws.getD_of_getElem? (x := S l) (v := k + a.length) (by rw [S_cps]; exact at0)) (h4 _ (by omega) z2)
      · rw [show j = k + a.length by omega]
theorem rp_minus (t : List Nat) : Txt.removeprefix (S (45 :: t)) (S [45]) = S t := by
  rw [PySem.StrLaws.removeprefix_eq, PySem.StrLaws.subAt_eq]
  have e : ((S (45 :: t)).cps.toList.drop 0).take (S [45]).length = [45] := by rw [S_cps]; rfl
  rw [e, S_len, S_len, decide_eq_true (by simp), S_cps, if_pos (by decide +kernel), S_cps]
  show S (t.take (t.length + 1 - 1)) = S t
  rw [Nat.add_sub_cancel, List.take_length]
theorem rp_other {l : List Nat} (h : l.head? ≠ some 45) : Txt.removeprefix (S l) (S [45]) = S l := by
  rw [PySem.StrLaws.removeprefix_eq, PySem.StrLaws.subAt_eq, S_cps, S_cps, S_len]
  rw [if_neg]
  cases l with
  | nil => simp
  | cons c r =>
    have : c ≠ 45 := fun e => h (by rw [e]; rfl)
    show ¬ (_ && ([c] == [45])) = true
    rw [show ([c] == [45]) = false from beq_eq_false_iff_ne.mpr (fun e => this (List.cons.inj e).1), Bool.and_false]
    exact Bool.false_ne_true
/-- a part of a text -/
theorem cutS_nat (l : List Nat) (i j : Nat) (hj : j ≤ l.length) (hi : i ≤ l.length) : cutS (S l) (some (i : Int)) (some (j : Int)) = S ((l.drop i).take (j - i)) := by
  unfold cutS
  rw [HT.sIx_nat, HT.sIx_nat, S_len, S_cps]
  show S _ = S _
  congr 1
  rw [Nat.min_eq_left hi, Nat.min_eq_left hj]
theorem cutS_to (l : List Nat) (i j : Nat) (w r : List Nat) (h : l.drop i = w ++ r) (hj : j = i + w.length) (hi : i ≤ l.length) : cutS (S l) (some (i : Int)) (some (j : Int)) = S w := by
  have e := congrArg List.length h
  rw [List.length_drop, List.length_append] at e
  rw [cutS_nat l i j (by omega) hi, h, hj, Nat.add_sub_cancel_left, List.take_left]
open PySem L2 ExV
/-! ### the reading of expressions, on lists of signs -/
def isLo (c : Nat) : Bool := decide (c ∈ ("abcdefghijklmnopqrstuvwxyz" : Str).cps.toList)
def isDg (c : Nat) : Bool := decide (c ∈ ("0123456789" : Str).cps.toList)
def isAn (c : Nat) : Bool := decide (c ∈ (("abcdefghijklmnopqrstuvwxyz" : Str) ++ ("0123456789" : Str)).cps.toList)
def isDl (c : Nat) : Bool := decide (c ∈ (" ()" : Str).cps.toList)
def resA : List Str := ["record", "end", "array", "global", "def", "var", "flag", "input", "new", "free", "return", "if", "else"]
def resL : List Str := resA ++ (["while", "break", "assert", "null", "true", "false", "not", "and", "or", "same", "result"] : List Str)
def isNm (l : List Nat) : Bool := match l with
  | [] => false
  | c :: _ => isLo c && !decide (S l ∈ resL) && l.all isAn
def digs (l : List Nat) : List Nat := match l with
  | 45 :: t => t
  | l => l
def isNum (l : List Nat) : Bool := decide (digs l ≠ []) && decide ((digs l).length ≤ 4000) && (digs l).all isDg && (decide ((digs l).head? ≠ some 48) || decide (l = [48]))
def numV (l : List Nat) : Int := (PySem.intText? (S l)).getD 0
inductive Ex where
  | num (i : Int) | name (s : Str) | flag (b : Bool) | null | not (a : Ex) | bin (op : Str) (a b : Ex)
def ExAt (K : PySem.W.Frag) (H : Hp) : Ex → V → Prop
  | .num i, v => ∃ p, v = .ref p ∧ SqT K H p [.str "num", .int i]
  | .name s, v => ∃ p, v = .ref p ∧ SqT K H p [.str "name", .str s]
  | .flag b, v => ∃ p, v = .ref p ∧ SqT K H p [.str "flag", .bl b]
  | .null, v => ∃ p, v = .ref p ∧ SqT K H p [.str "null"]
  | .not a, v => ∃ p x, v = .ref p ∧ SqT K H p [.str "not", x] ∧ ExAt K H a x
  | .bin op a b, v => ∃ p x y, v = .ref p ∧ SqT K H p [.str op, x, y] ∧ ExAt K H a x ∧ ExAt K H b y
/-- tuples stand as they were -/
def Keeps (K : PySem.W.Frag) (H H' : Hp) : Prop := ∀ p xs, SqT K H p xs → SqT K H' p xs
theorem Keeps.of_same {K : PySem.W.Frag} {H H' : Hp} (s : Same H H') : Keeps K H H' := fun _ _ h => Same.tup s h
theorem ExAt.keep {K : PySem.W.Frag} {H H' : Hp} (k : Keeps K H H') : ∀ {e : Ex} {v : V}, ExAt K H e v → ExAt K H' e v
  | .num _, _, ⟨p, e, h⟩ => ⟨p, e, k _ _ h⟩
  | .name _, _, ⟨p, e, h⟩ => ⟨p, e, k _ _ h⟩
  | .flag _, _, ⟨p, e, h⟩ => ⟨p, e, k _ _ h⟩
  | .null, _, ⟨p, e, h⟩ => ⟨p, e, k _ _ h⟩
  | .not _, _, ⟨p, x, e, h, q⟩ => ⟨p, x, e, k _ _ h, ExAt.keep k q⟩
  | .bin _ _ _, _, ⟨p, x, y, e, h, q, r⟩ => ⟨p, x, y, e, k _ _ h, ExAt.keep k q, ExAt.keep k r⟩
def opsL : List Str := ["+", "-", "*", "<", "<=", "==", "!=", "same", "and", "or"]
def atomE (l : List Nat) : Option Ex :=
  if S l = "true" then some (.flag true) else if S l = "false" then some (.flag false) else if S l = "null" then some .null
  else if isNm l = true then some (.name (S l)) else if isNum l = true then some (.num (numV l)) else none
def wd (l : List Nat) : List Nat := l.takeWhile fun c => !isDl c
def wdR (l : List Nat) : List Nat := l.dropWhile fun c => !isDl c
theorem wd_app (l : List Nat) : l = wd l ++ wdR l := (List.takeWhile_append_dropWhile ..).symm
def opAt : List Nat → Option (Str × List Nat)
  | 32 :: t => if 32 ∈ t ∧ S (t.takeWhile (· != 32)) ∈ opsL then some (S (t.takeWhile (· != 32)), (t.dropWhile (· != 32)).tail) else none
  | _ => none
def rd : Nat → List Nat → Option (Ex × List Nat)
  | 0, _ => none
  | k + 1, 40 :: 110 :: 111 :: 116 :: 32 :: t => match rd k t with
    | some (e, 41 :: r) => some (.not e, r)
    | _ => none
  | k + 1, 40 :: t => match rd k t with
    | some (a, r) => match opAt r with
      | some (op, r1) => match rd k r1 with
        | some (b, 41 :: r2) => some (.bin op a b, r2)
        | _ => none
      | none => none
    | none => none
  | _ + 1, s => (atomE (wd s)).map fun e => (e, wdR s)
theorem opAt_len {s r : List Nat} {op : Str} (h : opAt s = some (op, r)) : r.length < s.length := by
  unfold opAt at h
  split at h
  · rename_i t
    split at h
    · injection h with h
      have e := (Prod.mk.inj h).2
      rw [← e, List.length_tail]
      have := (List.dropWhile_suffix (l := t) (fun c => c != 32)).length_le
      simp only [List.length_cons]
      omega
    · cases h
  · cases h
theorem atomE_nil : atomE [] = none := by decide +kernel
theorem wdR_len {s : List Nat} {e : Ex} (h : atomE (wd s) = some e) : (wdR s).length < s.length := by
  have e1 := congrArg List.length (wd_app s)
  rw [List.length_append] at e1
  cases hw : wd s with
  | nil =>
    rw [hw, atomE_nil] at h
    cases h
  | cons c r =>
    rw [hw, List.length_cons] at e1
    omega
theorem rd_len : ∀ {k : Nat} {s r : List Nat} {e : Ex}, rd k s = some (e, r) → r.length < s.length
  | 0, _, _, _, h => by cases h
  | k + 1, s, r, e, h => by
    unfold rd at h
    split at h
    · cases h
    · rename_i t heq
      cases heq
      split at h
      · rename_i e1 r1 h1
        have := rd_len h1
        injection h with h
        rw [← (Prod.mk.inj h).2]
        simp only [List.length_cons] at this ⊢
        omega
      · cases h
    · rename_i t heq
      cases heq
      split at h
      · rename_i a r1 h1
        have l1 := rd_len h1
        split at h
        · rename_i op r2 h2
          have l2 := opAt_len h2
          split at h
          · rename_i b r3 h3
            have l3 := rd_len h3
            injection h with h
            rw [← (Prod.mk.inj h).2]
            simp only [List.length_cons] at l3 ⊢
            omega
          · cases h
        · cases h
      · cases h
    · obtain ⟨x, hx, hy⟩ := Option.map_eq_some_iff.mp h
      rw [← (Prod.mk.inj hy).2]
      exact wdR_len hx
theorem rd_more : ∀ {k : Nat} {s : List Nat}, s.length < k → rd (k + 1) s = rd k s
  | 0, _, h => absurd h (Nat.not_lt_zero _)
  | k + 1, s, h => by
    conv => lhs; unfold rd
    conv => rhs; unfold rd
    split
    · rename_i heq
      cases heq
    · rename_i t heq
      cases heq
      simp only [List.length_cons] at h
      rw [rd_more (k := k) (by omega)]
    · rename_i t n heq
      cases heq
      simp only [List.length_cons] at h
      rw [rd_more (k := k) (s := t) (by omega)]
      cases h1 : rd k t with
      | none => rfl
      | some p =>
        obtain ⟨a, r⟩ := p
        have l1 := rd_len h1
        show (match opAt r with | some (op, r1) => _ | none => none) = (match opAt r with | some (op, r1) => _ | none => none)
        cases h2 : opAt r with
        | none => rfl
        | some q =>
          obtain ⟨op, r1⟩ := q
          have l2 := opAt_len h2
          show (match rd (k + 1) r1 with | some (b, 41 :: r2) => _ | _ => none) = (match rd k r1 with | some (b, 41 :: r2) => _ | _ => none)
          rw [rd_more (k := k) (s := r1) (by omega)]
    · rfl
theorem rd_up {k j : Nat} {s : List Nat} (h : s.length < k) : rd (k + j) s = rd k s := by
  induction j with
  | zero => rfl
  | succ j ih => rw [← Nat.add_assoc, rd_more (by omega), ih]
/-- the reading without a bound -/
def R (s : List Nat) : Option (Ex × List Nat) := rd (s.length + 1) s
theorem R_of {k : Nat} {s : List Nat} (h : s.length < k) : rd k s = R s := by
  obtain ⟨j, rfl⟩ := Nat.exists_eq_add_of_le (show s.length + 1 ≤ k by omega)
  exact rd_up (by omega)
open PySem L2 ExV
theorem in_strs (x : Str) (l : List Str) : inV (.str x) (l.map V.str) = decide (x ∈ l) := by
  induction l with
  | nil => rfl
  | cons a l ih =>
    have e : inV (.str x) (V.str a :: l.map V.str) = (eqV (V.str a) (.str x) || inV (.str x) (l.map V.str)) := rfl
    rw [List.map_cons, e, ih, Bool.eq_iff_iff, Bool.or_eq_true, decide_eq_true_eq, decide_eq_true_eq, List.mem_cons]
    have f : eqV (V.str a) (.str x) = true ↔ x = a := by
      show (a == x) = true ↔ _
      rw [beq_iff_eq]
      exact ⟨fun z => z.symm, fun z => z.symm⟩
    rw [f]
/-! ### words: names and numbers -/
theorem bb_all : bootBuiltins "all" = some (.builtin "all") := by decide +kernel
theorem lt_line {n : Nat} (h : n ≤ 1000000) : n < sizeLine := by rw [sizeLine_eq]; omega
theorem flat_strs : ∀ l : List Str, (l.map V.str).all flatV = true
  | [] => rfl
  | _ :: l => flat_strs l
theorem Same.grow {H H1 : Hp} {D : Addr} {o : HO} (hD : H D = none) (s : Same H H1) : Same H (upd H1 D o) := fun b u e => by rw [upd_ne (ne_of_none e hD)]; exact s b u e
theorem str_ne {l : List Nat} {z : Str} (h : l ≠ z.cps.toList) : decide (V.str (S l) = V.str z) = false := by
  rw [decide_eq_false_iff_not]
  intro e
  exact h (by rw [← V.str.inj e]; rfl)
theorem s_minus : ("-" : Str) = S [45] := by decide +kernel
section
variable {P : Program} {w : World} {K : PySem.W.Frag} {mg : Str → Option Value} {base : Heap}
def spCons : Sp := fun vs H Q _ => ∃ (l : List Nat) (z : Str), vs = [.str (S l), .str z] ∧ l.length ≤ 100000 ∧ ∀ H', Same H H' → Q (.bl (l.all fun c => decide (c ∈ z.cps.toList))) H'
def spIsN : Sp := fun vs H Q _ => ∃ l : List Nat, vs = [.str (S l)] ∧ l.length ≤ 100000 ∧ ∀ H', Same H H' → Q (.bl (isNm l)) H'
def numQ (l : List Nat) : V := if isNum l = true then .int (numV l) else .non
def NumFit (l : List Nat) : Prop := l.length ≤ 640 ∨ isNum l = false
def spNum : Sp := fun vs H Q _ => ∃ l : List Nat, vs = [.str (S l), .int 4000] ∧ l.length ≤ 100000 ∧ NumFit l ∧ ∀ H', Same H H' → Q (numQ l) H'
theorem ok_consists_of (T : Txt w K mg) : FnOk P w K mg base CX0 1 T.a_consists_of T.d_consists_of p_consists_of spCons := by
  refine T.F_consists_of.ok sc_consists_of (fun vs H Q E h => ?_) (fun cdv A outer s H vs Q E hr h => ?_)
  · obtain ⟨l, z, rfl, _⟩ := h
    rfl
  obtain ⟨l, z, rfl, hl, q⟩ := h
  refine ⟨_, (pss_one (ps_ret (pe_callB (cr_all rfl) rfl T.z_all bb_all (pa_cons (pe_lc (own := [("character", 2)]) (g := gName 2) (tt := tYes) rfl sc_consists_of.nd (pi_str (pv 0)) (blkOk_by (own := [("character", 2)]) (N := n_consists_of) (sc := defScope s_consists_of) (by decide +kernel)) (fun _ _ _ _ _ => (pg_name (i := 2) sc_consists_of.nd rfl (Or.inl rfl))) (fun _ _ _ _ _ => pts_nil) (fun _ _ _ _ _ => (pe_cmpR op_in_sign (pv 2) (pv 1) (by rfl)))) pa_nil)))), ?_⟩
  refine ⟨_, rfl, S l, rfl, fun D hD => ?_⟩
  refine lc_it (walk_str (z := S l)) (fun i F => Same H F ∧ F D = some (.lst (((l.take i).map fun c => decide (c ∈ z.cps.toList)).map V.bl))) ⟨Same.new hD _, upd_same⟩ (fun _ _ _ _ => trivial) ?_ ?_
  · rintro i y F F' hi ⟨sF, eD⟩ ⟨rfl, c, hc, rfl⟩
    have hc' : l[i]? = some c := by
      rw [← hc, ← Array.getElem?_toList]
      rfl
    have st : l.take (i + 1) = l.take i ++ [c] := by rw [List.take_add_one, hc']; rfl
    refine ⟨rfl, ?_⟩
    dsimp only [tYes]
    refine ifT rfl ⟨_, rfl, _, rfl, c, z, rfl, rfl, _, eD, lt_line ?_, ?_, ?_⟩
    · rw [List.length_map, List.length_map, List.length_take]
      omega
    · exact Same.grow hD sF
    · rw [upd_same, st, List.map_append, List.map_append]
      rfl
  · rintro F ⟨sF, eD⟩
    refine ⟨D, _, rfl, .of eD, ?_⟩
    have e : ((l.take (S l).cps.size).map fun c => decide (c ∈ z.cps.toList)).all id = l.all fun c => decide (c ∈ z.cps.toList) := by
      rw [show (S l).cps.size = l.length from rfl, List.take_length, List.all_map]
      rfl
    rw [e]
    exact q F sF
theorem ok_is_name (T : Txt w K mg) : FnOk P w K mg base CX0 2 T.a_is_name T.d_is_name p_is_name spIsN := by
  have g_consists_of := ok_consists_of (P := P) (base := base) T
  obtain ⟨_, c_LETTERS_h⟩ := T.c_LETTERS
  obtain ⟨_, c_DIGITS_h⟩ := T.c_DIGITS
  obtain ⟨d_RESERVED, c_RESERVED_h⟩ := T.c_RESERVED
  refine T.F_is_name.ok sc_is_name (fun vs H Q E h => ?_) (fun cdv A outer s H vs Q E hr h => ?_)
  · obtain ⟨l, rfl, _⟩ := h
    rfl
  obtain ⟨l, rfl, hl, q⟩ := h
  refine ⟨_, (pss_cons (ps_if (PW.pt (pw_or (pt_cmpR op_eq (pv 0) pe_str (nomark _)) (pw_or (pt_cmpR op_notIn_sign (pe_ix ix_str (pv 0) pe_int (fun _ _ => rfl)) (pe_glob (v := .str "abcdefghijklmnopqrstuvwxyz") rfl c_LETTERS_h ⟨_, rfl⟩) (by rfl)) (pw_or1 (pt_cmpR op_in_seq (pv 0) (pe_glob (v := .ref d_RESERVED) rfl c_RESERVED_h rfl) (by rfl)))))) (pss_one (ps_ret pe_bl)) pss_nil)
      (pss_one (ps_ret (pe_call g_consists_of (hr.mono (by first | decide | omega)) rfl T.m_consists_of T.F_consists_of.kp T.b_consists_of .nil pass0 (pa_cons (pv 0) (pa_cons (pe_op op_add_str (pe_glob (v := .str "abcdefghijklmnopqrstuvwxyz") rfl c_LETTERS_h ⟨_, rfl⟩) (pe_glob (v := .str "0123456789") rfl c_DIGITS_h ⟨_, rfl⟩)) pa_nil)))))), ?_⟩
  refine ⟨_, rfl, rfl, _, rfl, ?_⟩
  cases l with
  | nil => exact ifT (by decide +kernel) (q _ (Same.refl _))
  | cons c r =>
    refine ifF (str_ne (by intro h; cases h)) ?_
    refine ⟨_, rfl, S (c :: r), 0, c, rfl, rfl, by rw [sizeLine_eq, S_len]; omega, atI_nat (j := 0) rfl, c, _, rfl, rfl, _, rfl, ?_⟩
    cases hc : isLo c with
    | false =>
      refine ifT (by show (!isLo c) = true; rw [hc]; rfl) ?_
      have e : isNm (c :: r) = false := by
        show (isLo c && _ && _) = false
        rw [hc]
        rfl
      rw [← e]
      exact q _ (Same.refl _)
    | true =>
      refine ifF (by show (!isLo c) = false; rw [hc]; rfl) ?_
      refine ⟨_, rfl, d_RESERVED, resL.map V.str, rfl, .inr (T.t_RESERVED _ c_RESERVED_h _), rfl, flat_strs _, _, rfl, ?_⟩
      rw [if_neg Bool.false_ne_true, in_strs]
      cases hr2 : decide (S (c :: r) ∈ resL) with
      | true =>
        refine ifT rfl ?_
        have e : isNm (c :: r) = false := by
          show (isLo c && !decide (S (c :: r) ∈ resL) && _) = false
          rw [hr2, Bool.not_true, Bool.and_false]
          rfl
        rw [← e]
        exact q _ (Same.refl _)
      | false =>
        refine ifF rfl ?_
        refine ⟨_, rfl, _, _, rfl, rfl, by decide +kernel, c :: r, _, rfl, hl, fun H' s' => ?_⟩
        have e : isNm (c :: r) = ((c :: r).all fun c => decide (c ∈ (("abcdefghijklmnopqrstuvwxyz" : Str) ++ ("0123456789" : Str)).cps.toList)) := by
          show (isLo c && !decide (S (c :: r) ∈ resL) && _) = _
          rw [hr2, hc]
          rfl
        rw [← e]
        exact q _ s'
theorem digs_eq (l : List Nat) : Txt.removeprefix (S l) (S [45]) = S (digs l) := by
  cases l with
  | nil => exact rp_other (by simp)
  | cons c r =>
    by_cases h : c = 45
    · rw [h]
      exact rp_minus r
    · rw [rp_other (by simpa using h)]
      congr 1
      unfold digs
      split
      · rename_i heq
        exact absurd (List.cons.inj heq).1 h
      · rfl
theorem digs_len (l : List Nat) : (digs l).length ≤ l.length := by
  unfold digs
  split <;> simp
theorem num_read {l : List Nat} (h : isNum l = true) : PySem.intText? (S l) = some (numV l) := by
  unfold isNum at h
  simp only [Bool.and_eq_true, decide_eq_true_eq] at h
  obtain ⟨⟨⟨h1, h2⟩, h3⟩, _⟩ := h
  have ad : PySem.NumText.AllDigits (digs l) := fun c hc => by
    have h4 : c ∈ ("0123456789" : Str).cps.toList := of_decide_eq_true (List.all_eq_true.mp h3 c hc)
    have e : ∀ c ∈ ("0123456789" : Str).cps.toList, 48 ≤ c ∧ c ≤ 57 := by decide +kernel
    exact e c h4
  have some_of : (∃ n, PySem.intText? (S l) = some n) := by
    by_cases h : ∃ t, l = 45 :: t
    · obtain ⟨t, rfl⟩ := h
      have h1' : t ≠ [] := h1
      have h2' : t.length ≤ 4000 := h2
      exact ⟨_, PySem.intText_neg (x := S (45 :: t)) (cs := t) rfl ad h1' (by show t.length + 1 ≤ 4300; omega)⟩
    · have e : digs l = l := by
        unfold digs
        split
        · exact absurd ⟨_, rfl⟩ h
        · rfl
      rw [e] at h1 h2 ad
      exact ⟨_, PySem.intText_digits (x := S l) ad h1 (by rw [S_len]; omega)⟩
  obtain ⟨n, hn⟩ := some_of
  unfold numV
  rw [hn]
  rfl
theorem ok_number_of (T : Txt w K mg) : FnOk P w K mg base CX0 2 T.a_number_of T.d_number_of p_number_of spNum := by
  have g_consists_of := ok_consists_of (P := P) (base := base) T
  obtain ⟨_, c_DIGITS_h⟩ := T.c_DIGITS
  refine FunD.ok T.F_number_of sc_number_of (fun vs H Q E h => ?_) (fun cdv A outer s H vs Q E hr h => ?_)
  · obtain ⟨l, rfl, _⟩ := h
    rfl
  obtain ⟨l, rfl, hl, hf, q⟩ := h
  refine ⟨_, (pss_cons (ps_set (i := 2) sc_number_of.nd rfl (Or.inl rfl) (pe_bm PySem.F.plainAttrs_str PySem.F.slot_str_removeprefix PySem.F.type_str_removeprefix mt_removeprefix (pv 0) (pa_cons pe_str pa_nil)))
      (pss_cons (ps_if (PW.pt (pw_or (pt_cmpR op_eq (pv 2) pe_str (nomark _)) (pw_or (pt_cmpR op_gt (pe_callB call_len_str rfl T.z_len PySem.boot_len (pa_cons (pv 2) pa_nil)) (pv 1) (nomark _)) (pw_or1 (pt_not (pt_val (pe_call g_consists_of (hr.mono (by first | decide | omega)) rfl T.m_consists_of T.F_consists_of.kp T.b_consists_of .nil pass0 (pa_cons (pv 2) (pa_cons (pe_glob (v := .str "0123456789") rfl c_DIGITS_h ⟨_, rfl⟩) pa_nil))))))))) (pss_one (ps_ret pe_non)) pss_nil)
      (pss_cons (ps_if (PW.pt (pw_and (pt_cmpR op_eq (pe_ix ix_str (pv 2) pe_int (fun _ _ => rfl)) pe_str (nomark _)) (pw_and1 (pt_cmpR op_ne (pv 0) pe_str (nomark _))))) (pss_one (ps_ret pe_non)) pss_nil)
      (pss_one (ps_ret (pe_callTy call_int_str rfl T.z_int bt_int (pa_cons (pv 0) pa_nil))))))), ?_⟩
  have dl := digs_len l
  have no : isNum l = false → Q .non H := fun e => by
    have := q H (Same.refl _)
    unfold numQ at this
    rwa [if_neg (by rw [e]; exact Bool.false_ne_true)] at this
  have noS : isNum l = false → ∀ H', Same H H' → Q .non H' := fun e H' s' => by
    have := q H' s'
    unfold numQ at this
    rwa [if_neg (by rw [e]; exact Bool.false_ne_true)] at this
  refine ⟨_, rfl, rfl, S l, _, rfl, rfl, by rw [sizeLine_eq, S_len]; omega, ?_⟩
  rw [show Str.ofString "-" = S [45] from s_minus, digs_eq]
  refine ⟨_, rfl, rfl, _, rfl, ?_⟩
  by_cases h0 : digs l = []
  · refine ifT (by rw [h0]; decide +kernel) ?_
    exact no (by unfold isNum; rw [decide_eq_false (fun h => h h0)]; rfl)
  refine ifF (str_ne (by exact h0)) ?_
  refine ⟨_, rfl, S (digs l), rfl, by rw [sizeLine_eq, S_len]; omega, _, rfl, _, _, rfl, rfl, _, rfl, ?_⟩
  rw [S_len]
  by_cases h1 : (digs l).length ≤ 4000
  case neg =>
    refine ifT (decide_eq_true (by omega)) ?_
    exact no (by unfold isNum; rw [decide_eq_false h1, Bool.and_false]; rfl)
  refine ifF (decide_eq_false (by omega)) ?_
  refine ⟨_, rfl, digs l, _, rfl, by omega, fun H' s' => ⟨_, rfl, ?_⟩⟩
  cases h2 : (digs l).all isDg with
  | false =>
    refine ifT (by show (!((digs l).all isDg)) = true; rw [h2]; rfl) ?_
    exact noS (by unfold isNum; rw [h2, Bool.and_false]; rfl) H' s'
  | true =>
    refine ifF (by show (!((digs l).all isDg)) = false; rw [h2]; rfl) ?_
    obtain ⟨c, r, hd⟩ := List.exists_cons_of_ne_nil h0
    refine ⟨_, rfl, S (digs l), 0, c, rfl, rfl, by rw [sizeLine_eq, S_len]; omega, atI_nat (j := 0) (by rw [S_cps, hd]; rfl), rfl, _, rfl, ?_⟩
    have fin : isNum l = true → PySem.intText? (S l) = some (numV l) ∧ (S l).length ≤ 640 ∧ Q (.int (numV l)) H' := fun e => by
      refine ⟨num_read e, ?_, ?_⟩
      · rcases hf with hf | hf
        · exact hf
        · rw [e] at hf
          cases hf
      · have := q H' s'
        unfold numQ at this
        rwa [if_pos e] at this
    have nm : isNum l = (decide (c ≠ 48) || decide (l = [48])) := by
      unfold isNum
      rw [h2, decide_eq_true h0, decide_eq_true h1, hd]
      show (true && true && true && (decide (some c ≠ some 48) || _)) = _
      rw [Bool.true_and, Bool.true_and, Bool.true_and]
      congr 2
      rw [ne_eq, ne_eq, Option.some.injEq]
    by_cases h3 : c = 48
    · refine ifT (by rw [h3]; decide +kernel) ?_
      refine ⟨_, rfl, rfl, _, rfl, ?_⟩
      by_cases h4 : l = [48]
      · refine ifF (by rw [h4]; decide +kernel) ?_
        exact ⟨_, rfl, S l, _, rfl, fin (by rw [nm, decide_eq_true h4, Bool.or_true])⟩
      · refine ifT (by rw [str_ne (by exact h4)]; rfl) ?_
        exact noS (by rw [nm, decide_eq_false h4, decide_eq_false (fun h => h h3)]; rfl) H' s'
    · refine ifF (str_ne (l := [c]) (by intro h; exact h3 (List.cons.inj h).1)) ?_
      exact ifF rfl ⟨_, rfl, S l, _, rfl, fin (by rw [nm, decide_eq_true h3]; rfl)⟩
end
open PySem L2 ExV
/-! ### the program's stack, on lists of signs -/
theorem R_not (t : List Nat) : R (40 :: 110 :: 111 :: 116 :: 32 :: t) = match R t with | some (e, 41 :: r) => some (.not e, r) | _ => none := by
  show rd (t.length + 5 + 1) _ = _
  rw [← R_of (k := t.length + 5) (s := t) (by omega)]
  rfl
theorem R_opn {t : List Nat} (h : ∀ r, t ≠ 110 :: 111 :: 116 :: 32 :: r) : R (40 :: t) = match R t with
    | some (a, r) => match opAt r with
      | some (op, r1) => match R r1 with
        | some (b, 41 :: r2) => some (.bin op a b, r2)
        | _ => none
      | none => none
    | none => none := by
  show rd (t.length + 1 + 1) _ = _
  rw [← R_of (k := t.length + 1) (s := t) (by omega)]
  conv => lhs; unfold rd
  split
  · rename_i heq
    cases heq
  · rename_i heq
    exact absurd (List.cons.inj heq).2 (h _)
  · rename_i heq1 heq2
    obtain rfl := (List.cons.inj heq2).2
    obtain rfl := Nat.succ.inj heq1
    cases h1 : rd (t.length + 1) t with
    | none => rfl
    | some p =>
      obtain ⟨a, r⟩ := p
      have l1 := rd_len h1
      show (match opAt r with | some (op, r1) => _ | none => none) = (match opAt r with | some (op, r1) => _ | none => none)
      cases h2 : opAt r with
      | none => rfl
      | some q =>
        obtain ⟨op, r1⟩ := q
        have l2 := opAt_len h2
        show (match rd (t.length + 1) r1 with | some (b, 41 :: r2) => _ | _ => none) = (match R r1 with | some (b, 41 :: r2) => _ | _ => none)
        rw [R_of (by omega)]
  · exfalso
    first
      | (rename_i h1; exact h1 _ rfl)
      | (rename_i h1 _; exact h1 _ rfl)
      | (rename_i h1 _ _; exact h1 _ rfl)
theorem R_atom {s : List Nat} (h : ∀ t, s ≠ 40 :: t) : R s = (atomE (wd s)).map fun e => (e, wdR s) := by
  show rd (s.length + 1) _ = _
  unfold rd
  split
  · rename_i heq
    cases heq
  · exact absurd rfl (h _)
  · exact absurd rfl (h _)
  · rfl
inductive Fr where
  | opn | neg | mid (op : Str) (a : Ex)
def fin : List Fr → Option (Ex × List Nat) → Option Ex
  | _, none => none
  | [], some (e, r) => if r = [] then some e else none
  | .opn :: st, some (a, r) => match opAt r with
    | some (op, r1) => match R r1 with
      | some (b, 41 :: r2) => fin st (some (.bin op a b, r2))
      | _ => none
    | none => none
  | .neg :: st, some (e, r) => match r with
    | 41 :: r => fin st (some (.not e, r))
    | _ => none
  | .mid op a :: st, some (b, r) => match r with
    | 41 :: r => fin st (some (.bin op a b, r))
    | _ => none
theorem fin_none (st : List Fr) : fin st none = none := by
  cases st with
  | nil => rfl
  | cons f st => cases f <;> rfl
theorem fin_neg (st : List Fr) (t : List Nat) : fin st (R (40 :: 110 :: 111 :: 116 :: 32 :: t)) = fin (.neg :: st) (R t) := by
  rw [R_not]
  cases R t with
  | none => exact fin_none st
  | some p =>
    obtain ⟨e, r⟩ := p
    show fin st (match some (e, r) with | some (e, 41 :: r) => some (.not e, r) | _ => none) = (match r with | 41 :: r => fin st (some (.not e, r)) | _ => none)
    split
    · rename_i heq
      injection heq with heq
      obtain ⟨rfl, rfl⟩ := Prod.mk.inj heq
      rfl
    · rename_i hn
      rw [fin_none]
      split
      · exact absurd rfl (hn _ _)
      · rfl
theorem fin_opn (st : List Fr) {t : List Nat} (h : ∀ r, t ≠ 110 :: 111 :: 116 :: 32 :: r) : fin st (R (40 :: t)) = fin (.opn :: st) (R t) := by
  rw [R_opn h]
  cases R t with
  | none => exact fin_none st
  | some p =>
    obtain ⟨a, r⟩ := p
    show fin st (match opAt r with | some (op, r1) => _ | none => none) = (match opAt r with | some (op, r1) => _ | none => none)
    cases opAt r with
    | none => exact fin_none st
    | some q =>
      obtain ⟨op, r1⟩ := q
      show fin st (match R r1 with | some (b, 41 :: r2) => some (.bin op a b, r2) | _ => none) = (match R r1 with | some (b, 41 :: r2) => fin st (some (.bin op a b, r2)) | _ => none)
      split
      · rfl
      · exact fin_none st
/-- an operator read: what is left is read on -/
theorem fin_op (st : List Fr) {a : Ex} {r r1 : List Nat} {op : Str} (h : opAt r = some (op, r1)) : fin (.opn :: st) (some (a, r)) = fin (.mid op a :: st) (R r1) := by
  show (match opAt r with | some (op, r1) => _ | none => none) = _
  rw [h]
  show (match R r1 with | some (b, 41 :: r2) => fin st (some (.bin op a b, r2)) | _ => none) = _
  cases R r1 with
  | none => rfl
  | some p =>
    obtain ⟨b, r2⟩ := p
    show _ = (match r2 with | 41 :: r => fin st (some (.bin op a b, r)) | _ => none)
    split
    · rename_i heq
      injection heq with heq
      obtain ⟨rfl, rfl⟩ := Prod.mk.inj heq
      rfl
    · rename_i hn
      split
      · exact absurd rfl (hn _ _)
      · rfl
theorem fin_noop (st : List Fr) {a : Ex} {r : List Nat} (h : opAt r = none) : fin (.opn :: st) (some (a, r)) = none := by
  show (match opAt r with | some (op, r1) => _ | none => none) = _
  rw [h]
/-- the frames in the heap, the top first -/
def FrAt (K : PySem.W.Frag) (H : Hp) : Fr → V → Prop
  | .opn, v => ∃ p, v = .ref p ∧ SqT K H p []
  | .neg, v => ∃ p, v = .ref p ∧ SqT K H p [.str "not"]
  | .mid op a, v => ∃ p x, v = .ref p ∧ SqT K H p [.str op, x] ∧ ExAt K H a x
def FrsAt (K : PySem.W.Frag) (H : Hp) : List Fr → List V → Prop
  | [], [] => True
  | f :: fs, v :: vs => FrAt K H f v ∧ FrsAt K H fs vs
  | _, _ => False
theorem FrAt.keep {K : PySem.W.Frag} {H H' : Hp} (k : Keeps K H H') : ∀ {f : Fr} {v : V}, FrAt K H f v → FrAt K H' f v
  | .opn, _, ⟨p, e, h⟩ => ⟨p, e, k _ _ h⟩
  | .neg, _, ⟨p, e, h⟩ => ⟨p, e, k _ _ h⟩
  | .mid _ _, _, ⟨p, x, e, h, q⟩ => ⟨p, x, e, k _ _ h, q.keep k⟩
theorem FrsAt.keep {K : PySem.W.Frag} {H H' : Hp} (k : Keeps K H H') : ∀ {fs : List Fr} {vs : List V}, FrsAt K H fs vs → FrsAt K H' fs vs
  | [], [], _ => trivial
  | _ :: _, _ :: _, ⟨a, b⟩ => ⟨a.keep k, b.keep k⟩
  | [], _ :: _, h => h.elim
  | _ :: _, [], h => h.elim
/-- only the object at D may be another one -/
def Mv (D : Addr) (H H' : Hp) : Prop := ∀ b o, b ≠ D → H b = some o → H' b = some o
theorem Mv.refl (D : Addr) (H : Hp) : Mv D H H := fun _ _ _ e => e
theorem Mv.trans {D : Addr} {H H1 H2 : Hp} (a : Mv D H H1) (b : Mv D H1 H2) : Mv D H H2 := fun x o n e => b x o n (a x o n e)
theorem Mv.of_same {D : Addr} {H H' : Hp} (s : Same H H') : Mv D H H' := fun b o _ e => s b o e
theorem Mv.put {D : Addr} {H H' : Hp} (s : Mv D H H') (o : HO) : Mv D H (upd H' D o) := fun b u n e => by
  rw [upd_ne n]
  exact s b u n e
theorem Mv.new {D p : Addr} {H H' : Hp} (s : Mv D H H') (n : H' p = none) (o : HO) : Mv D H (upd H' p o) := fun b u nb e => by
  have e1 := s b u nb e
  rw [upd_ne (ne_of_none e1 n)]
  exact e1
open PySem L2 ExV
/-! ### the parts of the scanner -/
theorem Mv.keeps {K : PySem.W.Frag} {D : Addr} {H H' : Hp} {xs : List V} (s : Mv D H H') (h : H D = some (.lst xs)) : Keeps K H H' := by
  intro p ys q
  rcases q with (q | ⟨o, q⟩) | q
  · exact .inl (.inl (s _ _ (ne_of q h (by intro z; cases z)) q))
  · exact .inl (.inr ⟨o, s _ _ (ne_of q h (by intro z; cases z)) q⟩)
  · exact .inr q
theorem decS (a b : Str) : decide (V.str a = V.str b) = decide (a = b) := by
  rw [Bool.eq_iff_iff, decide_eq_true_eq, decide_eq_true_eq]
  exact ⟨V.str.inj, fun e => by rw [e]⟩
theorem Same.none {H H' : Hp} {p : Addr} (s : Same H H') (n : H' p = none) : H p = none := by
  cases e : H p with
  | none => rfl
  | some o =>
    rw [s _ _ e] at n
    cases n
theorem wd_cons {l t : List Nat} {c j : Nat} (h : l.drop j = c :: t) (n : isDl c = false) : (wd (l.drop j)).length = 1 + (wd (l.drop (j + 1))).length := by
  rw [drop_next h, h]
  unfold wd
  rw [List.takeWhile_cons_of_pos (by rw [n]; rfl), List.length_cons, Nat.add_comm]
theorem wd_stop {l t : List Nat} {c j : Nat} (h : l.drop j = c :: t) (n : isDl c = true) : (wd (l.drop j)).length = 0 := by
  rw [h]
  unfold wd
  rw [List.takeWhile_cons_of_neg (by rw [n]; decide)]
  rfl
def Bd02 (l : List Nat) (k : Nat) : Prop := k = 0 ∨ ∃ j c, k = j + 1 ∧ l[j]? = some c ∧ isDl c = true
/-- the words that begin behind a blank or a bracket -/
def WOk (l : List Nat) : Prop := l.length ≤ 100000 ∧ ∀ k, k ≤ l.length → Bd02 l k → NumFit (wd (l.drop k))
section
variable {P : Program} {w : World} {K : PySem.W.Frag} {mg : Str → Option Value} {base : Heap}
def AtomIs (K : PySem.W.Frag) (H : Hp) (o : Option Ex) (v : V) : Prop := match o with
  | none => v = .non
  | some e => ExAt K H e v
def spAtom (K : PySem.W.Frag) : Sp := fun vs H Q _ => ∃ l : List Nat, vs = [.str (S l)] ∧ l.length ≤ 100000 ∧ NumFit l ∧ ∀ v H', Same H H' → AtomIs K H' (atomE l) v → (∀ e, atomE l = some e → v ≠ .non) → Q v H'
def spWord : Sp := fun vs H Q _ => ∃ (l : List Nat) (k : Nat), vs = [.str (S l), .int k] ∧ l.length ≤ 100000 ∧ k ≤ l.length ∧ Q (.int ((k + (wd (l.drop k)).length : Nat) : Int)) H
def spOpen (K : PySem.W.Frag) : Sp := fun vs H Q _ => ∃ (l : List Nat) (k : Nat) (D : Addr) (st : List Fr) (us : List V), vs = [.str (S l), .int k, .ref D] ∧ l.length ≤ 100000 ∧ k ≤ l.length ∧ H D = some (.lst us.reverse) ∧ us.length ≤ k ∧ FrsAt K H st us ∧ Bd02 l k ∧
  ∀ (k' : Nat) (st' : List Fr) (us' : List V) (H' : Hp), Mv D H H' → k ≤ k' → k' ≤ l.length → H' D = some (.lst us'.reverse) → us'.length ≤ k' → FrsAt K H' st' us' → Bd02 l k' → (∀ t, l.drop k' ≠ 40 :: t) → fin st' (R (l.drop k')) = fin st (R (l.drop k)) → Q (.int k') H'
theorem ok_atom_of (T : Txt w K mg) : FnOk P w K mg base CX0 3 T.a_atom_of T.d_atom_of p_atom_of (spAtom K) := by
  have g_is_name := ok_is_name (P := P) (base := base) T
  have g_number_of := ok_number_of (P := P) (base := base) T
  obtain ⟨_, e_number_of⟩ := T.e_number_of
  refine T.F_atom_of.ok sc_atom_of (fun vs H Q E h => ?_) (fun cdv A outer s H vs Q E hr h => ?_)
  · obtain ⟨l, rfl, _⟩ := h
    rfl
  obtain ⟨l, rfl, hl, hf, q⟩ := h
  refine ⟨_, (pss_cons (ps_if (PW.pt (pw_or (pt_cmpR op_eq (pv 0) pe_str (nomark _)) (pw_or1 (pt_cmpR op_eq (pv 0) pe_str (nomark _))))) (pss_one (ps_ret (pe_tup (pa_cons pe_str (pa_cons (pe_cmpR op_eq (pv 0) pe_str (nomark _)) pa_nil))))) pss_nil)
      (pss_cons (ps_if (pt_cmpR op_eq (pv 0) pe_str (nomark _)) (pss_one (ps_ret (pe_tup (pa_cons pe_str pa_nil)))) pss_nil)
      (pss_cons (ps_if (pt_val (pe_call g_is_name (hr.mono (by first | decide | omega)) rfl T.m_is_name T.F_is_name.kp T.b_is_name .nil pass0 (pa_cons (pv 0) pa_nil))) (pss_one (ps_ret (pe_tup (pa_cons pe_str (pa_cons (pv 0) pa_nil))))) pss_nil)
      (pss_cons (ps_set (i := 1) sc_atom_of.nd rfl (Or.inl rfl) (pe_call g_number_of (hr.mono (by first | decide | omega)) rfl T.m_number_of T.F_number_of.kp e_number_of.2 e_number_of.1 pass0 (pa_cons (pv 0) pa_nil)))
      (pss_one (ps_ret (pe_ifExp (pt_cmpR op_isN (pv 1) pe_non (nomark _)) pe_non (pe_tup (pa_cons pe_str (pa_cons (pv 1) pa_nil)))))))))), ?_⟩
  have at3 : ∀ {o : Option Ex} {v : V} {H' : Hp}, atomE l = o → Same H H' → AtomIs K H' o v → (∀ e, o = some e → v ≠ .non) → Q v H' := fun e s' a n => q _ _ s' (by rw [e]; exact a) (by rw [e]; exact n)
  refine ⟨_, rfl, rfl, _, rfl, ?_⟩
  rw [decS]
  by_cases h1 : S l = "true"
  · refine ifT (decide_eq_true h1) (ifT rfl ⟨_, rfl, rfl, by show 2 ≤ sizeLine; decide, fun p hp => ?_⟩)
    rw [decS, decide_eq_true h1]
    exact at3 (o := some (.flag true)) (by unfold atomE; rw [if_pos h1]) (Same.new hp _) ⟨p, rfl, SqT.of upd_same⟩ (fun _ _ z => by cases z)
  refine ifF (decide_eq_false h1) ⟨_, rfl, rfl, _, rfl, ?_⟩
  rw [decS]
  by_cases h2 : S l = "false"
  · refine ifT (decide_eq_true h2) ⟨_, rfl, rfl, by show 2 ≤ sizeLine; decide, fun p hp => ?_⟩
    rw [decS, decide_eq_false h1]
    exact at3 (o := some (.flag false)) (by unfold atomE; rw [if_neg h1, if_pos h2]) (Same.new hp _) ⟨p, rfl, SqT.of upd_same⟩ (fun _ _ z => by cases z)
  refine ifF (decide_eq_false h2) ⟨_, rfl, rfl, _, rfl, ?_⟩
  rw [decS]
  by_cases h3 : S l = "null"
  · refine ifT (decide_eq_true h3) ⟨by show 1 ≤ sizeLine; decide, fun p hp => ?_⟩
    exact at3 (o := some .null) (by unfold atomE; rw [if_neg h1, if_neg h2, if_pos h3]) (Same.new hp _) ⟨p, rfl, SqT.of upd_same⟩ (fun _ _ z => by cases z)
  refine ifF (decide_eq_false h3) ⟨_, rfl, l, rfl, hl, fun H1 s1 => ⟨_, rfl, ?_⟩⟩
  cases h4 : isNm l with
  | true =>
    refine ifT rfl ⟨_, rfl, by show 2 ≤ sizeLine; decide, fun p hp => ?_⟩
    exact at3 (o := some (.name (S l))) (by unfold atomE; rw [if_neg h1, if_neg h2, if_neg h3, if_pos h4]) (Same.grow (Same.none s1 hp) s1) ⟨p, rfl, SqT.of upd_same⟩ (fun _ _ z => by cases z)
  | false =>
    refine ifF rfl ⟨_, rfl, l, rfl, hl, hf, fun H2 s2 => ?_⟩
    have s12 := Same.trans s1 s2
    have an : atomE l = if isNum l = true then some (.num (numV l)) else none := by unfold atomE; rw [if_neg h1, if_neg h2, if_neg h3, if_neg (by rw [h4]; exact Bool.false_ne_true)]
    unfold numQ
    cases h5 : isNum l with
    | true =>
      rw [if_pos h5] at an
      rw [if_pos rfl]
      refine ⟨_, rfl, rfl, _, rfl, ?_⟩
      refine iteF ⟨_, rfl, by show 2 ≤ sizeLine; decide, fun p hp => ?_⟩
      exact at3 an (Same.grow (Same.none s12 hp) s12) ⟨p, rfl, SqT.of upd_same⟩ (fun _ _ z => by cases z)
    | false =>
      rw [if_neg (by rw [h5]; exact Bool.false_ne_true)] at an
      rw [if_neg Bool.false_ne_true]
      refine ⟨_, rfl, rfl, _, rfl, ?_⟩
      exact ifT rfl (at3 an s12 rfl (fun _ z => by cases z))
theorem ok_word_end (T : Txt w K mg) : FnOk P w K mg base CX0 1 T.a_word_end T.d_word_end p_word_end spWord := by
  refine T.F_word_end.ok sc_word_end (fun vs H Q E h => ?_) (fun cdv A outer s H vs Q E hr h => ?_)
  · obtain ⟨l, k, rfl, _⟩ := h
    rfl
  obtain ⟨l, k, rfl, hl, hk, q⟩ := h
  refine ⟨_, (pss_cons (ps_while PassesOwn.never (PW.pt (pw_and (pt_cmpR op_lt (pv 1) (pe_callB call_len_str rfl T.z_len PySem.boot_len (pa_cons (pv 0) pa_nil)) (nomark _)) (pw_and1 (pt_cmpR op_notIn_sign (pe_ix ix_str (pv 0) (pv 1) (fun _ _ => rfl)) pe_str (by rfl))))) (pss_one (ps_aug (i := 1) sc_word_end.nd rfl (Or.inl rfl) pe_int ip_add)))
      (pss_one (ps_ret (pv 1)))), ?_⟩
  refine ⟨fun m σ F => ∃ j, m = l.length - j ∧ k ≤ j ∧ j ≤ l.length ∧ F = H ∧ σ = L2.start n_word_end [.str (S l), .int (j : Nat)] ∧ j + (wd (l.drop j)).length = k + (wd (l.drop k)).length, ⟨_, k, rfl, Nat.le_refl _, hk, rfl, rfl, rfl⟩, ?_⟩
  rintro m σ F ⟨j, rfl, j1, j2, rfl, rfl, hw⟩
  refine ⟨_, rfl, _, rfl, S l, rfl, by rw [sizeLine_eq, S_len]; omega, _, _, rfl, rfl, _, rfl, ?_⟩
  rw [S_len]
  by_cases jl : j < l.length
  case neg =>
    refine ifF (decide_eq_false (by omega)) (iteF ⟨_, rfl, ?_⟩)
    have e : j = l.length := by omega
    have e2 : k + (wd (l.drop k)).length = j := by
      rw [← hw, e, List.drop_length]
      rfl
    rw [e2] at q
    exact q
  refine ifT (decide_eq_true (by omega)) ?_
  have hd : l.drop j = l[j] :: l.drop (j + 1) := List.drop_eq_getElem_cons jl
  have hc : l[j]? = some l[j] := List.getElem?_eq_getElem jl
  generalize l[j] = c at hd hc
  refine ⟨_, rfl, _, rfl, S l, _, c, rfl, rfl, by rw [sizeLine_eq, S_len]; omega, atI_nat hc, c, _, rfl, rfl, _, rfl, ?_⟩
  show if (!isDl c) = true then _ else _
  cases hdl : isDl c with
  | true =>
    refine ifF rfl ⟨_, rfl, ?_⟩
    rw [wd_stop hd hdl] at hw
    rw [← hw] at q
    exact q
  | false =>
    refine ifT rfl ⟨fun σ' F' => F' = F ∧ σ' = L2.start n_word_end [.str (S l), .int ((j + 1 : Nat) : Int)], ?_, ?_⟩
    · rintro σ' F' ⟨rfl, rfl⟩
      refine ⟨_, ?_, j + 1, rfl, by omega, by omega, rfl, rfl, ?_⟩
      · omega
      · rw [← hw, wd_cons hd hdl]
        omega
    · exact ⟨_, rfl, _, _, rfl, rfl, rfl, rfl⟩
def opW (K : PySem.W.Frag) (l : List Nat) (k : Nat) (D : Addr) (st : List Fr) (H : Hp) (m : Nat) (σ : L2.St) (F : Hp) : Prop :=
  ∃ (j : Nat) (st' : List Fr) (us' : List V), m = l.length - j ∧ k ≤ j ∧ j ≤ l.length ∧ σ = L2.start n_open_brackets [.str (S l), .int (j : Nat), .ref D] ∧ Mv D H F ∧ F D = some (.lst us'.reverse) ∧ us'.length ≤ j ∧ FrsAt K F st' us' ∧ Bd02 l j ∧ fin st' (R (l.drop j)) = fin st (R (l.drop k))
theorem push_mv {K : PySem.W.Frag} {D p : Addr} {F : Hp} {us : List V} {xs : List V} (hD : F D = some (.lst us.reverse)) (hp : F p = none) :
    upd F p (.tup xs) D = some (.lst us.reverse) ∧ Mv D F (upd (upd F p (.tup xs)) D (.lst (us.reverse ++ [V.ref p]))) ∧ upd (upd F p (.tup xs)) D (.lst (us.reverse ++ [V.ref p])) D = some (.lst (V.ref p :: us).reverse) ∧
      SqT K (upd (upd F p (.tup xs)) D (.lst (us.reverse ++ [V.ref p]))) p xs := by
  have n : D ≠ p := ne_of_none hD hp
  refine ⟨by rw [upd_ne n]; exact hD, ((Mv.refl D F).new hp _).put _, by rw [upd_same, List.reverse_cons], SqT.of ?_⟩
  rw [upd_ne n.symm, upd_same]
theorem s_open : ("(" : Str) = S [40] := by decide +kernel
theorem s_close : (")" : Str) = S [41] := by decide +kernel
theorem s_blank : (" " : Str) = S [32] := by decide +kernel
theorem s_not : ("(not " : Str) = S [40, 110, 111, 116, 32] := by decide +kernel
theorem drop_five {l t : List Nat} {j a b c d e : Nat} (h : l.drop j = a :: b :: c :: d :: e :: t) : l.drop (j + 5) = t ∧ j + 5 ≤ l.length ∧ l[j + 4]? = some e := by
  have h1 := drop_next h
  have h2 := drop_next h1
  have h3 := drop_next h2
  have h4 := drop_next h3
  exact ⟨drop_next h4, drop_lt h4, drop_get h4⟩
theorem ok_open_brackets (T : Txt w K mg) : FnOk P w K mg base CX0 1 T.a_open_brackets T.d_open_brackets p_open_brackets (spOpen K) := by
  obtain ⟨_, c_NEGATION_h⟩ := T.c_NEGATION
  refine T.F_open_brackets.ok sc_open_brackets (fun vs H Q E h => ?_) (fun cdv A outer s H vs Q E hr h => ?_)
  · obtain ⟨l, k, D, st, us, rfl, _⟩ := h
    rfl
  obtain ⟨l, k, D, st, us, rfl, hl, hk, hD, hu, hF, hb, q⟩ := h
  refine ⟨_, (pss_cons (ps_while PassesOwn.never (pt_val (pe_bm PySem.F.plainAttrs_str PySem.F.slot_str_startswith PySem.F.type_str_startswith mt_startswith3 (pv 0) (pa_cons pe_str (pa_cons (pv 1) pa_nil)))) (pss_one (ps_if (pt_val (pe_bm PySem.F.plainAttrs_str PySem.F.slot_str_startswith PySem.F.type_str_startswith mt_startswith3 (pv 0) (pa_cons (pe_glob (v := .str "(not ") rfl c_NEGATION_h ⟨_, rfl⟩) (pa_cons (pv 1) pa_nil)))) (pss_cons (ps_expr (pe_bm PySem.F.plainAttrs_list PySem.F.slot_list_append PySem.F.type_list_append mt_append (pv 2) (pa_cons (pe_tup (pa_cons pe_str pa_nil)) pa_nil)))
      (pss_one (ps_aug (i := 1) sc_open_brackets.nd rfl (Or.inl rfl) (pe_callB call_len_str rfl T.z_len PySem.boot_len (pa_cons (pe_glob (v := .str "(not ") rfl c_NEGATION_h ⟨_, rfl⟩) pa_nil)) ip_add))) (pss_cons (ps_expr (pe_bm PySem.F.plainAttrs_list PySem.F.slot_list_append PySem.F.type_list_append mt_append (pv 2) (pa_cons (pe_tup pa_nil) pa_nil)))
      (pss_one (ps_aug (i := 1) sc_open_brackets.nd rfl (Or.inl rfl) pe_int ip_add))))))
      (pss_one (ps_ret (pv 1)))), ?_⟩
  refine ⟨opW K l k D st H, ⟨_, k, st, us, rfl, Nat.le_refl _, hk, rfl, Mv.refl _ _, hD, hu, hF, hb, rfl⟩, ?_⟩
  rintro m σ F ⟨j, st', us', rfl, j1, j2, rfl, mv, hD', hu', hF', hb', he⟩
  refine ⟨_, rfl, rfl, _, rfl, S l, _, _, rfl, rfl, _, rfl, ?_⟩
  rw [show Str.ofString "(" = S [40] from s_open]
  by_cases ho : ∃ t, l.drop j = 40 :: t
  case neg =>
    rw [sw3_not (fun r e => ho ⟨r, e⟩)]
    refine ifF rfl ⟨_, rfl, ?_⟩
    exact q j st' us' F mv j1 j2 hD' hu' hF' hb' (fun t e => ho ⟨t, e⟩) he
  obtain ⟨t, ho⟩ := ho
  rw [sw3_pre (p := [40]) (r := t) ho j2]
  refine ifT rfl ⟨fun σ' F' => ∃ m', m' < l.length - j ∧ opW K l k D st H m' σ' F', fun _ _ h => h, ?_⟩
  refine ⟨_, rfl, rfl, _, rfl, S l, _, _, rfl, rfl, _, rfl, ?_⟩
  rw [show Str.ofString "(not " = S [40, 110, 111, 116, 32] from s_not]
  have jl := drop_lt ho
  by_cases hn : ∃ t2, t = 110 :: 111 :: 116 :: 32 :: t2
  · obtain ⟨t2, rfl⟩ := hn
    rw [sw3_pre (p := [40, 110, 111, 116, 32]) (r := t2) ho j2]
    obtain ⟨d5, l5, g4⟩ := drop_five ho
    refine ifT rfl ⟨_, rfl, .inl ⟨rfl, _, .of hD'⟩, by show 1 ≤ sizeLine; decide, fun p hp => ?_⟩
    obtain ⟨h1, h2, h3, h4⟩ := push_mv (K := K) (xs := [.str "not"]) hD' hp
    refine ⟨D, _, _, rfl, rfl, h1, lt_line (by rw [List.length_reverse]; omega), _, rfl, S [40, 110, 111, 116, 32], rfl, by decide, _, _, rfl, rfl, ?_⟩
    refine ⟨l.length - (j + 5), by omega, j + 5, .neg :: st', .ref p :: us', rfl, by omega, l5, rfl, mv.trans h2, h3, by rw [List.length_cons]; omega, ⟨⟨p, rfl, h4⟩, hF'.keep (h2.keeps hD')⟩, .inr ⟨j + 4, 32, rfl, g4, by decide +kernel⟩, ?_⟩
    rw [← he, ho, fin_neg, d5]
  · rw [sw3_not (l := l) (p := [40, 110, 111, 116, 32]) (k := j) (fun r e => hn ⟨r, by rw [ho] at e; exact (List.cons.inj e).2⟩)]
    refine ifF rfl ⟨_, rfl, .inl ⟨rfl, _, .of hD'⟩, by show 0 ≤ sizeLine; decide, fun p hp => ?_⟩
    obtain ⟨h1, h2, h3, h4⟩ := push_mv (K := K) (xs := []) hD' hp
    refine ⟨D, _, _, rfl, rfl, h1, lt_line (by rw [List.length_reverse]; omega), _, rfl, _, _, rfl, rfl, ?_⟩
    refine ⟨l.length - (j + 1), by omega, j + 1, .opn :: st', .ref p :: us', rfl, by omega, jl, rfl, mv.trans h2, h3, by rw [List.length_cons]; omega, ⟨⟨p, rfl, h4⟩, hF'.keep (h2.keeps hD')⟩, .inr ⟨j, 40, rfl, drop_get ho, by decide +kernel⟩, ?_⟩
    rw [← he, ho, fin_opn st' (fun r e => hn ⟨r, e⟩), drop_next ho]
end
open PySem L2 ExV
/-! ### the closing brackets and the operators -/
theorem ExAt.ref {K : PySem.W.Frag} {H : Hp} : ∀ {e : Ex} {v : V}, ExAt K H e v → ∃ p, v = .ref p
  | .num _, _, ⟨p, e, _⟩ => ⟨p, e⟩
  | .name _, _, ⟨p, e, _⟩ => ⟨p, e⟩
  | .flag _, _, ⟨p, e, _⟩ => ⟨p, e⟩
  | .null, _, ⟨p, e, _⟩ => ⟨p, e⟩
  | .not _, _, ⟨p, _, e, _⟩ => ⟨p, e⟩
  | .bin _ _ _, _, ⟨p, _, _, e, _⟩ => ⟨p, e⟩
def CloseIs (K : PySem.W.Frag) (H : Hp) (st : List Fr) (o : Option (Ex × List Nat)) (s : List Nat) (st' : List Fr) (v : V) : Prop :=
  (v = .non ∧ fin st o = none) ∨ (∃ e', ExAt K H e' v ∧ (st' = [] ∨ ∃ s2, st' = .opn :: s2) ∧ fin st' (some (e', s)) = fin st o)
section
variable {P : Program} {w : World} {K : PySem.W.Frag} {mg : Str → Option Value} {base : Heap}
def spClose (K : PySem.W.Frag) : Sp := fun vs H Q _ => ∃ (l : List Nat) (k : Nat) (D : Addr) (st : List Fr) (us : List V) (e : Ex) (v : V), vs = [.str (S l), .int k, .ref D, v] ∧ l.length ≤ 100000 ∧ k ≤ l.length ∧ H D = some (.lst us.reverse) ∧ us.length ≤ 100000 ∧ FrsAt K H st us ∧ ExAt K H e v ∧
  ∀ (p : Addr) (v' : V) (k' : Nat) (st' : List Fr) (us' : List V) (H' : Hp), Mv D H H' → k ≤ k' → k' ≤ l.length → H' D = some (.lst us'.reverse) → us'.length ≤ us.length → FrsAt K H' st' us' → CloseIs K H' st (some (e, l.drop k)) (l.drop k') st' v' →
    H' p = some (.tup [v', .int k']) → H p = none → Q (.ref p) H'
def comb : Fr → Ex → Ex
  | .opn, e => e
  | .neg, e => .not e
  | .mid op a, e => .bin op a e
theorem FrAt.parts {K : PySem.W.Frag} {H : Hp} {f : Fr} {u : V} (h : FrAt K H f u) (n : f ≠ .opn) : ∃ pu xs, u = .ref pu ∧ SqT K H pu xs ∧ xs.length ≤ 2 ∧ (!xs.isEmpty) = true ∧
    (∀ {e : Ex} {v : V} (H' : Hp) (p : Addr), Keeps K H H' → ExAt K H' e v → SqT K H' p (xs ++ [v]) → ExAt K H' (comb f e) (.ref p)) ∧
    ∀ {st : List Fr} {e : Ex} {r : List Nat}, fin (f :: st) (some (e, r)) = match r with | 41 :: r => fin st (some (comb f e, r)) | _ => none := by
  cases f with
  | opn => exact absurd rfl n
  | neg =>
    obtain ⟨pu, rfl, h⟩ := h
    exact ⟨pu, _, rfl, h, by decide, rfl, fun H' p k a b => ⟨p, _, rfl, b, a⟩, rfl⟩
  | mid op a =>
    obtain ⟨pu, x, rfl, h, ha⟩ := h
    exact ⟨pu, _, rfl, h, by show 2 ≤ 2; decide, rfl, fun H' p k c b => ⟨p, _, _, rfl, b, ha.keep k, c⟩, rfl⟩
def cbW (K : PySem.W.Frag) (l : List Nat) (k : Nat) (D : Addr) (st : List Fr) (us : List V) (e : Ex) (H : Hp) (m : Nat) (σ : L2.St) (F : Hp) : Prop :=
  ∃ (j : Nat) (st' : List Fr) (us' : List V) (e' : Ex) (v' : V), m = us'.length ∧ k ≤ j ∧ j ≤ l.length ∧ σ = L2.start n_close_brackets [.str (S l), .int (j : Nat), .ref D, v'] ∧ Mv D H F ∧ F D = some (.lst us'.reverse) ∧ us'.length ≤ us.length ∧ FrsAt K F st' us' ∧ ExAt K F e' v' ∧ fin st' (some (e', l.drop j)) = fin st (some (e, l.drop k))
theorem Mv.none {D p : Addr} {H H' : Hp} {o : HO} (hD : H' D = some o) (s : Mv D H H') (n : H' p = none) : H p = none := by
  cases e : H p with
  | none => rfl
  | some u =>
    have ne : p ≠ D := by
      intro h
      rw [h, hD] at n
      cases n
    rw [s _ _ ne e] at n
    cases n
theorem ok_close_brackets (T : Txt w K mg) : FnOk P w K mg base CX0 1 T.a_close_brackets T.d_close_brackets p_close_brackets (spClose K) := by
  refine T.F_close_brackets.ok sc_close_brackets (fun vs H Q E h => ?_) (fun cdv A outer s H vs Q E hr h => ?_)
  · obtain ⟨l, k, D, st, us, e, v, rfl, _⟩ := h
    rfl
  obtain ⟨l, k, D, st, us, e, v, rfl, hl, hk, hD, hu, hF, he, q⟩ := h
  refine ⟨_, (pss_cons (ps_while PassesOwn.never (PW.pt (pw_and (pt_truth (pv 2) (by intro _; rfl)) (pw_and1 (pt_truth (pe_ix ix_list (pv 2) (pe_un un_neg pe_int) (fun _ _ => rfl)) (by intro _; rfl))))) (pss_cons (ps_if (pt_not (pt_val (pe_bm PySem.F.plainAttrs_str PySem.F.slot_str_startswith PySem.F.type_str_startswith mt_startswith3 (pv 0) (pa_cons pe_str (pa_cons (pv 1) pa_nil))))) (pss_one (ps_ret (pe_tup (pa_cons pe_non (pa_cons (pv 1) pa_nil))))) pss_nil)
      (pss_cons (ps_set (i := 3) sc_close_brackets.nd rfl (Or.inl rfl) (pe_tup (StX.pa_star (pe_bm0 PySem.F.plainAttrs_list PySem.F.slot_list_pop PySem.F.type_list_pop mt_pop (pv 2)) (pa_cons (pv 3) pa_nil))))
      (pss_one (ps_aug (i := 1) sc_close_brackets.nd rfl (Or.inl rfl) pe_int ip_add)))))
      (pss_one (ps_ret (pe_tup (pa_cons (pv 3) (pa_cons (pv 1) pa_nil)))))), ?_⟩
  refine ⟨cbW K l k D st us e H, ⟨_, k, st, us, e, v, rfl, Nat.le_refl _, hk, rfl, Mv.refl _ _, hD, Nat.le_refl _, hF, he, rfl⟩, ?_⟩
  rintro m σ F ⟨j, st', us', e', v', rfl, j1, j2, rfl, mv, hD', hu', hF', he', hq⟩
  have done : ∀ vv p, F p = none → CloseIs K (upd F p (.tup [vv, .int j])) st (some (e, l.drop k)) (l.drop j) st' vv → Q (.ref p) (upd F p (.tup [vv, .int j])) := fun vv p hp h => by
    have n : D ≠ p := ne_of_none hD' hp
    exact q p vv j st' us' _ (mv.new hp _) j1 j2 (by rw [upd_ne n]; exact hD') hu' (hF'.keep (Keeps.of_same (Same.new hp _))) h upd_same (mv.none hD' hp)
  refine ⟨_, rfl, _, .inl ⟨_, .of hD', rfl⟩, ?_⟩
  cases us' with
  | nil =>
    cases st' with
    | cons f r => exact hF'.elim
    | nil =>
      refine ifF rfl (iteF ⟨_, rfl, _, rfl, by show 2 ≤ sizeLine; decide, fun p hp => ?_⟩)
      exact done _ p hp (.inr ⟨e', he'.keep (Keeps.of_same (Same.new hp _)), .inl rfl, hq⟩)
  | cons u us2 =>
  cases st' with
  | nil => exact hF'.elim
  | cons f st2 =>
  obtain ⟨hf, hF2⟩ := hF'
  rw [List.reverse_cons] at hD'
  refine ifT (by rw [List.reverse_cons]; cases us2.reverse <;> rfl) ?_
  refine ⟨_, rfl, _, rfl, D, _, -1, u, rfl, rfl, .of hD', atI_last _ _, ?_⟩
  by_cases fo : f = .opn
  · subst fo
    obtain ⟨pu, rfl, h⟩ := hf
    refine ⟨_, .inr (.inl ⟨_, h, rfl⟩), ifF rfl ⟨_, rfl, _, rfl, by show 2 ≤ sizeLine; decide, fun p hp => ?_⟩⟩
    exact done _ p hp (.inr ⟨e', he'.keep (Keeps.of_same (Same.new hp _)), .inr ⟨st2, rfl⟩, hq⟩)
  obtain ⟨pu, xs, rfl, hxs, lx, nx, mk, fe⟩ := hf.parts fo
  refine ⟨_, .inr (.inl ⟨_, hxs, rfl⟩), ifT nx ⟨fun σ' F' => ∃ m', m' < (V.ref pu :: us2).length ∧ cbW K l k D st us e H m' σ' F', fun _ _ h => h, ?_⟩⟩
  refine ⟨_, rfl, rfl, _, rfl, S l, _, _, rfl, rfl, _, rfl, ?_⟩
  rw [show Str.ofString ")" = S [41] from s_close]
  by_cases hc : ∃ t, l.drop j = 41 :: t
  case neg =>
    rw [sw3_not (l := l) (p := [41]) (k := j) (fun r h => hc ⟨r, h⟩)]
    refine ifT rfl ⟨_, rfl, by show 2 ≤ sizeLine; decide, fun p hp => ?_⟩
    refine done _ p hp (.inl ⟨rfl, ?_⟩)
    rw [← hq, fe]
    split
    · rename_i heq
      exact absurd ⟨_, heq⟩ hc
    · rfl
  obtain ⟨t, hc⟩ := hc
  rw [sw3_pre (p := [41]) (r := t) hc j2]
  have jl := drop_lt hc
  have dl : (us2.reverse ++ [V.ref pu]).dropLast = us2.reverse := List.dropLast_concat
  have mvD : Mv D F (upd F D (.lst (us2.reverse ++ [V.ref pu]).dropLast)) := (Mv.refl D F).put _
  refine ifF rfl ⟨_, rfl, .inl ⟨rfl, _, .of hD'⟩, D, _, V.ref pu, rfl, rfl, hD', by simp, pu, xs, rfl, .inl (mvD.keeps hD' _ _ hxs), _, rfl, ?_, fun p hp => ?_⟩
  · rw [sizeLine_eq, List.length_append]
    show xs.length + 1 ≤ _
    omega
  have nD : D ≠ p := by
    rintro rfl
    rw [upd_same] at hp
    cases hp
  have mv2 := mvD.new hp (.tup (xs ++ [v']))
  refine ⟨_, rfl, _, _, rfl, rfl, us2.length, by rw [List.length_cons]; omega, j + 1, st2, us2, comb f e', .ref p, rfl, by omega, jl, rfl, mv.trans mv2, ?_, ?_, hF2.keep (mv2.keeps hD'), ?_, ?_⟩
  · rw [upd_ne nD, upd_same, dl]
  · rw [List.length_cons] at hu'
    omega
  · exact mk _ p (mv2.keeps hD') (he'.keep (mv2.keeps hD')) (.of upd_same)
  · rw [← hq, fe, hc, drop_next hc]
    rfl
theorem opAt_no {c : Nat} {t : List Nat} (h : c ≠ 32 ∨ 32 ∉ t) : opAt (c :: t) = none := by
  unfold opAt
  split
  · rename_i heq
    obtain ⟨rfl, rfl⟩ := List.cons.inj heq
    rcases h with h | h
    · exact absurd rfl h
    · rw [if_neg (fun z => h z.1)]
  · rfl
theorem split_at {t : List Nat} (h : 32 ∈ t) : ∃ a r, t = a ++ 32 :: r ∧ t.takeWhile (· != 32) = a ∧ 32 ∉ a ∧ (t.dropWhile (· != 32)).tail = r := by
  induction t with
  | nil => cases h
  | cons c t ih =>
    by_cases hc : c = 32
    · subst hc
      exact ⟨[], t, rfl, rfl, by simp, rfl⟩
    · obtain ⟨a, r, h1, h2, h3, h4⟩ := ih (by
        rcases List.mem_cons.mp h with h | h
        · exact absurd h.symm hc
        · exact h)
      have e : (c != 32) = true := by rw [bne_iff_ne]; exact hc
      refine ⟨c :: a, r, by rw [h1]; rfl, ?_, ?_, ?_⟩
      · rw [List.takeWhile_cons_of_pos (p := fun x => x != 32) e, h2]
      · intro z
        rcases List.mem_cons.mp z with z | z
        · exact hc z.symm
        · exact h3 z
      · rw [List.dropWhile_cons_of_pos (p := fun x => x != 32) e, h4]
def spOpEnd : Sp := fun vs H Q _ => ∃ (l : List Nat) (k : Nat), vs = [.str (S l), .int k] ∧ l.length ≤ 100000 ∧ k ≤ l.length ∧
  (opAt (l.drop k) = none → Q .non H) ∧
  ∀ (o r : List Nat) (k' : Nat), opAt (l.drop k) = some (S o, r) → l.drop k = 32 :: (o ++ 32 :: r) → k' = k + o.length + 2 → k' ≤ l.length → l.drop k' = r → Bd02 l k' → Q (.int k') H
theorem ok_operator_end (T : Txt w K mg) : FnOk P w K mg base CX0 1 T.a_operator_end T.d_operator_end p_operator_end spOpEnd := by
  obtain ⟨d_OPERATORS, c_OPERATORS_h⟩ := T.c_OPERATORS
  refine T.F_operator_end.ok sc_operator_end (fun vs H Q E h => ?_) (fun cdv A outer s H vs Q E hr h => ?_)
  · obtain ⟨l, k, rfl, _⟩ := h
    rfl
  obtain ⟨l, k, rfl, hl, hk, q0, q1⟩ := h
  refine ⟨_, (pss_cons (ps_set (i := 2) sc_operator_end.nd rfl (Or.inl rfl) (pe_bm PySem.F.plainAttrs_str PySem.F.slot_str_find PySem.F.type_str_find mt_find3 (pv 0) (pa_cons pe_str (pa_cons (pe_op op_add (pv 1) pe_int) pa_nil))))
      (pss_cons (ps_if (PW.pt (pw_or (pt_cmpR op_lt (pv 2) pe_int (nomark _)) (pw_or (pt_cmpR op_ne (pe_ix ix_str (pv 0) (pv 1) (fun _ _ => rfl)) pe_str (nomark _)) (pw_or1 (pt_cmpR op_notIn_seq (pe_slice sl_str (pv 0) (po_some (pe_op op_add (pv 1) pe_int)) (po_some (pv 2))) (pe_glob (v := .ref d_OPERATORS) rfl c_OPERATORS_h rfl) (by rfl)))))) (pss_one (ps_ret pe_non)) pss_nil)
      (pss_one (ps_ret (pe_op op_add (pv 2) pe_int))))), ?_⟩
  refine ⟨_, rfl, rfl, _, rfl, _, _, rfl, rfl, S l, _, _, rfl, rfl, ?_⟩
  rw [show Str.ofString " " = S [32] from s_blank, show ((k : Int) + 1) = ((k + 1 : Nat) : Int) from rfl]
  by_cases hm : 32 ∈ l.drop (k + 1)
  case neg =>
    rw [find_none hm]
    refine ⟨_, rfl, _, _, rfl, rfl, _, rfl, ifT (by decide) (ifT rfl (q0 ?_))⟩
    cases hd : l.drop k with
    | nil => rfl
    | cons c t =>
      rw [drop_next hd] at hm
      exact opAt_no (.inr hm)
  obtain ⟨a, r, ha, hr2, hn, hw⟩ := split_at hm
  rw [find_some ha hn]
  have kl : k < l.length := by
    have e := congrArg List.length ha
    rw [List.length_drop, List.length_append, List.length_cons] at e
    omega
  have hd : l.drop k = l[k] :: l.drop (k + 1) := List.drop_eq_getElem_cons kl
  have hc : l[k]? = some l[k] := List.getElem?_eq_getElem kl
  generalize l[k] = c at hd hc
  refine ⟨_, rfl, _, _, rfl, rfl, _, rfl, ifF (decide_eq_false (by omega)) ?_⟩
  refine ⟨_, rfl, _, rfl, S l, _, c, rfl, rfl, by rw [sizeLine_eq, S_len]; omega, atI_nat hc, rfl, _, rfl, ?_⟩
  by_cases c32 : c = 32
  case neg =>
    refine ifT (by rw [show (V.str (Str.mk #[c])) = V.str (S [c]) from rfl, decS, decide_eq_false (fun h => c32 (List.cons.inj (S_inj h)).1)]; rfl) (ifT rfl (q0 ?_))
    rw [hd]
    exact opAt_no (.inl c32)
  subst c32
  refine ifF (by decide +kernel) ?_
  refine ⟨_, rfl, _, rfl, _, _, rfl, rfl, _, rfl, _, rfl, _, rfl, S l, rfl, by rw [sizeLine_eq, S_len]; omega, d_OPERATORS, opsL.map V.str, rfl, .inr (T.t_OPERATORS _ c_OPERATORS_h _), rfl, flat_strs _, _, rfl, ?_⟩
  rw [show ((k : Int) + 1) = ((k + 1 : Nat) : Int) from rfl, cutS_to l (k + 1) (k + 1 + a.length) a (32 :: r) ha rfl kl, in_strs, if_pos rfl]
  have ho : opAt (l.drop k) = if S a ∈ opsL then some (S a, r) else none := by
    rw [hd]
    show (if 32 ∈ l.drop (k + 1) ∧ S ((l.drop (k + 1)).takeWhile (· != 32)) ∈ opsL then some (S ((l.drop (k + 1)).takeWhile (· != 32)), ((l.drop (k + 1)).dropWhile (· != 32)).tail) else none) = _
    rw [hr2, hw]
    by_cases hop : S a ∈ opsL
    · rw [if_pos ⟨hm, hop⟩, if_pos hop]
    · rw [if_neg (fun z => hop z.2), if_neg hop]
  by_cases hop : S a ∈ opsL
  case neg =>
    rw [if_neg hop] at ho
    exact ifT (by rw [decide_eq_false hop]; rfl) (q0 ho)
  rw [if_pos hop] at ho
  refine ifF (by rw [decide_eq_true hop]; rfl) ⟨_, rfl, _, _, rfl, rfl, ?_⟩
  have le : k + a.length + 2 ≤ l.length := by
    have e := congrArg List.length ha
    rw [List.length_drop, List.length_append, List.length_cons] at e
    omega
  have hd2 : l.drop (k + 1 + a.length) = 32 :: r := by rw [← List.drop_drop, ha, List.drop_left]
  have e2 : k + a.length + 2 = k + 1 + a.length + 1 := by omega
  have := q1 a r (k + a.length + 2) ho (by rw [hd, ha]) rfl le (by rw [e2]; exact drop_next hd2) (.inr ⟨k + 1 + a.length, 32, by omega, drop_get hd2, by decide +kernel⟩)
  rw [e2] at this
  exact this
end
open PySem L2 ExV
/-! ### the scanner -/
section
variable {P : Program} {w : World} {K : PySem.W.Frag} {mg : Str → Option Value} {base : Heap}
def spScan (K : PySem.W.Frag) : Sp := fun vs H Q _ => ∃ l : List Nat, vs = [.str (S l)] ∧ WOk l ∧ ∀ v H', Same H H' → AtomIs K H' (fin [] (R l)) v → (∀ e, fin [] (R l) = some e → v ≠ .non) → Q v H'
theorem ixN_last (n : Nat) : ixN (n + 1) (-1) = some n := by
  unfold ixN
  simp
  omega
def scW (K : PySem.W.Frag) (l : List Nat) (D : Addr) (H : Hp) (m : Nat) (σ : L2.St) (F : Hp) : Prop :=
  ∃ (j : Nat) (st : List Fr) (us : List V) (x y z : Option V), m = l.length - j ∧ j ≤ l.length ∧ σ = [some (.str (S l)), some (.ref D), some (.int (j : Nat)), x, y, z] ∧ Mv D H F ∧ F D = some (.lst us.reverse) ∧ us.length ≤ j ∧ FrsAt K F st us ∧ Bd02 l j ∧ fin st (R (l.drop j)) = fin [] (R l)
theorem ok_scan_expression (T : Txt w K mg) : FnOk P w K mg base CX0 4 T.a_scan_expression T.d_scan_expression p_scan_expression (spScan K) := by
  have g_open_brackets := ok_open_brackets (P := P) (base := base) T
  have g_word_end := ok_word_end (P := P) (base := base) T
  have g_atom_of := ok_atom_of (P := P) (base := base) T
  have g_close_brackets := ok_close_brackets (P := P) (base := base) T
  have g_operator_end := ok_operator_end (P := P) (base := base) T
  refine T.F_scan_expression.ok sc_scan_expression (fun vs H Q E h => ?_) (fun cdv A outer s H vs Q E hr h => ?_)
  · obtain ⟨l, rfl, _⟩ := h
    rfl
  obtain ⟨l, rfl, ⟨hl, hw⟩, q⟩ := h
  refine ⟨_, (pss_cons (ps_set (i := 1) sc_scan_expression.nd rfl (Or.inl rfl) (pe_lst pa_nil))
      (pss_cons (ps_set (i := 2) sc_scan_expression.nd rfl (Or.inl rfl) pe_int)
      (pss_one (ps_while PassesOwn.never (pt_val pe_bl) (pss_cons (ps_set (i := 2) sc_scan_expression.nd rfl (Or.inl rfl) (pe_call g_open_brackets (hr.mono (by first | decide | omega)) rfl T.m_open_brackets T.F_open_brackets.kp T.b_open_brackets .nil pass0 (pa_cons (pv 0) (pa_cons (pv 2) (pa_cons (pv 1) pa_nil)))))
      (pss_cons (ps_set (i := 3) sc_scan_expression.nd rfl (Or.inl rfl) (pe_call g_word_end (hr.mono (by first | decide | omega)) rfl T.m_word_end T.F_word_end.kp T.b_word_end .nil pass0 (pa_cons (pv 0) (pa_cons (pv 2) pa_nil))))
      (pss_cons (ps_set (i := 4) sc_scan_expression.nd rfl (Or.inl rfl) (pe_call g_atom_of (hr.mono (by first | decide | omega)) rfl T.m_atom_of T.F_atom_of.kp T.b_atom_of .nil pass0 (pa_cons (pe_slice sl_str (pv 0) (po_some (pv 2)) (po_some (pv 3))) pa_nil)))
      (pss_cons (ps_if (pt_cmpR op_isN (pv 4) pe_non (nomark _)) (pss_one (ps_ret pe_non)) pss_nil)
      (pss_cons (ps_asg (pe_call g_close_brackets (hr.mono (by first | decide | omega)) rfl T.m_close_brackets T.F_close_brackets.kp T.b_close_brackets .nil pass0 (pa_cons (pv 0) (pa_cons (pv 3) (pa_cons (pv 1) (pa_cons (pv 4) pa_nil))))) (pg_tup rfl (pgs_cons (pg_name (i := 5) sc_scan_expression.nd rfl (Or.inl rfl)) (pgs_cons (pg_name (i := 2) sc_scan_expression.nd rfl (Or.inl rfl)) pgs_nil))))
      (pss_cons (ps_if (PW.pt (pw_or (pt_cmpR op_isN (pv 5) pe_non (nomark _)) (pw_or1 (pt_not (pt_truth (pv 1) (by intro _; rfl)))))) (pss_one (ps_ret (pe_ifExp (pt_cmpR op_eq (pv 2) (pe_callB call_len_str rfl T.z_len PySem.boot_len (pa_cons (pv 0) pa_nil)) (nomark _)) (pv 5) pe_non))) pss_nil)
      (pss_cons (ps_set (i := 3) sc_scan_expression.nd rfl (Or.inl rfl) (pe_call g_operator_end (hr.mono (by first | decide | omega)) rfl T.m_operator_end T.F_operator_end.kp T.b_operator_end .nil pass0 (pa_cons (pv 0) (pa_cons (pv 2) pa_nil))))
      (pss_cons (ps_if (pt_cmpR op_isN (pv 3) pe_non (nomark _)) (pss_one (ps_ret pe_non)) pss_nil)
      (pss_cons (ps_asg (pe_tup (pa_cons (pe_slice sl_str (pv 0) (po_some (pe_op op_add (pv 2) pe_int)) (po_some (pe_op op_sub (pv 3) pe_int))) (pa_cons (pv 5) pa_nil))) (pg_sub (pv 1) (pe_un un_neg pe_int) set_list))
      (pss_one (ps_set (i := 2) sc_scan_expression.nd rfl (Or.inl rfl) (pv 3)))))))))))))))), ?_⟩
  refine ⟨by show 0 ≤ sizeLine; decide, fun D hD => ?_⟩
  refine ⟨scW K l D H, ⟨_, 0, [], [], _, _, _, rfl, Nat.zero_le _, rfl, (Mv.refl D H).put _, upd_same, Nat.zero_le _, trivial, .inl rfl, rfl⟩, ?_⟩
  rintro m σ F ⟨j, st, us, x, y, z, rfl, jl, rfl, mv, hF, hu, hS, hb, he⟩
  have out : ∀ v H', Mv D F H' → AtomIs K H' (fin [] (R l)) v → (∀ e, fin [] (R l) = some e → v ≠ .non) → Q v H' := fun v H' mm a n => q v H' (fun b o e => mm b o (ne_of_none e hD) (mv b o (ne_of_none e hD) e)) a n
  refine ⟨_, rfl, ifT rfl ⟨fun σ' F' => ∃ m', m' < l.length - j ∧ scW K l D H m' σ' F', fun _ _ h => h, ?_⟩⟩
  refine ⟨_, rfl, _, rfl, _, rfl, l, j, D, st, us, rfl, hl, jl, hF, hu, hS, hb, fun k1 st1 us1 H1 mv1 jk k1l hD1 hu1 hS1 hb1 no1 e1 => ?_⟩
  refine ⟨_, rfl, _, rfl, l, k1, rfl, hl, k1l, ?_⟩
  have wl : k1 + (wd (l.drop k1)).length ≤ l.length := by
    have e := congrArg List.length (wd_app (l.drop k1))
    rw [List.length_drop, List.length_append] at e
    omega
  have wr : l.drop (k1 + (wd (l.drop k1)).length) = wdR (l.drop k1) := by
    rw [← List.drop_drop]
    conv => lhs; rw [wd_app (l.drop k1)]
    have e : wd (wd (l.drop k1) ++ wdR (l.drop k1)) = wd (l.drop k1) := by rw [← wd_app]
    rw [e, List.drop_left]
  refine ⟨_, rfl, _, rfl, _, rfl, _, rfl, _, rfl, S l, rfl, by rw [sizeLine_eq, S_len]; omega, ?_⟩
  rw [cutS_to l k1 _ (wd (l.drop k1)) (wdR (l.drop k1)) (wd_app _) rfl k1l]
  rw [R_atom no1] at e1
  refine ⟨_, rfl, by omega, hw k1 k1l hb1, fun v H2 s2 ha hn => ?_⟩
  have mv2 := mv1.trans (Mv.of_same (D := D) s2)
  have hD2 := s2 _ _ hD1
  cases ho : atomE (wd (l.drop k1)) with
  | none =>
    rw [ho] at ha e1
    obtain rfl : v = .non := ha
    have fz : fin [] (R l) = none := by rw [← he, ← e1]; exact fin_none _
    refine ⟨_, rfl, rfl, _, rfl, ifT rfl ?_⟩
    exact out .non H2 mv2 (by rw [fz]; exact rfl) (by rw [fz]; exact fun _ z => by cases z)
  | some e =>
  rw [ho] at ha e1
  have ha : ExAt K H2 e v := ha
  obtain ⟨pv, rfl⟩ := ha.ref
  have e1 : fin st1 (some (e, wdR (l.drop k1))) = fin [] (R l) := e1.trans he
  refine ⟨_, rfl, rfl, _, rfl, ifF rfl ?_⟩
  refine ⟨_, rfl, _, rfl, _, rfl, _, rfl, l, k1 + (wd (l.drop k1)).length, D, st1, us1, e, .ref pv, rfl, hl, wl, hD2, by omega, hS1.keep (Keeps.of_same s2), ha, fun p v' k' st' us' H3 mv3 kk k'l hD3 hu3 hS3 cl hp hp0 => ?_⟩
  unfold CloseIs at cl
  rw [wr, e1] at cl
  have mv3 := mv2.trans mv3
  refine ⟨p, _, rfl, .of hp, rfl, _, _, rfl, _, _, rfl, rfl, ?_⟩
  rcases cl with ⟨rfl, fz⟩ | ⟨e', he', hst, hf⟩
  · have z : Q .non H3 := out .non H3 mv3 (by rw [fz]; exact rfl) (by rw [fz]; exact fun _ z => by cases z)
    refine ⟨_, rfl, rfl, _, rfl, ifT rfl (ifT rfl ⟨_, rfl, _, rfl, S l, rfl, by rw [sizeLine_eq, S_len]; omega, rfl, _, rfl, ?_⟩)⟩
    by_cases hb2 : V.int (k' : Int) = V.int ((S l).length : Int)
    · exact ifT (decide_eq_true hb2) ⟨_, rfl, z⟩
    · exact ifF (decide_eq_false hb2) z
  obtain ⟨p', rfl⟩ := he'.ref
  refine ⟨_, rfl, rfl, _, rfl, ifF rfl ⟨_, rfl, _, .inl ⟨_, .of hD3, rfl⟩, ?_⟩⟩
  rcases hst with rfl | ⟨s2', rfl⟩
  · cases us' with
    | cons a b => exact hS3.elim
    | nil =>
      have hf : (if l.drop k' = [] then some e' else none) = fin [] (R l) := hf
      refine ifT rfl ⟨_, rfl, _, rfl, S l, rfl, by rw [sizeLine_eq, S_len]; omega, rfl, _, rfl, ?_⟩
      rw [S_len]
      by_cases hk : k' = l.length
      · refine ifT (decide_eq_true (by rw [hk])) ⟨_, rfl, ?_⟩
        rw [if_pos (by rw [hk, List.drop_length])] at hf
        exact out _ H3 mv3 (by rw [← hf]; exact he') (fun _ _ z => by cases z)
      · refine ifF (decide_eq_false (fun z => hk (by have := V.int.inj z; omega))) ?_
        rw [if_neg (by intro z; have e := congrArg List.length z; rw [List.length_drop] at e; simp only [List.length_nil] at e; omega)] at hf
        exact out _ H3 mv3 (by rw [← hf]; exact rfl) (by rw [← hf]; exact fun _ z => by cases z)
  cases us' with
  | nil => exact hS3.elim
  | cons u us2 =>
  obtain ⟨_, hS4⟩ := hS3
  have nemp : (!(V.ref p' :: us2).reverse.isEmpty) = true := by rw [List.reverse_cons]; cases us2.reverse <;> rfl
  refine ifF (by rw [List.reverse_cons]; cases us2.reverse <;> rfl) ?_
  refine ⟨_, rfl, _, rfl, l, k', rfl, hl, k'l, fun hno => ?_, fun o r k'' hop hdr ek le hd2 hb2 => ?_⟩
  · rw [fin_noop s2' hno] at hf
    exact ⟨_, rfl, rfl, _, rfl, ifT rfl (out .non H3 mv3 (by rw [← hf]; exact rfl) (by rw [← hf]; exact fun _ z => by cases z))⟩
  rw [fin_op s2' hop] at hf
  refine ⟨_, rfl, rfl, _, rfl, ifF rfl ?_⟩
  have dk := drop_next hdr
  rw [List.reverse_cons] at hD3
  refine ⟨_, rfl, _, rfl, _, _, rfl, rfl, _, rfl, _, rfl, _, _, rfl, rfl, _, rfl, S l, rfl, by rw [sizeLine_eq, S_len]; omega, _, rfl, by show 2 ≤ sizeLine; decide, fun p2 hp2 => ?_⟩
  rw [show ((k' : Int) + 1) = ((k' + 1 : Nat) : Int) from rfl, show ((k'' : Int) - 1) = ((k' + 1 + o.length : Nat) : Int) by omega, cutS_to l (k' + 1) _ o (32 :: r) dk rfl (by omega)]
  have nD : D ≠ p2 := ne_of_none hD3 hp2
  refine ⟨_, rfl, _, rfl, D, _, -1, us2.length, rfl, rfl, by rw [upd_ne nD]; exact hD3, by rw [List.length_append, List.length_reverse]; exact ixN_last _, _, rfl, ?_⟩
  have mv4 : Mv D H3 (upd (upd H3 p2 (.tup [V.str (S o), V.ref p'])) D (.lst ((us2.reverse ++ [u]).set us2.length (V.ref p2)))) := ((Mv.refl D H3).new hp2 _).put _
  have kp := mv4.keeps (K := K) hD3
  refine ⟨l.length - k'', by omega, k'', .mid (S o) e' :: s2', .ref p2 :: us2, _, _, _, rfl, le, rfl, mv.trans (mv3.trans mv4), ?_, ?_, ⟨⟨p2, _, rfl, .of ?_, he'.keep kp⟩, hS4.keep kp⟩, hb2, by rw [hd2]; exact hf⟩
  · rw [upd_same, List.reverse_cons, List.set_append_right _ _ (by rw [List.length_reverse]; exact Nat.le_refl _), List.length_reverse, Nat.sub_self]
    rfl
  · rw [List.length_cons] at hu3 ⊢
    omega
  · rw [upd_ne nD.symm, upd_same]
end
open PySem L2 ExV
/-! ### the texts that the errors say -/
def numS (i : Int) : Str := Str.ofString (toString i)
theorem len_app (x y : Str) : (x ++ y).length = x.length + y.length := Array.size_append
theorem numS_len {i : Int} (h : -1000000000 ≤ i ∧ i ≤ 1000000000) : (numS i).length ≤ 11 := by
  have e := int_text_length_le10 (a := i) (k := 10) (by decide) (by omega)
  unfold numS
  rw [ofString_length]
  exact e
theorem log_ok {i : Int} (h : -1000000000 ≤ i ∧ i ≤ 1000000000) : i.natAbs.log2 < 1920 := by
  by_cases z : i.natAbs = 0
  · rw [z]
    decide
  · refine (Nat.log2_lt z).mpr (Nat.lt_of_lt_of_le (m := 2 ^ 32) ?_ (Nat.pow_le_pow_right (by decide) (by decide)))
    omega
def tJoined (ts : List TE) : TE := fun σ H Q => tJs ts Str.empty σ H fun out H1 => Q (.str out) H1
theorem pe_joinedN {X : Cx} {v1 v2 : Expr} {rest : List Expr} {ts : List TE} {pos : Pos} (h : PJ X (v1 :: v2 :: rest) ts) : PE X (.JoinedStr (v1 :: v2 :: rest) pos) (tJoined ts) := pe_joined h
/-- a part that is a text of at most 100 signs -/
def Gv (σ : L2.St) (H : Hp) (t : TE) : Prop := ∀ Q : VK, (∀ y : Str, y.length ≤ 100 → Q (.str y) H) → t σ H Q
theorem gv_c {σ : L2.St} {H : Hp} {s : Str} (h : s.length ≤ 100) : Gv σ H (tC (.str s)) := fun Q q => q s h
theorem gv_s {σ : L2.St} {H : Hp} {i : Nat} {s : Str} (e : σ[i]? = some (some (.str s))) (h : s.length ≤ 100) : Gv σ H (tFmt (tVar i)) := fun Q q => ⟨_, e, .inl ⟨s, rfl, by rw [sizeLine_eq]; omega, q s h⟩⟩
theorem gv_i {σ : L2.St} {H : Hp} {i : Nat} {n : Int} (e : σ[i]? = some (some (.int n))) (h : -1000000000 ≤ n ∧ n ≤ 1000000000) : Gv σ H (tFmt (tVar i)) := fun Q q => ⟨_, e, .inr ⟨n, rfl, log_ok h, q _ (Nat.le_trans (numS_len h) (by decide))⟩⟩
def Gvs (σ : L2.St) (H : Hp) : List TE → Prop
  | [] => True
  | t :: ts => Gv σ H t ∧ Gvs σ H ts
theorem gvs_nil {σ : L2.St} {H : Hp} : Gvs σ H [] := trivial
theorem gvs_cons {σ : L2.St} {H : Hp} {t : TE} {ts : List TE} (a : Gv σ H t) (b : Gvs σ H ts) : Gvs σ H (t :: ts) := ⟨a, b⟩
theorem js_gives {σ : L2.St} {H : Hp} {Q : Str → Hp → Prop} : ∀ {ts : List TE} {acc : Str}, Gvs σ H ts → acc.length + 100 * ts.length ≤ 131072 → (∀ out, Q out H) → tJs ts acc σ H Q
  | [], acc, _, _, q => q acc
  | t :: ts, acc, g, h, q => g.1 _ fun y hy => by
    rw [List.length_cons] at h
    have e : (acc ++ y).length = acc.length + y.length := len_app _ _
    exact ⟨y, rfl, by rw [sizeLine_eq, e]; omega, js_gives g.2 (by rw [e]; omega) q⟩
theorem joined_gives {σ : L2.St} {H : Hp} {Q : List V → Hp → Prop} {ts : List TE} (g : Gvs σ H ts) (h : ts.length ≤ 1000) (q : ∀ out, Q [.str out] H) : tCons (tJoined ts) tNil σ H Q := js_gives g (by show 0 + _ ≤ _; omega) q
/-! ### what is stored -/
def Ost (a C dx : Addr) (fs : List (Str × V)) (H Hn : Hp) : Prop := Hn a = some (exo a C (some dx)) ∧ Hn dx = some (exd dx fs) ∧ ∀ b, b ≠ a → b ≠ dx → Hn b = H b
theorem ost_one {a C dx : Addr} {f : Str} {y : V} {H : Hp} (nd : H dx = none) (ne : dx ≠ a) : Ost a C dx [(f, y)] H (upd (upd H dx (exd dx [(f, y)])) a (exo a C (some dx))) := ⟨upd_same, (upd_ne ne).trans upd_same, fun b h1 h2 => (upd_ne h1).trans (upd_ne h2)⟩
theorem ost_more {a C dx : Addr} {f : Str} {y : V} {fs : List (Str × V)} {H Hn : Hp} (ne : dx ≠ a) (o : Ost a C dx fs H Hn) : Ost a C dx ((f, y) :: fs) H (upd Hn dx (exd dx ((f, y) :: fs))) := ⟨(upd_ne (Ne.symm ne)).trans o.1, upd_same, fun b h1 h2 => (upd_ne h2).trans (o.2.2 b h1 h2)⟩
section
variable {w : World} {K : PySem.W.Frag} {mg : Str → Option Value} {base : Heap}
def arg_BadText (xs : List V) : Prop := ∃ (x0 : Int), xs = [.int x0] ∧ (-1000000000 ≤ x0 ∧ x0 ≤ 1000000000)
theorem ok_BadText_init (T : Txt w K mg) : FnOk PWX w K mg base CX0 1 T.a_BadText_init T.d_BadText_init p_BadText_init (spIni T.C_BadText ["line"] arg_BadText) := by
  refine T.I_BadText.fn T.ox_BadText rfl nsc_BadText_init rfl rfl (by decide +kernel) T.z_super (by decide +kernel) (fun xs h => ?_) (fun _ _ _ => rfl) (fun _ _ _ => rfl) (fun _ _ _ => rfl) (fun _ _ _ => rfl) (fun _ _ _ => rfl) (fun cda cc A outer s H a xs Q E h eH q => ?_)
  · obtain ⟨x0, rfl, h0⟩ := h
    rfl
  · obtain ⟨x0, rfl, h0⟩ := h
    refine ⟨_, _, (pa_cons (pe_joinedN (PJ.cons pe_str (PJ.cons (pe_fmt (pv 1)) (PJ.cons pe_str PJ.nil)))) pa_nil), (pss_one (ps_ost (pv 0) (pv 1))), ?_⟩
    refine joined_gives (gvs_cons (gv_c (by decide +kernel)) (gvs_cons (gv_i rfl h0) (gvs_cons (gv_c (by decide +kernel)) gvs_nil))) (by decide) fun out => ?_
    refine ⟨by show 1 ≤ 1000; decide, eH, ?_⟩
    rcases q with ⟨z, _⟩ | ⟨_, q⟩
    · cases z
    · refine ⟨_, rfl, _, rfl, a, _, rfl, T.ox_BadText, T.xb_BadText.no _ (by decide), .inl ⟨eH, fun dx nd ne => ?_⟩⟩
      have o1 := ost_one (f := "line") (y := .int x0) (C := T.C_BadText) (H := H) nd ne
      exact q dx _ nd ne o1.1 o1.2.1 o1.2.2
end
/-! ### one error made -/
section
variable {w : World} {K : PySem.W.Frag} {mg : Str → Option Value} {base : Heap}
theorem mk_gives {C : Addr} {fs : List Str} {ok : List V → Prop} {Q : XK} {xs : List V} {H : Hp} (h : ok xs) (l : xs.length ≤ 1000) (q : (fs = [] ∧ Q (.ref C) none H) ∨ (fs ≠ [] ∧ ∀ d, H d = none → Q (.ref C) (some d) (upd H d (.xd (fs.zip xs).reverse)))) : rMkN C (spIni C fs ok) [] Q xs H := by
  refine ⟨l, fun a na => ⟨a, xs, by rw [List.append_nil], h, upd_same, ?_⟩⟩
  rcases q with ⟨e, q⟩ | ⟨e, q⟩
  · have z : del (upd H a (exo a C none)) a = H := funext fun b => by
      by_cases hb : b = a
      · rw [hb, del_same, na]
      · rw [del_ne hb, upd_ne hb]
    exact .inl ⟨e, rfl, .inl ⟨upd_same, by rw [z]; exact q⟩⟩
  · refine .inr ⟨e, fun d H' nd ne h1 h2 h3 => ?_⟩
    have nd' : H d = none := (upd_ne ne).symm.trans nd
    have z : upd (del H' a) d (.xd (fs.zip xs).reverse) = upd H d (.xd (fs.zip xs).reverse) := funext fun b => by
      by_cases hd : b = d
      · rw [hd, upd_same, upd_same]
      · rw [upd_ne hd, upd_ne hd]
        by_cases hb : b = a
        · rw [hb, del_same, na]
        · rw [del_ne hb, h3 b hb hd, upd_ne hb]
    exact ⟨rfl, .inr ⟨d, _, h1, h2, nd', by rw [z]; exact q d nd'⟩⟩
end
section
variable {w : World} {K : PySem.W.Frag} {mg : Str → Option Value} {base : Heap}
/-- read_expression tells the expression, or raises BadText(1) -/
def spRead (T : Txt w K mg) : Sp := fun vs H Q E => ∃ l : List Nat, vs = [.str (S l)] ∧ WOk l ∧
  (∀ e v H', fin [] (R l) = some e → Same H H' → ExAt K H' e v → Q v H') ∧
  (fin [] (R l) = none → ∀ d H', Same H H' → H' d = some (.xd [("line", .int 1)]) → H d = none → E (.ref T.C_BadText) (some d) H')
theorem ok_read_expression (T : Txt w K mg) : FnOk PWX w K mg base (L2N.CX PWX w) 5 T.a_read_expression T.d_read_expression p_read_expression (spRead T) := by
  have g_BadText_init := ok_BadText_init (base := base) T
  have g_scan_expression := ok_scan_expression (P := PWX) (base := base) T
  obtain ⟨oc, od, kV, doc, pm, an, cdv, ct, osl, e, lk, hcd⟩ := T.F_read_expression.ex
  rw [e] at lk ⊢
  refine fn_of lk hcd sc_read_expression (fun vs H Q E h => ?_) fun A outer s H vs Q E hr h => ?_
  · obtain ⟨l, rfl, _⟩ := h
    rfl
  have tk : L2N.Takes (cxOf (L2N.CX PWX w) PWX w K mg base n_read_expression "read_expression" (defScope s_read_expression) T.a_read_expression cdv A outer s H E) (fun cls d _ H' => E cls d H') := L2N.takes_of rfl rfl rfl rfl
  obtain ⟨l, rfl, hw, q1, q2⟩ := h
  refine ⟨_, (pss_cons (ps_set (i := 1) sc_read_expression.nd rfl (Or.inl rfl) (pe_call g_scan_expression (hr.mono (by first | decide | omega)) rfl T.m_scan_expression T.F_scan_expression.kp T.b_scan_expression .nil pass0 (pa_cons (pv 0) pa_nil)))
      (pss_cons (ps_if (pt_cmpR op_isN (pv 1) pe_non (nomark _)) (pss_one (L2N.ps_raise rfl tk (pmkN T.ox_BadText T.I_BadText.iC T.I_BadText.tI g_BadText_init (hr.mono (by first | decide | omega)) T.b_BadText_init pass0 rfl T.mgc_BadText (pa_cons pe_int pa_nil)))) pss_nil)
      (pss_one (ps_ret (pv 1))))), ?_⟩
  refine ⟨_, rfl, l, rfl, hw, fun v H1 s1 a n => ?_⟩
  cases hf : fin [] (R l) with
  | none =>
    rw [hf] at a
    obtain rfl : v = .non := a
    refine ⟨_, rfl, rfl, _, rfl, ifT rfl ?_⟩
    refine mk_gives (ok := arg_BadText) ⟨1, rfl, by decide, by decide⟩ (by simp) (.inr ⟨by simp, fun d nd => ?_⟩)
    exact q2 hf d _ (Same.grow (Same.none s1 nd) s1) upd_same (Same.none s1 nd)
  | some x =>
    rw [hf] at a n
    exact ⟨_, rfl, rfl, _, rfl, ifF (decide_eq_false (n x rfl)) ⟨_, rfl, q1 x v H1 hf s1 a⟩⟩
end
open PySem L2 ExV
/-! ### the law's own reading -/
def aw (s : List Nat) : List Nat := match s with
  | 45 :: t => 45 :: t.takeWhile isAn
  | s => s.takeWhile isAn
def Fit (s : List Nat) : Prop := (wd s).length ≤ 640 ∨ (isNum (wd s) = false ∧ isNum (aw s) = false)
def LOk (l : List Nat) : Prop := l.length ≤ 100000 ∧ ∀ k, k ≤ l.length → Bd02 l k → Fit (l.drop k)
theorem LOk.w {l : List Nat} (h : LOk l) : WOk l := ⟨h.1, fun k hk hb => (h.2 k hk hb).imp id And.left⟩
theorem an_dl {c : Nat} (h : isAn c = true) : isDl c = false := by
  have e : ∀ c ∈ (("abcdefghijklmnopqrstuvwxyz" : Str) ++ ("0123456789" : Str)).cps.toList, isDl c = false := by decide +kernel
  exact e c (of_decide_eq_true h)
theorem tw_len {p q : Nat → Bool} (h : ∀ c, p c = true → q c = true) : ∀ l : List Nat, (l.takeWhile p).length ≤ (l.takeWhile q).length
  | [] => Nat.le_refl _
  | c :: l => by
    cases hp : p c with
    | false => rw [List.takeWhile_cons_of_neg (by rw [hp]; decide)]; exact Nat.zero_le _
    | true =>
      rw [List.takeWhile_cons_of_pos hp, List.takeWhile_cons_of_pos (h c hp), List.length_cons, List.length_cons]
      exact Nat.succ_le_succ (tw_len h l)
theorem aw_wd (s : List Nat) : (aw s).length ≤ (wd s).length := by
  have im : ∀ c, isAn c = true → (!isDl c) = true := fun c h => by rw [an_dl h]; rfl
  unfold aw
  split
  · rename_i t
    have e : wd (45 :: t) = 45 :: wd t := List.takeWhile_cons_of_pos (by decide +kernel)
    rw [e, List.length_cons, List.length_cons]
    exact Nat.succ_le_succ (tw_len im t)
  · exact tw_len im _
theorem aw_app (s : List Nat) : ∃ r, s = aw s ++ r := by
  unfold aw
  split
  · rename_i t
    exact ⟨t.dropWhile isAn, by rw [List.cons_append, List.takeWhile_append_dropWhile]⟩
  · exact ⟨_, (List.takeWhile_append_dropWhile (p := isAn)).symm⟩
theorem Fit.aw {s : List Nat} (h : Fit s) : NumFit (aw s) := by
  rcases h with h | h
  · exact .inl (Nat.le_trans (aw_wd s) h)
  · exact .inr h.2
def lr : Nat → List Nat → Option (Ex × List Nat)
  | 0, 40 :: _ => none
  | k + 1, 40 :: 110 :: 111 :: 116 :: 32 :: t => match lr k t with
    | some (e, 41 :: r) => some (.not e, r)
    | _ => none
  | k + 1, 40 :: t => match lr k t with
    | some (a, r) => match opAt r with
      | some (op, r1) => match lr k r1 with
        | some (b, 41 :: r2) => some (.bin op a b, r2)
        | _ => none
      | none => none
    | none => none
  | _, s => (atomE (aw s)).map fun e => (e, s.drop (aw s).length)
open PySem L2 ExV
/-! ### the law's words -/
def spReserved : Sp := fun vs H Q _ => vs = [] ∧ ∀ p H', Same H H' → H p = none → H' p = some (.lst (resL.map V.str)) → Q (.ref p) H'
theorem for_any {α : Type} (f : α → Bool) (l : List α) (i : Nat) (x : α) (hx : l[i]? = some x) (h : (l.take i).all f = true) : (l.take (i + 1)).all f = f x := by
  rw [List.take_add_one, hx, List.all_append, h]
  show (true && (f x && true)) = f x
  rw [Bool.true_and, Bool.and_true]
theorem all_false {α : Type} (f : α → Bool) (l : List α) (i : Nat) (x : α) (hx : l[i]? = some x) (h : f x = false) : l.all f = false := by
  cases e : l.all f with
  | false => rfl
  | true =>
    have := List.all_eq_true.mp e x (List.mem_of_getElem? hx)
    rw [h] at this
    cases this
theorem cutS_gen (l : List Nat) (i j : Nat) (hi : i ≤ l.length) : cutS (S l) (some (i : Int)) (some (j : Int)) = S ((l.drop i).take (j - i)) := by
  unfold cutS
  rw [HT.sIx_nat, HT.sIx_nat, S_len, S_cps]
  show S _ = S _
  congr 1
  rw [Nat.min_eq_left hi]
  by_cases hj : j ≤ l.length
  · rw [Nat.min_eq_left hj]
  · rw [Nat.min_eq_right (by omega), List.take_of_length_le (by rw [List.length_drop]; exact Nat.le_refl _), List.take_of_length_le (by rw [List.length_drop]; omega)]
theorem cutS_pre (l : List Nat) (j : Nat) : cutS (S l) none (some (j : Int)) = S (l.take j) := by
  have e := cutS_gen l 0 j (Nat.zero_le _)
  rw [List.drop_zero, Nat.sub_zero] at e
  rw [← e]
  unfold cutS
  rw [HT.sIx_none, show HT.sIx (S l).length 0 (some ((0 : Nat) : Int)) = 0 by rw [HT.sIx_nat, Nat.zero_min]]
theorem cutS_suf (l : List Nat) (i : Nat) : cutS (S l) (some (i : Int)) none = S (l.drop i) := by
  unfold cutS
  rw [HT.sIx_none, HT.sIx_nat, S_len, S_cps]
  show S _ = S _
  congr 1
  by_cases hi : i ≤ l.length
  · rw [Nat.min_eq_left hi, List.take_of_length_le (by rw [List.length_drop]; exact Nat.le_refl _)]
  · rw [Nat.min_eq_right (by omega), List.drop_length, List.take_nil, List.drop_eq_nil_of_le (by omega)]
theorem digs_drop {l : List Nat} (h : l.take 1 = [45]) : digs l = l.drop 1 := by
  cases l with
  | nil => cases h
  | cons c r =>
    have e : c = 45 := (List.cons.inj h).1
    subst e
    rfl
theorem digs_self {l : List Nat} (h : l.take 1 ≠ [45]) : digs l = l := by
  unfold digs
  split
  · exact absurd rfl h
  · rfl
theorem tw_at {p : Nat → Bool} : ∀ {t : List Nat} {i c : Nat}, t[i]? = some c → (t.take i).all p = true → p c = false → (t.takeWhile p).length = i
  | [], _, _, h, _, _ => by cases h
  | d :: t, 0, c, h, _, n => by
    obtain rfl := Option.some.inj h
    rw [List.takeWhile_cons_of_neg (by rw [n]; decide)]
    rfl
  | d :: t, i + 1, c, h, a, n => by
    rw [List.take_succ_cons, List.all_cons, Bool.and_eq_true] at a
    rw [List.takeWhile_cons_of_pos a.1, List.length_cons, tw_at (t := t) (i := i) (by exact h) a.2 n]
theorem tw_all {p : Nat → Bool} : ∀ {t : List Nat}, t.all p = true → (t.takeWhile p).length = t.length
  | [], _ => rfl
  | d :: t, a => by
    rw [List.all_cons, Bool.and_eq_true] at a
    rw [List.takeWhile_cons_of_pos a.1, List.length_cons, List.length_cons, tw_all a.2]
def mi (s : List Nat) : Nat := if s.take 1 = [45] then 1 else 0
theorem aw_len (s : List Nat) : (aw s).length = mi s + ((s.drop (mi s)).takeWhile isAn).length := by
  unfold mi
  by_cases h : s.take 1 = [45]
  · rw [if_pos h]
    cases s with
    | nil => cases h
    | cons c t =>
      have e : c = 45 := (List.cons.inj h).1
      subst e
      show (t.takeWhile isAn).length + 1 = 1 + _
      rw [Nat.add_comm]
      rfl
  · rw [if_neg h, Nat.zero_add, List.drop_zero]
    unfold aw
    split
    · exact absurd rfl h
    · rfl
section
variable {P : Program} {w : World} {K : PySem.W.Frag} {mg : Str → Option Value} {base : Heap}
def spLIsN : Sp := fun vs H Q _ => ∃ l : List Nat, vs = [.str (S l)] ∧ l.length ≤ 100000 ∧ ∀ H', Same H H' → Q (.bl (isNm l)) H'
def spLNum : Sp := fun vs H Q _ => ∃ l : List Nat, vs = [.str (S l)] ∧ l.length ≤ 100000 ∧ Q (.bl (isNum l)) H
def spLEnd : Sp := fun vs H Q _ => ∃ (l : List Nat) (k : Nat), vs = [.str (S l), .int k] ∧ l.length ≤ 100000 ∧ k ≤ l.length ∧ Q (.int ((k + (aw (l.drop k)).length : Nat) : Int)) H
theorem ok_l_reserved (T : Txt w K mg) : FnOk P w K mg base CX0 1 T.a_l_reserved T.d_l_reserved p_l_reserved spReserved := by
  refine T.F_l_reserved.ok sc_l_reserved (fun vs H Q E h => ?_) (fun cdv A outer s H vs Q E hr h => ?_)
  · obtain ⟨rfl, _⟩ := h
    rfl
  obtain ⟨rfl, q⟩ := h
  refine ⟨_, (pss_cons (ps_set (i := 0) sc_l_reserved.nd rfl (Or.inl rfl) (pe_lst (pa_cons pe_str (pa_cons pe_str (pa_cons pe_str (pa_cons pe_str (pa_cons pe_str (pa_cons pe_str (pa_cons pe_str (pa_cons pe_str (pa_cons pe_str (pa_cons pe_str (pa_cons pe_str (pa_cons pe_str (pa_cons pe_str pa_nil)))))))))))))))
      (pss_one (ps_ret (pe_op op_cat (pv 0) (pe_lst (pa_cons pe_str (pa_cons pe_str (pa_cons pe_str (pa_cons pe_str (pa_cons pe_str (pa_cons pe_str (pa_cons pe_str (pa_cons pe_str (pa_cons pe_str (pa_cons pe_str (pa_cons pe_str pa_nil)))))))))))))))), ?_⟩
  refine ⟨by show 13 ≤ sizeLine; decide, fun l hl => ?_⟩
  refine ⟨_, rfl, by show 11 ≤ sizeLine; decide, fun r hr => ?_⟩
  have s1 := Same.new hl (.lst (resA.map V.str))
  refine ⟨l, r, _, _, rfl, rfl, Same.new hr _ _ _ upd_same, upd_same, by show 24 ≤ sizeLine; decide, fun p hp => ?_⟩
  exact q p _ (s1.trans ((Same.new hr _).trans (Same.new hp _))) (s1.free ((Same.new hr _).free hp)) upd_same
theorem ok_l_is_name (T : Txt w K mg) : FnOk P w K mg base CX0 2 T.a_l_is_name T.d_l_is_name p_l_is_name spLIsN := by
  have g_l_reserved := ok_l_reserved (P := P) (base := base) T
  refine T.F_l_is_name.ok sc_l_is_name (fun vs H Q E h => ?_) (fun cdv A outer s H vs Q E hr h => ?_)
  · obtain ⟨l, rfl, _⟩ := h
    rfl
  obtain ⟨l, rfl, hl, q⟩ := h
  refine ⟨_, (pss_cons (ps_if (PW.pt (pw_or (pt_cmpR op_eq (pv 0) pe_str (nomark _)) (pw_or (pt_cmpR op_notIn_sign (pe_ix ix_str (pv 0) pe_int (fun _ _ => rfl)) pe_str (by rfl)) (pw_or1 (pt_cmpR op_in_seq (pv 0) (pe_call0 g_l_reserved (hr.mono (by first | decide | omega)) rfl T.m_l_reserved T.F_l_reserved.kp T.b_l_reserved .nil pass0) (by rfl)))))) (pss_one (ps_ret pe_bl)) pss_nil)
      (pss_cons (ps_for PassesOwn.never rfl (pi_str (pv 0)) (pg_name (i := 1) sc_l_is_name.nd rfl (Or.inl rfl))
        (pss_one (ps_if (pt_cmpR op_notIn_sign (pv 1) pe_str (by rfl)) (pss_one (ps_ret pe_bl)) pss_nil)))
      (pss_one (ps_ret pe_bl)))), ?_⟩
  refine ⟨_, rfl, rfl, _, rfl, ?_⟩
  cases l with
  | nil => exact ifT (by decide +kernel) (q _ (Same.refl _))
  | cons c r =>
    refine ifF (str_ne (by intro h; cases h)) ?_
    refine ⟨_, rfl, S (c :: r), 0, c, rfl, rfl, by rw [sizeLine_eq, S_len]; omega, atI_nat (j := 0) rfl, c, _, rfl, rfl, _, rfl, ?_⟩
    cases hc : isLo c with
    | false =>
      refine ifT (by show (!isLo c) = true; rw [hc]; rfl) ?_
      have e : isNm (c :: r) = false := by
        show (isLo c && _ && _) = false
        rw [hc]
        rfl
      rw [← e]
      exact q _ (Same.refl _)
    | true =>
      refine ifF (by show (!isLo c) = false; rw [hc]; rfl) ?_
      refine ⟨_, rfl, rfl, fun p H1 s1 hp h1 => ⟨p, resL.map V.str, rfl, .inl (.of h1), rfl, flat_strs _, _, rfl, ?_⟩⟩
      rw [if_neg Bool.false_ne_true, in_strs]
      cases hr2 : decide (S (c :: r) ∈ resL) with
      | true =>
        refine ifT rfl ?_
        have e : isNm (c :: r) = false := by
          show (isLo c && !decide (S (c :: r) ∈ resL) && _) = false
          rw [hr2, Bool.not_true, Bool.and_false]
          rfl
        rw [← e]
        exact q _ s1
      | false =>
        have e : isNm (c :: r) = (c :: r).all isAn := by
          show (isLo c && !decide (S (c :: r) ∈ resL) && _) = _
          rw [hr2, hc]
          rfl
        refine ifF rfl ⟨_, rfl, S (c :: r), rfl, ?_⟩
        refine for_it (walk_str (z := S (c :: r))) (fun i σ F => (∃ y : Option V, σ = [some (.str (S (c :: r))), y]) ∧ F = H1 ∧ ((c :: r).take i).all isAn = true) ⟨⟨_, rfl⟩, rfl, rfl⟩ (fun _ _ _ _ _ => trivial) ?_ ?_
        · rintro i y σ F F' hi ⟨⟨y0, rfl⟩, rfl, ha⟩ ⟨rfl, d, hd, rfl⟩
          have hd' : (c :: r)[i]? = some d := by
            rw [← hd, ← Array.getElem?_toList]
            rfl
          refine ⟨_, rfl, d, _, rfl, rfl, _, rfl, ?_⟩
          show if (!isAn d) = true then _ else _
          cases hn : isAn d with
          | false =>
            refine ifT rfl ?_
            have e2 : isNm (c :: r) = false := by rw [e]; exact all_false _ _ i d hd' hn
            rw [← e2]
            exact q _ s1
          | true => exact ifF rfl ⟨⟨_, rfl⟩, rfl, by rw [for_any _ _ i d hd' ha]; exact hn⟩
        · rintro σ F ⟨⟨y0, rfl⟩, rfl, ha⟩
          rw [show (S (c :: r)).cps.size = (c :: r).length from rfl, List.take_length] at ha
          rw [← ha, ← e]
          exact q _ s1
theorem ok_l_is_number (T : Txt w K mg) : FnOk P w K mg base CX0 1 T.a_l_is_number T.d_l_is_number p_l_is_number spLNum := by
  refine T.F_l_is_number.ok sc_l_is_number (fun vs H Q E h => ?_) (fun cdv A outer s H vs Q E hr h => ?_)
  · obtain ⟨l, rfl, _⟩ := h
    rfl
  obtain ⟨l, rfl, hl, q⟩ := h
  refine ⟨_, (pss_cons (ps_set (i := 1) sc_l_is_number.nd rfl (Or.inl rfl) (pv 0))
      (C8.pss_cut (ps_if (pt_cmpR op_eq (pe_slice sl_str (pv 0) po_none (po_some pe_int)) pe_str (nomark _)) (pss_one (ps_set (i := 1) sc_l_is_number.nd rfl (Or.inl rfl) (pe_slice sl_str (pv 0) (po_some pe_int) po_none))) pss_nil)
      (pss_cons (ps_if (PW.pt (pw_or (pt_cmpR op_eq (pv 1) pe_str (nomark _)) (pw_or (pt_cmpR op_gt (pe_callB call_len_str rfl T.z_len PySem.boot_len (pa_cons (pv 1) pa_nil)) pe_int (nomark _)) (pw_or1 (PW.pt (pw_and (pt_cmpR op_eq (pe_ix ix_str (pv 1) pe_int (fun _ _ => rfl)) pe_str (nomark _)) (pw_and1 (pt_cmpR op_ne (pv 0) pe_str (nomark _))))))))) (pss_one (ps_ret pe_bl)) pss_nil)
      (pss_cons (ps_for PassesOwn.never rfl (pi_str (pv 1)) (pg_name (i := 2) sc_l_is_number.nd rfl (Or.inl rfl))
        (pss_one (ps_if (pt_cmpR op_notIn_sign (pv 2) pe_str (by rfl)) (pss_one (ps_ret pe_bl)) pss_nil)))
      (pss_one (ps_ret pe_bl)))))), ?_⟩
  have dl := digs_len l
  refine ⟨_, rfl, fun σ' F' => σ' = [some (.str (S l)), some (.str (S (digs l))), none] ∧ F' = H, ?_, ?_⟩
  · refine ⟨_, rfl, _, rfl, S l, rfl, by rw [sizeLine_eq, S_len]; omega, rfl, _, rfl, ?_⟩
    rw [show (1 : Int) = ((1 : Nat) : Int) from rfl, cutS_pre, show Str.ofString "-" = S [45] from s_minus, decS]
    by_cases h : l.take 1 = [45]
    · refine ifT (decide_eq_true (by rw [h])) ⟨_, rfl, _, rfl, S l, rfl, by rw [sizeLine_eq, S_len]; omega, ?_⟩
      rw [cutS_suf, digs_drop h]
      exact ⟨rfl, rfl⟩
    · refine ifF (decide_eq_false (fun z => h (S_inj z))) ?_
      rw [digs_self h]
      exact ⟨rfl, rfl⟩
  rintro σ F ⟨rfl, rfl⟩
  have no : isNum l = false → Q (.bl false) F := fun e => by
    rw [← e]
    exact q
  refine ⟨_, rfl, rfl, _, rfl, ?_⟩
  by_cases h0 : digs l = []
  · refine ifT (by rw [h0]; decide +kernel) (ifT rfl ?_)
    exact no (by unfold isNum; rw [decide_eq_false (fun h => h h0)]; rfl)
  refine ifF (str_ne (by exact h0)) ?_
  refine ⟨_, rfl, S (digs l), rfl, by rw [sizeLine_eq, S_len]; omega, _, _, rfl, rfl, _, rfl, ?_⟩
  rw [S_len]
  by_cases h1 : (digs l).length ≤ 4000
  case neg =>
    refine ifT (decide_eq_true (by omega)) (ifT rfl ?_)
    exact no (by unfold isNum; rw [decide_eq_false h1, Bool.and_false]; rfl)
  refine ifF (decide_eq_false (by omega)) ?_
  obtain ⟨c, r, hd⟩ := List.exists_cons_of_ne_nil h0
  have nm : isNum l = ((digs l).all isDg && (decide (c ≠ 48) || decide (l = [48]))) := by
    unfold isNum
    rw [decide_eq_true h0, decide_eq_true h1]
    show (true && _ && (decide ((digs l).head? ≠ some 48) || _)) = _
    rw [Bool.true_and, hd]
    congr 2
    show decide (some c ≠ some 48) = _
    by_cases h : c = 48 <;> simp [h]
  refine ⟨_, rfl, S (digs l), 0, c, rfl, rfl, by rw [sizeLine_eq, S_len]; omega, atI_nat (j := 0) (by rw [S_cps, hd]; rfl), rfl, _, rfl, ?_⟩
  have walk : (decide (c ≠ 48) || decide (l = [48])) = true → tSeq (tFor (iStr (tVar 1)) (gName 2) (tIfS (tTest (tOp (fun x y H Q => ∃ c z, x = V.str { cps := #[c] } ∧ y = V.str z ∧ Q (V.bl !decide (c ∈ z.cps.toList)) H) (tVar 2) (tC (V.str (Str.ofString "0123456789"))))) (tRet (tC (V.bl false))) tNext)) (tRet (tC (V.bl true)))
      { nx := fun x H' => Q V.non H', rt := Q } [some (.str (S l)), some (.str (S (digs l))), none] F := fun e => by
    rw [e, Bool.and_true] at nm
    refine ⟨_, rfl, S (digs l), rfl, ?_⟩
    refine for_it (walk_str (z := S (digs l))) (fun i σ F' => (∃ y : Option V, σ = [some (.str (S l)), some (.str (S (digs l))), y]) ∧ F' = F ∧ ((digs l).take i).all isDg = true) ⟨⟨_, rfl⟩, rfl, rfl⟩ (fun _ _ _ _ _ => trivial) ?_ ?_
    · rintro i y σ F1 F' hi ⟨⟨y0, rfl⟩, rfl, ha⟩ ⟨rfl, d, hd2, rfl⟩
      have hd' : (digs l)[i]? = some d := by
        rw [← hd2, ← Array.getElem?_toList]
        rfl
      refine ⟨_, rfl, d, _, rfl, rfl, _, rfl, ?_⟩
      show if (!isDg d) = true then _ else _
      cases hn : isDg d with
      | false => exact ifT rfl (no (by rw [nm]; exact all_false _ _ i d hd' hn))
      | true => exact ifF rfl ⟨⟨_, rfl⟩, rfl, by rw [for_any _ _ i d hd' ha]; exact hn⟩
    · rintro σ F1 ⟨⟨y0, rfl⟩, rfl, ha⟩
      rw [show (S (digs l)).cps.size = (digs l).length from rfl, List.take_length] at ha
      rw [nm, ha] at q
      exact q
  by_cases h3 : c = 48
  · refine ifT (by rw [h3]; decide +kernel) ⟨_, rfl, rfl, _, rfl, ?_⟩
    by_cases h4 : l = [48]
    · refine ifF (by rw [h4]; decide +kernel) (walk ?_)
      rw [decide_eq_true h4, Bool.or_true]
    · refine ifT (by rw [str_ne (by exact h4)]; rfl) (no ?_)
      rw [nm, decide_eq_false h4, decide_eq_false (fun h => h h3), Bool.or_false, Bool.and_false]
  · refine ifF (str_ne (l := [c]) (by intro h; exact h3 (List.cons.inj h).1)) (ifF rfl (walk ?_))
    rw [decide_eq_true h3]
    rfl
theorem ok_l_atom_end (T : Txt w K mg) : FnOk P w K mg base CX0 1 T.a_l_atom_end T.d_l_atom_end p_l_atom_end spLEnd := by
  refine T.F_l_atom_end.ok sc_l_atom_end (fun vs H Q E h => ?_) (fun cdv A outer s H vs Q E hr h => ?_)
  · obtain ⟨l, k, rfl, _⟩ := h
    rfl
  obtain ⟨l, k, rfl, hl, hk, q⟩ := h
  refine ⟨_, (pss_cons (ps_set (i := 2) sc_l_atom_end.nd rfl (Or.inl rfl) (pv 1))
      (C8.pss_cut (ps_if (pt_cmpR op_eq (pe_slice sl_str (pv 0) (po_some (pv 1)) (po_some (pe_op op_add (pv 1) pe_int))) pe_str (nomark _)) (pss_one (ps_set (i := 2) sc_l_atom_end.nd rfl (Or.inl rfl) (pe_op op_add (pv 1) pe_int))) pss_nil)
      (pss_cons (ps_for PassesOwn.never rfl (pi_range2 rfl T.z_range (pa_cons (pv 2) (pa_cons (pe_callB call_len_str rfl T.z_len PySem.boot_len (pa_cons (pv 0) pa_nil)) pa_nil))) (pg_name (i := 3) sc_l_atom_end.nd rfl (Or.inl rfl))
        (pss_one (ps_if (pt_cmpR op_notIn_sign (pe_ix ix_str (pv 0) (pv 3) (fun _ _ => rfl)) pe_str (by rfl)) (pss_one (ps_ret (pv 3))) pss_nil)))
      (pss_one (ps_ret (pe_callB (call_max2 rfl) rfl T.z_max bb_max (pa_cons (pv 2) (pa_cons (pe_callB call_len_str rfl T.z_len PySem.boot_len (pa_cons (pv 0) pa_nil)) pa_nil)))))))), ?_⟩
  have ml : k + mi (l.drop k) ≤ l.length := by
    unfold mi
    by_cases h : (l.drop k).take 1 = [45]
    · rw [if_pos h]
      have e := congrArg List.length h
      rw [List.length_take, List.length_drop] at e
      simp only [List.length_cons, List.length_nil] at e
      omega
    · rw [if_neg h]
      exact hk
  rw [aw_len, List.drop_drop, ← Nat.add_assoc] at q
  refine ⟨_, rfl, fun σ' F' => σ' = [some (.str (S l)), some (.int k), some (.int ((k + mi (l.drop k) : Nat) : Int)), none] ∧ F' = H, ?_, ?_⟩
  · refine ⟨_, rfl, _, rfl, _, rfl, _, rfl, _, _, rfl, rfl, _, rfl, S l, rfl, by rw [sizeLine_eq, S_len]; omega, rfl, _, rfl, ?_⟩
    rw [show ((k : Int) + 1) = ((k + 1 : Nat) : Int) from rfl, cutS_gen l k (k + 1) hk, Nat.add_sub_cancel_left, show Str.ofString "-" = S [45] from s_minus, decS]
    unfold mi
    by_cases h : (l.drop k).take 1 = [45]
    · rw [if_pos h]
      exact ifT (decide_eq_true (by rw [h])) ⟨_, rfl, _, _, rfl, rfl, rfl, rfl⟩
    · rw [if_neg h]
      exact ifF (decide_eq_false (fun z => h (S_inj z))) ⟨rfl, rfl⟩
  rintro σ F ⟨rfl, rfl⟩
  generalize k + mi (l.drop k) = lo at ml q
  refine ⟨_, rfl, _, rfl, S l, rfl, by rw [sizeLine_eq, S_len]; omega, _, _, rfl, by rw [S_len]; omega, ?_⟩
  rw [S_len, show ((l.length : Int) - (lo : Int)).toNat = l.length - lo by omega]
  refine for_range (lo := (lo : Int)) (fun i σ F' => (∃ y : Option V, σ = [some (.str (S l)), some (.int k), some (.int lo), y]) ∧ F' = F ∧ ((l.drop lo).take i).all isAn = true) ⟨⟨_, rfl⟩, rfl, rfl⟩ ?_ ?_
  · rintro i σ F1 hi ⟨⟨y0, rfl⟩, rfl, ha⟩
    have jl : lo + i < l.length := by omega
    have hd' : (l.drop lo)[i]? = some l[lo + i] := by rw [List.getElem?_drop]; exact List.getElem?_eq_getElem jl
    have hc : l[lo + i]? = some l[lo + i] := List.getElem?_eq_getElem jl
    generalize l[lo + i] = d at hd' hc
    refine ⟨_, rfl, _, rfl, S l, ((lo + i : Nat) : Int), d, rfl, rfl, by rw [sizeLine_eq, S_len]; omega, atI_nat hc, d, _, rfl, rfl, _, rfl, ?_⟩
    have e36 : decide (d ∈ ("abcdefghijklmnopqrstuvwxyz0123456789" : Str).cps.toList) = isAn d := by
      unfold isAn
      rw [show (("abcdefghijklmnopqrstuvwxyz" : Str) ++ ("0123456789" : Str)) = ("abcdefghijklmnopqrstuvwxyz0123456789" : Str) by decide +kernel]
    rw [show Str.ofString "abcdefghijklmnopqrstuvwxyz0123456789" = ("abcdefghijklmnopqrstuvwxyz0123456789" : Str) from rfl, e36]
    cases hn : isAn d with
    | false =>
      refine ifT rfl ⟨_, rfl, ?_⟩
      rw [tw_at hd' ha hn] at q
      exact q
    | true => exact ifF rfl ⟨⟨_, rfl⟩, rfl, by rw [for_any _ _ i d hd' ha]; exact hn⟩
  · rintro σ F1 ⟨⟨y0, rfl⟩, rfl, ha⟩
    rw [List.take_of_length_le (by rw [List.length_drop]; exact Nat.le_refl _)] at ha
    rw [tw_all ha, List.length_drop, show lo + (l.length - lo) = l.length by omega] at q
    refine ⟨_, rfl, _, rfl, S l, rfl, by rw [sizeLine_eq, S_len]; omega, _, _, rfl, ?_⟩
    rw [S_len]
    by_cases z : (l.length : Int) > lo
    · rw [if_pos z]
      exact q
    · rw [if_neg z, show (lo : Int) = l.length by omega]
      exact q
end
open PySem L2 ExV
/-! ### the law's reader -/
section
variable {P : Program} {w : World} {K : PySem.W.Frag} {mg : Str → Option Value} {base : Heap}
/-- a pair of an expression and a place, or None -/
def PairIs (K : PySem.W.Frag) (H : Hp) (l : List Nat) (o : Option (Ex × List Nat)) (v : V) : Prop := match o with
  | none => v = .non
  | some (e, r) => ∃ p x k, v = .ref p ∧ SqT K H p [x, .int (k : Nat)] ∧ ExAt K H e x ∧ k ≤ l.length ∧ l.drop k = r
def lat (s : List Nat) : Option (Ex × List Nat) := (atomE (aw s)).map fun e => (e, s.drop (aw s).length)
def spLAtom (K : PySem.W.Frag) : Sp := fun vs H Q _ => ∃ (l : List Nat) (k : Nat), vs = [.str (S l), .int k] ∧ l.length ≤ 100000 ∧ k ≤ l.length ∧ Fit (l.drop k) ∧
  ∀ v H', Same H H' → PairIs K H' l (lat (l.drop k)) v → Q v H'
theorem pair_new {K : PySem.W.Frag} {H : Hp} {l : List Nat} {e : Ex} {x : V} {k : Nat} {p : Addr} (hp : H p = none) (hx : ExAt K H e x) (hk : k ≤ l.length) :
    PairIs K (upd H p (.tup [x, .int k])) l (some (e, l.drop k)) (.ref p) := ⟨p, x, k, rfl, .of upd_same, hx.keep (Keeps.of_same (Same.new hp _)), hk, rfl⟩
theorem ok_l_atom (T : Txt w K mg) : FnOk P w K mg base CX0 3 T.a_l_atom T.d_l_atom p_l_atom (spLAtom K) := by
  have g_l_is_name := ok_l_is_name (P := P) (base := base) T
  have g_l_is_number := ok_l_is_number (P := P) (base := base) T
  have g_l_atom_end := ok_l_atom_end (P := P) (base := base) T
  refine T.F_l_atom.ok sc_l_atom (fun vs H Q E h => ?_) (fun cdv A outer s H vs Q E hr h => ?_)
  · obtain ⟨l, k, rfl, _⟩ := h
    rfl
  obtain ⟨l, k, rfl, hl, hk, hf, q⟩ := h
  refine ⟨_, (pss_cons (ps_set (i := 2) sc_l_atom.nd rfl (Or.inl rfl) (pe_call g_l_atom_end (hr.mono (by first | decide | omega)) rfl T.m_l_atom_end T.F_l_atom_end.kp T.b_l_atom_end .nil pass0 (pa_cons (pv 0) (pa_cons (pv 1) pa_nil))))
      (pss_cons (ps_set (i := 3) sc_l_atom.nd rfl (Or.inl rfl) (pe_slice sl_str (pv 0) (po_some (pv 1)) (po_some (pv 2))))
      (pss_cons (ps_if (pt_cmpR op_eq (pv 3) pe_str (nomark _)) (pss_one (ps_ret (pe_tup (pa_cons (pe_tup (pa_cons pe_str pa_nil)) (pa_cons (pv 2) pa_nil))))) pss_nil)
      (pss_cons (ps_if (PW.pt (pw_or (pt_cmpR op_eq (pv 3) pe_str (nomark _)) (pw_or1 (pt_cmpR op_eq (pv 3) pe_str (nomark _))))) (pss_one (ps_ret (pe_tup (pa_cons (pe_tup (pa_cons pe_str (pa_cons (pe_cmpR op_eq (pv 3) pe_str (nomark _)) pa_nil))) (pa_cons (pv 2) pa_nil))))) pss_nil)
      (pss_cons (ps_if (pt_val (pe_call g_l_is_name (hr.mono (by first | decide | omega)) rfl T.m_l_is_name T.F_l_is_name.kp T.b_l_is_name .nil pass0 (pa_cons (pv 3) pa_nil))) (pss_one (ps_ret (pe_tup (pa_cons (pe_tup (pa_cons pe_str (pa_cons (pv 3) pa_nil))) (pa_cons (pv 2) pa_nil))))) pss_nil)
      (pss_cons (ps_if (pt_val (pe_call g_l_is_number (hr.mono (by first | decide | omega)) rfl T.m_l_is_number T.F_l_is_number.kp T.b_l_is_number .nil pass0 (pa_cons (pv 3) pa_nil))) (pss_one (ps_ret (pe_tup (pa_cons (pe_tup (pa_cons pe_str (pa_cons (pe_callTy call_int_str rfl T.z_int bt_int (pa_cons (pv 3) pa_nil)) pa_nil))) (pa_cons (pv 2) pa_nil))))) pss_nil)
      (pss_one (ps_ret pe_non)))))))), ?_⟩
  refine ⟨_, rfl, _, rfl, l, k, rfl, hl, hk, ?_⟩
  have wl : k + (aw (l.drop k)).length ≤ l.length := by
    obtain ⟨r, e⟩ := aw_app (l.drop k)
    have e := congrArg List.length e
    rw [List.length_drop, List.length_append] at e
    omega
  have wt : (l.drop k).take (aw (l.drop k)).length = aw (l.drop k) := by
    obtain ⟨r, e⟩ := aw_app (l.drop k)
    conv => lhs; arg 2; rw [e]
    exact List.take_left
  have al : (aw (l.drop k)).length ≤ 100000 := by omega
  have hla : lat (l.drop k) = (atomE (aw (l.drop k))).map fun e => (e, l.drop (k + (aw (l.drop k)).length)) := by
    unfold lat
    rw [List.drop_drop]
  have nf := hf.aw
  rw [hla] at q
  refine ⟨_, rfl, _, rfl, _, rfl, _, rfl, _, rfl, S l, rfl, by rw [sizeLine_eq, S_len]; omega, ?_⟩
  rw [cutS_gen l k _ hk, Nat.add_sub_cancel_left, wt]
  generalize aw (l.drop k) = a at *
  generalize k + a.length = k2 at *
  have two : ∀ (e : Ex) (F : Hp) (xs : List V), atomE a = some e → Same H F → (∀ F' p, SqT K F' p xs → ExAt K F' e (.ref p)) → ∀ p1, F p1 = none → ∀ p2, upd F p1 (.tup xs) p2 = none → Q (.ref p2) (upd (upd F p1 (.tup xs)) p2 (.tup [.ref p1, .int k2])) := fun e F xs ea sF mk p1 h1 p2 h2 => by
    have s1 : Same H (upd F p1 (.tup xs)) := Same.grow (Same.none sF h1) sF
    refine q _ _ (Same.grow (Same.none s1 h2) s1) ?_
    rw [ea]
    exact pair_new h2 (mk _ _ (.of upd_same)) wl
  have non : ∀ F, atomE a = none → Same H F → Q .non F := fun F ea sF => q _ _ sF (by rw [ea]; exact rfl)
  refine ⟨_, rfl, rfl, _, rfl, ?_⟩
  rw [decS]
  by_cases h3 : S a = "null"
  · refine ifT (decide_eq_true h3) ⟨by show 1 ≤ sizeLine; decide, fun p1 hp1 => ⟨_, rfl, by show 2 ≤ sizeLine; decide, fun p2 hp2 => ?_⟩⟩
    exact two .null _ _ (by unfold atomE; rw [if_neg (by rw [h3]; decide +kernel), if_neg (by rw [h3]; decide +kernel), if_pos h3]) (Same.refl _) (fun F' p h => ⟨p, rfl, h⟩) p1 hp1 p2 hp2
  refine ifF (decide_eq_false h3) ⟨_, rfl, rfl, _, rfl, ?_⟩
  rw [decS]
  by_cases h1 : S a = "true"
  · refine ifT (decide_eq_true h1) (ifT rfl ⟨_, rfl, rfl, by show 2 ≤ sizeLine; decide, fun p1 hp1 => ⟨_, rfl, by show 2 ≤ sizeLine; decide, fun p2 hp2 => ?_⟩⟩)
    rw [decS, decide_eq_true h1] at hp2 ⊢
    exact two (.flag true) _ _ (by unfold atomE; rw [if_pos h1]) (Same.refl _) (fun F' p h => ⟨p, rfl, h⟩) p1 hp1 p2 hp2
  refine ifF (decide_eq_false h1) ⟨_, rfl, rfl, _, rfl, ?_⟩
  rw [decS]
  by_cases h2 : S a = "false"
  · refine ifT (decide_eq_true h2) ⟨_, rfl, rfl, by show 2 ≤ sizeLine; decide, fun p1 hp1 => ⟨_, rfl, by show 2 ≤ sizeLine; decide, fun p2 hp2 => ?_⟩⟩
    rw [decS, decide_eq_false h1] at hp2 ⊢
    exact two (.flag false) _ _ (by unfold atomE; rw [if_neg h1, if_pos h2]) (Same.refl _) (fun F' p h => ⟨p, rfl, h⟩) p1 hp1 p2 hp2
  refine ifF (decide_eq_false h2) ⟨_, rfl, a, rfl, al, fun H1 s1 => ⟨_, rfl, ?_⟩⟩
  cases h4 : isNm a with
  | true =>
    refine ifT rfl ⟨_, rfl, by show 2 ≤ sizeLine; decide, fun p1 hp1 => ⟨_, rfl, by show 2 ≤ sizeLine; decide, fun p2 hp2 => ?_⟩⟩
    exact two (.name (S a)) _ _ (by unfold atomE; rw [if_neg h1, if_neg h2, if_neg h3, if_pos h4]) s1 (fun F' p h => ⟨p, rfl, h⟩) p1 hp1 p2 hp2
  | false =>
    refine ifF rfl ⟨_, rfl, a, rfl, al, _, rfl, ?_⟩
    have an : atomE a = if isNum a = true then some (.num (numV a)) else none := by unfold atomE; rw [if_neg h1, if_neg h2, if_neg h3, if_neg (by rw [h4]; exact Bool.false_ne_true)]
    cases h5 : isNum a with
    | true =>
      rw [if_pos h5] at an
      have le : (S a).length ≤ 640 := by
        rcases nf with nf | nf
        · exact nf
        · rw [h5] at nf
          cases nf
      refine ifT rfl ⟨_, rfl, S a, _, rfl, num_read h5, le, by show 2 ≤ sizeLine; decide, fun p1 hp1 => ⟨_, rfl, by show 2 ≤ sizeLine; decide, fun p2 hp2 => ?_⟩⟩
      exact two (.num (numV a)) _ _ an s1 (fun F' p h => ⟨p, rfl, h⟩) p1 hp1 p2 hp2
    | false =>
      rw [if_neg (by rw [h5]; exact Bool.false_ne_true)] at an
      exact ifF rfl (non _ an s1)
theorem lr_atom {s : List Nat} (d : Nat) (h : ∀ t, s ≠ 40 :: t) : lr d s = lat s := by
  unfold lr
  split
  · exact absurd rfl (h _)
  · exact absurd rfl (h _)
  · exact absurd rfl (h _)
  · rfl
theorem lr_opn {t : List Nat} (k : Nat) (h : ∀ r, t ≠ 110 :: 111 :: 116 :: 32 :: r) : lr (k + 1) (40 :: t) = match lr k t with
    | some (a, r) => match opAt r with
      | some (op, r1) => match lr k r1 with
        | some (b, 41 :: r2) => some (.bin op a b, r2)
        | _ => none
      | none => none
    | none => none := by
  conv => lhs; unfold lr
  split
  · rename_i heq _
    cases heq
  · rename_i heq
    exact absurd (List.cons.inj heq).2 (h _)
  · rename_i heq1 heq2
    obtain rfl := (List.cons.inj heq2).2
    obtain rfl := Nat.succ.inj heq1
    rfl
  · exfalso
    first
      | (rename_i h1; exact h1 _ _ rfl rfl)
      | (rename_i h1 _; exact h1 _ _ rfl rfl)
      | (rename_i h1 _ _; exact h1 _ _ rfl rfl)
theorem one_iff {s : List Nat} {c : Nat} : s.take 1 = [c] ↔ ∃ t, s = c :: t := by
  cases s with
  | nil => exact ⟨fun h => (by cases h), fun ⟨t, h⟩ => (by cases h)⟩
  | cons d t => exact ⟨fun h => ⟨t, by rw [(List.cons.inj h).1]⟩, fun ⟨u, h⟩ => by rw [(List.cons.inj h).1]; rfl⟩
theorem five_iff {s : List Nat} : s.take 5 = [40, 110, 111, 116, 32] ↔ ∃ t, s = 40 :: 110 :: 111 :: 116 :: 32 :: t := by
  constructor
  · intro h
    refine ⟨s.drop 5, ?_⟩
    conv => lhs; rw [← List.take_append_drop 5 s, h]
    rfl
  · rintro ⟨t, rfl⟩
    rfl
theorem ops_len : ∀ s ∈ opsL, s.length ≤ 4 := by decide +kernel
theorem ops_blank : ∀ s ∈ opsL, 32 ∉ s.cps.toList := by decide +kernel
theorem opAt_mem {s r : List Nat} {o : Str} (h : opAt s = some (o, r)) : o ∈ opsL := by
  unfold opAt at h
  split at h
  · split at h
    · rename_i hh
      injection h with h
      rw [← (Prod.mk.inj h).1]
      exact hh.2
    · cases h
  · cases h
theorem opAt_of {o : Str} (ho : o ∈ opsL) (r : List Nat) : opAt (32 :: (o.cps.toList ++ 32 :: r)) = some (o, r) := by
  have hm : 32 ∈ o.cps.toList ++ 32 :: r := by simp
  have nb := ops_blank o ho
  have tw : (o.cps.toList ++ 32 :: r).takeWhile (· != 32) = o.cps.toList := by
    rw [List.takeWhile_append_of_pos (fun c hc => by rw [bne_iff_ne]; rintro rfl; exact nb hc), List.takeWhile_cons_of_neg (by decide), List.append_nil]
  have dw : (o.cps.toList ++ 32 :: r).dropWhile (· != 32) = 32 :: r := by
    rw [List.dropWhile_append_of_pos (fun c hc => by rw [bne_iff_ne]; rintro rfl; exact nb hc), List.dropWhile_cons_of_neg (by decide)]
  show (if 32 ∈ _ ∧ S _ ∈ opsL then some (S _, _) else none) = _
  rw [tw, dw, S_of, if_pos ⟨hm, ho⟩]
  rfl
/-- the sign with its blanks stands ahead exactly if it is the operator -/
theorem op_iff {o : Str} (ho : o ∈ opsL) {r : List Nat} : r.take (o.length + 2) = 32 :: (o.cps.toList ++ [32]) ↔ ∃ r1, opAt r = some (o, r1) ∧ r = 32 :: (o.cps.toList ++ 32 :: r1) := by
  constructor
  · intro h
    have e : r = 32 :: (o.cps.toList ++ 32 :: r.drop (o.length + 2)) := by
      conv => lhs; rw [← List.take_append_drop (o.length + 2) r, h]
      simp
    generalize r.drop (o.length + 2) = r1 at e
    exact ⟨r1, by rw [e]; exact opAt_of ho r1, e⟩
  · rintro ⟨r1, _, rfl⟩
    show (32 :: (o.cps.toList ++ 32 :: r1)).take (o.length + 1 + 1) = _
    rw [List.take_succ_cons, show o.length + 1 = (o.cps.toList ++ [32]).length by rw [List.length_append, Array.length_toList]; rfl, show o.cps.toList ++ 32 :: r1 = (o.cps.toList ++ [32]) ++ r1 by simp, List.take_left]
theorem opAt_shape {s r : List Nat} {o : Str} (h : opAt s = some (o, r)) : s = 32 :: (o.cps.toList ++ 32 :: r) := by
  cases s with
  | nil => cases h
  | cons c t =>
    by_cases hc : c ≠ 32 ∨ 32 ∉ t
    · rw [opAt_no hc] at h
      cases h
    · have hc2 : c = 32 := Classical.byContradiction fun z => hc (.inl z)
      have hm : 32 ∈ t := Classical.byContradiction fun z => hc (.inr z)
      subst hc2
      obtain ⟨a, r2, e1, e2, _, e4⟩ := split_at hm
      have h : (if 32 ∈ t ∧ S (t.takeWhile (· != 32)) ∈ opsL then some (S (t.takeWhile (· != 32)), (t.dropWhile (· != 32)).tail) else none) = some (o, r) := h
      rw [e2, e4] at h
      split at h
      · injection h with h
        obtain ⟨rfl, rfl⟩ := Prod.mk.inj h
        rw [e1]
        rfl
      · cases h
def spLRead (K : PySem.W.Frag) (m : Nat) : Sp := fun vs H Q _ => ∃ (l : List Nat) (k d : Nat), vs = [.str (S l), .int k, .int d] ∧ LOk l ∧ k ≤ l.length ∧ Bd02 l k ∧ d < m ∧
  ∀ v H', Same H H' → PairIs K H' l (lr d (l.drop k)) v → Q v H'
theorem ok_read_step {m : Nat} (T : Txt w K mg) (g_l_read : FnOk P w K mg base CX0 (m + 4) T.a_l_read T.d_l_read p_l_read (spLRead K m)) :
    FnOk P w K mg base CX0 (m + 5) T.a_l_read T.d_l_read p_l_read (spLRead K (m + 1)) := by
  have g_l_atom := ok_l_atom (P := P) (base := base) T
  refine T.F_l_read.ok sc_l_read (fun vs H Q E h => ?_) (fun cdv A outer s H vs Q E hr h => ?_)
  · obtain ⟨l, k, d, rfl, _⟩ := h
    rfl
  obtain ⟨l, k, d, rfl, lo, hk, hb, hd, q⟩ := h
  have hl := lo.1
  refine ⟨_, (pss_cons (ps_if (pt_cmpR op_ne (pe_slice sl_str (pv 0) (po_some (pv 1)) (po_some (pe_op op_add (pv 1) pe_int))) pe_str (nomark _)) (pss_one (ps_ret (pe_call g_l_atom (hr.mono (by first | decide | omega)) rfl T.m_l_atom T.F_l_atom.kp T.b_l_atom .nil pass0 (pa_cons (pv 0) (pa_cons (pv 1) pa_nil))))) pss_nil)
      (pss_cons (ps_if (pt_cmpR op_eq (pv 2) pe_int (nomark _)) (pss_one (ps_ret pe_non)) pss_nil)
      (pss_cons (ps_if (pt_cmpR op_eq (pe_slice sl_str (pv 0) (po_some (pv 1)) (po_some (pe_op op_add (pv 1) pe_int))) pe_str (nomark _)) (pss_cons (ps_set (i := 3) sc_l_read.nd rfl (Or.inl rfl) (pe_call g_l_read (hr.mono (by first | decide | omega)) rfl T.m_l_read T.F_l_read.kp T.b_l_read .nil pass0 (pa_cons (pv 0) (pa_cons (pe_op op_add (pv 1) pe_int) (pa_cons (pe_op op_sub (pv 2) pe_int) pa_nil)))))
      (pss_cons (ps_if (PW.pt (pw_or (pt_cmpR op_isN (pv 3) pe_non (nomark _)) (pw_or1 (pt_cmpR op_ne (pe_slice sl_str (pv 0) (po_some (pe_ix ix_tup (pv 3) pe_int (fun _ _ => rfl))) (po_some (pe_op op_add (pe_ix ix_tup (pv 3) pe_int (fun _ _ => rfl)) pe_int))) pe_str (nomark _))))) (pss_one (ps_ret pe_non)) pss_nil)
      (pss_one (ps_ret (pe_tup (pa_cons (pe_tup (pa_cons pe_str (pa_cons (pe_ix ix_tup (pv 3) pe_int (fun _ _ => rfl)) pa_nil))) (pa_cons (pe_op op_add (pe_ix ix_tup (pv 3) pe_int (fun _ _ => rfl)) pe_int) pa_nil))))))) pss_nil)
      (pss_cons (ps_set (i := 4) sc_l_read.nd rfl (Or.inl rfl) (pe_call g_l_read (hr.mono (by first | decide | omega)) rfl T.m_l_read T.F_l_read.kp T.b_l_read .nil pass0 (pa_cons (pv 0) (pa_cons (pe_op op_add (pv 1) pe_int) (pa_cons (pe_op op_sub (pv 2) pe_int) pa_nil)))))
      (pss_cons (ps_if (pt_cmpR op_isN (pv 4) pe_non (nomark _)) (pss_one (ps_ret pe_non)) pss_nil)
      (pss_cons (ps_for PassesOwn.never rfl (pi_list (pe_lst (pa_cons pe_str (pa_cons pe_str (pa_cons pe_str (pa_cons pe_str (pa_cons pe_str (pa_cons pe_str (pa_cons pe_str (pa_cons pe_str (pa_cons pe_str (pa_cons pe_str pa_nil)))))))))))) (pg_name (i := 5) sc_l_read.nd rfl (Or.inl rfl))
        (pss_cons (ps_set (i := 6) sc_l_read.nd rfl (Or.inl rfl) (pe_op op_add (pe_op op_add (pe_ix ix_tup (pv 4) pe_int (fun _ _ => rfl)) (pe_callB call_len_str rfl T.z_len PySem.boot_len (pa_cons (pv 5) pa_nil))) pe_int))
      (pss_one (ps_if (pt_cmpR op_eq (pe_slice sl_str (pv 0) (po_some (pe_ix ix_tup (pv 4) pe_int (fun _ _ => rfl))) (po_some (pv 6))) (pe_op op_add_str (pe_op op_add_str pe_str (pv 5)) pe_str) (nomark _)) (pss_cons (ps_set (i := 7) sc_l_read.nd rfl (Or.inl rfl) (pe_call g_l_read (hr.mono (by first | decide | omega)) rfl T.m_l_read T.F_l_read.kp T.b_l_read .nil pass0 (pa_cons (pv 0) (pa_cons (pv 6) (pa_cons (pe_op op_sub (pv 2) pe_int) pa_nil)))))
      (pss_cons (ps_if (PW.pt (pw_or (pt_cmpR op_isN (pv 7) pe_non (nomark _)) (pw_or1 (pt_cmpR op_ne (pe_slice sl_str (pv 0) (po_some (pe_ix ix_tup (pv 7) pe_int (fun _ _ => rfl))) (po_some (pe_op op_add (pe_ix ix_tup (pv 7) pe_int (fun _ _ => rfl)) pe_int))) pe_str (nomark _))))) (pss_one (ps_ret pe_non)) pss_nil)
      (pss_one (ps_ret (pe_tup (pa_cons (pe_tup (pa_cons (pv 5) (pa_cons (pe_ix ix_tup (pv 4) pe_int (fun _ _ => rfl)) (pa_cons (pe_ix ix_tup (pv 7) pe_int (fun _ _ => rfl)) pa_nil)))) (pa_cons (pe_op op_add (pe_ix ix_tup (pv 7) pe_int (fun _ _ => rfl)) pe_int) pa_nil))))))) pss_nil))))
      (pss_one (ps_ret pe_non)))))))), ?_⟩
  refine ⟨_, rfl, _, rfl, _, rfl, _, rfl, _, _, rfl, rfl, _, rfl, S l, rfl, by rw [sizeLine_eq, S_len]; omega, rfl, _, rfl, ?_⟩
  rw [show ((k : Int) + 1) = ((k + 1 : Nat) : Int) from rfl, cutS_gen l k (k + 1) hk, Nat.add_sub_cancel_left, show Str.ofString "(" = S [40] from s_open, decS]
  by_cases h40 : ∃ t, l.drop k = 40 :: t
  case neg =>
    refine ifT (by rw [decide_eq_false (fun z => h40 (one_iff.mp (S_inj z)))]; rfl) ⟨_, rfl, _, rfl, l, k, rfl, hl, hk, lo.2 k hk hb, fun v H' s' hp => q v H' s' ?_⟩
    rw [lr_atom d (fun t e => h40 ⟨t, e⟩)]
    exact hp
  obtain ⟨t, h40⟩ := h40
  refine ifF (by rw [decide_eq_true (by rw [one_iff.mpr ⟨t, h40⟩])]; rfl) ?_
  refine ⟨_, rfl, rfl, _, rfl, ?_⟩
  rw [h40] at q
  cases d with
  | zero => exact ifT rfl (q .non H (Same.refl _) rfl)
  | succ d =>
  refine ifF (decide_eq_false (fun z => by have := V.int.inj z; omega)) ?_
  refine ⟨_, rfl, _, rfl, _, rfl, _, rfl, _, _, rfl, rfl, _, rfl, S l, rfl, by rw [sizeLine_eq, S_len]; omega, rfl, _, rfl, ?_⟩
  rw [show ((k : Int) + 5) = ((k + 5 : Nat) : Int) from rfl, cutS_gen l k (k + 5) hk, Nat.add_sub_cancel_left, show Str.ofString "(not " = S [40, 110, 111, 116, 32] from s_not, decS]
  have dm : ((d + 1 : Nat) : Int) - 1 = (d : Int) := by omega
  by_cases hn : ∃ r, t = 110 :: 111 :: 116 :: 32 :: r
  · obtain ⟨t, rfl⟩ := hn
    obtain ⟨d5, l5, g4⟩ := drop_five h40
    refine ifT (decide_eq_true (by rw [five_iff.mpr ⟨t, h40⟩])) ⟨_, rfl, _, rfl, _, _, rfl, rfl, _, rfl, _, _, rfl, rfl, l, k + 5, d, by show [V.str (S l), V.int ((k : Int) + 5), V.int (((d + 1 : Nat) : Int) - 1)] = _; rw [dm]; rfl, lo, l5, .inr ⟨k + 4, 32, rfl, g4, by decide +kernel⟩, by omega, fun v H1 s1 hp => ?_⟩
    rw [d5] at hp
    have lrn : lr (d + 1) (40 :: 110 :: 111 :: 116 :: 32 :: t) = match lr d t with | some (e, 41 :: r) => some (.not e, r) | _ => none := rfl
    rw [lrn] at q
    cases hr2 : lr d t with
    | none =>
      rw [hr2] at hp q
      obtain rfl : v = .non := hp
      exact ⟨_, rfl, rfl, _, rfl, ifT rfl (ifT rfl (q .non H1 s1 rfl))⟩
    | some y =>
      obtain ⟨e, r⟩ := y
      rw [hr2] at hp q
      obtain ⟨p, x, k2, rfl, hp, hx, k2l, hd2⟩ := hp
      refine ⟨_, rfl, rfl, _, rfl, ifF rfl ⟨_, rfl, _, rfl, p, _, 1, _, rfl, rfl, hp, rfl, _, rfl, _, rfl, p, _, 1, _, rfl, rfl, hp, rfl, _, _, rfl, rfl, _, rfl, S l, rfl, by rw [sizeLine_eq, S_len]; omega, rfl, _, rfl, ?_⟩⟩
      rw [show ((k2 : Int) + 1) = ((k2 + 1 : Nat) : Int) from rfl, cutS_gen l k2 (k2 + 1) k2l, Nat.add_sub_cancel_left, show Str.ofString ")" = S [41] from s_close, decS, hd2]
      by_cases hc : ∃ r2, r = 41 :: r2
      · obtain ⟨r2, rfl⟩ := hc
        refine ifF (by rw [decide_eq_true (by rw [one_iff.mpr ⟨r2, rfl⟩])]; rfl) ⟨_, rfl, p, _, 0, _, rfl, rfl, hp, rfl, by show 2 ≤ sizeLine; decide, fun p1 hp1 => ?_⟩
        have s2 := Same.new hp1 (.tup [.str "not", x])
        refine ⟨_, rfl, p, _, 1, _, rfl, rfl, Same.tup s2 hp, rfl, _, _, rfl, rfl, by show 2 ≤ sizeLine; decide, fun p2 hp2 => ?_⟩
        have s12 : Same H (upd H1 p1 (.tup [.str "not", x])) := Same.grow (Same.none s1 hp1) s1
        refine q _ _ (Same.grow (Same.none s12 hp2) s12) ?_
        have := pair_new (K := K) (l := l) (e := .not e) (x := .ref p1) (k := k2 + 1) hp2 ⟨p1, x, rfl, .of upd_same, hx.keep (Keeps.of_same s2)⟩ (drop_lt hd2)
        rw [drop_next hd2] at this
        exact this
      · refine ifT (by rw [decide_eq_false (fun z => hc (one_iff.mp (S_inj z)))]; rfl) (q .non H1 s1 ?_)
        split
        · rename_i heq
          injection heq with heq
          exact absurd ⟨_, (Prod.mk.inj heq).2⟩ hc
        · rfl
  refine ifF (decide_eq_false (fun z => ?_)) ?_
  · obtain ⟨r, e⟩ := five_iff.mp (S_inj z)
    rw [h40] at e
    exact hn ⟨r, (List.cons.inj e).2⟩
  have dk := drop_next h40
  rw [lr_opn d (fun r e => hn ⟨r, e⟩)] at q
  refine ⟨_, rfl, _, rfl, _, _, rfl, rfl, _, rfl, _, _, rfl, rfl, l, k + 1, d, by show [V.str (S l), V.int ((k : Int) + 1), V.int (((d + 1 : Nat) : Int) - 1)] = _; rw [dm]; rfl, lo, drop_lt h40, .inr ⟨k, 40, rfl, drop_get h40, by decide +kernel⟩, by omega, fun v H1 s1 hp => ?_⟩
  rw [dk] at hp
  cases hr2 : lr d t with
  | none =>
    rw [hr2] at hp q
    obtain rfl : v = .non := hp
    exact ⟨_, rfl, rfl, _, rfl, ifT rfl (q .non H1 s1 rfl)⟩
  | some y =>
  obtain ⟨a, r⟩ := y
  rw [hr2] at hp q
  have q : ∀ v H', Same H H' → PairIs K H' l (match opAt r with | some (op, r1) => (match lr d r1 with | some (b, 41 :: r2) => some (.bin op a b, r2) | _ => none) | none => none) v → Q v H' := q
  obtain ⟨p, x, k2, rfl, hp, hx, k2l, hd2⟩ := hp
  refine ⟨_, rfl, rfl, _, rfl, ifF rfl ⟨by show 10 ≤ sizeLine; decide, fun pl hpl => ⟨pl, rfl, ⟨_, .of upd_same⟩, ?_⟩⟩⟩
  have s2 := Same.new hpl (.lst (opsL.map V.str))
  have s12 : Same H (upd H1 pl (.lst (opsL.map V.str))) := Same.grow (Same.none s1 hpl) s1
  refine for_it (walk_list (xs := opsL.map V.str)) (fun i σ F => (∃ y z u : Option V, σ = [some (.str (S l)), some (.int k), some (.int ((d + 1 : Nat) : Int)), none, some (.ref p), y, z, u]) ∧ F = upd H1 pl (.lst (opsL.map V.str)) ∧ ∀ j, j < i → ∀ o r1, opsL[j]? = some o → opAt r ≠ some (o, r1))
    ⟨⟨_, _, _, rfl⟩, rfl, fun j h => absurd h (Nat.not_lt_zero _)⟩ (fun i σ F _ P => by rw [P.2.1]; exact .of upd_same) ?_ ?_
  · rintro i y σ F F' hi ⟨⟨y0, z0, u0, rfl⟩, rfl, hj⟩ ⟨rfl, hy⟩
    rw [List.getElem?_map] at hy
    obtain ⟨o, ho, rfl⟩ := Option.map_eq_some_iff.mp hy
    have om := List.mem_of_getElem? ho
    have ol : o.length ≤ 4 := ops_len o om
    have hp2 := Same.tup s2 hp
    have hx2 := hx.keep (Keeps.of_same s2)
    refine ⟨_, rfl, p, _, 1, _, rfl, rfl, hp2, rfl, _, rfl, o, rfl, by rw [sizeLine_eq]; omega, _, _, rfl, rfl, _, _, rfl, rfl, ?_⟩
    refine ⟨_, rfl, _, rfl, p, _, 1, _, rfl, rfl, hp2, rfl, _, rfl, _, rfl, _, rfl, S l, rfl, by rw [sizeLine_eq, S_len]; omega, _, rfl, _, _, rfl, rfl, by rw [sizeLine_eq, show (Str.ofString " ").length = 1 from by decide +kernel]; omega, _, _, rfl, rfl, by rw [sizeLine_eq, len_app, show (Str.ofString " ").length = 1 from by decide +kernel]; omega, rfl, _, rfl, ?_⟩
    have k3e : (k2 : Int) + (o.length : Int) + 2 = ((k2 + (o.length + 2) : Nat) : Int) := by omega
    have e4 : Str.ofString " " ++ o ++ Str.ofString " " = S (32 :: (o.cps.toList ++ [32])) := by
      rw [show Str.ofString " " = S [32] from s_blank]
      conv => lhs; rw [← S_of o]
      rw [S_app, S_app]
      rfl
    rw [k3e, cutS_gen l k2 _ k2l, Nat.add_sub_cancel_left, e4, decS, hd2]
    by_cases hm : ∃ r1, opAt r = some (o, r1) ∧ r = 32 :: (o.cps.toList ++ 32 :: r1)
    case neg =>
      refine ifF (decide_eq_false (fun z => hm ((op_iff om).mp (S_inj z)))) ⟨⟨_, _, _, rfl⟩, rfl, fun j hj2 o2 r2 h2 h3 => ?_⟩
      by_cases je : j = i
      · subst je
        rw [ho] at h2
        obtain rfl := Option.some.inj h2
        exact hm ⟨r2, h3, opAt_shape h3⟩
      · exact hj j (by omega) o2 r2 h2 h3
    obtain ⟨r1, ho1, er⟩ := hm
    have hd3 := hd2.trans er
    have ol2 : o.cps.toList.length = o.length := Array.length_toList
    have hd4 : l.drop (k2 + (o.length + 1)) = 32 :: r1 := by
      rw [show k2 + (o.length + 1) = k2 + 1 + o.cps.toList.length by omega, ← List.drop_drop, drop_next hd3, List.drop_left]
    have hd5 : l.drop (k2 + (o.length + 2)) = r1 := drop_next hd4
    have q : ∀ v H', Same H H' → PairIs K H' l (match lr d r1 with | some (b, 41 :: r2) => some (.bin o a b, r2) | _ => none) v → Q v H' := by
      rw [ho1] at q
      exact q
    refine ifT (decide_eq_true (by rw [(op_iff om).mpr ⟨r1, ho1, er⟩])) ⟨_, rfl, _, rfl, _, rfl, _, _, rfl, rfl, l, k2 + (o.length + 2), d, by show [V.str (S l), V.int ((k2 : Int) + (o.length : Int) + 2), V.int (((d + 1 : Nat) : Int) - 1)] = _; rw [dm, k3e], lo, drop_lt hd4, .inr ⟨k2 + (o.length + 1), 32, rfl, drop_get hd4, by decide +kernel⟩, by omega, fun v2 H3 s3 hp3 => ?_⟩
    rw [hd5] at hp3
    have s13 := Same.trans s12 s3
    cases hr3 : lr d r1 with
    | none =>
      rw [hr3] at hp3 q
      obtain rfl : v2 = .non := hp3
      exact ⟨_, rfl, rfl, _, rfl, ifT rfl (ifT rfl (q .non H3 s13 rfl))⟩
    | some y3 =>
    obtain ⟨b, r3⟩ := y3
    rw [hr3] at hp3 q
    obtain ⟨p3, x3, k4, rfl, hp3, hx3, k4l, hd6⟩ := hp3
    have hp4 := Same.tup s3 hp2
    have hx4 := hx2.keep (Keeps.of_same s3)
    refine ⟨_, rfl, rfl, _, rfl, ifF rfl ⟨_, rfl, _, rfl, p3, _, 1, _, rfl, rfl, hp3, rfl, _, rfl, _, rfl, p3, _, 1, _, rfl, rfl, hp3, rfl, _, _, rfl, rfl, _, rfl, S l, rfl, by rw [sizeLine_eq, S_len]; omega, rfl, _, rfl, ?_⟩⟩
    rw [show ((k4 : Int) + 1) = ((k4 + 1 : Nat) : Int) from rfl, cutS_gen l k4 (k4 + 1) k4l, Nat.add_sub_cancel_left, show Str.ofString ")" = S [41] from s_close, decS, hd6]
    by_cases hc : ∃ r2, r3 = 41 :: r2
    · obtain ⟨r2, rfl⟩ := hc
      refine ifF (by rw [decide_eq_true (by rw [one_iff.mpr ⟨r2, rfl⟩])]; rfl) ⟨_, rfl, _, rfl, p, _, 0, _, rfl, rfl, hp4, rfl, _, rfl, p3, _, 0, _, rfl, rfl, hp3, rfl, by show 3 ≤ sizeLine; decide, fun p1 hp1 => ?_⟩
      have s4 := Same.new hp1 (.tup [.str o, x, x3])
      refine ⟨_, rfl, p3, _, 1, _, rfl, rfl, Same.tup s4 hp3, rfl, _, _, rfl, rfl, by show 2 ≤ sizeLine; decide, fun p2 hp2 => ?_⟩
      have s14 : Same H (upd H3 p1 (.tup [.str o, x, x3])) := Same.grow (Same.none s13 hp1) s13
      refine q _ _ (Same.grow (Same.none s14 hp2) s14) ?_
      have := pair_new (K := K) (l := l) (e := .bin o a b) (x := .ref p1) (k := k4 + 1) hp2 ⟨p1, x, x3, rfl, .of upd_same, hx4.keep (Keeps.of_same s4), hx3.keep (Keeps.of_same s4)⟩ (drop_lt hd6)
      rw [drop_next hd6] at this
      exact this
    · refine ifT (by rw [decide_eq_false (fun z => hc (one_iff.mp (S_inj z)))]; rfl) (q .non H3 s13 ?_)
      split
      · rename_i heq
        injection heq with heq
        exact absurd ⟨_, (Prod.mk.inj heq).2⟩ hc
      · rfl
  · rintro σ F ⟨⟨y0, z0, u0, rfl⟩, rfl, hj⟩
    refine q .non _ s12 ?_
    cases ho : opAt r with
    | none => rfl
    | some z =>
      obtain ⟨o, r1⟩ := z
      obtain ⟨j, hj2⟩ := List.mem_iff_getElem?.mp (opAt_mem ho)
      exact absurd ho (hj j (by have := (List.getElem?_eq_some_iff.mp hj2).1; rw [List.length_map]; exact this) o r1 hj2)
end
open PySem L2 ExV
/-! ### asked: the expression, or the line of BadText -/
def rIsPTc (K : PySem.W.Frag) (a : Addr) (c : Value) (d : Option Addr) : List V → Hp → VK → Prop := fun xs H Q => ∃ D : Addr, c = .ref D ∧ rIsPT K a D d xs H Q
theorem call_isPTc {X : Cx} {a : Addr} {c : Value} {d : Option Addr} (hE : ExP X a c d) : CallR X (.builtin "isinstance") (rIsPTc X.K a c d) := by
  intro pins s σ H xs us Q I r h
  obtain ⟨D, rfl, h⟩ := h
  exact call_isPT hE pins s σ H xs us Q I r h
def tXpc (K : PySem.W.Frag) (a : Addr) (c : Value) (d : Option Addr) (n : Str) (te : TE) : TE := fun σ H Q => ∃ D : Addr, c = .ref D ∧ tXp K a D d n te σ H Q
theorem pe_xpc {X : Cx} {a : Addr} {c : Value} {d : Option Addr} {e : Expr} {te : TE} {pos : Pos} {n : Str} (hE : ExP X a c d) (he : PE X e te) (hb : attributeBase e n X.env (eval e X.env) = eval e X.env := by rfl) : PE X (.Attribute e n pos) (tXpc X.K a c d n te) := by
  refine ⟨fun pins s σ H Q I h => ?_⟩
  obtain ⟨D, rfl, h⟩ := h
  exact (pe_xp hE he hb).run pins s σ H Q I h
section
variable {w : World} {K : PySem.W.Frag} {mg : Str → Option Value} {base : Heap}
def AskIs (K : PySem.W.Frag) (H : Hp) (o : Option Ex) (p : Addr) : Prop := match o with
  | none => H p = some (.lst [.str "bad", .int 1])
  | some e => ∃ x, H p = some (.lst [.str "told", x]) ∧ ExAt K H e x
def spAsked (K : PySem.W.Frag) : Sp := fun vs H Q _ => ∃ l : List Nat, vs = [.str (S l)] ∧ WOk l ∧ ∀ p H', Same H H' → H p = none → AskIs K H' (fin [] (R l)) p → Q (.ref p) H'
def tsA (T : Txt w K mg) : Addr → Value → Option Addr → TS := fun a c d =>
  tSeq (tAsg (tCB (rIsPTc K a c d) (tCons (tVar 1) (tCons (tTup (tCons (tC (.ref T.C_Twice)) (tCons (tC (.ref T.C_Unknown)) (tCons (tC (.ref T.C_BadKind)) (tCons (tC (.ref T.C_WrongKind)) (tCons (tC (.ref T.C_NoSite)) (tCons (tC (.ref T.C_NoPlace)) (tCons (tC (.ref T.C_NotAccepted)) (tCons (tC (.ref T.C_BadCertificate)) (tCons (tC (.ref T.C_BadJournal)) tNil)))))))))) tNil))) (gName 2))
  (tSeq (tAsg (tOrV (tVar 2) (tCB (rIsPTc K a c d) (tCons (tVar 1) (tCons (tTup (tCons (tC (.ref T.C_WrongChange)) (tCons (tC (.ref T.C_NotPlain)) (tCons (tC (.ref T.C_BadWitness)) (tCons (tC (.ref T.C_TooLong)) (tCons (tC (.ref T.C_NothingLoaded)) (tCons (tC (.ref T.C_NothingToUndo)) tNil))))))) tNil)))) (gName 2))
  (tSeq (tIfS (tOr (tB (tVar 2)) (tOr (tNot (tB (tCB (rIsPc K a c d) (tCons (tVar 1) (tCons (tC (.ref T.C_NeverError)) tNil))))) (tNot (tB (tCB (rIsPc K a c d) (tCons (tVar 1) (tCons (tC (.ty "ValueError")) tNil))))))) (tRet (tLst (tCons (tC (.str "other")) tNil))) tNext)
  (tRet (tLst (tCons (tC (.str "bad")) (tCons (tXpc K a c d "line" (tVar 1)) tNil))))))
theorem kit_no {K : PySem.W.Frag} {D C : Addr} {ws : List Value} (h : PySem.W.kitOne K (.ref D) (.ref C) = some false) (h2 : PySem.W.kitAny K (.ref D) ws = some false) : PySem.W.kitAny K (.ref D) (.ref C :: ws) = some false := by
  show (match PySem.W.kitOne K (.ref D) (.ref C) with | some true => some true | some false => PySem.W.kitAny K (.ref D) ws | none => none) = _
  rw [h]
  exact h2
theorem suite_asked (T : Txt w K mg) {a dd : Addr} {H : Hp} {l : List Nat} {Q : VK} {nx : L2.St → Hp → Prop} (hd : H dd = some (.xd [("line", .int 1)])) (q : ∀ p H', Same H H' → H p = none → H' p = some (.lst [.str "bad", .int 1]) → Q (.ref p) H') :
    tsA T a (.ref T.C_BadText) (some dd) { nx := nx, rt := Q } [some (.str (S l)), some (.ref a), none] H := by
  have ec := T.xb_BadText.ec
  have no9 : PySem.W.kitAny K (.ref T.C_BadText) [.ref T.C_Twice, .ref T.C_Unknown, .ref T.C_BadKind, .ref T.C_WrongKind, .ref T.C_NoSite, .ref T.C_NoPlace, .ref T.C_NotAccepted, .ref T.C_BadCertificate, .ref T.C_BadJournal] = some false := (kit_no (Option.some.inj (congrArg (fun l => l[2]?) T.kr_BadText) : PySem.W.kitOne K (.ref T.C_BadText) (.ref T.C_Twice) = some false) (kit_no (Option.some.inj (congrArg (fun l => l[3]?) T.kr_BadText) : PySem.W.kitOne K (.ref T.C_BadText) (.ref T.C_Unknown) = some false) (kit_no (Option.some.inj (congrArg (fun l => l[4]?) T.kr_BadText) : PySem.W.kitOne K (.ref T.C_BadText) (.ref T.C_BadKind) = some false) (kit_no (Option.some.inj (congrArg (fun l => l[5]?) T.kr_BadText) : PySem.W.kitOne K (.ref T.C_BadText) (.ref T.C_WrongKind) = some false) (kit_no (Option.some.inj (congrArg (fun l => l[6]?) T.kr_BadText) : PySem.W.kitOne K (.ref T.C_BadText) (.ref T.C_NoSite) = some false) (kit_no (Option.some.inj (congrArg (fun l => l[7]?) T.kr_BadText) : PySem.W.kitOne K (.ref T.C_BadText) (.ref T.C_NoPlace) = some false) (kit_no (Option.some.inj (congrArg (fun l => l[8]?) T.kr_BadText) : PySem.W.kitOne K (.ref T.C_BadText) (.ref T.C_NotAccepted) = some false) (kit_no (Option.some.inj (congrArg (fun l => l[9]?) T.kr_BadText) : PySem.W.kitOne K (.ref T.C_BadText) (.ref T.C_BadCertificate) = some false) (kit_no (Option.some.inj (congrArg (fun l => l[16]?) T.kr_BadText) : PySem.W.kitOne K (.ref T.C_BadText) (.ref T.C_BadJournal) = some false) rfl)))))))))
  have no6 : PySem.W.kitAny K (.ref T.C_BadText) [.ref T.C_WrongChange, .ref T.C_NotPlain, .ref T.C_BadWitness, .ref T.C_TooLong, .ref T.C_NothingLoaded, .ref T.C_NothingToUndo] = some false := (kit_no (Option.some.inj (congrArg (fun l => l[10]?) T.kr_BadText) : PySem.W.kitOne K (.ref T.C_BadText) (.ref T.C_WrongChange) = some false) (kit_no (Option.some.inj (congrArg (fun l => l[11]?) T.kr_BadText) : PySem.W.kitOne K (.ref T.C_BadText) (.ref T.C_NotPlain) = some false) (kit_no (Option.some.inj (congrArg (fun l => l[12]?) T.kr_BadText) : PySem.W.kitOne K (.ref T.C_BadText) (.ref T.C_BadWitness) = some false) (kit_no (Option.some.inj (congrArg (fun l => l[13]?) T.kr_BadText) : PySem.W.kitOne K (.ref T.C_BadText) (.ref T.C_TooLong) = some false) (kit_no (Option.some.inj (congrArg (fun l => l[14]?) T.kr_BadText) : PySem.W.kitOne K (.ref T.C_BadText) (.ref T.C_NothingLoaded) = some false) (kit_no (Option.some.inj (congrArg (fun l => l[15]?) T.kr_BadText) : PySem.W.kitOne K (.ref T.C_BadText) (.ref T.C_NothingToUndo) = some false) rfl))))))
  refine ⟨_, rfl, by show 9 ≤ sizeLine; decide, fun p n => ?_⟩
  have s1 := Same.new n (.tup [V.ref T.C_Twice, V.ref T.C_Unknown, V.ref T.C_BadKind, V.ref T.C_WrongKind, V.ref T.C_NoSite, V.ref T.C_NoPlace, V.ref T.C_NotAccepted, V.ref T.C_BadCertificate, V.ref T.C_BadJournal])
  refine ⟨T.C_BadText, rfl, p, _, _, _, rfl, ec, fun d2 e => ?_, upd_same, (.cons (.own _) (.cons (.own _) (.cons (.own _) (.cons (.own _) (.cons (.own _) (.cons (.own _) (.cons (.own _) (.cons (.own _) (.cons (.own _) .nil))))))))), no9, ?_⟩
  · obtain rfl := Option.some.inj e
    exact ⟨_, s1 _ _ hd⟩
  refine ⟨_, rfl, false, rfl, iteF ⟨_, rfl, by show 6 ≤ sizeLine; decide, fun p2 n2 => ?_⟩⟩
  have s2 := Same.grow (Same.none s1 n2) s1 (o := .tup [V.ref T.C_WrongChange, V.ref T.C_NotPlain, V.ref T.C_BadWitness, V.ref T.C_TooLong, V.ref T.C_NothingLoaded, V.ref T.C_NothingToUndo])
  refine ⟨T.C_BadText, rfl, p2, _, _, _, rfl, ec, fun d2 e => ?_, upd_same, (.cons (.own _) (.cons (.own _) (.cons (.own _) (.cons (.own _) (.cons (.own _) (.cons (.own _) .nil)))))), no6, ?_⟩
  · obtain rfl := Option.some.inj e
    exact ⟨_, s2 _ _ hd⟩
  have has : ∀ d2, some dd = some d2 → ∃ fs, (upd (upd H p (.tup [V.ref T.C_Twice, V.ref T.C_Unknown, V.ref T.C_BadKind, V.ref T.C_WrongKind, V.ref T.C_NoSite, V.ref T.C_NoPlace, V.ref T.C_NotAccepted, V.ref T.C_BadCertificate, V.ref T.C_BadJournal])) p2 (.tup [V.ref T.C_WrongChange, V.ref T.C_NotPlain, V.ref T.C_BadWitness, V.ref T.C_TooLong, V.ref T.C_NothingLoaded, V.ref T.C_NothingToUndo])) d2 = some (.xd fs) := fun d2 e => by
    obtain rfl := Option.some.inj e
    exact ⟨_, s2 _ _ hd⟩
  refine ⟨_, rfl, _, rfl, iteF ⟨_, rfl, T.C_BadText, rfl, .ref T.C_NeverError, _, true, rfl, ec, has, fun u r => r, (Option.some.inj (congrArg (fun l => l[0]?) T.kr_BadText) : PySem.W.kitOne K (.ref T.C_BadText) (.ref T.C_NeverError) = some true), _, rfl, iteF ?_⟩⟩
  refine ⟨_, rfl, T.C_BadText, rfl, .ty "ValueError", _, true, rfl, ec, has, fun u r => r, T.kv_BadText, _, rfl, iteF ?_⟩
  refine ⟨T.C_BadText, rfl, _, rfl, dd, _, _, rfl, rfl, T.xb_BadText.xf, T.xb_BadText.no _ (by decide), s2 _ _ hd, rfl, by show 2 ≤ sizeLine; decide, fun p3 n3 => ?_⟩
  exact q p3 _ (Same.grow (Same.none s2 n3) s2) (Same.none s2 n3) upd_same
theorem ok_l_asked (T : Txt w K mg) : FnOk PWX w K mg base CX0 6 T.a_l_asked T.d_l_asked p_l_asked (spAsked K) := by
  have g_read_expression := ok_read_expression (base := base) T
  refine T.F_l_asked.ok sc_l_asked (fun vs H Q E h => ?_) (fun cdv A outer s H vs Q E hr h => ?_)
  · obtain ⟨l, rfl, _⟩ := h
    rfl
  obtain ⟨l, rfl, hw, q⟩ := h
  refine ⟨_, pss_one (L2N.ps_try_as (i := 1) (tb := fun W => tRet (tLst (tCons (tC (.str "told")) (tCons (tCallS (spRead T) (WE W) (tCons (tVar 0) tNil)) tNil)))) (ts := tsA T) (Wout := fun _ _ _ _ => False) rfl rfl sc_l_asked.nd rfl rfl ⟨rfl, by decide, Or.inl T.mgc_BadText⟩ takesN0
      (fun W pn xe tk _ => pss_one (ps_ret (pe_lst (pa_cons pe_str (pa_cons (pe_callS g_read_expression (hr.mono (by decide)) rfl T.m_read_expression T.F_read_expression.kp T.b_read_expression (fun σ => L2N.passAt tk σ) (pa_cons (pv 0) pa_nil)) pa_nil)))))
      (fun a oe cls d pn hz hf => ?_)), ?_⟩
  · have hE := suite_exP (a := a) (X := (cxOf CX0 PWX w K mg base n_l_asked "_law_asked" (defScope s_l_asked) T.a_l_asked cdv A outer s H E).nox) (pn := pn) hz hf
    exact (pss_cons (ps_set (i := 2) sc_l_asked.nd rfl (Or.inl rfl) (pe_callB (call_isPTc hE) rfl T.z_isinstance bb_isinstance (pa_cons (pv 1) (pa_cons (pe_tup (pa_cons (pe_glob (v := .ref T.C_Twice) rfl T.mgc_Twice rfl) (pa_cons (pe_glob (v := .ref T.C_Unknown) rfl T.mgc_Unknown rfl) (pa_cons (pe_glob (v := .ref T.C_BadKind) rfl T.mgc_BadKind rfl) (pa_cons (pe_glob (v := .ref T.C_WrongKind) rfl T.mgc_WrongKind rfl) (pa_cons (pe_glob (v := .ref T.C_NoSite) rfl T.mgc_NoSite rfl) (pa_cons (pe_glob (v := .ref T.C_NoPlace) rfl T.mgc_NoPlace rfl) (pa_cons (pe_glob (v := .ref T.C_NotAccepted) rfl T.mgc_NotAccepted rfl) (pa_cons (pe_glob (v := .ref T.C_BadCertificate) rfl T.mgc_BadCertificate rfl) (pa_cons (pe_glob (v := .ref T.C_BadJournal) rfl T.mgc_BadJournal rfl) pa_nil)))))))))) pa_nil))))
      (pss_cons (ps_set (i := 2) sc_l_asked.nd rfl (Or.inl rfl) (pe_or (pv 2) (pe_one (pe_callB (call_isPTc hE) rfl T.z_isinstance bb_isinstance (pa_cons (pv 1) (pa_cons (pe_tup (pa_cons (pe_glob (v := .ref T.C_WrongChange) rfl T.mgc_WrongChange rfl) (pa_cons (pe_glob (v := .ref T.C_NotPlain) rfl T.mgc_NotPlain rfl) (pa_cons (pe_glob (v := .ref T.C_BadWitness) rfl T.mgc_BadWitness rfl) (pa_cons (pe_glob (v := .ref T.C_TooLong) rfl T.mgc_TooLong rfl) (pa_cons (pe_glob (v := .ref T.C_NothingLoaded) rfl T.mgc_NothingLoaded rfl) (pa_cons (pe_glob (v := .ref T.C_NothingToUndo) rfl T.mgc_NothingToUndo rfl) pa_nil))))))) pa_nil))))))
      (pss_cons (ps_if (PW.pt (pw_or (pt_val (pv 2)) (pw_or (pt_not (pt_val (pe_callB (call_isPc hE) rfl T.z_isinstance bb_isinstance (pa_cons (pv 1) (pa_cons (pe_glob (v := .ref T.C_NeverError) rfl T.mgc_NeverError rfl) pa_nil))))) (pw_or1 (pt_not (pt_val (pe_callB (call_isPc hE) rfl T.z_isinstance bb_isinstance (pa_cons (pv 1) (pa_cons (pe_bltn (v := .ty "ValueError") rfl T.z_ValueError PyProof.Rows.Boot.«ValueError» rfl) pa_nil))))))))) (pss_one (ps_ret (pe_lst (pa_cons pe_str pa_nil)))) pss_nil)
      (pss_one (ps_ret (pe_lst (pa_cons pe_str (pa_cons (pe_xpc hE (pv 1)) pa_nil))))))))
  · refine ⟨_, rfl, l, rfl, hw, fun e v H' hf s' hv => ⟨by show 2 ≤ sizeLine; decide, fun p hp => ?_⟩, fun hf d H' s' hd nd => ⟨true, T.te_BadText_BadText, fun _ a na => suite_asked T hd fun p H2 s2 hp h2 => ?_, fun z => nomatch z⟩⟩
    · refine q p _ (Same.grow (Same.none s' hp) s') (Same.none s' hp) ?_
      rw [hf]
      exact ⟨v, upd_same, hv.keep (Keeps.of_same (Same.new hp _))⟩
    · refine q p H2 (Same.trans s' s2) (Same.none s' hp) ?_
      rw [hf]
      exact h2
end
open PySem L2 ExV
/-! ### the law's reading and the program's -/
def Nest : Nat → List Nat → Prop
  | _, [] => True
  | k, c :: t => if c = 40 then 0 < k ∧ Nest (k - 1) t else if c = 41 then Nest (k + 1) t else Nest k t
theorem Nest.skip : ∀ {w r : List Nat} {k : Nat}, (∀ c ∈ w, c ≠ 40 ∧ c ≠ 41) → (Nest k (w ++ r) ↔ Nest k r)
  | [], _, _, _ => Iff.rfl
  | c :: w, r, k, h => by
    have hc := h c List.mem_cons_self
    show (if c = 40 then _ else if c = 41 then _ else Nest k (w ++ r)) ↔ _
    rw [if_neg hc.1, if_neg hc.2]
    exact Nest.skip fun d hd => h d (List.mem_cons_of_mem _ hd)
theorem mem_tw {p : Nat → Bool} {c : Nat} : ∀ {t : List Nat}, c ∈ t.takeWhile p → p c = true
  | [], h => by cases h
  | d :: t, h => by
    cases hp : p d with
    | false =>
      rw [List.takeWhile_cons_of_neg (by rw [hp]; decide)] at h
      cases h
    | true =>
      rw [List.takeWhile_cons_of_pos hp] at h
      rcases List.mem_cons.mp h with rfl | h
      · exact hp
      · exact mem_tw h
theorem dl_ne {c : Nat} (h : isDl c = false) : c ≠ 40 ∧ c ≠ 41 ∧ c ≠ 32 := by
  refine ⟨?_, ?_, ?_⟩ <;> (rintro rfl; revert h; decide +kernel)
/-- a word that is read is made of small letters and digits, a minus sign ahead -/
theorem atom_an {w : List Nat} {e : Ex} (h : atomE w = some e) : w ≠ [] ∧ ∃ m t, w = m ++ t ∧ (m = [] ∨ m = [45]) ∧ t.all isAn = true ∧ t ≠ [] := by
  have dg : ∀ c, isDg c = true → isAn c = true := fun c hc => by
    have e : ∀ c ∈ ("0123456789" : Str).cps.toList, isAn c = true := by decide +kernel
    exact e c (of_decide_eq_true hc)
  have fixd : ∀ z : Str, S w = z → z.cps.toList.all isAn = true → z.cps.toList ≠ [] → w ≠ [] ∧ ∃ m t, w = m ++ t ∧ (m = [] ∨ m = [45]) ∧ t.all isAn = true ∧ t ≠ [] := fun z hz ha hn => by
    have : w = z.cps.toList := by rw [← hz]; rfl
    rw [this]
    exact ⟨hn, [], _, rfl, .inl rfl, ha, hn⟩
  unfold atomE at h
  by_cases h1 : S w = "true"
  · exact fixd _ h1 (by decide +kernel) (by decide +kernel)
  by_cases h2 : S w = "false"
  · exact fixd _ h2 (by decide +kernel) (by decide +kernel)
  by_cases h3 : S w = "null"
  · exact fixd _ h3 (by decide +kernel) (by decide +kernel)
  rw [if_neg h1, if_neg h2, if_neg h3] at h
  by_cases h4 : isNm w = true
  · cases w with
    | nil => cases h4
    | cons c r =>
      have h4 : (isLo c && !decide (S (c :: r) ∈ resL) && (c :: r).all isAn) = true := h4
      rw [Bool.and_eq_true] at h4
      exact ⟨by simp, [], _, rfl, .inl rfl, h4.2, by simp⟩
  rw [if_neg h4] at h
  by_cases h5 : isNum w = true
  · unfold isNum at h5
    simp only [Bool.and_eq_true, decide_eq_true_eq] at h5
    obtain ⟨⟨⟨a, _⟩, b⟩, _⟩ := h5
    have b : (digs w).all isAn = true := List.all_eq_true.mpr fun c hc => dg c (List.all_eq_true.mp b c hc)
    by_cases hm : ∃ t, w = 45 :: t
    · obtain ⟨t, rfl⟩ := hm
      exact ⟨by simp, [45], t, rfl, .inr rfl, b, a⟩
    · have e : digs w = w := by
        unfold digs
        split
        · exact absurd ⟨_, rfl⟩ hm
        · rfl
      rw [e] at a b
      exact ⟨a, [], w, rfl, .inl rfl, b, a⟩
  · rw [if_neg h5] at h
    cases h
theorem tw_stop {p : Nat → Bool} {t r : List Nat} (h : t.all p = true) (hr : ∀ c r', r = c :: r' → p c = false) : (t ++ r).takeWhile p = t := by
  rw [List.takeWhile_append_of_pos (fun c hc => List.all_eq_true.mp h c hc)]
  cases r with
  | nil => rw [List.takeWhile_nil, List.append_nil]
  | cons c r => rw [List.takeWhile_cons_of_neg (by rw [hr c r rfl]; decide), List.append_nil]
theorem wdR_head {s r : List Nat} {c : Nat} (h : wdR s = c :: r) : isDl c = true := by
  have hd : (s.dropWhile fun c => !isDl c).head? = some c := by
    show (wdR s).head? = _
    rw [h]
    rfl
  have := List.head?_dropWhile_not (fun c => !isDl c) s
  rw [hd] at this
  have t : (!(!isDl c)) = true := by simpa using this
  rw [Bool.not_not] at t
  exact t
theorem not_an {c : Nat} (h : isDl c = true) : isAn c = false := by
  cases e : isAn c with
  | false => rfl
  | true =>
    rw [an_dl e] at h
    cases h
theorem aw_eq {s : List Nat} {e : Ex} (h : atomE (wd s) = some e) : aw s = wd s := by
  obtain ⟨_, m, t, hw, hm, ht, hn⟩ := atom_an h
  have hs := wd_app s
  rw [hw] at hs
  rw [hw]
  have stop : ∀ c r', wdR s = c :: r' → isAn c = false := fun c r' hc => not_an (wdR_head hc)
  rcases hm with rfl | rfl
  · rw [List.nil_append] at hs ⊢
    have : aw s = s.takeWhile isAn := by
      unfold aw
      split
      · rename_i u
        obtain ⟨c, t2, rfl⟩ := List.exists_cons_of_ne_nil hn
        have hc : c = 45 := (List.cons.inj hs).1.symm
        subst hc
        rw [List.all_cons] at ht
        have : isAn 45 = false := by decide +kernel
        rw [this] at ht
        cases ht
      · rfl
    rw [this]
    conv => lhs; rw [hs]
    exact tw_stop ht stop
  · rw [hs]
    show 45 :: (t ++ wdR s).takeWhile isAn = _
    rw [tw_stop ht stop]
    rfl
theorem wd_aw {s : List Nat} (h : ∀ c r, s.drop (aw s).length = c :: r → isDl c = true) : wd s = aw s := by
  obtain ⟨r, hs⟩ := aw_app s
  have hr : s.drop (aw s).length = r := by
    conv => lhs; arg 2; rw [hs]
    exact List.drop_left
  rw [hr] at h
  have nd : (aw s).all (fun c => !isDl c) = true := by
    refine List.all_eq_true.mpr fun c hc => ?_
    have im : ∀ {t : List Nat}, c ∈ t.takeWhile isAn → (!isDl c) = true := fun hc => by
      have := mem_tw hc
      rw [an_dl this]
      rfl
    unfold aw at hc
    split at hc
    · rcases List.mem_cons.mp hc with rfl | hc
      · decide +kernel
      · exact im hc
    · exact im hc
  unfold wd
  conv => lhs; rw [hs]
  exact tw_stop nd fun c r' e => by rw [h c r' e]; rfl
theorem wd_plain (s : List Nat) : ∀ c ∈ wd s, c ≠ 40 ∧ c ≠ 41 := fun c hc => by
  have := mem_tw hc
  have h : isDl c = false := by simpa using this
  exact ⟨(dl_ne h).1, (dl_ne h).2.1⟩
def Junk (r : List Nat) : Prop := ∃ c t, r = c :: t ∧ c ≠ 41 ∧ c ≠ 32
theorem opAt_nest {s r : List Nat} {o : Str} {k : Nat} (h : opAt s = some (o, r)) (n : Nest k s) : Nest k r := by
  have pl : ∀ s ∈ opsL, ∀ c ∈ s.cps.toList, c ≠ 40 ∧ c ≠ 41 := by decide +kernel
  rw [opAt_shape h, show 32 :: (o.cps.toList ++ 32 :: r) = (32 :: (o.cps.toList ++ [32])) ++ r by simp] at n
  refine (Nest.skip fun c hc => ?_).mp n
  rcases List.mem_cons.mp hc with rfl | hc
  · decide
  rcases List.mem_append.mp hc with hc | hc
  · exact pl o (opAt_mem h) c hc
  · obtain rfl : c = 32 := by simpa using hc
    decide
theorem rd_atom {n : Nat} {s : List Nat} (h : ∀ t, s ≠ 40 :: t) : rd (n + 1) s = (atomE (wd s)).map fun e => (e, wdR s) := by
  unfold rd
  split
  · rename_i heq
    cases heq
  · exact absurd rfl (h _)
  · exact absurd rfl (h _)
  · rfl
theorem rd_opn {t : List Nat} (n : Nat) (h : ∀ r, t ≠ 110 :: 111 :: 116 :: 32 :: r) : rd (n + 1) (40 :: t) = match rd n t with
    | some (a, r) => match opAt r with
      | some (op, r1) => match rd n r1 with
        | some (b, 41 :: r2) => some (.bin op a b, r2)
        | _ => none
      | none => none
    | none => none := by
  conv => lhs; unfold rd
  split
  · rename_i heq
    cases heq
  · rename_i heq
    exact absurd (List.cons.inj heq).2 (h _)
  · rename_i heq1 heq2
    obtain rfl := (List.cons.inj heq2).2
    obtain rfl := Nat.succ.inj heq1
    rfl
  · exfalso
    first
      | (rename_i h1; exact h1 _ rfl)
      | (rename_i h1 _; exact h1 _ rfl)
      | (rename_i h1 _ _; exact h1 _ rfl)
theorem close_some {o : Option (Ex × List Nat)} {f : Ex → Ex} {e : Ex} {r : List Nat} : (match o with | some (e, 41 :: r) => some (f e, r) | _ => none) = some (e, r) ↔ ∃ b, o = some (b, 41 :: r) ∧ e = f b := by
  constructor
  · intro h
    split at h
    · injection h with h
      obtain ⟨rfl, rfl⟩ := Prod.mk.inj h
      exact ⟨_, rfl, rfl⟩
    · cases h
  · rintro ⟨b, rfl, rfl⟩
    rfl
theorem lr_rd : ∀ (n : Nat) (s : List Nat) (k : Nat), s.length < n → Nest k s →
    (∀ e r, rd n s = some (e, r) → lr k s = some (e, r) ∧ Nest k r) ∧ (∀ e r, lr k s = some (e, r) → rd n s = some (e, r) ∨ (rd n s = none ∧ Junk r))
  | 0, s, _, h, _ => absurd h (Nat.not_lt_zero _)
  | n + 1, s, k, hl, nk => by
    by_cases h40 : ∃ t, s = 40 :: t
    case neg =>
      have h40 : ∀ t, s ≠ 40 :: t := fun t e => h40 ⟨t, e⟩
      rw [rd_atom h40, lr_atom k h40]
      refine ⟨fun e r h => ?_, fun e r h => ?_⟩
      · obtain ⟨x, hx, hy⟩ := Option.map_eq_some_iff.mp h
        obtain ⟨rfl, rfl⟩ := Prod.mk.inj hy
        have ae := aw_eq hx
        refine ⟨?_, ?_⟩
        · unfold lat
          rw [ae, hx]
          have e2 : s.drop (wd s).length = wdR s := by
            conv => lhs; arg 2; rw [wd_app s]
            exact List.drop_left
          rw [e2]
          rfl
        · rw [wd_app s] at nk
          exact (Nest.skip (wd_plain s)).mp nk
      · unfold lat at h
        obtain ⟨x, hx, hy⟩ := Option.map_eq_some_iff.mp h
        obtain ⟨rfl, rfl⟩ := Prod.mk.inj hy
        by_cases hj : ∀ c r, s.drop (aw s).length = c :: r → isDl c = true
        · have we := wd_aw hj
          have e2 : s.drop (wd s).length = wdR s := by
            conv => lhs; arg 2; rw [wd_app s]
            exact List.drop_left
          left
          rw [we, hx]
          rw [we] at e2
          rw [e2]
          rfl
        · right
          obtain ⟨c, r, hc, hd⟩ : ∃ c r, s.drop (aw s).length = c :: r ∧ isDl c = false := by
            refine Classical.byContradiction fun z => hj fun c r h => ?_
            cases e : isDl c with
            | true => rfl
            | false => exact absurd ⟨c, r, h, e⟩ z
          refine ⟨?_, c, r, hc, (dl_ne hd).2.1, (dl_ne hd).2.2⟩
          cases ha : atomE (wd s) with
          | none => rfl
          | some y =>
            exfalso
            have ae := aw_eq ha
            rw [ae] at hc
            have e2 : s.drop (wd s).length = wdR s := by
              conv => lhs; arg 2; rw [wd_app s]
              exact List.drop_left
            rw [e2] at hc
            rw [wdR_head hc] at hd
            cases hd
    obtain ⟨t, rfl⟩ := h40
    have nk0 : 0 < k ∧ Nest (k - 1) t := nk
    obtain ⟨k, rfl⟩ : ∃ j, k = j + 1 := ⟨k - 1, by omega⟩
    have nt : Nest k t := nk0.2
    rw [List.length_cons] at hl
    by_cases hn : ∃ r, t = 110 :: 111 :: 116 :: 32 :: r
    · obtain ⟨t, rfl⟩ := hn
      have nt : Nest k t := nt
      obtain ⟨i1, i2⟩ := lr_rd n t k (by simp only [List.length_cons] at hl; omega) nt
      have rdn : rd (n + 1) (40 :: 110 :: 111 :: 116 :: 32 :: t) = match rd n t with | some (e, 41 :: r) => some (Ex.not e, r) | _ => none := rfl
      have lrn : lr (k + 1) (40 :: 110 :: 111 :: 116 :: 32 :: t) = match lr k t with | some (e, 41 :: r) => some (Ex.not e, r) | _ => none := rfl
      rw [rdn, lrn]
      refine ⟨fun e r h => ?_, fun e r h => ?_⟩
      · obtain ⟨b, hb, rfl⟩ := (close_some (f := Ex.not)).mp h
        obtain ⟨j1, j2⟩ := i1 _ _ hb
        exact ⟨(close_some (f := Ex.not)).mpr ⟨b, j1, rfl⟩, j2⟩
      · obtain ⟨b, hb, rfl⟩ := (close_some (f := Ex.not)).mp h
        rcases i2 _ _ hb with j | ⟨_, c, u, hc, h41, _⟩
        · exact .inl ((close_some (f := Ex.not)).mpr ⟨b, j, rfl⟩)
        · exact absurd (List.cons.inj hc).1.symm h41
    have hn : ∀ r, t ≠ 110 :: 111 :: 116 :: 32 :: r := fun r e => hn ⟨r, e⟩
    obtain ⟨i1, i2⟩ := lr_rd n t k (by omega) nt
    rw [rd_opn n hn, lr_opn k hn]
    refine ⟨fun e r h => ?_, fun e r h => ?_⟩
    · cases hr : rd n t with
      | none =>
        rw [hr] at h
        cases h
      | some p =>
        obtain ⟨a, r1⟩ := p
        rw [hr] at h
        obtain ⟨j1, j2⟩ := i1 _ _ hr
        rw [j1]
        have l1 := rd_len hr
        cases ho : opAt r1 with
        | none =>
          have h : (match opAt r1 with | some (op, r1) => (match rd n r1 with | some (b, 41 :: r2) => some (Ex.bin op a b, r2) | _ => none) | none => none) = some (e, r) := h
          rw [ho] at h
          cases h
        | some p2 =>
          obtain ⟨o, r2⟩ := p2
          have h : (match opAt r1 with | some (op, r1) => (match rd n r1 with | some (b, 41 :: r2) => some (Ex.bin op a b, r2) | _ => none) | none => none) = some (e, r) := h
          rw [ho] at h
          have l2 := opAt_len ho
          obtain ⟨u1, _⟩ := lr_rd n r2 k (by omega) (opAt_nest ho j2)
          obtain ⟨b, hb, rfl⟩ := (close_some (f := Ex.bin o a)).mp h
          obtain ⟨v1, v2⟩ := u1 _ _ hb
          refine ⟨?_, v2⟩
          show (match opAt r1 with | some (op, r1) => (match lr k r1 with | some (b, 41 :: r2) => some (Ex.bin op a b, r2) | _ => none) | none => none) = _
          rw [ho]
          exact (close_some (f := Ex.bin o a)).mpr ⟨b, v1, rfl⟩
    · cases hr : lr k t with
      | none =>
        rw [hr] at h
        cases h
      | some p =>
        obtain ⟨a, r1⟩ := p
        rw [hr] at h
        have h : (match opAt r1 with | some (op, r1) => (match lr k r1 with | some (b, 41 :: r2) => some (Ex.bin op a b, r2) | _ => none) | none => none) = some (e, r) := h
        cases ho : opAt r1 with
        | none =>
          rw [ho] at h
          cases h
        | some p2 =>
          obtain ⟨o, r2⟩ := p2
          rw [ho] at h
          rcases i2 _ _ hr with j | ⟨_, c, u, hc, _, h32⟩
          · obtain ⟨j1, j2⟩ := i1 _ _ j
            have l1 := rd_len j
            have l2 := opAt_len ho
            obtain ⟨_, u2⟩ := lr_rd n r2 k (by omega) (opAt_nest ho j2)
            obtain ⟨b, hb, rfl⟩ := (close_some (f := Ex.bin o a)).mp h
            rcases u2 _ _ hb with v | ⟨_, c, u, hc, h41, _⟩
            · left
              rw [j]
              show (match opAt r1 with | some (op, r1) => (match rd n r1 with | some (b, 41 :: r2) => some (Ex.bin op a b, r2) | _ => none) | none => none) = _
              rw [ho]
              exact (close_some (f := Ex.bin o a)).mpr ⟨b, v, rfl⟩
            · exact absurd (List.cons.inj hc).1.symm h41
          · rw [hc, opAt_no (.inl h32)] at ho
            cases ho
def dueE (l : List Nat) : Option Ex := match lr 40 l with
  | some (e, r) => if r = [] then some e else none
  | none => none
theorem due_eq {l : List Nat} (h : Nest 40 l) : dueE l = fin [] (R l) := by
  obtain ⟨i1, i2⟩ := lr_rd (l.length + 1) l 40 (Nat.lt_succ_self _) h
  unfold dueE
  show _ = fin [] (rd (l.length + 1) l)
  cases hr : rd (l.length + 1) l with
  | some p =>
    obtain ⟨e, r⟩ := p
    rw [(i1 _ _ hr).1]
    rfl
  | none =>
    cases hq : lr 40 l with
    | none => rfl
    | some p =>
      obtain ⟨e, r⟩ := p
      rcases i2 _ _ hq with j | ⟨_, c, u, hc, _⟩
      · rw [hr] at j
        cases j
      · show (if r = [] then some e else none) = none
        rw [if_neg (by rw [hc]; simp)]
open PySem L2 ExV
section
variable {P : Program} {w : World} {K : PySem.W.Frag} {mg : Str → Option Value} {base : Heap}
theorem fn_vac {k : Nat} {f : Addr} {fd : FuncData} {ps : List Str} {sp : Sp} (no : ∀ vs H Q E, ¬ sp vs H Q E) : FnOk P w K mg base CX0 k f fd ps sp :=
  ⟨fun vs H Q E h => absurd h (no vs H Q E), fun A outer s H args us vs Q E _ _ _ _ h => absurd h (no vs H Q E)⟩
theorem ok_l_read (T : Txt w K mg) : ∀ m : Nat, FnOk P w K mg base CX0 (m + 4) T.a_l_read T.d_l_read p_l_read (spLRead K m)
  | 0 => fn_vac fun _ _ _ _ ⟨_, _, _, _, _, _, _, h, _⟩ => absurd h (Nat.not_lt_zero _)
  | m + 1 => ok_read_step T (ok_l_read T m)
def spDue (K : PySem.W.Frag) : Sp := fun vs H Q _ => ∃ l : List Nat, vs = [.str (S l)] ∧ LOk l ∧ ∀ p H', Same H H' → H p = none → AskIs K H' (dueE l) p → Q (.ref p) H'
theorem ok_l_due (T : Txt w K mg) : FnOk P w K mg base CX0 46 T.a_l_due T.d_l_due p_l_due (spDue K) := by
  have g_l_read := ok_l_read (P := P) (base := base) T 41
  refine T.F_l_due.ok sc_l_due (fun vs H Q E h => ?_) (fun cdv A outer s H vs Q E hr h => ?_)
  · obtain ⟨l, rfl, _⟩ := h
    rfl
  obtain ⟨l, rfl, lo, q⟩ := h
  have hl := lo.1
  refine ⟨_, (pss_cons (ps_set (i := 1) sc_l_due.nd rfl (Or.inl rfl) (pe_call g_l_read (hr.mono (by first | decide | omega)) rfl T.m_l_read T.F_l_read.kp T.b_l_read .nil pass0 (pa_cons (pv 0) (pa_cons pe_int (pa_cons pe_int pa_nil)))))
      (pss_cons (ps_if (PW.pt (pw_or (pt_cmpR op_isN (pv 1) pe_non (nomark _)) (pw_or1 (pt_cmpR op_lt (pe_ix ix_tup (pv 1) pe_int (fun _ _ => rfl)) (pe_callB call_len_str rfl T.z_len PySem.boot_len (pa_cons (pv 0) pa_nil)) (nomark _))))) (pss_one (ps_ret (pe_lst (pa_cons pe_str (pa_cons pe_int pa_nil))))) pss_nil)
      (pss_one (ps_ret (pe_lst (pa_cons pe_str (pa_cons (pe_ix ix_tup (pv 1) pe_int (fun _ _ => rfl)) pa_nil))))))), ?_⟩
  refine ⟨_, rfl, l, 0, 40, rfl, lo, Nat.zero_le _, .inl rfl, by decide, fun v H1 s1 hp => ?_⟩
  rw [List.drop_zero] at hp
  unfold dueE at q
  have bad : (∀ p H', Same H H' → H p = none → H' p = some (.lst [.str "bad", .int 1]) → Q (.ref p) H') → tRet (tLst (tCons (tC (.str "bad")) (tCons (tC (.int 1)) tNil))) { nx := fun x H' => Q V.non H', rt := Q } [some (.str (S l)), some v] H1 := fun q =>
    ⟨by show 2 ≤ sizeLine; decide, fun p n => q p _ (Same.grow (Same.none s1 n) s1) (Same.none s1 n) upd_same⟩
  cases hr2 : lr 40 l with
  | none =>
    rw [hr2] at hp q
    obtain rfl : v = .non := hp
    exact ⟨_, rfl, rfl, _, rfl, ifT rfl (ifT rfl (bad q))⟩
  | some y =>
    obtain ⟨e, r⟩ := y
    rw [hr2] at hp q
    obtain ⟨p, x, k, rfl, hp, hx, kl, hd⟩ := hp
    refine ⟨_, rfl, rfl, _, rfl, ifF rfl ⟨_, rfl, p, _, 1, _, rfl, rfl, hp, rfl, _, rfl, S l, rfl, by rw [sizeLine_eq, S_len]; omega, _, _, rfl, rfl, _, rfl, ?_⟩⟩
    rw [S_len]
    have q : ∀ p H', Same H H' → H p = none → AskIs K H' (if r = [] then some e else none) p → Q (.ref p) H' := q
    by_cases hk : k < l.length
    · rw [if_neg (by intro z; rw [z] at hd; have e := congrArg List.length hd; rw [List.length_drop, List.length_nil] at e; omega)] at q
      exact ifT (decide_eq_true (by omega)) (bad q)
    · rw [if_pos (by rw [← hd, List.drop_eq_nil_of_le (by omega)])] at q
      refine ifF (decide_eq_false (by omega)) ⟨_, rfl, p, _, 0, _, rfl, rfl, hp, rfl, by show 2 ≤ sizeLine; decide, fun p2 n => ?_⟩
      exact q p2 _ (Same.grow (Same.none s1 n) s1) (Same.none s1 n) ⟨x, upd_same, hx.keep (Keeps.of_same (Same.new n _))⟩
end
open PySem L2 ExV
/-! ### drawn expressions -/
def NmV (z : Str) : Prop := z.length ≤ 12 ∧ isNm z.cps.toList = true
theorem ops_ne : ∀ s ∈ opsL, ¬ (V.str s = V.str "num") ∧ ¬ (V.str s = V.str "flag") ∧ ¬ (V.str s = V.str "null") ∧ ¬ (V.str s = V.str "name") ∧ ¬ (V.str s = V.str "not") ∧ s.length ≤ 4 := by decide +kernel
def Ex.ok : Nat → Ex → Prop
  | 0, _ => False
  | _ + 1, .num i => -1000000000 ≤ i ∧ i ≤ 1000000000
  | _ + 1, .name s => NmV s
  | _ + 1, .flag _ => True
  | _ + 1, .null => True
  | m + 1, .not a => a.ok m
  | m + 1, .bin op a b => op ∈ opsL ∧ a.ok m ∧ b.ok m
theorem Keeps.of_stp {K : PySem.W.Frag} {a : Addr} {H H' : Hp} (s : Stp a H H') (h : Src H a) : Keeps K H H' := fun _ _ q => s.rd q h
def txt : Ex → Str
  | .num i => numS i
  | .name s => s
  | .flag b => if b then "true" else "false"
  | .null => "null"
  | .not a => ("(not " : Str) ++ txt a ++ (")" : Str)
  | .bin op a b => ("(" : Str) ++ txt a ++ (" " : Str) ++ op ++ (" " : Str) ++ txt b ++ (")" : Str)
theorem txt_len : ∀ {m : Nat} {e : Ex}, e.ok m → (txt e).length + 12 ≤ 32 * 2 ^ m
  | 0, _, h => h.elim
  | m + 1, .num i, h => by
    have := numS_len h
    have p : 0 < 2 ^ m := Nat.pow_pos (by decide)
    show (numS i).length + 12 ≤ 32 * 2 ^ (m + 1)
    rw [Nat.pow_succ]
    omega
  | m + 1, .name s, h => by
    have h' : s.length ≤ 12 := h.1
    have p : 0 < 2 ^ m := Nat.pow_pos (by decide)
    show s.length + 12 ≤ 32 * 2 ^ (m + 1)
    rw [Nat.pow_succ]
    omega
  | m + 1, .flag b, h => by
    have p : 0 < 2 ^ m := Nat.pow_pos (by decide)
    have e : (txt (.flag b)).length ≤ 5 := by cases b <;> decide +kernel
    rw [Nat.pow_succ]
    omega
  | m + 1, .null, h => by
    have p : 0 < 2 ^ m := Nat.pow_pos (by decide)
    have e : (txt .null).length ≤ 5 := by decide +kernel
    rw [Nat.pow_succ]
    omega
  | m + 1, .not a, h => by
    have ih := txt_len (m := m) (e := a) h
    have e : (txt (.not a)).length = 5 + (txt a).length + 1 := by
      show (("(not " : Str) ++ txt a ++ (")" : Str)).length = _
      rw [len_app, len_app] <;> rfl
    rw [Nat.pow_succ]
    omega
  | m + 1, .bin op a b, h => by
    have ih1 := txt_len (m := m) (e := a) h.2.1
    have ih2 := txt_len (m := m) (e := b) h.2.2
    have ho := (ops_ne op h.1).2.2.2.2.2
    have e : (txt (.bin op a b)).length = 1 + (txt a).length + 1 + op.length + 1 + (txt b).length + 1 := by
      show (("(" : Str) ++ txt a ++ (" " : Str) ++ op ++ (" " : Str) ++ txt b ++ (")" : Str)).length = _
      rw [len_app, len_app, len_app, len_app, len_app, len_app] <;> rfl
    rw [Nat.pow_succ]
    omega
/-! ### the world of the draws: a dict of names and bounds -/
def kN : Key := Sum.inr "names"
def kL : Key := Sum.inr "long"
def kS : Key := Sum.inr "side"
structure Wd (H : Hp) (d : Addr) : Prop where
  ex : ∃ (kvs : List (Key × V)) (ln : Addr) (nz : List Str) (lng side : Int), H d = some (.dK kvs) ∧ valV kvs kN = some (.ref ln) ∧ valV kvs kL = some (.int lng) ∧ valV kvs kS = some (.int side) ∧
    H ln = some (.lst (nz.map V.str)) ∧ nz.length ≤ 900 ∧ (∀ z ∈ nz, NmV z) ∧ 1 ≤ lng ∧ lng ≤ 11 ∧ 1 ≤ side ∧ side ≤ 40000
theorem Wd.same {H H' : Hp} {d : Addr} (s : Same H H') (h : Wd H d) : Wd H' d := by
  obtain ⟨kvs, ln, nz, lng, side, h1, h2, h3, h4, h5, h6⟩ := h.ex
  exact ⟨kvs, ln, nz, lng, side, s _ _ h1, h2, h3, h4, s _ _ h5, h6⟩
theorem Wd.stp {H H' : Hp} {a d : Addr} (h : Wd H d) (hs : Src H a) (s : Stp a H H') : Wd H' d := by
  obtain ⟨kvs, ln, nz, lng, side, h1, h2, h3, h4, h5, h6⟩ := h.ex
  obtain ⟨c, m, k, hs⟩ := hs
  have n1 : d ≠ a := ne_of h1 hs (by intro z; cases z)
  have n2 : ln ≠ a := ne_of h5 hs (by
    intro z
    have z' := HO.lst.inj z
    cases nz with
    | nil => cases z'
    | cons x r =>
      have z2 := (List.cons.inj z').1
      cases z2)
  exact ⟨kvs, ln, nz, lng, side, s.k _ _ n1 h1, h2, h3, h4, s.k _ _ n2 h5, h6⟩
/-! ### the promises of the draws -/
def spName : Sp := fun vs H Q _ => ∃ (a d : Addr), vs = [.ref a, .ref d] ∧ Src H a ∧ Wd H d ∧ ∀ (z : Str) (H' : Hp), Stp a H H' → NmV z → Q (.str z) H'
def spNumD : Sp := fun vs H Q _ => ∃ (a d : Addr), vs = [.ref a, .ref d] ∧ Src H a ∧ Wd H d ∧ ∀ (r : Int) (H' : Hp), Stp a H H' → -1000000000 ≤ r ∧ r ≤ 1000000000 → Q (.int r) H'
def spNode (K : PySem.W.Frag) (m : Nat) : Sp := fun vs H Q _ => ∃ (a d : Addr) (c : Int) (n : Int), vs = [.ref a, .ref d, .int c, .int n] ∧ Src H a ∧ Wd H d ∧ 0 ≤ c ∧ c < 15 ∧ (c < 4 ∨ 1 ≤ n) ∧ n < (m : Int) ∧ 0 < m ∧
  ∀ (v : V) (e : Ex) (H' : Hp), Stp a H H' → e.ok m → ExAt K H' e v → Q v H'
def spExpr (K : PySem.W.Frag) (m : Nat) : Sp := fun vs H Q _ => ∃ (a d : Addr) (n : Int), vs = [.ref a, .ref d, .int n] ∧ Src H a ∧ Wd H d ∧ n < (m : Int) ∧ 0 < m ∧
  ∀ (v : V) (e : Ex) (H' : Hp), Stp a H H' → e.ok m → ExAt K H' e v → Q v H'
theorem lo_an {c : Nat} (h : isLo c = true) : isAn c = true := by
  have e : ∀ c ∈ ("abcdefghijklmnopqrstuvwxyz" : Str).cps.toList, isAn c = true := by decide +kernel
  exact e c (of_decide_eq_true h)
theorem DGet.at {H : Hp} {d : Addr} {kvs : List (Key × V)} {k : Key} {v : V} (h : H d = some (.dK kvs)) (e : valV kvs k = some v) : DGet H d (kV k) (some v) := by
  rw [← e]
  exact DGet.k (k := k) h
section
variable {P : Program} {w : World} {K : PySem.W.Frag} {mg : Str → Option Value} {base : Heap}
theorem ok_l_name (T : Txt w K mg) : FnOk P w K mg base CX0 2 T.a_l_name T.d_l_name p_l_name spName := by
  have g_l_pick := ok_l_pick (P := P) (w := w) (base := base) T
  have g_l_reserved := ok_l_reserved (P := P) (w := w) (base := base) T
  refine T.F_l_name.ok sc_l_name (fun vs H Q E h => ?_) (fun cdv A outer s H vs Q E hr h => ?_)
  · obtain ⟨a, d, rfl, _⟩ := h
    rfl
  obtain ⟨a, d, rfl, hS, hW, q⟩ := h
  refine ⟨_, (pss_cons (ps_set (i := 2) sc_l_name.nd rfl (Or.inl rfl) (pe_call g_l_pick (hr.mono (by first | decide | omega)) rfl T.m_l_pick T.F_l_pick.kp T.b_l_pick .nil pass0 (pa_cons (pv 0) (pa_cons pe_int pa_nil))))
      (C8.pss_cut (ps_if (pt_cmpR op_eq (pv 2) pe_int (nomark _)) (pss_one (ps_set (i := 2) sc_l_name.nd rfl (Or.inl rfl) (pe_call g_l_pick (hr.mono (by first | decide | omega)) rfl T.m_l_pick T.F_l_pick.kp T.b_l_pick .nil pass0 (pa_cons (pv 0) (pa_cons (pe_dget (hu_of hr) (pv 1) pe_str (fun _ _ => rfl)) pa_nil))))) pss_nil)
      (pss_cons (ps_set (i := 3) sc_l_name.nd rfl (Or.inl rfl) (pe_ix ix_str pe_str (pe_call g_l_pick (hr.mono (by first | decide | omega)) rfl T.m_l_pick T.F_l_pick.kp T.b_l_pick .nil pass0 (pa_cons (pv 0) (pa_cons pe_int pa_nil))) (fun _ _ => rfl)))
      (pss_cons (ps_for PassesOwn.never rfl (pi_range1 rfl T.z_range (pa_cons (pv 2) pa_nil)) (pg_name (i := 4) sc_l_name.nd rfl (Or.inl rfl))
        (pss_one (ps_set (i := 3) sc_l_name.nd rfl (Or.inl rfl) (pe_op op_add_str (pv 3) (pe_ix ix_str pe_str (pe_call g_l_pick (hr.mono (by first | decide | omega)) rfl T.m_l_pick T.F_l_pick.kp T.b_l_pick .nil pass0 (pa_cons (pv 0) (pa_cons pe_int pa_nil))) (fun _ _ => rfl))))))
      (pss_cons (ps_if (pt_cmpR op_in_seq (pv 3) (pe_call0 g_l_reserved (hr.mono (by first | decide | omega)) rfl T.m_l_reserved T.F_l_reserved.kp T.b_l_reserved .nil pass0) (by rfl)) (pss_one (ps_ret (pe_op op_add_str (pv 3) pe_str))) pss_nil)
      (pss_one (ps_ret (pv 3)))))))), ?_⟩
  refine ⟨_, rfl, a, 4, rfl, hS, by decide, fun sz H1 st1 z0 z1 => ?_⟩
  refine ⟨fun σ H2 => Stp a H H2 ∧ ∃ n : Int, 0 ≤ n ∧ n ≤ 10 ∧ σ = [some (.ref a), some (.ref d), some (.int n), none, none], ⟨_, rfl, rfl, _, rfl, ?_⟩, ?_⟩
  · refine ite2 (fun _ => ?_) (fun _ => ⟨st1, sz, z0, by omega, rfl⟩)
    have hW1 := hW.stp hS st1
    obtain ⟨kvs, ln, nz, lng, side, h1, h2, h3, h4, h5, h6, h7, h8, h9, _⟩ := hW1.ex
    refine ⟨_, rfl, _, rfl, d, _, rfl, DGet.at h1 h3, ?_⟩
    exact ⟨a, lng, rfl, st1.s, by omega, fun r H2 st2 r0 r1 => ⟨st1.trans st2, r, r0, by omega, rfl⟩⟩
  rintro σ H2 ⟨st2, n, n0, n1, rfl⟩
  refine ⟨_, rfl, a, 26, rfl, st2.s, by decide, fun i H3 st3 i0 i1 => ?_⟩
  have hi : i.toNat < ("abcdefghijklmnopqrstuvwxyz" : Str).cps.toList.length := by
    show i.toNat < 26
    omega
  have lo1 : isLo ("abcdefghijklmnopqrstuvwxyz" : Str).cps.toList[i.toNat] = true := decide_eq_true (List.getElem_mem hi)
  refine ⟨_, i, _, rfl, rfl, by decide +kernel, atI_int i0 hi, ?_⟩
  refine ⟨_, rfl, n, rfl, by omega, by omega, for_range (lo := 0) (fun i σ H' => Stp a H H' ∧ ∃ (l : List Nat) (v : Option V), (l.length ≤ i + 1 ∧ l.all isAn = true ∧ ∃ c r, l = c :: r ∧ isLo c = true) ∧ σ = [some (.ref a), some (.ref d), some (.int n), some (.str (S l)), v]) ⟨st2.trans st3, [_], none, ⟨Nat.le_refl _, by rw [List.all_cons, lo_an (c := _) lo1]; rfl, _, [], rfl, lo1⟩, rfl⟩ ?_ ?_⟩
  · rintro i σ H' hi ⟨st, z, v, ⟨hz, ha, c0, r0', rfl, hc0⟩, rfl⟩
    refine ⟨_, rfl, _, rfl, a, 36, rfl, st.s, by decide, fun j H4 st4 j0 j1 => ?_⟩
    have hj : j.toNat < ("abcdefghijklmnopqrstuvwxyz0123456789" : Str).cps.toList.length := by
      show j.toNat < 36
      omega
    have an1 : isAn ("abcdefghijklmnopqrstuvwxyz0123456789" : Str).cps.toList[j.toNat] = true := by
      have e : isAn = fun d => decide (d ∈ ("abcdefghijklmnopqrstuvwxyz0123456789" : Str).cps.toList) := by
        funext d
        unfold isAn
        rw [show (("abcdefghijklmnopqrstuvwxyz" : Str) ++ ("0123456789" : Str)) = ("abcdefghijklmnopqrstuvwxyz0123456789" : Str) by decide +kernel]
      rw [e]
      exact decide_eq_true (List.getElem_mem hj)
    refine ⟨_, j, _, rfl, rfl, by decide +kernel, atI_int j0 hj, ?_⟩
    refine ⟨_, _, rfl, rfl, Nat.le_of_lt (small1000 (by rw [S_len]; show (c0 :: r0').length + 1 ≤ 1000; omega)), ?_⟩
    rw [show (Str.mk #[("abcdefghijklmnopqrstuvwxyz0123456789" : Str).cps.toList[j.toNat]]) = S [("abcdefghijklmnopqrstuvwxyz0123456789" : Str).cps.toList[j.toNat]] from rfl, S_app]
    generalize ("abcdefghijklmnopqrstuvwxyz0123456789" : Str).cps.toList[j.toNat] = y at an1
    refine ⟨st.trans st4, _, _, ⟨?_, ?_, c0, r0' ++ [y], rfl, hc0⟩, rfl⟩
    · show ((c0 :: r0') ++ [y]).length ≤ _
      rw [List.length_append]
      exact Nat.succ_le_succ hz
    · show ((c0 :: r0') ++ [y]).all isAn = true
      rw [List.all_append, ha, List.all_cons, an1]
      rfl
  · rintro σ H' ⟨st, z, v, ⟨hz, ha, c0, r0', rfl, hc0⟩, rfl⟩
    have hz : (c0 :: r0').length ≤ 11 := by omega
    refine ⟨_, rfl, rfl, fun p H5 sm hp hl => ?_⟩
    refine ⟨p, _, rfl, .inl (SqL.of hl), rfl, flat_strs _, _, rfl, ?_⟩
    have st5 : Stp a H H5 := st.same sm
    rw [if_neg Bool.false_ne_true, in_strs]
    have nmOf : S (c0 :: r0') ∉ resL → isNm (c0 :: r0') = true := fun h => by
      show (isLo c0 && !decide (S (c0 :: r0') ∈ resL) && (c0 :: r0').all isAn) = true
      rw [hc0, decide_eq_false h, ha]
      rfl
    by_cases hres : S (c0 :: r0') ∈ resL
    · refine ifT (decide_eq_true hres) ⟨_, rfl, _, _, rfl, rfl, Nat.le_of_lt (small1000 (by rw [S_len]; show (c0 :: r0').length + 1 ≤ 1000; omega)), q _ _ st5 ?_⟩
      rw [show Str.ofString "x" = S [120] by decide +kernel, S_app]
      refine ⟨by rw [S_len, List.length_append]; show (c0 :: r0').length + 1 ≤ 12; omega, ?_⟩
      have nr : ∀ s ∈ resL, s ++ S [120] ∉ resL := by decide +kernel
      have nr2 := nr _ hres
      rw [S_app] at nr2
      show (isLo c0 && !decide (S (c0 :: r0' ++ [120]) ∈ resL) && (c0 :: r0' ++ [120]).all isAn) = true
      rw [hc0, decide_eq_false nr2, List.all_append, ha]
      decide +kernel
    · exact ifF (decide_eq_false hres) ⟨_, rfl, q _ _ st5 ⟨by rw [S_len]; omega, nmOf hres⟩⟩
theorem ok_l_word (T : Txt w K mg) : FnOk P w K mg base CX0 3 T.a_l_word T.d_l_word p_l_word spName := by
  have g_l_pick := ok_l_pick (P := P) (w := w) (base := base) T
  have g_l_name := ok_l_name (P := P) (w := w) (K := K) (base := base) T
  refine T.F_l_word.ok sc_l_word (fun vs H Q E h => ?_) (fun cdv A outer s H vs Q E hr h => ?_)
  · obtain ⟨a, d, rfl, _⟩ := h
    rfl
  obtain ⟨a, d, rfl, hS, hW, q⟩ := h
  refine ⟨_, (pss_cons (ps_set (i := 2) sc_l_word.nd rfl (Or.inl rfl) (pe_call g_l_pick (hr.mono (by first | decide | omega)) rfl T.m_l_pick T.F_l_pick.kp T.b_l_pick .nil pass0 (pa_cons (pv 0) (pa_cons (pe_op op_add (pe_callB call_len_seq rfl T.z_len PySem.boot_len (pa_cons (pe_dget (hu_of hr) (pv 1) pe_str (fun _ _ => rfl)) pa_nil)) pe_int) pa_nil))))
      (pss_cons (ps_if (pt_cmpR op_lt (pv 2) (pe_callB call_len_seq rfl T.z_len PySem.boot_len (pa_cons (pe_dget (hu_of hr) (pv 1) pe_str (fun _ _ => rfl)) pa_nil)) (nomark _)) (pss_one (ps_ret (pe_ix ix_list (pe_dget (hu_of hr) (pv 1) pe_str (fun _ _ => rfl)) (pv 2) (fun _ _ => rfl)))) pss_nil)
      (pss_one (ps_ret (pe_call g_l_name (hr.mono (by first | decide | omega)) rfl T.m_l_name T.F_l_name.kp T.b_l_name .nil pass0 (pa_cons (pv 0) (pa_cons (pv 1) pa_nil))))))), ?_⟩
  obtain ⟨kvs, ln, nz, lng, side, h1, h2, h3, h4, h5, h6, h6', _⟩ := hW.ex
  refine ⟨_, rfl, _, rfl, d, _, rfl, DGet.at h1 h2, ln, _, rfl, .inl (SqL.of h5), _, _, rfl, rfl, ?_⟩
  refine ⟨a, _, rfl, hS, by rw [List.length_map]; omega, fun r H1 st1 r0 r1 => ?_⟩
  have hW1 := hW.stp hS st1
  obtain ⟨kvs, ln, nz, lng, side, h1, h2, h3, h4, h5, h6, h6', _⟩ := hW1.ex
  refine ⟨_, rfl, _, rfl, d, _, rfl, DGet.at h1 h2, ln, _, rfl, .inl (SqL.of h5), _, _, rfl, rfl, _, rfl, ?_⟩
  refine ite2 (fun c => ?_) (fun _ => ?_)
  · have c' : r < (((nz.map V.str).length : Nat) : Int) := of_decide_eq_true c
    have e := atI_int (xs := nz.map V.str) r0 (by omega)
    rw [List.getElem_map] at e
    exact ⟨_, rfl, d, _, rfl, DGet.at h1 h2, _, rfl, ln, _, _, _, rfl, rfl, SqL.of h5, e, q _ _ st1 (h6' _ (List.getElem_mem _))⟩
  · exact ⟨_, rfl, _, rfl, a, d, rfl, st1.s, hW1, fun z H2 st2 hz => q _ _ (st1.trans st2) hz⟩
theorem ok_l_number (T : Txt w K mg) : FnOk P w K mg base CX0 2 T.a_l_number T.d_l_number p_l_number spNumD := by
  have g_l_pick := ok_l_pick (P := P) (w := w) (base := base) T
  refine T.F_l_number.ok sc_l_number (fun vs H Q E h => ?_) (fun cdv A outer s H vs Q E hr h => ?_)
  · obtain ⟨a, d, rfl, _⟩ := h
    rfl
  obtain ⟨a, d, rfl, hS, hW, q⟩ := h
  refine ⟨_, (pss_cons (ps_set (i := 2) sc_l_number.nd rfl (Or.inl rfl) (pe_call g_l_pick (hr.mono (by first | decide | omega)) rfl T.m_l_pick T.F_l_pick.kp T.b_l_pick .nil pass0 (pa_cons (pv 0) (pa_cons pe_int pa_nil))))
      (pss_cons (ps_if (pt_cmpR op_lt (pv 2) pe_int (nomark _)) (pss_one (ps_ret (pe_op op_sub (pe_call g_l_pick (hr.mono (by first | decide | omega)) rfl T.m_l_pick T.F_l_pick.kp T.b_l_pick .nil pass0 (pa_cons (pv 0) (pa_cons pe_int pa_nil))) pe_int))) pss_nil)
      (pss_cons (ps_set (i := 3) sc_l_number.nd rfl (Or.inl rfl) (pe_callB (call_min2 rfl) rfl T.z_min bb_min (pa_cons (pe_op op_add (pe_op op_mul (pe_call g_l_pick (hr.mono (by first | decide | omega)) rfl T.m_l_pick T.F_l_pick.kp T.b_l_pick .nil pass0 (pa_cons (pv 0) (pa_cons (pe_dget (hu_of hr) (pv 1) pe_str (fun _ _ => rfl)) pa_nil))) (pe_dget (hu_of hr) (pv 1) pe_str (fun _ _ => rfl))) (pe_call g_l_pick (hr.mono (by first | decide | omega)) rfl T.m_l_pick T.F_l_pick.kp T.b_l_pick .nil pass0 (pa_cons (pv 0) (pa_cons (pe_dget (hu_of hr) (pv 1) pe_str (fun _ _ => rfl)) pa_nil)))) (pa_cons (pe_op op_pow pe_int pe_int) pa_nil))))
      (pss_one (ps_ret (pe_ix ix_list (pe_lst (pa_cons (pv 3) (pa_cons (pe_un un_neg (pv 3)) pa_nil))) (pe_op op_sub (pv 2) pe_int) (fun _ _ => rfl))))))), ?_⟩
  refine ⟨_, rfl, a, 4, rfl, hS, by decide, fun c H1 st1 c0 c1 => ?_⟩
  refine ⟨_, rfl, _, _, rfl, rfl, _, rfl, ?_⟩
  refine ite2 (fun _ => ?_) (fun cc => ?_)
  · exact ⟨_, rfl, a, 21, rfl, st1.s, by decide, fun r H2 st2 r0 r1 => ⟨_, _, rfl, rfl, q _ _ (st1.trans st2) (by omega)⟩⟩
  have c2 : ¬ c < 2 := of_decide_eq_false (Bool.eq_false_iff.mpr cc)
  have hW1 := hW.stp hS st1
  obtain ⟨kvs, ln, nz, lng, side, h1, h2, h3, h4, h5, h6, h6', h7, h8, h9, h10⟩ := hW1.ex
  refine ⟨_, rfl, _, rfl, d, _, rfl, DGet.at h1 h4, a, _, rfl, st1.s, by omega, fun r H2 st2 r0 r1 => ?_⟩
  have hW2 := hW1.stp st1.s st2
  obtain ⟨kvs', ln', nz', lng', side', g1, g2, g3, g4, g5, g6, g6', g7, g8, g9, g10⟩ := hW2.ex
  refine ⟨_, rfl, d, _, rfl, DGet.at g1 g4, _, _, rfl, rfl, .inl ⟨by omega, by omega⟩, ?_⟩
  refine ⟨_, rfl, _, rfl, d, _, rfl, DGet.at g1 g4, a, _, rfl, st2.s, by omega, fun r3 H3 st3 r30 r31 => ?_⟩
  have pz : 0 ≤ r * side' := Int.mul_nonneg r0 (by omega)
  refine ⟨_, _, rfl, rfl, 10, 9, rfl, rfl, ⟨by decide, by decide, by decide⟩, _, _, rfl, ?_⟩
  have e9 : (10 ^ (9 : Int).toNat : Int) = 1000000000 := by decide
  rw [e9]
  have b1 : 0 ≤ (if (1000000000 : Int) < r * side' + r3 then (1000000000 : Int) else r * side' + r3) ∧ (if (1000000000 : Int) < r * side' + r3 then (1000000000 : Int) else r * side' + r3) ≤ 1000000000 := by
    split <;> omega
  have st4 := (st1.trans st2).trans st3
  refine ⟨_, rfl, _, rfl, _, rfl, by show 2 ≤ sizeLine; decide, fun p hp => ?_⟩
  refine ⟨_, rfl, c, 2, rfl, rfl, ?_⟩
  have c23 : c = 2 ∨ c = 3 := by omega
  rcases c23 with rfl | rfl
  · exact ⟨p, _, _, _, rfl, rfl, SqL.of upd_same, rfl, q _ _ (st4.new hp) (by omega)⟩
  · exact ⟨p, _, _, _, rfl, rfl, SqL.of upd_same, rfl, q _ _ (st4.new hp) (by omega)⟩
theorem ops_mem {v : V} (h : v ∈ opsL.map V.str) : ∃ s ∈ opsL, v = .str s := by
  obtain ⟨s, h1, h2⟩ := List.mem_map.mp h
  exact ⟨s, h1, h2.symm⟩
theorem ok_node {m : Nat} (T : Txt w K mg) (g_l_expression : FnOk P w K mg base CX0 (2 * m + 4) T.a_l_expression T.d_l_expression p_l_expression (spExpr K m)) :
    FnOk P w K mg base CX0 (2 * m + 5) T.a_l_node T.d_l_node p_l_node (spNode K (m + 1)) := by
  have g_l_pick := ok_l_pick (P := P) (w := w) (base := base) T
  have g_l_number := ok_l_number (P := P) (w := w) (K := K) (base := base) T
  have g_l_word := ok_l_word (P := P) (w := w) (K := K) (base := base) T
  refine T.F_l_node.ok sc_l_node (fun vs H Q E h => ?_) (fun cdv A outer s H vs Q E hr h => ?_)
  · obtain ⟨a, d, c, n, rfl, _⟩ := h
    rfl
  obtain ⟨a, d, c, n, rfl, hS, hW, c0, c1, c2, hn, _, q⟩ := h
  refine ⟨_, (pss_cons (ps_if (pt_cmpR op_eq (pv 2) pe_int (nomark _)) (pss_one (ps_ret (pe_tup (pa_cons pe_str (pa_cons (pe_call g_l_number (hr.mono (by first | decide | omega)) rfl T.m_l_number T.F_l_number.kp T.b_l_number .nil pass0 (pa_cons (pv 0) (pa_cons (pv 1) pa_nil))) pa_nil))))) pss_nil)
      (pss_cons (ps_if (pt_cmpR op_eq (pv 2) pe_int (nomark _)) (pss_one (ps_ret (pe_tup (pa_cons pe_str (pa_cons (pe_call g_l_word (hr.mono (by first | decide | omega)) rfl T.m_l_word T.F_l_word.kp T.b_l_word .nil pass0 (pa_cons (pv 0) (pa_cons (pv 1) pa_nil))) pa_nil))))) pss_nil)
      (pss_cons (ps_if (pt_cmpR op_eq (pv 2) pe_int (nomark _)) (pss_one (ps_ret (pe_tup (pa_cons pe_str (pa_cons (pe_cmpR op_eq (pe_call g_l_pick (hr.mono (by first | decide | omega)) rfl T.m_l_pick T.F_l_pick.kp T.b_l_pick .nil pass0 (pa_cons (pv 0) (pa_cons pe_int pa_nil))) pe_int (nomark _)) pa_nil))))) pss_nil)
      (pss_cons (ps_if (pt_cmpR op_eq (pv 2) pe_int (nomark _)) (pss_one (ps_ret (pe_tup (pa_cons pe_str pa_nil)))) pss_nil)
      (pss_cons (ps_set (i := 4) sc_l_node.nd rfl (Or.inl rfl) (pe_call g_l_expression (hr.mono (by first | decide | omega)) rfl T.m_l_expression T.F_l_expression.kp T.b_l_expression .nil pass0 (pa_cons (pv 0) (pa_cons (pv 1) (pa_cons (pe_op op_sub (pv 3) pe_int) pa_nil)))))
      (pss_cons (ps_if (pt_cmpR op_eq (pv 2) pe_int (nomark _)) (pss_one (ps_ret (pe_tup (pa_cons pe_str (pa_cons (pv 4) pa_nil))))) pss_nil)
      (pss_cons (ps_set (i := 5) sc_l_node.nd rfl (Or.inl rfl) (pe_ix ix_list (pe_lst (pa_cons pe_str (pa_cons pe_str (pa_cons pe_str (pa_cons pe_str (pa_cons pe_str (pa_cons pe_str (pa_cons pe_str (pa_cons pe_str (pa_cons pe_str (pa_cons pe_str pa_nil))))))))))) (pe_op op_sub (pv 2) pe_int) (fun _ _ => rfl)))
      (pss_one (ps_ret (pe_tup (pa_cons (pv 5) (pa_cons (pv 4) (pa_cons (pe_call g_l_expression (hr.mono (by first | decide | omega)) rfl T.m_l_expression T.F_l_expression.kp T.b_l_expression .nil pass0 (pa_cons (pv 0) (pa_cons (pv 1) (pa_cons (pe_op op_sub (pv 3) pe_int) pa_nil)))) pa_nil))))))))))))), ?_⟩
  refine ⟨_, rfl, rfl, _, rfl, ite2 (fun _ => ?_) (fun h0 => ?_)⟩
  · refine ⟨_, rfl, _, rfl, a, d, rfl, hS, hW, fun r H1 st1 b => ⟨by show 2 ≤ sizeLine; decide, fun p hp => ?_⟩⟩
    exact q _ (.num r) _ (st1.new hp) b ⟨p, rfl, SqT.of upd_same⟩
  refine ⟨_, rfl, rfl, _, rfl, ite2 (fun _ => ?_) (fun h1 => ?_)⟩
  · refine ⟨_, rfl, _, rfl, a, d, rfl, hS, hW, fun r H1 st1 b => ⟨by show 2 ≤ sizeLine; decide, fun p hp => ?_⟩⟩
    exact q _ (.name r) _ (st1.new hp) b ⟨p, rfl, SqT.of upd_same⟩
  refine ⟨_, rfl, rfl, _, rfl, ite2 (fun _ => ?_) (fun h2 => ?_)⟩
  · refine ⟨_, rfl, a, 2, rfl, hS, by decide, fun r H1 st1 _ _ => ⟨rfl, by show 2 ≤ sizeLine; decide, fun p hp => ?_⟩⟩
    exact q _ (.flag _) _ (st1.new hp) trivial ⟨p, rfl, SqT.of upd_same⟩
  refine ⟨_, rfl, rfl, _, rfl, ite2 (fun _ => ?_) (fun h3 => ?_)⟩
  · refine ⟨by show 1 ≤ sizeLine; decide, fun p hp => ?_⟩
    exact q _ .null _ ((Stp.refl hS).new hp) trivial ⟨p, rfl, SqT.of upd_same⟩
  have n0 : c ≠ 0 := fun z => h0 (decide_eq_true (congrArg V.int z))
  have n1 : c ≠ 1 := fun z => h1 (decide_eq_true (congrArg V.int z))
  have n2 : c ≠ 2 := fun z => h2 (decide_eq_true (congrArg V.int z))
  have n3 : c ≠ 3 := fun z => h3 (decide_eq_true (congrArg V.int z))
  refine ⟨_, rfl, _, rfl, _, rfl, _, _, rfl, rfl, a, d, n - 1, rfl, hS, hW, by omega, by omega, fun x e1 H1 st1 o1 x1 => ?_⟩
  refine ⟨_, rfl, rfl, _, rfl, ite2 (fun _ => ?_) (fun h4 => ?_)⟩
  · refine ⟨_, rfl, by show 2 ≤ sizeLine; decide, fun p hp => ?_⟩
    exact q _ (.not e1) _ (st1.new hp) o1 ⟨p, x, rfl, SqT.of upd_same, ExAt.keep (Keeps.of_same (Same.new hp _)) x1⟩
  have n4 : c ≠ 4 := fun z => h4 (decide_eq_true (congrArg V.int z))
  refine ⟨by show 10 ≤ sizeLine; decide, fun l hl => ?_⟩
  have c5 : (c - 5).toNat < (opsL.map V.str).length := by
    show (c - 5).toNat < 10
    omega
  have e := atI_int (xs := opsL.map V.str) (r := c - 5) (by omega) c5
  obtain ⟨sg, hsg, esg⟩ := ops_mem (List.getElem_mem c5)
  rw [esg] at e
  refine ⟨_, rfl, _, _, rfl, rfl, l, opsL.map V.str, _, _, rfl, rfl, SqL.of upd_same, e, ?_⟩
  have s2 := Same.new hl (.lst (opsL.map V.str))
  have st2 : Stp a H1 (upd H1 l (.lst (opsL.map V.str))) := Stp.of_same st1.s s2
  refine ⟨_, rfl, _, rfl, _, rfl, _, rfl, _, rfl, _, _, rfl, rfl, a, d, n - 1, rfl, st2.s, (hW.stp hS st1).same s2, by omega, by omega, fun y e2 H3 st3 o2 y1 => ?_⟩
  refine ⟨by show 3 ≤ sizeLine; decide, fun p hp => ?_⟩
  have x3 : ExAt K H3 e1 x := ExAt.keep (Keeps.of_stp (st2.trans st3) st1.s) x1
  have kp : Keeps K H3 (upd H3 p (.tup [.str sg, x, y])) := Keeps.of_same (Same.new hp _)
  exact q _ (.bin sg e1 e2) _ ((st1.trans (st2.trans st3)).new hp) ⟨hsg, o1, o2⟩ ⟨p, x, y, rfl, SqT.of upd_same, ExAt.keep kp x3, ExAt.keep kp y1⟩
theorem ok_expr {m : Nat} (T : Txt w K mg) (g_l_node : FnOk P w K mg base CX0 (2 * m + 5) T.a_l_node T.d_l_node p_l_node (spNode K (m + 1))) :
    FnOk P w K mg base CX0 (2 * (m + 1) + 4) T.a_l_expression T.d_l_expression p_l_expression (spExpr K (m + 1)) := by
  have g_l_pick := ok_l_pick (P := P) (w := w) (base := base) T
  refine T.F_l_expression.ok sc_l_expression (fun vs H Q E h => ?_) (fun cdv A outer s H vs Q E hr h => ?_)
  · obtain ⟨a, d, n, rfl, _⟩ := h
    rfl
  obtain ⟨a, d, n, rfl, hS, hW, hn, _, q⟩ := h
  refine ⟨_, (pss_cons (ps_set (i := 3) sc_l_expression.nd rfl (Or.inl rfl) (pe_call g_l_pick (hr.mono (by first | decide | omega)) rfl T.m_l_pick T.F_l_pick.kp T.b_l_pick .nil pass0 (pa_cons (pv 0) (pa_cons pe_int pa_nil))))
      (C8.pss_cut (ps_if (PW.pt (pw_or (pt_cmpR op_lt (pv 2) pe_int (nomark _)) (pw_or1 (pt_cmpR op_eq (pe_call g_l_pick (hr.mono (by first | decide | omega)) rfl T.m_l_pick T.F_l_pick.kp T.b_l_pick .nil pass0 (pa_cons (pv 0) (pa_cons pe_int pa_nil))) pe_int (nomark _))))) (pss_one (ps_set (i := 3) sc_l_expression.nd rfl (Or.inl rfl) (pe_op op_modN (pv 3) pe_int))) pss_nil)
      (pss_one (ps_ret (pe_call g_l_node (hr.mono (by first | decide | omega)) rfl T.m_l_node T.F_l_node.kp T.b_l_node .nil pass0 (pa_cons (pv 0) (pa_cons (pv 1) (pa_cons (pv 3) (pa_cons (pv 2) pa_nil))))))))), ?_⟩
  refine ⟨_, rfl, a, 15, rfl, hS, by decide, fun c H1 st1 c0 c1 => ?_⟩
  refine ⟨fun σ H2 => Stp a H H2 ∧ ∃ c : Int, 0 ≤ c ∧ c < 15 ∧ (c < 4 ∨ 1 ≤ n) ∧ σ = [some (.ref a), some (.ref d), some (.int n), some (.int c)], ⟨_, rfl, n, 1, rfl, rfl, _, rfl, ?_⟩, ?_⟩
  · have b := fmod_bd (x := c) (m := 4) (by decide)
    refine ite2 (fun _ => iteT ⟨_, rfl, _, _, rfl, rfl, (by intro z; cases z), ⟨st1, _, b.1, by omega, .inl b.2, rfl⟩⟩) (fun hc => ?_)
    have hc' : ¬ n < 1 := of_decide_eq_false (Bool.eq_false_iff.mpr hc)
    refine ⟨_, rfl, a, 3, rfl, st1.s, by decide, fun r H2 st2 _ _ => ⟨rfl, _, rfl, ?_⟩⟩
    exact ite2 (fun _ => ⟨_, rfl, _, _, rfl, rfl, (by intro z; cases z), ⟨st1.trans st2, _, b.1, by omega, .inl b.2, rfl⟩⟩) (fun _ => ⟨st1.trans st2, c, c0, by omega, .inr (by omega), rfl⟩)
  rintro σ H2 ⟨st2, c, c0, c1, c2, rfl⟩
  exact ⟨_, rfl, _, rfl, _, rfl, _, rfl, a, d, c, n, rfl, st2.s, hW.stp hS st2, c0, c1, c2, hn, by omega, fun v e H3 st3 o x => q v e H3 (st2.trans st3) o x⟩
theorem ok_draws (T : Txt w K mg) : ∀ m : Nat, FnOk P w K mg base CX0 (2 * m + 4) T.a_l_expression T.d_l_expression p_l_expression (spExpr K m) ∧ FnOk P w K mg base CX0 (2 * m + 3) T.a_l_node T.d_l_node p_l_node (spNode K m)
  | 0 => ⟨fn_vac fun vs H Q E h => by obtain ⟨a, d, n, _, _, _, _, h, _⟩ := h; omega, fn_vac fun vs H Q E h => by obtain ⟨a, d, c, n, _, _, _, _, _, _, _, h, _⟩ := h; omega⟩
  | m + 1 => by
    have ih := (ok_draws T m).1
    have h1 := ok_node T ih
    exact ⟨ok_expr T h1, h1⟩
end
open PySem L2 ExV
/-! ### the law's text of an expression -/
theorem l_not : ("(not " : Str).length = 5 := by decide +kernel
theorem l_cl : (")" : Str).length = 1 := by decide +kernel
theorem l_op : ("(" : Str).length = 1 := by decide +kernel
theorem l_sp : (" " : Str).length = 1 := by decide +kernel
theorem txt_fit {m : Nat} {e : Ex} (h : e.ok m) (hm : m ≤ 12) : (txt e).length ≤ 131072 := by
  have h1 := txt_len h
  have h2 : 2 ^ m ≤ 2 ^ 12 := Nat.pow_le_pow_right (by decide) hm
  have h3 : (2 : Nat) ^ 12 = 4096 := by decide
  omega
def spTl (K : PySem.W.Frag) (m : Nat) : Sp := fun vs H Q _ => ∃ (v : V) (e : Ex), vs = [v] ∧ ExAt K H e v ∧ e.ok m ∧ ∀ H', Same H H' → Q (.str (txt e)) H'
section
variable {P : Program} {w : World} {K : PySem.W.Frag} {mg : Str → Option Value} {base : Heap}
theorem ok_l_text (T : Txt w K mg) : ∀ m : Nat, m ≤ 12 → FnOk P w K mg base CX0 m T.a_l_text T.d_l_text p_l_text (spTl K m)
  | 0, _ => fn_vac fun vs H Q E h => by obtain ⟨v, e, _, _, h, _⟩ := h; exact h
  | m + 1, hm => by
    have g_l_text := ok_l_text T m (by omega)
    refine T.F_l_text.ok sc_l_text (fun vs H Q E h => ?_) (fun cdv A outer s H vs Q E hr h => ?_)
    · obtain ⟨v, e, rfl, _⟩ := h
      rfl
    obtain ⟨v, e, rfl, hx, ho, q⟩ := h
    refine ⟨_, (pss_cons (ps_set (i := 1) sc_l_text.nd rfl (Or.inl rfl) (pe_ix ix_tup (pv 0) pe_int (fun _ _ => rfl)))
      (pss_cons (ps_if (pt_cmpR op_eq (pv 1) pe_str (nomark _)) (pss_one (ps_ret (pe_callTy call_str_int rfl T.z_str bt_str (pa_cons (pe_ix ix_tup (pv 0) pe_int (fun _ _ => rfl)) pa_nil)))) pss_nil)
      (pss_cons (ps_if (pt_cmpR op_eq (pv 1) pe_str (nomark _)) (pss_one (ps_ret (pe_ix ix_list (pe_lst (pa_cons pe_str (pa_cons pe_str pa_nil))) (pe_callTy call_int1 rfl T.z_int bt_int (pa_cons (pe_ix ix_tup (pv 0) pe_int (fun _ _ => rfl)) pa_nil)) (fun _ _ => rfl)))) pss_nil)
      (pss_cons (ps_if (pt_cmpR op_eq (pv 1) pe_str (nomark _)) (pss_one (ps_ret pe_str)) pss_nil)
      (pss_cons (ps_if (pt_cmpR op_eq (pv 1) pe_str (nomark _)) (pss_one (ps_ret (pe_ix ix_tup (pv 0) pe_int (fun _ _ => rfl)))) pss_nil)
      (pss_cons (ps_if (pt_cmpR op_eq (pv 1) pe_str (nomark _)) (pss_one (ps_ret (pe_op op_add_str (pe_op op_add_str pe_str (pe_call g_l_text (hr.mono (by first | decide | omega)) rfl T.m_l_text T.F_l_text.kp T.b_l_text .nil pass0 (pa_cons (pe_ix ix_tup (pv 0) pe_int (fun _ _ => rfl)) pa_nil))) pe_str))) pss_nil)
      (pss_one (ps_ret (pe_op op_add_str (pe_op op_add_str (pe_op op_add_str (pe_op op_add_str (pe_op op_add_str (pe_op op_add_str pe_str (pe_call g_l_text (hr.mono (by first | decide | omega)) rfl T.m_l_text T.F_l_text.kp T.b_l_text .nil pass0 (pa_cons (pe_ix ix_tup (pv 0) pe_int (fun _ _ => rfl)) pa_nil))) pe_str) (pv 1)) pe_str) (pe_call g_l_text (hr.mono (by first | decide | omega)) rfl T.m_l_text T.F_l_text.kp T.b_l_text .nil pass0 (pa_cons (pe_ix ix_tup (pv 0) pe_int (fun _ _ => rfl)) pa_nil))) pe_str))))))))), ?_⟩
    cases e with
    | num i =>
      obtain ⟨p, rfl, hp⟩ := hx
      exact ⟨_, rfl, p, _, 0, _, rfl, rfl, hp, rfl, _, rfl, rfl, _, rfl, ifT (by decide +kernel) ⟨_, rfl, p, _, 1, _, rfl, rfl, hp, rfl, _, rfl, log_ok ho, q _ (Same.refl H)⟩⟩
    | flag b =>
      obtain ⟨p, rfl, hp⟩ := hx
      refine ⟨_, rfl, p, _, 0, _, rfl, rfl, hp, rfl, _, rfl, rfl, _, rfl, ifF (by decide +kernel) ⟨_, rfl, rfl, _, rfl, ifT (by decide +kernel) ⟨by show 2 ≤ sizeLine; decide, fun l hl => ?_⟩⟩⟩
      have hp' := Same.tup (Same.new hl (.lst [.str "false", .str "true"])) hp
      refine ⟨_, rfl, p, _, 1, _, rfl, rfl, hp', rfl, .inr ⟨b, rfl, ?_⟩⟩
      cases b with
      | true => exact ⟨l, _, 1, _, rfl, rfl, SqL.of upd_same, rfl, q _ (Same.new hl _)⟩
      | false => exact ⟨l, _, 0, _, rfl, rfl, SqL.of upd_same, rfl, q _ (Same.new hl _)⟩
    | null =>
      obtain ⟨p, rfl, hp⟩ := hx
      exact ⟨_, rfl, p, _, 0, _, rfl, rfl, hp, rfl, _, rfl, rfl, _, rfl, ifF (by decide +kernel) ⟨_, rfl, rfl, _, rfl, ifF (by decide +kernel) ⟨_, rfl, rfl, _, rfl, ifT (by decide +kernel) (q _ (Same.refl H))⟩⟩⟩
    | name z =>
      obtain ⟨p, rfl, hp⟩ := hx
      exact ⟨_, rfl, p, _, 0, _, rfl, rfl, hp, rfl, _, rfl, rfl, _, rfl, ifF (by decide +kernel) ⟨_, rfl, rfl, _, rfl, ifF (by decide +kernel) ⟨_, rfl, rfl, _, rfl, ifF (by decide +kernel) ⟨_, rfl, rfl, _, rfl, ifT (by decide +kernel) ⟨_, rfl, p, _, 1, _, rfl, rfl, hp, rfl, q _ (Same.refl H)⟩⟩⟩⟩⟩
    | not a =>
      obtain ⟨p, x, rfl, hp, hx⟩ := hx
      have f1 := txt_fit (m := m) (e := a) ho (by omega)
      refine ⟨_, rfl, p, _, 0, _, rfl, rfl, hp, rfl, _, rfl, rfl, _, rfl, ifF (by decide +kernel) ⟨_, rfl, rfl, _, rfl, ifF (by decide +kernel) ⟨_, rfl, rfl, _, rfl, ifF (by decide +kernel) ⟨_, rfl, rfl, _, rfl, ifF (by decide +kernel) ⟨_, rfl, rfl, _, rfl, ifT (by decide +kernel) ?_⟩⟩⟩⟩⟩
      exact ⟨_, rfl, p, _, 1, _, rfl, rfl, hp, rfl, x, a, rfl, hx, ho, fun H1 s1 => ⟨_, _, rfl, rfl, (by rw [sizeLine_eq]; (try simp only [len_app, l_not, l_cl, l_op, l_sp]); omega), _, _, rfl, rfl, (by rw [sizeLine_eq]; (try simp only [len_app, l_not, l_cl, l_op, l_sp]); omega), q _ s1⟩⟩
    | bin op a b =>
      obtain ⟨p, x, y, rfl, hp, hx, hy⟩ := hx
      obtain ⟨ho, oa, ob⟩ := ho
      obtain ⟨n1, n2, n3, n4, n5, n6⟩ := ops_ne op ho
      have f1 := txt_fit oa (by omega)
      have f2 := txt_fit ob (by omega)
      refine ⟨_, rfl, p, _, 0, _, rfl, rfl, hp, rfl, _, rfl, rfl, _, rfl, ifF (decide_eq_false n1) ⟨_, rfl, rfl, _, rfl, ifF (decide_eq_false n2) ⟨_, rfl, rfl, _, rfl, ifF (decide_eq_false n3) ⟨_, rfl, rfl, _, rfl, ifF (decide_eq_false n4) ⟨_, rfl, rfl, _, rfl, ifF (decide_eq_false n5) ?_⟩⟩⟩⟩⟩
      refine ⟨_, rfl, p, _, 1, _, rfl, rfl, hp, rfl, x, a, rfl, hx, oa, fun H1 s1 => ?_⟩
      have hp1 := Same.tup s1 hp
      have hy1 := ExAt.keep (Keeps.of_same s1) hy
      exact ⟨_, _, rfl, rfl, (by rw [sizeLine_eq]; (try simp only [len_app, l_not, l_cl, l_op, l_sp]); omega), _, _, rfl, rfl, (by rw [sizeLine_eq]; (try simp only [len_app, l_not, l_cl, l_op, l_sp]); omega), _, rfl, _, _, rfl, rfl, (by rw [sizeLine_eq]; (try simp only [len_app, l_not, l_cl, l_op, l_sp]); omega), _, _, rfl, rfl, (by rw [sizeLine_eq]; (try simp only [len_app, l_not, l_cl, l_op, l_sp]); omega), _, rfl, p, _, 2, _, rfl, rfl, hp1, rfl, y, b, rfl, hy1, ob, fun H2 s2 => ⟨_, _, rfl, rfl, (by rw [sizeLine_eq]; (try simp only [len_app, l_not, l_cl, l_op, l_sp]); omega), _, _, rfl, rfl, (by rw [sizeLine_eq]; (try simp only [len_app, l_not, l_cl, l_op, l_sp]); omega), q _ (s1.trans s2)⟩⟩
end
open PySem L2 ExV
/-! ### a text is read back -/
def txl (e : Ex) : List Nat := (txt e).cps.toList
theorem head_dig : ∀ n : Nat, 0 < n → ∃ c r, (Nat.toDigits 10 n).map Char.toNat = c :: r ∧ c ≠ 48
  | n, h => by
    by_cases h10 : n < 10
    · rw [Nat.toDigits_of_lt_base h10]
      have : ∀ n, n < 10 → 0 < n → (Nat.digitChar n).toNat ≠ 48 := by decide +kernel
      exact ⟨_, _, rfl, this n h10 h⟩
    · obtain ⟨c, r, e, hc⟩ := head_dig (n / 10) (by omega)
      rw [Nat.toDigits_of_base_le (by decide) (by omega), List.map_append, e]
      exact ⟨c, _, rfl, hc⟩
  termination_by n => n
  decreasing_by omega
theorem dig_all (n : Nat) : ((Nat.toDigits 10 n).map Char.toNat).all isDg = true := by
  refine List.all_eq_true.mpr fun c hc => ?_
  obtain ⟨ch, hch, e⟩ := List.mem_map.mp hc
  have r := Nat.isDigit_of_mem_toDigits (by decide) (by decide) hch
  have r2 : 48 ≤ ch.toNat ∧ ch.toNat ≤ 57 := PyProof.Rows.digit_range r
  rw [← e]
  have : ∀ c, 48 ≤ c ∧ c ≤ 57 → isDg c = true := by
    intro c h
    obtain ⟨k, hk⟩ := Nat.exists_eq_add_of_le h.1
    have : ∀ k, k ≤ 9 → isDg (48 + k) = true := by decide +kernel
    rw [hk]
    exact this k (by omega)
  exact this _ r2
theorem numS_nat (n : Nat) : (numS (n : Int)).cps.toList = (Nat.toDigits 10 n).map Char.toNat := PySem.W.KIN.signs_num n
theorem numS_neg (n : Nat) (h : 0 < n) : (numS (-(n : Int))).cps.toList = 45 :: (Nat.toDigits 10 n).map Char.toNat := by
  unfold numS
  rw [PyProof.Rows.toString_neg (n := -(n : Int)) (by omega), show 0 - -(n : Int) = (n : Int) by omega, PyProof.Rows.signs_ofString, String.toList_append, List.map_append]
  have := numS_nat n
  unfold numS at this
  rw [PyProof.Rows.signs_ofString] at this
  rw [this]
  rfl
theorem dig_ne (n : Nat) : (Nat.toDigits 10 n).map Char.toNat ≠ [] := by
  intro h
  exact Nat.toDigits_ne_nil (List.map_eq_nil_iff.mp h)
/-- the text of a number is the number -/
theorem num_atom {i : Int} (h : -1000000000 ≤ i ∧ i ≤ 1000000000) : atomE (numS i).cps.toList = some (.num i) ∧ (numS i).cps.toList ≠ [] ∧ ∀ c ∈ (numS i).cps.toList, isDl c = false := by
  have len : (numS i).cps.toList.length ≤ 11 := numS_len h
  have dgs : ∀ n : Nat, ∀ c ∈ (Nat.toDigits 10 n).map Char.toNat, isDg c = true := fun n c hc => List.all_eq_true.mp (dig_all n) c hc
  have dgl : ∀ c, isDg c = true → isDl c = false ∧ isLo c = false ∧ c ≠ 45 ∧ 48 ≤ c ∧ c ≤ 57 := fun c hc => by
    have e : ∀ c ∈ ("0123456789" : Str).cps.toList, isDl c = false ∧ isLo c = false ∧ c ≠ 45 ∧ 48 ≤ c ∧ c ≤ 57 := by decide +kernel
    exact e c (of_decide_eq_true hc)
  -- what follows from the shape
  have fin0 : ∀ l : List Nat, l.length ≤ 11 → digs l ≠ [] → (digs l).all isDg = true → ((digs l).head? ≠ some 48 ∨ l = [48]) → (∀ c r, l = c :: r → isLo c = false) → PySem.intText? (S l) = some i → atomE l = some (.num i) := fun l h1 h2 h3 h4 h5 h6 => by
    have n1 : ∀ z : Str, (∃ c r, z.cps.toList = c :: r ∧ isLo c = true) → S l ≠ z := fun z ⟨c, r, hz, hc⟩ e => by
      have e2 : l = z.cps.toList := by rw [← e]; rfl
      have := h5 c r (e2.trans hz)
      rw [this] at hc
      cases hc
    have n4 : isNm l = false := by
      cases l with
      | nil => rfl
      | cons c r =>
        show (isLo c && _ && _) = false
        rw [h5 c r rfl]
        rfl
    have n5 : isNum l = true := by
      unfold isNum
      rw [decide_eq_true h2, decide_eq_true (Nat.le_trans (digs_len l) (by omega)), h3]
      rcases h4 with h4 | h4
      · rw [decide_eq_true h4]
        rfl
      · rw [decide_eq_true h4, Bool.or_true]
        rfl
    unfold atomE
    rw [if_neg (n1 "true" ⟨116, [114, 117, 101], by decide +kernel, by decide +kernel⟩), if_neg (n1 "false" ⟨102, [97, 108, 115, 101], by decide +kernel, by decide +kernel⟩), if_neg (n1 "null" ⟨110, [117, 108, 108], by decide +kernel, by decide +kernel⟩), if_neg (by rw [n4]; exact Bool.false_ne_true), if_pos n5]
    unfold numV
    rw [h6]
    rfl
  by_cases hi : 0 ≤ i
  · obtain ⟨n, rfl⟩ := Int.eq_ofNat_of_zero_le hi
    have rd := PySem.W.KIN.num_reads hi (by omega)
    have shape := numS_nat n
    have dg : ∀ c ∈ (numS (n : Int)).cps.toList, isDg c = true := by rw [shape]; exact dgs n
    have ne : (numS (n : Int)).cps.toList ≠ [] := by rw [shape]; exact dig_ne n
    have hd : digs (numS (n : Int)).cps.toList = (numS (n : Int)).cps.toList := by
      unfold digs
      split
      · rename_i t heq
        exact absurd rfl (dgl 45 (dg 45 (by rw [heq]; exact List.mem_cons_self))).2.2.1
      · rfl
    refine ⟨fin0 _ len (by rw [hd]; exact ne) (by rw [hd]; exact List.all_eq_true.mpr dg) ?_ (fun c r hc => (dgl c (dg c (by rw [hc]; exact List.mem_cons_self))).2.1) (by rw [S_of]; exact rd), ne, fun c hc => (dgl c (dg c hc)).1⟩
    rw [hd]
    by_cases z : n = 0
    · right
      rw [z]
      decide +kernel
    · left
      obtain ⟨c, r, e, hc⟩ := head_dig n (by omega)
      rw [shape, e]
      exact fun z => hc (Option.some.inj z)
  · obtain ⟨n, hn⟩ : ∃ n : Nat, i = -(n : Int) := ⟨i.natAbs, by omega⟩
    subst hn
    have n0 : 0 < n := by omega
    have shape := numS_neg n n0
    obtain ⟨c0, r0, e0, hc0⟩ := head_dig n n0
    have hd : digs (numS (-(n : Int))).cps.toList = (Nat.toDigits 10 n).map Char.toNat := by rw [shape]; rfl
    have rd : PySem.intText? (S (numS (-(n : Int))).cps.toList) = some (-(n : Int)) := by
      have := PySem.intText_neg (x := S (numS (-(n : Int))).cps.toList) (cs := (Nat.toDigits 10 n).map Char.toNat) shape (fun c hc => (dgl c (dgs n c hc)).2.2.2) (dig_ne n) (by rw [S_len]; omega)
      rw [this, PySem.W.KIN.val_back]
    refine ⟨fin0 _ len (by rw [hd]; exact dig_ne n) (by rw [hd]; exact dig_all n) (.inl ?_) (fun c r hc => ?_) rd, by rw [shape]; simp, fun c hc => ?_⟩
    · rw [hd, e0]
      exact fun z => hc0 (Option.some.inj z)
    · rw [shape] at hc
      rw [← (List.cons.inj hc).1]
      decide +kernel
    · rw [shape] at hc
      rcases List.mem_cons.mp hc with rfl | hc
      · decide +kernel
      · exact (dgl c (dgs n c hc)).1
theorem name_atom {z : Str} (h : NmV z) : atomE z.cps.toList = some (.name z) ∧ z.cps.toList ≠ [] ∧ ∀ c ∈ z.cps.toList, isDl c = false := by
  obtain ⟨_, h⟩ := h
  have nm := h
  cases hz : z.cps.toList with
  | nil =>
    rw [hz] at h
    cases h
  | cons c r =>
    rw [hz] at h nm
    have h : (isLo c && !decide (S (c :: r) ∈ resL) && (c :: r).all isAn) = true := h
    rw [Bool.and_eq_true, Bool.and_eq_true] at h
    have zs : S (c :: r) = z := by rw [← hz]; exact S_of z
    have nr : z ∉ resL := by
      have := h.1.2
      rw [zs] at this
      intro q
      rw [decide_eq_true q] at this
      cases this
    refine ⟨?_, by simp, fun d hd => an_dl (List.all_eq_true.mp h.2 d hd)⟩
    unfold atomE
    rw [zs, if_neg (fun e => nr (by rw [e]; decide +kernel)), if_neg (fun e => nr (by rw [e]; decide +kernel)), if_neg (fun e => nr (by rw [e]; decide +kernel)), if_pos nm]
open PySem L2 ExV
/-! ### texts that are read back, and what a change leaves of them -/
def Wr (n : Nat) : Nat → List Nat → Prop
  | k, [] => k ≤ n
  | k, c :: t => if isDl c = true then k ≤ n ∧ Wr n 0 t else Wr n (k + 1) t
theorem Wr.le {n : Nat} : ∀ {l : List Nat} {k : Nat}, Wr n k l → k + (wd l).length ≤ n
  | [], k, h => h
  | c :: t, k, h => by
    have h : if isDl c = true then k ≤ n ∧ Wr n 0 t else Wr n (k + 1) t := h
    cases hc : isDl c with
    | true =>
      rw [hc, if_pos rfl] at h
      have : wd (c :: t) = [] := List.takeWhile_cons_of_neg (by rw [hc]; decide)
      rw [this]
      exact h.1
    | false =>
      rw [hc, if_neg Bool.false_ne_true] at h
      have : wd (c :: t) = c :: wd t := List.takeWhile_cons_of_pos (by rw [hc]; rfl)
      have := Wr.le h
      rw [‹wd (c :: t) = _›, List.length_cons]
      omega
theorem Wr.up {n m j : Nat} : ∀ {l : List Nat} {k : Nat}, Wr m k l → j ≤ n → Wr (n + m) (k + j) l
  | [], k, h, hj => by
    have h : k ≤ m := h
    show k + j ≤ n + m
    omega
  | c :: t, k, h, hj => by
    have h : if isDl c = true then k ≤ m ∧ Wr m 0 t else Wr m (k + 1) t := h
    show if isDl c = true then k + j ≤ n + m ∧ Wr (n + m) 0 t else Wr (n + m) (k + j + 1) t
    cases hc : isDl c with
    | true =>
      rw [hc, if_pos rfl] at h
      rw [if_pos rfl]
      exact ⟨by omega, Wr.up (j := 0) h.2 (Nat.zero_le _)⟩
    | false =>
      rw [hc, if_neg Bool.false_ne_true] at h
      rw [if_neg Bool.false_ne_true, show k + j + 1 = k + 1 + j by omega]
      exact Wr.up h hj
theorem Wr.down {n : Nat} : ∀ {l : List Nat} {k : Nat}, Wr n (k + 1) l → Wr n k l
  | [], k, h => by
    have h : k + 1 ≤ n := h
    show k ≤ n
    omega
  | c :: t, k, h => by
    have h : if isDl c = true then k + 1 ≤ n ∧ Wr n 0 t else Wr n (k + 1 + 1) t := h
    show if isDl c = true then k ≤ n ∧ Wr n 0 t else Wr n (k + 1) t
    cases hc : isDl c with
    | true =>
      rw [hc, if_pos rfl] at h
      rw [if_pos rfl]
      exact ⟨by omega, h.2⟩
    | false =>
      rw [hc, if_neg Bool.false_ne_true] at h
      rw [if_neg Bool.false_ne_true]
      exact Wr.down h
theorem Wr.zero {n : Nat} {l : List Nat} : ∀ {k : Nat}, Wr n k l → Wr n 0 l
  | 0, h => h
  | k + 1, h => Wr.zero h.down
theorem Wr.app {n m : Nat} : ∀ {a b : List Nat} {k : Nat}, Wr n k a → Wr m 0 b → Wr (n + m) k (a ++ b)
  | [], b, k, h, hb => by
    have := hb.up (n := n) (j := k) h
    rwa [Nat.zero_add] at this
  | c :: t, b, k, h, hb => by
    have h : if isDl c = true then k ≤ n ∧ Wr n 0 t else Wr n (k + 1) t := h
    show if isDl c = true then k ≤ n + m ∧ Wr (n + m) 0 (t ++ b) else Wr (n + m) (k + 1) (t ++ b)
    cases hc : isDl c with
    | true =>
      rw [hc, if_pos rfl] at h
      rw [if_pos rfl]
      exact ⟨by omega, Wr.app h.2 hb⟩
    | false =>
      rw [hc, if_neg Bool.false_ne_true] at h
      rw [if_neg Bool.false_ne_true]
      exact Wr.app h hb
theorem Wr.appD {n c : Nat} (hc : isDl c = true) : ∀ {a b : List Nat} {k : Nat}, Wr n k a → Wr n 0 b → Wr n k (a ++ c :: b)
  | [], b, k, h, hb => by
    show if isDl c = true then k ≤ n ∧ Wr n 0 b else _
    rw [hc, if_pos rfl]
    exact ⟨h, hb⟩
  | d :: t, b, k, h, hb => by
    have h : if isDl d = true then k ≤ n ∧ Wr n 0 t else Wr n (k + 1) t := h
    show if isDl d = true then k ≤ n ∧ Wr n 0 (t ++ c :: b) else Wr n (k + 1) (t ++ c :: b)
    cases hd : isDl d with
    | true =>
      rw [hd, if_pos rfl] at h
      rw [if_pos rfl]
      exact ⟨h.1, Wr.appD hc h.2 hb⟩
    | false =>
      rw [hd, if_neg Bool.false_ne_true] at h
      rw [if_neg Bool.false_ne_true]
      exact Wr.appD hc h hb
theorem Wr.len {n : Nat} : ∀ {l : List Nat} {k : Nat}, k + l.length ≤ n → Wr n k l
  | [], _, h => h
  | c :: t, k, h => by
    rw [List.length_cons] at h
    show if isDl c = true then k ≤ n ∧ Wr n 0 t else Wr n (k + 1) t
    cases isDl c with
    | true =>
      rw [if_pos rfl]
      exact ⟨by omega, Wr.len (by omega)⟩
    | false =>
      rw [if_neg Bool.false_ne_true]
      exact Wr.len (by omega)
theorem Wr.take {n : Nat} : ∀ {l : List Nat} {k i : Nat}, Wr n k l → Wr n k (l.take i)
  | [], _, i, h => by rw [List.take_nil]; exact h
  | c :: t, k, 0, h => by
    have := h.le
    show k ≤ n
    omega
  | c :: t, k, i + 1, h => by
    have h : if isDl c = true then k ≤ n ∧ Wr n 0 t else Wr n (k + 1) t := h
    show if isDl c = true then k ≤ n ∧ Wr n 0 (t.take i) else Wr n (k + 1) (t.take i)
    cases hc : isDl c with
    | true =>
      rw [hc, if_pos rfl] at h
      rw [if_pos rfl]
      exact ⟨h.1, h.2.take⟩
    | false =>
      rw [hc, if_neg Bool.false_ne_true] at h
      rw [if_neg Bool.false_ne_true]
      exact h.take
theorem Wr.drop {n : Nat} : ∀ {l : List Nat} {k i : Nat}, Wr n k l → Wr n 0 (l.drop i)
  | [], _, i, h => by rw [List.drop_nil]; exact Nat.zero_le _
  | c :: t, k, 0, h => h.zero
  | c :: t, k, i + 1, h => by
    have h : if isDl c = true then k ≤ n ∧ Wr n 0 t else Wr n (k + 1) t := h
    show Wr n 0 (t.drop i)
    cases hc : isDl c with
    | true =>
      rw [hc, if_pos rfl] at h
      exact h.2.drop
    | false =>
      rw [hc, if_neg Bool.false_ne_true] at h
      exact h.drop
theorem Nest.up : ∀ {l : List Nat} {k j : Nat}, Nest k l → k ≤ j → Nest j l
  | [], _, _, _, _ => trivial
  | c :: t, k, j, h, hj => by
    have h : if c = 40 then 0 < k ∧ Nest (k - 1) t else if c = 41 then Nest (k + 1) t else Nest k t := h
    show if c = 40 then 0 < j ∧ Nest (j - 1) t else if c = 41 then Nest (j + 1) t else Nest j t
    by_cases h40 : c = 40
    · rw [if_pos h40] at h ⊢
      exact ⟨by omega, h.2.up (by omega)⟩
    · rw [if_neg h40] at h ⊢
      by_cases h41 : c = 41
      · rw [if_pos h41] at h ⊢
        exact h.up (by omega)
      · rw [if_neg h41] at h ⊢
        exact h.up hj
theorem Nest.add {k c : Nat} {t : List Nat} (h : Nest k t) : Nest (k + 1) (c :: t) := by
  show if c = 40 then 0 < k + 1 ∧ Nest (k + 1 - 1) t else if c = 41 then Nest (k + 1 + 1) t else Nest (k + 1) t
  by_cases h40 : c = 40
  · rw [if_pos h40]
    exact ⟨by omega, h⟩
  · rw [if_neg h40]
    by_cases h41 : c = 41
    · rw [if_pos h41]
      exact h.up (by omega)
    · rw [if_neg h41]
      exact h.up (by omega)
theorem Nest.adds {k : Nat} {t : List Nat} (h : Nest k t) : ∀ m : List Nat, Nest (k + m.length) (m ++ t)
  | [] => h
  | c :: m => (Nest.adds h m).add
theorem Nest.tail {k c : Nat} {t : List Nat} (h : Nest k (c :: t)) : Nest (k + 1) t := by
  have h : if c = 40 then 0 < k ∧ Nest (k - 1) t else if c = 41 then Nest (k + 1) t else Nest k t := h
  by_cases h40 : c = 40
  · rw [if_pos h40] at h
    exact h.2.up (by omega)
  · rw [if_neg h40] at h
    by_cases h41 : c = 41
    · rw [if_pos h41] at h
      exact h
    · rw [if_neg h41] at h
      exact h.up (by omega)
theorem Nest.drop : ∀ {d : Nat} {k : Nat} {t : List Nat}, Nest k t → Nest (k + d) (t.drop d)
  | 0, _, _, h => h
  | d + 1, _, [], _ => trivial
  | d + 1, k, c :: t, h => by
    have := Nest.drop (d := d) h.tail
    rw [show k + (d + 1) = k + 1 + d by omega]
    exact this
theorem Nest.len : ∀ {l : List Nat} {k : Nat}, l.count 40 ≤ k → Nest k l
  | [], _, _ => trivial
  | c :: t, k, h => by
    show if c = 40 then 0 < k ∧ Nest (k - 1) t else if c = 41 then Nest (k + 1) t else Nest k t
    by_cases h40 : c = 40
    · rw [if_pos h40]
      rw [h40, List.count_cons_self] at h
      exact ⟨by omega, Nest.len (by omega)⟩
    · rw [if_neg h40]
      rw [List.count_cons_of_ne (fun z => h40 z)] at h
      by_cases h41 : c = 41
      · rw [if_pos h41]
        exact Nest.len (by omega)
      · rw [if_neg h41]
        exact Nest.len h
theorem Nest.edit {b m : List Nat} {d : Nat} : ∀ {a : List Nat} {k : Nat}, Nest k (a ++ b) → Nest (k + d + m.length) (a ++ (m ++ b.drop d))
  | [], k, h => (Nest.drop (d := d) h).adds m
  | c :: a, k, h => by
    have h : if c = 40 then 0 < k ∧ Nest (k - 1) (a ++ b) else if c = 41 then Nest (k + 1) (a ++ b) else Nest k (a ++ b) := h
    show if c = 40 then 0 < k + d + m.length ∧ Nest (k + d + m.length - 1) (a ++ (m ++ b.drop d)) else if c = 41 then Nest (k + d + m.length + 1) (a ++ (m ++ b.drop d)) else Nest (k + d + m.length) (a ++ (m ++ b.drop d))
    by_cases h40 : c = 40
    · rw [if_pos h40] at h ⊢
      have := Nest.edit (m := m) (d := d) h.2
      exact ⟨by omega, this.up (by omega)⟩
    · rw [if_neg h40] at h ⊢
      by_cases h41 : c = 41
      · rw [if_pos h41] at h ⊢
        exact (Nest.edit (m := m) (d := d) h).up (by omega)
      · rw [if_neg h41] at h ⊢
        exact Nest.edit h
/-- a text that both readers read -/
def Gd (l : List Nat) : Prop := LOk l ∧ Nest 40 l
theorem gd_of {l : List Nat} (h1 : l.length ≤ 100000) (h2 : Wr 640 0 l) (h3 : Nest 40 l) : Gd l :=
  ⟨⟨h1, fun k hk _ => .inl (by have := (h2.drop (i := k)).le; omega)⟩, h3⟩
/-- a change of a text -/
theorem gd_edit {l m : List Nat} {i d : Nat} (hd : d ≤ 2) (hm : m.length ≤ 2) (h1 : l.length ≤ 90000) (h2 : Wr 20 0 l) (h3 : Nest 8 l) : Gd (l.take i ++ (m ++ l.drop (i + d))) := by
  refine gd_of ?_ ?_ ?_
  · rw [List.length_append, List.length_append, List.length_take, List.length_drop]
    omega
  · have a := h2.take (i := i)
    have b := h2.drop (i := i + d)
    have c := a.app ((Wr.len (n := 2) (l := m) (k := 0) (by omega)).app b)
    have e := c.up (n := 640 - (20 + (2 + 20))) (j := 0) (Nat.zero_le _)
    exact e
  · have := Nest.edit (a := l.take i) (b := l.drop i) (m := m) (d := d) (k := 8) (by rw [List.take_append_drop]; exact h3)
    rw [List.drop_drop] at this
    exact this.up (by omega)
open PySem L2 ExV
/-! ### the text of an expression: read back, its words, its brackets -/
theorem txl_not (a : Ex) : txl (.not a) = 40 :: 110 :: 111 :: 116 :: 32 :: (txl a ++ [41]) := by
  show (("(not " : Str) ++ txt a ++ (")" : Str)).cps.toList = _
  rw [show ("(not " : Str) = S [40, 110, 111, 116, 32] from s_not, show (")" : Str) = S [41] from s_close]
  simp [PySem.Str.cps_append, txl, S]
theorem txl_bin (op : Str) (a b : Ex) : txl (.bin op a b) = 40 :: (txl a ++ 32 :: (op.cps.toList ++ 32 :: (txl b ++ [41]))) := by
  show (("(" : Str) ++ txt a ++ (" " : Str) ++ op ++ (" " : Str) ++ txt b ++ (")" : Str)).cps.toList = _
  rw [show ("(" : Str) = S [40] from s_open, show (")" : Str) = S [41] from s_close, show (" " : Str) = S [32] from s_blank]
  simp [PySem.Str.cps_append, txl, S]
def AtomLike (e : Ex) : Prop := atomE (txl e) = some e ∧ txl e ≠ [] ∧ ∀ c ∈ txl e, isDl c = false
theorem atom_like : ∀ {m : Nat} {e : Ex}, e.ok m → AtomLike e ∨ (∃ a, e = .not a) ∨ ∃ op a b, e = .bin op a b
  | 0, _, h => h.elim
  | m + 1, .num i, h => .inl (num_atom h)
  | m + 1, .name s, h => .inl (name_atom h)
  | m + 1, .flag true, _ => .inl ⟨by unfold atomE; rw [if_pos (by decide +kernel)], by decide +kernel, by decide +kernel⟩
  | m + 1, .flag false, _ => .inl ⟨by unfold atomE; rw [if_neg (by decide +kernel), if_pos (by decide +kernel)], by decide +kernel, by decide +kernel⟩
  | m + 1, .null, _ => .inl ⟨by unfold atomE; rw [if_neg (by decide +kernel), if_neg (by decide +kernel), if_pos (by decide +kernel)], by decide +kernel, by decide +kernel⟩
  | m + 1, .not a, _ => .inr (.inl ⟨a, rfl⟩)
  | m + 1, .bin op a b, _ => .inr (.inr ⟨op, a, b, rfl⟩)
def Stop (r : List Nat) : Prop := ∀ c r', r = c :: r' → isDl c = true
theorem atom_rd {w r : List Nat} {e : Ex} (n : Nat) (h : atomE w = some e) (hn : w ≠ []) (hd : ∀ c ∈ w, isDl c = false) (hr : Stop r) : rd (n + 1) (w ++ r) = some (e, r) := by
  have ne : ∀ t, w ++ r ≠ 40 :: t := fun t z => by
    obtain ⟨c, u, rfl⟩ := List.exists_cons_of_ne_nil hn
    have e : c = 40 := (List.cons.inj z).1
    exact (dl_ne (hd c List.mem_cons_self)).1 e
  have hw : wd (w ++ r) = w := tw_stop (List.all_eq_true.mpr fun c hc => by rw [hd c hc]; rfl) fun c r' hc => by rw [hr c r' hc]; rfl
  have hR : wdR (w ++ r) = r := by
    have := wd_app (w ++ r)
    rw [hw] at this
    exact (List.append_cancel_left this).symm
  rw [rd_atom ne, hw, hR, h]
  rfl
theorem no_not {m : Nat} {a : Ex} (h : a.ok m) {q : List Nat} (r : List Nat) (hq : Stop q) : txl a ++ q ≠ 110 :: 111 :: 116 :: 32 :: r := fun z => by
  rcases atom_like h with ⟨h1, h2, h3⟩ | ⟨b, rfl⟩ | ⟨op, b, c, rfl⟩
  · have hw : wd (txl a ++ q) = txl a := tw_stop (List.all_eq_true.mpr fun c hc => by rw [h3 c hc]; rfl) fun c r' hc => by rw [hq c r' hc]; rfl
    rw [z] at hw
    have e : wd (110 :: 111 :: 116 :: 32 :: r) = [110, 111, 116] := by
      unfold wd
      rw [List.takeWhile_cons_of_pos (by decide +kernel), List.takeWhile_cons_of_pos (by decide +kernel), List.takeWhile_cons_of_pos (by decide +kernel), List.takeWhile_cons_of_neg (by decide +kernel)]
    rw [e] at hw
    rw [← hw] at h1
    have : atomE [110, 111, 116] = none := by decide +kernel
    rw [this] at h1
    cases h1
  · rw [txl_not] at z
    exact absurd (List.cons.inj z).1 (by decide)
  · rw [txl_bin] at z
    exact absurd (List.cons.inj z).1 (by decide)
theorem rd_txt : ∀ {m : Nat} {e : Ex}, e.ok m → ∀ (n : Nat) (r : List Nat), Stop r → (txl e ++ r).length < n → rd n (txl e ++ r) = some (e, r)
  | 0, _, h, _, _, _, _ => h.elim
  | m + 1, e, h, n, r, hr, hl => by
    obtain ⟨n, rfl⟩ : ∃ j, n = j + 1 := ⟨n - 1, by omega⟩
    rcases atom_like h with ⟨h1, h2, h3⟩ | ⟨a, rfl⟩ | ⟨op, a, b, rfl⟩
    · exact atom_rd n h1 h2 h3 hr
    · rw [txl_not] at hl ⊢
      have e1 : 40 :: 110 :: 111 :: 116 :: 32 :: (txl a ++ [41]) ++ r = 40 :: 110 :: 111 :: 116 :: 32 :: (txl a ++ 41 :: r) := by simp
      rw [e1] at hl ⊢
      simp only [List.length_cons] at hl
      have ih := rd_txt (m := m) (e := a) h n (41 :: r) (fun c r' z => by rw [← (List.cons.inj z).1]; decide +kernel) (by omega)
      show (match rd n (txl a ++ 41 :: r) with | some (e, 41 :: r) => some (Ex.not e, r) | _ => none) = _
      rw [ih]
      rfl
    · have h : op ∈ opsL ∧ a.ok m ∧ b.ok m := h
      rw [txl_bin] at hl ⊢
      have e1 : 40 :: (txl a ++ 32 :: (op.cps.toList ++ 32 :: (txl b ++ [41]))) ++ r = 40 :: (txl a ++ (32 :: (op.cps.toList ++ 32 :: (txl b ++ 41 :: r)))) := by simp
      rw [e1] at hl ⊢
      have st : Stop (32 :: (op.cps.toList ++ 32 :: (txl b ++ 41 :: r))) := fun c r' z => by rw [← (List.cons.inj z).1]; decide +kernel
      rw [rd_opn n (fun q => no_not h.2.1 q st)]
      rw [List.length_cons] at hl
      have i1 := rd_txt (m := m) (e := a) h.2.1 n _ st (by omega)
      simp only [List.length_append, List.length_cons] at hl
      have i2 := rd_txt (m := m) (e := b) h.2.2 n (41 :: r) (fun c r' z => by rw [← (List.cons.inj z).1]; decide +kernel) (by simp only [List.length_append, List.length_cons]; omega)
      rw [i1]
      show (match opAt (32 :: (op.cps.toList ++ 32 :: (txl b ++ 41 :: r))) with | some (op, r1) => (match rd n r1 with | some (b, 41 :: r2) => some (Ex.bin op a b, r2) | _ => none) | none => none) = _
      rw [opAt_of h.1]
      show (match rd n (txl b ++ 41 :: r) with | some (b, 41 :: r2) => some (Ex.bin op a b, r2) | _ => none) = _
      rw [i2]
      rfl
theorem fin_txt {m : Nat} {e : Ex} (h : e.ok m) : fin [] (R (txl e)) = some e := by
  have := rd_txt h ((txl e).length + 1) [] (fun c r z => by cases z) (by rw [List.append_nil]; exact Nat.lt_succ_self _)
  rw [List.append_nil] at this
  show fin [] (rd ((txl e).length + 1) (txl e)) = _
  rw [this]
  rfl
theorem wr_txt : ∀ {m : Nat} {e : Ex}, e.ok m → Wr 12 0 (txl e)
  | 0, _, h => h.elim
  | m + 1, .num i, h => Wr.len (by have : (numS i).cps.toList.length ≤ 11 := numS_len h; show 0 + (numS i).cps.toList.length ≤ 12; omega)
  | m + 1, .name s, h => Wr.len (by have h : NmV s := h; have : s.cps.toList.length ≤ 12 := h.1; show 0 + s.cps.toList.length ≤ 12; omega)
  | m + 1, .flag true, _ => Wr.len (by decide +kernel)
  | m + 1, .flag false, _ => Wr.len (by decide +kernel)
  | m + 1, .null, _ => Wr.len (by decide +kernel)
  | m + 1, .not a, h => by
    have ih := wr_txt (m := m) (e := a) h
    rw [txl_not]
    have e1 : 40 :: 110 :: 111 :: 116 :: 32 :: (txl a ++ [41]) = [40, 110, 111, 116] ++ 32 :: (txl a ++ 41 :: []) := rfl
    rw [e1]
    exact Wr.appD (by decide +kernel) (Wr.len (by decide)) (Wr.appD (by decide +kernel) ih (Nat.zero_le _))
  | m + 1, .bin op a b, h => by
    have h : op ∈ opsL ∧ a.ok m ∧ b.ok m := h
    have ih1 := wr_txt (m := m) (e := a) h.2.1
    have ih2 := wr_txt (m := m) (e := b) h.2.2
    have ol : op.cps.toList.length ≤ 4 := ops_len op h.1
    rw [txl_bin]
    have e1 : 40 :: (txl a ++ 32 :: (op.cps.toList ++ 32 :: (txl b ++ [41]))) = [] ++ 40 :: (txl a ++ 32 :: (op.cps.toList ++ 32 :: (txl b ++ 41 :: []))) := rfl
    rw [e1]
    exact Wr.appD (by decide +kernel) (Nat.zero_le _) (Wr.appD (by decide +kernel) ih1 (Wr.appD (by decide +kernel) (Wr.len (by omega)) (Wr.appD (by decide +kernel) ih2 (Nat.zero_le _))))
theorem nest_txt : ∀ {m : Nat} {e : Ex}, e.ok m → ∀ (k : Nat) (r : List Nat), m ≤ k → Nest k r → Nest k (txl e ++ r)
  | 0, _, h, _, _, _, _ => h.elim
  | m + 1, e, h, k, r, hk, hr => by
    rcases atom_like h with ⟨_, _, h3⟩ | ⟨a, rfl⟩ | ⟨op, a, b, rfl⟩
    · exact (Nest.skip fun c hc => ⟨(dl_ne (h3 c hc)).1, (dl_ne (h3 c hc)).2.1⟩).mpr hr
    · obtain ⟨k, rfl⟩ : ∃ j, k = j + 1 := ⟨k - 1, by omega⟩
      rw [txl_not]
      have e1 : 40 :: 110 :: 111 :: 116 :: 32 :: (txl a ++ [41]) ++ r = 40 :: ([110, 111, 116, 32] ++ (txl a ++ 41 :: r)) := by simp
      rw [e1]
      refine ⟨Nat.succ_pos _, (Nest.skip (by decide)).mpr ?_⟩
      exact nest_txt (m := m) (e := a) h k (41 :: r) (by omega) hr
    · have h : op ∈ opsL ∧ a.ok m ∧ b.ok m := h
      obtain ⟨k, rfl⟩ : ∃ j, k = j + 1 := ⟨k - 1, by omega⟩
      rw [txl_bin]
      have pl : ∀ s ∈ opsL, ∀ c ∈ s.cps.toList, c ≠ 40 ∧ c ≠ 41 := by decide +kernel
      have e1 : 40 :: (txl a ++ 32 :: (op.cps.toList ++ 32 :: (txl b ++ [41]))) ++ r = 40 :: (txl a ++ ((32 :: (op.cps.toList ++ [32])) ++ (txl b ++ 41 :: r))) := by simp
      rw [e1]
      refine ⟨Nat.succ_pos _, nest_txt (m := m) (e := a) h.2.1 k _ (by omega) ((Nest.skip fun c hc => ?_).mpr ?_)⟩
      · rcases List.mem_cons.mp hc with rfl | hc
        · decide
        rcases List.mem_append.mp hc with hc | hc
        · exact pl op h.1 c hc
        · obtain rfl : c = 32 := by simpa using hc
          decide
      · exact nest_txt (m := m) (e := b) h.2.2 k (41 :: r) (by omega) hr
/-- the first text -/
theorem txt_facts {e : Ex} (h : e.ok 8) : (txl e).length ≤ 9000 ∧ Wr 20 0 (txl e) ∧ Nest 8 (txl e) := by
  have h1 := txt_len h
  refine ⟨?_, ?_, ?_⟩
  · have : (txl e).length = (txt e).length := Array.length_toList
    rw [this]
    have : (2 : Nat) ^ 8 = 256 := by decide
    omega
  · have := (wr_txt h).up (n := 8) (j := 0) (Nat.zero_le _)
    exact this
  · have := nest_txt h 8 [] (Nat.le_refl _) trivial
    rwa [List.append_nil] at this
theorem txt_gd {e : Ex} (h : e.ok 8) : Gd (txl e) := by
  obtain ⟨a, b, c⟩ := txt_facts h
  exact gd_of (by omega) (b.up (n := 620) (j := 0) (Nat.zero_le _)) (c.up (by omega))
open PySem L2 ExV
/-! ### the law's other texts -/
def sgS : Str := " !\"#$&'()*+,-./0123456789:;<=>?@ABCDEFGHIJKLMNOPQRSTUVWXYZ[\\]^_`abcdefghijklmnopqrstuvwxyz{|}~\n"
theorem cutS_any (l : List Nat) (i j : Nat) : cutS (S l) (some (i : Int)) (some (j : Int)) = S ((l.drop i).take (j - i)) := by
  by_cases hi : i ≤ l.length
  · exact cutS_gen l i j hi
  · unfold cutS
    rw [HT.sIx_nat, HT.sIx_nat, S_len, S_cps]
    show S _ = S _
    congr 1
    rw [show min i l.length = l.length by omega, List.drop_length, List.take_nil, List.drop_eq_nil_of_le (show l.length ≤ i by omega), List.take_nil]
section
variable {P : Program} {w : World} {K : PySem.W.Frag} {mg : Str → Option Value} {base : Heap}
def spSign : Sp := fun vs H Q _ => ∃ a : Addr, vs = [.ref a] ∧ Src H a ∧ ∀ (c : Nat) (H' : Hp), Stp a H H' → Q (.str (S [c])) H'
theorem ok_l_sign (T : Txt w K mg) : FnOk P w K mg base CX0 2 T.a_l_sign T.d_l_sign p_l_sign spSign := by
  have g_l_pick := ok_l_pick (P := P) (w := w) (base := base) T
  refine T.F_l_sign.ok sc_l_sign (fun vs H Q E h => ?_) (fun cdv A outer s H vs Q E hr h => ?_)
  · obtain ⟨a, rfl, _⟩ := h
    rfl
  obtain ⟨a, rfl, hS, q⟩ := h
  refine ⟨_, (pss_cons (ps_if (pt_cmpR op_eq (pe_call g_l_pick (hr.mono (by first | decide | omega)) rfl T.m_l_pick T.F_l_pick.kp T.b_l_pick .nil pass0 (pa_cons (pv 0) (pa_cons pe_int pa_nil))) pe_int (nomark _)) (pss_one (ps_ret (pe_ix ix_str pe_str (pe_call g_l_pick (hr.mono (by first | decide | omega)) rfl T.m_l_pick T.F_l_pick.kp T.b_l_pick .nil pass0 (pa_cons (pv 0) (pa_cons pe_int pa_nil))) (fun _ _ => rfl)))) pss_nil)
      (pss_cons (ps_set (i := 1) sc_l_sign.nd rfl (Or.inl rfl) pe_str)
      (pss_one (ps_ret (pe_ix ix_str (pv 1) (pe_call g_l_pick (hr.mono (by first | decide | omega)) rfl T.m_l_pick T.F_l_pick.kp T.b_l_pick .nil pass0 (pa_cons (pv 0) (pa_cons (pe_callB call_len_str rfl T.z_len PySem.boot_len (pa_cons (pv 1) pa_nil)) pa_nil))) (fun _ _ => rfl)))))), ?_⟩
  refine ⟨_, rfl, a, 2, rfl, hS, by decide, fun x H1 st1 x0 x1 => ⟨rfl, _, rfl, ?_⟩⟩
  refine ite2 (fun _ => ?_) (fun _ => ?_)
  · refine ⟨_, rfl, a, 11, rfl, st1.s, by decide, fun i H2 st2 i0 i1 => ?_⟩
    have hi : i.toNat < (" ()+-*<=!0a" : Str).cps.toList.length := by
      show i.toNat < 11
      omega
    exact ⟨_, i, _, rfl, rfl, by decide +kernel, atI_int i0 hi, q _ _ (st1.trans st2)⟩
  · have hs : sgS.length = 96 ∨ sgS.length = 95 ∨ sgS.length = 97 ∨ sgS.length = 94 := by decide +kernel
    refine ⟨_, rfl, _, rfl, _, rfl, sgS, rfl, by rw [sizeLine_eq]; omega, a, _, rfl, st1.s, by omega, fun i H2 st2 i0 i1 => ?_⟩
    have hi : i.toNat < sgS.cps.toList.length := by
      rw [show sgS.cps.toList.length = sgS.length from Array.length_toList]
      omega
    exact ⟨sgS, i, _, rfl, rfl, by rw [sizeLine_eq]; omega, atI_int i0 hi, q _ _ (st1.trans st2)⟩
def spChanged : Sp := fun vs H Q _ => ∃ (a : Addr) (l : List Nat), vs = [.ref a, .str (S l)] ∧ Src H a ∧ l.length ≤ 9000 ∧
  ∀ (i d : Nat) (m : List Nat) (H' : Hp), Stp a H H' → d ≤ 2 → m.length ≤ 2 → Q (.str (S (l.take i ++ (m ++ l.drop (i + d))))) H'
theorem ok_l_changed (T : Txt w K mg) : FnOk P w K mg base CX0 3 T.a_l_changed T.d_l_changed p_l_changed spChanged := by
  have g_l_pick := ok_l_pick (P := P) (w := w) (base := base) T
  have g_l_sign := ok_l_sign (P := P) (w := w) (base := base) T
  refine T.F_l_changed.ok sc_l_changed (fun vs H Q E h => ?_) (fun cdv A outer s H vs Q E hr h => ?_)
  · obtain ⟨a, l, rfl, _⟩ := h
    rfl
  obtain ⟨a, l, rfl, hS, hl, q⟩ := h
  refine ⟨_, (pss_cons (ps_set (i := 2) sc_l_changed.nd rfl (Or.inl rfl) (pe_call g_l_pick (hr.mono (by first | decide | omega)) rfl T.m_l_pick T.F_l_pick.kp T.b_l_pick .nil pass0 (pa_cons (pv 0) (pa_cons (pe_op op_add (pe_callB call_len_str rfl T.z_len PySem.boot_len (pa_cons (pv 1) pa_nil)) pe_int) pa_nil))))
      (pss_cons (ps_set (i := 3) sc_l_changed.nd rfl (Or.inl rfl) (pe_call g_l_pick (hr.mono (by first | decide | omega)) rfl T.m_l_pick T.F_l_pick.kp T.b_l_pick .nil pass0 (pa_cons (pv 0) (pa_cons pe_int pa_nil))))
      (pss_cons (ps_if (pt_cmpR op_eq (pv 3) pe_int (nomark _)) (pss_one (ps_ret (pe_op op_add_str (pe_slice sl_str (pv 1) po_none (po_some (pv 2))) (pe_slice sl_str (pv 1) (po_some (pe_op op_add (pv 2) pe_int)) po_none)))) pss_nil)
      (pss_cons (ps_if (pt_cmpR op_eq (pv 3) pe_int (nomark _)) (pss_one (ps_ret (pe_op op_add_str (pe_op op_add_str (pe_slice sl_str (pv 1) po_none (po_some (pv 2))) (pe_call g_l_sign (hr.mono (by first | decide | omega)) rfl T.m_l_sign T.F_l_sign.kp T.b_l_sign .nil pass0 (pa_cons (pv 0) pa_nil))) (pe_slice sl_str (pv 1) (po_some (pv 2)) po_none)))) pss_nil)
      (pss_cons (ps_if (pt_cmpR op_eq (pv 3) pe_int (nomark _)) (pss_one (ps_ret (pe_op op_add_str (pe_op op_add_str (pe_slice sl_str (pv 1) po_none (po_some (pv 2))) (pe_call g_l_sign (hr.mono (by first | decide | omega)) rfl T.m_l_sign T.F_l_sign.kp T.b_l_sign .nil pass0 (pa_cons (pv 0) pa_nil))) (pe_slice sl_str (pv 1) (po_some (pe_op op_add (pv 2) pe_int)) po_none)))) pss_nil)
      (pss_cons (ps_if (pt_cmpR op_eq (pv 3) pe_int (nomark _)) (pss_one (ps_ret (pe_op op_add_str (pe_slice sl_str (pv 1) po_none (po_some (pe_op op_add (pv 2) pe_int))) (pe_slice sl_str (pv 1) (po_some (pv 2)) po_none)))) pss_nil)
      (pss_one (ps_ret (pe_op op_add_str (pe_op op_add_str (pe_op op_add_str (pe_slice sl_str (pv 1) po_none (po_some (pv 2))) (pe_slice sl_str (pv 1) (po_some (pe_op op_add (pv 2) pe_int)) (po_some (pe_op op_add (pv 2) pe_int)))) (pe_slice sl_str (pv 1) (po_some (pv 2)) (po_some (pe_op op_add (pv 2) pe_int)))) (pe_slice sl_str (pv 1) (po_some (pe_op op_add (pv 2) pe_int)) po_none)))))))))), ?_⟩
  refine ⟨_, rfl, _, rfl, S l, rfl, by rw [sizeLine_eq, S_len]; omega, _, _, rfl, rfl, a, _, rfl, hS, by rw [S_len]; omega, fun r H1 st1 r0 r1 => ?_⟩
  rw [S_len] at r1
  obtain ⟨i, rfl⟩ := Int.eq_ofNat_of_zero_le r0
  have il : i ≤ l.length := by omega
  refine ⟨_, rfl, a, 5, rfl, st1.s, by decide, fun wy H2 st2 w0 w1 => ?_⟩
  have st := st1.trans st2
  have sl : (S l).length ≤ sizeLine := by rw [sizeLine_eq, S_len]; omega
  have e1 : ((i : Int) + 1) = ((i + 1 : Nat) : Int) := rfl
  have e2 : ((i : Int) + 2) = ((i + 2 : Nat) : Int) := rfl
  have fit : ∀ {x y : List Nat}, x.length ≤ 40000 → y.length ≤ 40000 → (S x).length + (S y).length ≤ sizeLine := fun h1 h2 => by
    rw [sizeLine_eq, S_len, S_len]
    omega
  refine ⟨_, rfl, rfl, _, rfl, ite2 (fun _ => ?_) (fun _ => ?_)⟩
  · refine ⟨_, rfl, _, rfl, _, rfl, S l, rfl, sl, _, rfl, _, rfl, _, _, rfl, rfl, _, rfl, S l, rfl, sl, ?_⟩
    rw [cutS_pre, e1, cutS_suf]
    refine ⟨_, _, rfl, rfl, fit (by rw [List.length_take]; omega) (by rw [List.length_drop]; omega), ?_⟩
    rw [S_app]
    exact q i 1 [] H2 st (by decide) (by decide)
  have tk : (l.take i).length ≤ 9000 := by rw [List.length_take]; omega
  have dk : ∀ j, (l.drop j).length ≤ 9000 := fun j => by rw [List.length_drop]; omega
  have ck : ∀ c : Nat, ([c] : List Nat).length ≤ 40000 := fun c => by show 1 ≤ 40000; decide
  refine ⟨_, rfl, rfl, _, rfl, ite2 (fun _ => ?_) (fun _ => ?_)⟩
  · refine ⟨_, rfl, _, rfl, _, rfl, S l, rfl, sl, _, rfl, a, rfl, st.s, fun c H3 st3 => ?_⟩
    rw [cutS_pre]
    refine ⟨_, _, rfl, rfl, fit (by omega) (ck c), _, rfl, _, rfl, _, rfl, S l, rfl, sl, ?_⟩
    rw [cutS_suf, S_app]
    refine ⟨_, _, rfl, rfl, fit (by rw [List.length_append]; show _ + 1 ≤ _; omega) (by have := dk i; omega), ?_⟩
    rw [S_app, List.append_assoc]
    exact q i 0 [c] H3 (st.trans st3) (by decide) (by show 1 ≤ 2; decide)
  refine ⟨_, rfl, rfl, _, rfl, ite2 (fun _ => ?_) (fun _ => ?_)⟩
  · refine ⟨_, rfl, _, rfl, _, rfl, S l, rfl, sl, _, rfl, a, rfl, st.s, fun c H3 st3 => ?_⟩
    rw [cutS_pre]
    refine ⟨_, _, rfl, rfl, fit (by omega) (ck c), _, rfl, _, rfl, _, _, rfl, rfl, _, rfl, S l, rfl, sl, ?_⟩
    rw [e1, cutS_suf, S_app]
    refine ⟨_, _, rfl, rfl, fit (by rw [List.length_append]; show _ + 1 ≤ _; omega) (by have := dk (i + 1); omega), ?_⟩
    rw [S_app, List.append_assoc]
    exact q i 1 [c] H3 (st.trans st3) (by decide) (by show 1 ≤ 2; decide)
  refine ⟨_, rfl, rfl, _, rfl, ite2 (fun _ => ?_) (fun _ => ?_)⟩
  · refine ⟨_, rfl, _, rfl, _, _, rfl, rfl, _, rfl, S l, rfl, sl, _, rfl, _, rfl, _, rfl, S l, rfl, sl, ?_⟩
    rw [e1, cutS_pre, cutS_suf]
    refine ⟨_, _, rfl, rfl, fit (by rw [List.length_take]; omega) (by have := dk i; omega), ?_⟩
    rw [S_app, List.take_add, List.append_assoc]
    exact q i 0 ((l.drop i).take 1) H2 st (by decide) (by rw [List.length_take]; omega)
  · refine ⟨_, rfl, _, rfl, _, rfl, S l, rfl, sl, _, rfl, _, rfl, _, _, rfl, rfl, _, rfl, _, rfl, _, _, rfl, rfl, _, rfl, S l, rfl, sl, ?_⟩
    rw [cutS_pre, e1, e2, cutS_any]
    have t1 : ∀ j k, ((l.drop j).take k).length ≤ 9000 := fun j k => by rw [List.length_take, List.length_drop]; omega
    refine ⟨_, _, rfl, rfl, fit (by omega) (by have := t1 (i + 1) (i + 2 - (i + 1)); omega), _, rfl, _, rfl, _, rfl, _, rfl, _, _, rfl, rfl, _, rfl, S l, rfl, sl, ?_⟩
    rw [e1, cutS_any, S_app]
    refine ⟨_, _, rfl, rfl, fit (by rw [List.length_append]; have := t1 (i + 1) (i + 2 - (i + 1)); omega) (by have := t1 i (i + 1 - i); omega), _, rfl, _, rfl, _, _, rfl, rfl, _, rfl, S l, rfl, sl, ?_⟩
    rw [e2, cutS_suf, S_app]
    refine ⟨_, _, rfl, rfl, fit (by rw [List.length_append, List.length_append]; have := t1 (i + 1) (i + 2 - (i + 1)); have := t1 i (i + 1 - i); omega) (by have := dk (i + 2); omega), ?_⟩
    rw [S_app]
    have := q i 2 ((l.drop (i + 1)).take (i + 2 - (i + 1)) ++ (l.drop i).take (i + 1 - i)) H2 st (by decide) (by rw [List.length_append, List.length_take, List.length_take]; omega)
    rw [List.append_assoc, List.append_assoc] at *
    exact this
end
open PySem L2 ExV
/-! ### a text with a reserved word -/
theorem gd_short {l : List Nat} (h : l.length ≤ 40) : Gd l :=
  gd_of (by omega) (Wr.len (by omega)) (Nest.len (Nat.le_trans List.count_le_length h))
section
variable {P : Program} {w : World} {K : PySem.W.Frag} {mg : Str → Option Value} {base : Heap}
def spGd : Sp := fun vs H Q _ => ∃ a : Addr, vs = [.ref a] ∧ Src H a ∧ ∀ (l : List Nat) (H' : Hp), Stp a H H' → Gd l → Q (.str (S l)) H'
theorem res_len : ∀ s ∈ resL, s.length ≤ 6 := by decide +kernel
theorem ok_l_with_reserved (T : Txt w K mg) : FnOk P w K mg base CX0 3 T.a_l_with_reserved T.d_l_with_reserved p_l_with_reserved spGd := by
  have g_l_one := ok_l_one (P := P) (w := w) (K := K) (base := base) T
  have g_l_reserved := ok_l_reserved (P := P) (w := w) (base := base) T
  refine T.F_l_with_reserved.ok sc_l_with_reserved (fun vs H Q E h => ?_) (fun cdv A outer s H vs Q E hr h => ?_)
  · obtain ⟨a, rfl, _⟩ := h
    rfl
  obtain ⟨a, rfl, hS, q⟩ := h
  refine ⟨_, (pss_cons (ps_set (i := 1) sc_l_with_reserved.nd rfl (Or.inl rfl) (pe_call g_l_one (hr.mono (by first | decide | omega)) rfl T.m_l_one T.F_l_one.kp T.b_l_one .nil pass0 (pa_cons (pv 0) (pa_cons (pe_call0 g_l_reserved (hr.mono (by first | decide | omega)) rfl T.m_l_reserved T.F_l_reserved.kp T.b_l_reserved .nil pass0) pa_nil))))
      (pss_one (ps_ret (pe_call g_l_one (hr.mono (by first | decide | omega)) rfl T.m_l_one T.F_l_one.kp T.b_l_one .nil pass0 (pa_cons (pv 0) (pa_cons (pe_lst (pa_cons (pv 1) (pa_cons (pe_op op_add_str (pe_op op_add_str pe_str (pv 1)) pe_str) (pa_cons (pe_op op_add_str (pe_op op_add_str pe_str (pv 1)) pe_str) (pa_cons (pe_op op_add_str (pe_op op_add_str pe_str (pv 1)) pe_str) (pa_cons (pe_op op_add_str (pe_op op_add_str pe_str (pv 1)) pe_str) pa_nil)))))) pa_nil)))))), ?_⟩
  refine ⟨_, rfl, rfl, fun p1 H1 s1 hp1 h1 => ?_⟩
  have st1 := Stp.of_same hS s1
  refine ⟨a, .ref p1, rfl, st1.s, .inl ⟨p1, _, rfl, (hS.ne hp1).symm, .of h1, by decide +kernel, by decide +kernel, fun v H2 hv t2 => ?_⟩⟩
  obtain ⟨z, hz, rfl⟩ := List.mem_map.mp hv
  have zl := res_len z hz
  have st2 := st1.trans t2
  have ft : ∀ {x y : Str}, x.length ≤ 100 → y.length ≤ 100 → x.length + y.length ≤ sizeLine := fun h1 h2 => by
    rw [sizeLine_eq]
    omega
  have k : ∀ {x : Str}, x.length ≤ 40 → ∃ l, x = S l ∧ Gd l := fun {x} h => ⟨x.cps.toList, (S_of x).symm, gd_short (by rw [Array.length_toList]; exact h)⟩
  refine ⟨_, rfl, _, rfl, _, rfl, _, _, rfl, rfl, ft (by decide +kernel) (by omega), _, _, rfl, rfl, ft (by rw [len_app]; exact Nat.le_trans (Nat.add_le_add (show _ ≤ 6 by decide +kernel) zl) (by decide)) (by decide +kernel), _, rfl, _, _, rfl, rfl, ft (by decide +kernel) (by omega), _, _, rfl, rfl, ft (by rw [len_app]; exact Nat.le_trans (Nat.add_le_add (show _ ≤ 6 by decide +kernel) zl) (by decide)) (by decide +kernel), _, rfl, _, _, rfl, rfl, ft (by decide +kernel) (by omega), _, _, rfl, rfl, ft (by rw [len_app]; exact Nat.le_trans (Nat.add_le_add (show _ ≤ 6 by decide +kernel) zl) (by decide)) (by decide +kernel), _, rfl, _, _, rfl, rfl, ft (by decide +kernel) (by omega), _, _, rfl, rfl, ft (by rw [len_app]; exact Nat.le_trans (Nat.add_le_add (show _ ≤ 6 by decide +kernel) zl) (by decide)) (by decide +kernel), by show 5 ≤ sizeLine; decide, fun p3 hp3 => ?_⟩
  have st3 := st2.new (o := .lst [.str z, .str (Str.ofString "(" ++ z ++ Str.ofString " + a)"), .str (Str.ofString "(a == " ++ z ++ Str.ofString ")"), .str (Str.ofString "(not " ++ z ++ Str.ofString ")"), .str (Str.ofString "(a " ++ z ++ Str.ofString " b)")]) hp3
  refine ⟨a, .ref p3, rfl, st3.s, .inl ⟨p3, _, rfl, (st2.s.ne hp3).symm, .of upd_same, by show 0 < 5; decide, by show 5 < 1000; decide, fun v H4 hv4 t4 => ?_⟩⟩
  have st4 := st3.trans t4
  have three : ∀ x y : Str, x.length ≤ 6 → y.length ≤ 6 → ∃ l, x ++ z ++ y = S l ∧ Gd l := fun x y h1 h2 => k (by rw [len_app, len_app]; omega)
  have fin4 : (∃ l, v = .str (S l) ∧ Gd l) → Q v H4 := fun ⟨l, e, g⟩ => by
    rw [e]
    exact q l H4 st4 g
  simp only [List.mem_cons, List.not_mem_nil, or_false] at hv4
  rcases hv4 with rfl | rfl | rfl | rfl | rfl
  · obtain ⟨l, e, g⟩ := k (x := z) (by omega)
    exact fin4 ⟨l, by rw [e], g⟩
  · obtain ⟨l, e, g⟩ := three "(" " + a)" (by decide +kernel) (by decide +kernel)
    exact fin4 ⟨l, congrArg V.str e, g⟩
  · obtain ⟨l, e, g⟩ := three "(a == " ")" (by decide +kernel) (by decide +kernel)
    exact fin4 ⟨l, congrArg V.str e, g⟩
  · obtain ⟨l, e, g⟩ := three "(not " ")" (by decide +kernel) (by decide +kernel)
    exact fin4 ⟨l, congrArg V.str e, g⟩
  · obtain ⟨l, e, g⟩ := three "(a " " b)" (by decide +kernel) (by decide +kernel)
    exact fin4 ⟨l, congrArg V.str e, g⟩
end
open PySem L2 ExV
/-! ### a row of signs or of pieces -/
def pcA : List Str := ["(", "(", "(", ")", ")", ")", " ", "not ", " + ", " - ", " * ", " < ", " <= ", " == ", " != ", " same "]
def pcB : List Str := [" and ", " or ", "-", "a", "b7", "0", "12", "true", "null", "(a", "7)"]
theorem pc_facts : ∀ s ∈ pcA ++ pcB, s.length ≤ 6 ∧ s.cps.toList.count 40 ≤ 1 ∧ (atI s.cps.toList (-1)).isSome = true ∧ (atI s.cps.toList 0).isSome = true := by decide +kernel
section
variable {P : Program} {w : World} {K : PySem.W.Frag} {mg : Str → Option Value} {base : Heap}
theorem ok_l_row (T : Txt w K mg) : FnOk P w K mg base CX0 3 T.a_l_row T.d_l_row p_l_row spGd := by
  have g_l_pick := ok_l_pick (P := P) (w := w) (base := base) T
  have g_l_one := ok_l_one (P := P) (w := w) (K := K) (base := base) T
  have g_l_sign := ok_l_sign (P := P) (w := w) (base := base) T
  refine T.F_l_row.ok sc_l_row (fun vs H Q E h => ?_) (fun cdv A outer s H vs Q E hr h => ?_)
  · obtain ⟨a, rfl, _⟩ := h
    rfl
  obtain ⟨a, rfl, hS, q⟩ := h
  refine ⟨_, (pss_cons (ps_set (i := 1) sc_l_row.nd rfl (Or.inl rfl) pe_str)
      (pss_cons (ps_set (i := 2) sc_l_row.nd rfl (Or.inl rfl) pe_int)
      (C8.pss_cut (ps_if (pt_cmpR op_eq (pe_call g_l_pick (hr.mono (by first | decide | omega)) rfl T.m_l_pick T.F_l_pick.kp T.b_l_pick .nil pass0 (pa_cons (pv 0) (pa_cons pe_int pa_nil))) pe_int (nomark _)) (pss_cons (ps_for PassesOwn.never rfl (pi_range1 rfl T.z_range (pa_cons (pe_call g_l_pick (hr.mono (by first | decide | omega)) rfl T.m_l_pick T.F_l_pick.kp T.b_l_pick .nil pass0 (pa_cons (pv 0) (pa_cons pe_int pa_nil))) pa_nil)) (pg_name (i := 3) sc_l_row.nd rfl (Or.inl rfl))
        (pss_cons (ps_set (i := 4) sc_l_row.nd rfl (Or.inl rfl) (pe_call g_l_sign (hr.mono (by first | decide | omega)) rfl T.m_l_sign T.F_l_sign.kp T.b_l_sign .nil pass0 (pa_cons (pv 0) pa_nil)))
      (pss_cons (ps_set (i := 2) sc_l_row.nd rfl (Or.inl rfl) (pe_op op_add (pv 2) pe_int))
      (C8.pss_cut (ps_if (pt_cmpR op_notIn_sign (pv 4) pe_str (by rfl)) (pss_one (ps_set (i := 2) sc_l_row.nd rfl (Or.inl rfl) pe_int)) pss_nil)
      (C8.pss_cut (ps_if (pt_cmpR op_eq (pv 2) pe_int (nomark _)) (pss_cons (ps_set (i := 4) sc_l_row.nd rfl (Or.inl rfl) pe_str)
      (pss_one (ps_set (i := 2) sc_l_row.nd rfl (Or.inl rfl) pe_int))) pss_nil)
      (pss_one (ps_set (i := 1) sc_l_row.nd rfl (Or.inl rfl) (pe_op op_add_str (pv 1) (pv 4)))))))))
      (pss_one (ps_ret (pv 1)))) pss_nil)
      (pss_cons (ps_set (i := 5) sc_l_row.nd rfl (Or.inl rfl) (pe_lst (pa_cons pe_str (pa_cons pe_str (pa_cons pe_str (pa_cons pe_str (pa_cons pe_str (pa_cons pe_str (pa_cons pe_str (pa_cons pe_str (pa_cons pe_str (pa_cons pe_str (pa_cons pe_str (pa_cons pe_str (pa_cons pe_str (pa_cons pe_str (pa_cons pe_str (pa_cons pe_str pa_nil))))))))))))))))))
      (pss_cons (ps_set (i := 5) sc_l_row.nd rfl (Or.inl rfl) (pe_op op_cat (pv 5) (pe_lst (pa_cons pe_str (pa_cons pe_str (pa_cons pe_str (pa_cons pe_str (pa_cons pe_str (pa_cons pe_str (pa_cons pe_str (pa_cons pe_str (pa_cons pe_str (pa_cons pe_str (pa_cons pe_str pa_nil))))))))))))))
      (pss_cons (ps_for PassesOwn.never rfl (pi_range1 rfl T.z_range (pa_cons (pe_call g_l_pick (hr.mono (by first | decide | omega)) rfl T.m_l_pick T.F_l_pick.kp T.b_l_pick .nil pass0 (pa_cons (pv 0) (pa_cons pe_int pa_nil))) pa_nil)) (pg_name (i := 3) sc_l_row.nd rfl (Or.inl rfl))
        (pss_cons (ps_set (i := 6) sc_l_row.nd rfl (Or.inl rfl) (pe_call g_l_one (hr.mono (by first | decide | omega)) rfl T.m_l_one T.F_l_one.kp T.b_l_one .nil pass0 (pa_cons (pv 0) (pa_cons (pv 5) pa_nil))))
      (pss_cons (ps_set (i := 2) sc_l_row.nd rfl (Or.inl rfl) (pe_op op_add (pv 2) pe_int))
      (C8.pss_cut (ps_if (pt_cmpR op_in_sign (pe_ix ix_str (pv 6) (pe_un un_neg pe_int) (fun _ _ => rfl)) pe_str (by rfl)) (pss_one (ps_set (i := 2) sc_l_row.nd rfl (Or.inl rfl) pe_int)) pss_nil)
      (pss_one (ps_if (PW.pt (pw_and (pt_cmpR op_lt (pv 2) pe_int (nomark _)) (pw_and1 (PW.pt (pw_or (pt_cmpR op_ne (pe_ix ix_str (pv 6) pe_int (fun _ _ => rfl)) pe_str (nomark _)) (pw_or1 (pt_cmpR op_lt (pe_bm PySem.F.plainAttrs_str PySem.F.slot_str_count PySem.F.type_str_count mt_count (pv 1) (pa_cons pe_str pa_nil)) pe_int (nomark _)))))))) (pss_one (ps_set (i := 1) sc_l_row.nd rfl (Or.inl rfl) (pe_op op_add_str (pv 1) (pv 6)))) pss_nil))))))
      (pss_one (ps_ret (pv 1))))))))), ?_⟩
  have done : ∀ (z : Str) (F : Hp), Stp a H F → Gd z.cps.toList → Q (.str z) F := fun z F st g => by
    have := q _ F st g
    rwa [S_of] at this
  refine ⟨fun σ' F => σ' = [some (.ref a), some (.str (Str.ofString "")), some (.int 0), none, none, none, none] ∧ Stp a H F, ?_, ?_⟩
  · refine ⟨_, rfl, a, 2, rfl, hS, by decide, fun x H1 st1 _ _ => ⟨rfl, _, rfl, ite2 (fun _ => ?_) (fun _ => ⟨rfl, st1⟩)⟩⟩
    refine ⟨_, rfl, a, 37, rfl, st1.s, by decide, fun n H2 st2 n0 n1 => ⟨n, rfl, by omega, by omega, for_range (lo := 0) (fun i σ F => Stp a H F ∧ ∃ (z : Str) (run : Int) (y3 y4 : Option V), z.length ≤ i ∧ σ = [some (.ref a), some (.str z), some (.int run), y3, y4, none, none])
      ⟨st1.trans st2, Str.ofString "", 0, none, none, by decide +kernel, rfl⟩ ?_ ?_⟩⟩
    · rintro i σ F hi ⟨st, z, run, y3, y4, hz, rfl⟩
      refine ⟨_, rfl, a, rfl, st.s, fun c H3 st3 => ?_⟩
      refine ⟨_, rfl, _, _, rfl, rfl, ?_⟩
      refine ⟨fun σ' F' => F' = H3 ∧ ∃ run : Int, σ' = [some (.ref a), some (.str z), some (.int run), some (.int (0 + (i : Int))), some (.str (S [c])), none, none], ?_, ?_⟩
      · exact ⟨_, rfl, c, _, rfl, rfl, _, rfl, ite2 (fun _ => ⟨rfl, _, rfl⟩) (fun _ => ⟨rfl, _, rfl⟩)⟩
      rintro σ F' ⟨rfl, run2, rfl⟩
      refine ⟨fun σ' F2 => F2 = F' ∧ ∃ (run : Int) (y : Str), y.length = 1 ∧ σ' = [some (.ref a), some (.str z), some (.int run), some (.int (0 + (i : Int))), some (.str y), none, none], ?_, ?_⟩
      · exact ⟨_, rfl, rfl, _, rfl, ite2 (fun _ => ⟨rfl, _, Str.ofString " ", by decide +kernel, rfl⟩) (fun _ => ⟨rfl, _, S [c], rfl, rfl⟩)⟩
      rintro σ F2 ⟨rfl, run3, y, hy, rfl⟩
      refine ⟨_, rfl, _, rfl, _, _, rfl, rfl, by rw [sizeLine_eq]; omega, st.trans st3, _, _, _, _, ?_, rfl⟩
      rw [len_app]
      omega
    · rintro σ F ⟨st, z, run, y3, y4, hz, rfl⟩
      exact ⟨_, rfl, done z F st (gd_short (by rw [Array.length_toList]; show z.length ≤ 40; omega))⟩
  rintro σ F ⟨rfl, st0⟩
  refine ⟨by show 16 ≤ sizeLine; decide, fun p5 h5 => ?_⟩
  refine ⟨_, rfl, by show 11 ≤ sizeLine; decide, fun p6 h6 => ?_⟩
  refine ⟨p5, p6, _, _, rfl, rfl, Same.new h6 _ _ _ upd_same, upd_same, by show 27 ≤ sizeLine; decide, fun p7 h7 => ?_⟩
  have s6 : Same F (upd (upd F p5 (.lst (pcA.map V.str))) p6 (.lst (pcB.map V.str))) := Same.grow (Same.none (Same.new h5 _) h6) (Same.new h5 _)
  have s7 : Same F (upd (upd (upd F p5 (.lst (pcA.map V.str))) p6 (.lst (pcB.map V.str))) p7 (.lst ((pcA ++ pcB).map V.str))) := Same.grow (Same.none s6 h7) s6
  have n7 : p7 ≠ a := (st0.s.ne (Same.none s6 h7)).symm
  have st7 := st0.same s7
  have at7 : upd (upd (upd F p5 (.lst (pcA.map V.str))) p6 (.lst (pcB.map V.str))) p7 (.lst ((pcA ++ pcB).map V.str)) p7 = some (.lst ((pcA ++ pcB).map V.str)) := upd_same
  show tSeq _ _ _ _ (upd (upd (upd F p5 (.lst (pcA.map V.str))) p6 (.lst (pcB.map V.str))) p7 (.lst ((pcA ++ pcB).map V.str)))
  generalize upd (upd (upd F p5 (.lst (pcA.map V.str))) p6 (.lst (pcB.map V.str))) p7 (.lst ((pcA ++ pcB).map V.str)) = H7 at st7 at7
  refine ⟨_, rfl, a, 15, rfl, st7.s, by decide, fun n H8 st8 n0 n1 => ⟨n, rfl, by omega, by omega, for_range (lo := 0) (fun i σ G => Stp a H7 G ∧ ∃ (z : Str) (run : Int) (y3 y6 : Option V), z.length ≤ 6 * i ∧ z.cps.toList.count 40 ≤ i ∧ σ = [some (.ref a), some (.str z), some (.int run), y3, none, some (.ref p7), y6])
    ⟨st8, Str.ofString "", 0, none, none, by decide +kernel, by decide +kernel, rfl⟩ ?_ ?_⟩⟩
  · rintro i σ G hi ⟨st, z, run, y3, y6, hz, hct, rfl⟩
    refine ⟨_, rfl, _, rfl, a, .ref p7, rfl, st.s, .inl ⟨p7, _, rfl, n7, .of (st.k _ _ n7 at7), by decide, by decide, fun v G2 hv t2 => ?_⟩⟩
    obtain ⟨y, hy, rfl⟩ := List.mem_map.mp hv
    obtain ⟨yl, yc, ye, yb⟩ := pc_facts y hy
    obtain ⟨c1, hc1⟩ := Option.isSome_iff_exists.mp ye
    obtain ⟨c0, hc0⟩ := Option.isSome_iff_exists.mp yb
    have st2 := st.trans t2
    refine ⟨_, rfl, _, _, rfl, rfl, ?_⟩
    refine ⟨fun σ' F' => F' = G2 ∧ ∃ run : Int, σ' = [some (.ref a), some (.str z), some (.int run), some (.int (0 + (i : Int))), none, some (.ref p7), some (.str y)], ?_, ?_⟩
    · exact ⟨_, rfl, _, rfl, y, -1, c1, rfl, rfl, by rw [sizeLine_eq]; omega, hc1, c1, _, rfl, rfl, _, rfl, ite2 (fun _ => ⟨rfl, _, rfl⟩) (fun _ => ⟨rfl, _, rfl⟩)⟩
    rintro σ F' ⟨rfl, run2, rfl⟩
    have no : Stp a H7 F' ∧ ∃ (z2 : Str) (run : Int) (y3 y6 : Option V), z2.length ≤ 6 * (i + 1) ∧ z2.cps.toList.count 40 ≤ i + 1 ∧ [some (.ref a), some (.str z), some (.int run2), some (.int (0 + (i : Int))), none, some (.ref p7), some (.str y)] = [some (.ref a), some (.str z2), some (.int run), y3, none, some (.ref p7), y6] :=
      ⟨st2, z, run2, _, _, by omega, by omega, rfl⟩
    have yes : z.length + y.length ≤ sizeLine ∧ (Stp a H7 F' ∧ ∃ (z2 : Str) (run : Int) (y3 y6 : Option V), z2.length ≤ 6 * (i + 1) ∧ z2.cps.toList.count 40 ≤ i + 1 ∧ [some (.ref a), some (.str (z ++ y)), some (.int run2), some (.int (0 + (i : Int))), none, some (.ref p7), some (.str y)] = [some (.ref a), some (.str z2), some (.int run), y3, none, some (.ref p7), y6]) := by
      refine ⟨by rw [sizeLine_eq]; omega, st2, z ++ y, run2, _, _, by rw [len_app]; omega, ?_, rfl⟩
      rw [PySem.Str.cps_append, Array.toList_append, List.count_append]
      omega
    refine ⟨_, rfl, _, _, rfl, rfl, _, rfl, ite2 (fun _ => ?_) (fun _ => no)⟩
    refine ⟨_, rfl, y, 0, c0, rfl, rfl, by rw [sizeLine_eq]; omega, hc0, rfl, _, rfl, ite2 (fun _ => ?_) (fun _ => ?_)⟩
    · exact ⟨_, rfl, _, rfl, _, _, rfl, rfl, yes.1, yes.2⟩
    · exact ⟨_, rfl, rfl, _, _, rfl, rfl, _, _, rfl, rfl, _, rfl, ite2 (fun _ => ⟨_, rfl, _, rfl, _, _, rfl, rfl, yes.1, yes.2⟩) (fun _ => no)⟩
  · rintro σ G ⟨st, z, run, y3, y6, hz, hct, rfl⟩
    have n14 : n.toNat ≤ 14 := by omega
    have zl : z.cps.toList.length = z.length := Array.length_toList
    exact ⟨_, rfl, done z G (st7.trans st) (gd_of (by omega) (Wr.len (by omega)) (Nest.len (by omega)))⟩
end
open PySem L2 ExV
/-! ### one sign, repeated -/
def rRepC : R2 := fun x y H Q => ∃ (z : Str) (c d : Nat), x = .str z ∧ z.cps.toList = [c] ∧ y = .int (d : Int) ∧ 2 ≤ d ∧ d ≤ 5000 ∧ Q (.str (S (List.replicate d c))) H
theorem repC (c : Nat) : ∀ d : Nat, (⟨(List.replicate d (#[c] : Array Nat)).foldl (· ++ ·) #[]⟩ : Str) = S (List.replicate d c)
  | 0 => rfl
  | d + 1 => by
    have ih := repC c d
    rw [List.replicate_succ', List.foldl_append]
    show (⟨(List.replicate d (#[c] : Array Nat)).foldl (· ++ ·) #[]⟩ : Str) ++ S [c] = _
    rw [ih, S_app, ← List.replicate_succ']
theorem op_repC {X : Cx} : OpR X (binaryOp .Mult) rRepC := by
  intro pins s σ H x y v u Q I rx ry h
  obtain ⟨z, c, d, rfl, hz, rfl, h1, h2, q⟩ := h
  obtain ⟨t, rfl⟩ := rx
  obtain ⟨t2, rfl⟩ := ry
  have hz2 : z = ⟨#[c]⟩ := by
    rw [← S_of z, hz]
    rfl
  subst hz2
  have ln : (⟨#[c]⟩ : Str).length = 1 := rfl
  refine P.mul_str ?_ (fun _ _ => ?_) (fun _ _ => ?_) ?_
  · rw [decide_eq_false (by omega), decide_eq_false (by omega)]
    rfl
  · rw [ln]
    have : (1 : Int) ≤ (2 ^ 63 - 1) / (d : Int) := by
      refine Int.le_ediv_of_mul_le (by omega) ?_
      omega
    omega
  · rw [ln]
    unfold Builtin.Str.tooLong
    rw [decide_eq_false]
    rw [sizeLine_eq]
    omega
  · rw [if_neg (by omega)]
    have e2 : (((d : Nat) : Int) == 1 || (⟨#[c]⟩ : Str).length == 0) = false := by
      rw [ln]
      have : ¬ ((d : Int) = 1) := by omega
      simp [this]
    rw [if_neg (by rw [e2]; exact Bool.false_ne_true)]
    have e3 : ((d : Nat) : Int).toNat = d := Int.toNat_natCast d
    rw [e3, repC]
    refine ⟨?_, ⟨.str (S (List.replicate d c)), H, I.tok _, ⟨_, rfl⟩, q⟩⟩
    rw [S_len, List.length_replicate, sizeLine_eq]
    omega
/-! ### texts near the first one -/
def GV (v : V) : Prop := ∃ z : Str, v = .str z ∧ Gd z.cps.toList
theorem gv_short {z : Str} (h : z.length ≤ 40) : GV (.str z) := ⟨z, rfl, gd_short (by rw [Array.length_toList]; exact h)⟩
theorem nest_take : ∀ {l : List Nat} {k i : Nat}, Nest k l → Nest k (l.take i)
  | [], _, i, _ => by rw [List.take_nil]; exact trivial
  | _ :: _, _, 0, _ => trivial
  | c :: t, k, i + 1, h => by
    have h : if c = 40 then 0 < k ∧ Nest (k - 1) t else if c = 41 then Nest (k + 1) t else Nest k t := h
    show if c = 40 then 0 < k ∧ Nest (k - 1) (t.take i) else if c = 41 then Nest (k + 1) (t.take i) else Nest k (t.take i)
    by_cases h40 : c = 40
    · rw [if_pos h40] at h ⊢
      exact ⟨h.1, nest_take h.2⟩
    · rw [if_neg h40] at h ⊢
      by_cases h41 : c = 41
      · rw [if_pos h41] at h ⊢
        exact nest_take h
      · rw [if_neg h41] at h ⊢
        exact nest_take h
/-- words that are too long for numbers -/
theorem gd_big {p w : List Nat} (hp : p = [] ∨ p = [40]) (hw : ∀ c ∈ w, isDg c = true) (h1 : 4000 < w.length) (h2 : w.length ≤ 90000) : GV (.str (S (p ++ w))) := by
  have dgl : ∀ c, isDg c = true → isDl c = false ∧ isAn c = true ∧ c ≠ 45 ∧ c ≠ 40 := fun c hc => by
    have e : ∀ c ∈ ("0123456789" : Str).cps.toList, isDl c = false ∧ isAn c = true ∧ c ≠ 45 ∧ c ≠ 40 := by decide +kernel
    exact e c (of_decide_eq_true hc)
  have no : isNum w = false := by
    have e : digs w = w := by
      unfold digs
      split
      · exact absurd rfl (dgl 45 (hw 45 List.mem_cons_self)).2.2.1
      · rfl
    unfold isNum
    rw [e, decide_eq_false (show ¬ w.length ≤ 4000 by omega), Bool.and_false]
    rfl
  have wdw : wd w = w := by
    have := tw_stop (p := fun c => !isDl c) (t := w) (r := []) (List.all_eq_true.mpr fun c hc => by rw [(dgl c (hw c hc)).1]; rfl) (fun c r z => by cases z)
    rwa [List.append_nil] at this
  have aww : aw w = w := by
    unfold aw
    split
    · exact absurd rfl (dgl 45 (hw 45 List.mem_cons_self)).2.2.1
    · have := tw_stop (p := isAn) (t := w) (r := []) (List.all_eq_true.mpr fun c hc => (dgl c (hw c hc)).2.1) (fun c r z => by cases z)
      rwa [List.append_nil] at this
  have fw : Fit w := .inr ⟨by rw [wdw]; exact no, by rw [aww]; exact no⟩
  have nd : ∀ {j c : Nat}, w[j]? = some c → isDl c = false := fun h => (dgl _ (hw _ (List.mem_of_getElem? h))).1
  refine ⟨_, rfl, ⟨?_, ?_⟩, ?_⟩
  · rw [S_cps]
    rcases hp with rfl | rfl
    · show w.length ≤ _
      omega
    · show w.length + 1 ≤ _
      omega
  · rw [S_cps]
    rintro k hk (rfl | ⟨j, c, rfl, hj, hd⟩)
    · rcases hp with rfl | rfl
      · exact fw
      · refine .inl ?_
        have : wd ([40] ++ w) = [] := List.takeWhile_cons_of_neg (by decide +kernel)
        rw [List.drop_zero, this]
        decide
    · rcases hp with rfl | rfl
      · rw [nd hj] at hd
        cases hd
      · cases j with
        | zero => exact fw
        | succ j =>
          have hj : w[j]? = some c := hj
          rw [nd hj] at hd
          cases hd
  · rw [S_cps]
    refine Nest.len ?_
    have z : w.count 40 = 0 := List.count_eq_zero.mpr fun h => (dgl 40 (hw 40 h)).2.2.2 rfl
    rw [List.count_append, z]
    rcases hp with rfl | rfl <;> decide
section
variable {P : Program} {w : World} {K : PySem.W.Frag} {mg : Str → Option Value} {base : Heap}
def spNear : Sp := fun vs H Q _ => ∃ (a : Addr) (l : List Nat), vs = [.ref a, .str (S l)] ∧ Src H a ∧ l.length ≤ 9000 ∧ Wr 20 0 l ∧ Nest 8 l ∧ ∀ (l2 : List Nat) (H' : Hp), Stp a H H' → Gd l2 → Q (.str (S l2)) H'
theorem ok_l_near (T : Txt w K mg) : FnOk P w K mg base CX0 3 T.a_l_near T.d_l_near p_l_near spNear := by
  have g_l_one := ok_l_one (P := P) (w := w) (K := K) (base := base) T
  refine T.F_l_near.ok sc_l_near (fun vs H Q E h => ?_) (fun cdv A outer s H vs Q E hr h => ?_)
  · obtain ⟨a, l, rfl, _⟩ := h
    rfl
  obtain ⟨a, l, rfl, hS, hl, hw, hn, q⟩ := h
  refine ⟨_, (pss_cons (ps_set (i := 2) sc_l_near.nd rfl (Or.inl rfl) (pe_lst (pa_cons pe_str (pa_cons pe_str (pa_cons (pe_op op_add_str (pe_op op_add_str pe_str (pv 1)) pe_str) (pa_cons (pe_op op_add_str pe_str (pv 1)) (pa_cons (pe_op op_add_str (pv 1) pe_str) (pa_cons (pe_op op_add_str (pv 1) pe_str) (pa_cons (pe_op op_add_str pe_str (pv 1)) (pa_cons (pe_op op_add_str pe_str (pv 1)) (pa_cons (pe_op op_add_str pe_str (pv 1)) pa_nil)))))))))))
      (pss_cons (ps_set (i := 2) sc_l_near.nd rfl (Or.inl rfl) (pe_op op_cat (pv 2) (pe_lst (pa_cons (pe_slice sl_str (pv 1) (po_some pe_int) po_none) (pa_cons (pe_slice sl_str (pv 1) po_none (po_some (pe_un un_neg pe_int))) (pa_cons (pe_slice sl_str (pv 1) (po_some pe_int) (po_some (pe_un un_neg pe_int))) (pa_cons (pe_op op_add_str pe_str (pv 1)) (pa_cons (pe_op op_add_str (pe_op op_add_str pe_str (pv 1)) pe_str) (pa_cons (pe_op op_add_str pe_str (pv 1)) (pa_cons pe_str pa_nil))))))))))
      (pss_cons (ps_set (i := 2) sc_l_near.nd rfl (Or.inl rfl) (pe_op op_cat (pv 2) (pe_lst (pa_cons (pe_op op_add_str (pe_op op_add_str pe_str (pv 1)) pe_str) (pa_cons (pe_op op_add_str (pe_op op_add_str pe_str (pv 1)) pe_str) (pa_cons pe_str (pa_cons pe_str (pa_cons pe_str (pa_cons pe_str (pa_cons pe_str (pa_cons pe_str (pa_cons pe_str (pa_cons pe_str (pa_cons pe_str pa_nil))))))))))))))
      (pss_cons (ps_set (i := 2) sc_l_near.nd rfl (Or.inl rfl) (pe_op op_cat (pv 2) (pe_lst (pa_cons pe_str (pa_cons pe_str (pa_cons pe_str (pa_cons pe_str (pa_cons pe_str (pa_cons pe_str (pa_cons pe_str (pa_cons pe_str (pa_cons pe_str (pa_cons pe_str (pa_cons pe_str (pa_cons pe_str (pa_cons pe_str pa_nil))))))))))))))))
      (pss_cons (ps_set (i := 2) sc_l_near.nd rfl (Or.inl rfl) (pe_op op_cat (pv 2) (pe_lst (pa_cons (pe_op op_repC pe_str pe_int) (pa_cons (pe_op op_add_str pe_str (pe_op op_repC pe_str pe_int)) (pa_cons (pe_op op_add_str pe_str (pe_op op_repC pe_str pe_int)) (pa_cons (pe_op op_add_str pe_str (pe_op op_repC pe_str pe_int)) (pa_cons (pe_op op_repC pe_str pe_int) pa_nil))))))))
      (pss_one (ps_ret (pe_call g_l_one (hr.mono (by first | decide | omega)) rfl T.m_l_one T.F_l_one.kp T.b_l_one .nil pass0 (pa_cons (pv 0) (pa_cons (pe_op op_cat (pv 2) (pe_lst (pa_cons pe_str (pa_cons pe_str (pa_cons pe_str (pa_cons pe_str (pa_cons pe_str (pa_cons pe_str (pa_cons pe_str (pa_cons pe_str (pa_cons pe_str pa_nil))))))))))) pa_nil)))))))))), ?_⟩
  have wrap : ∀ p s : List Nat, p.length ≤ 10 → s.length ≤ 10 → Gd (p ++ (l ++ s)) := fun p s h1 h2 => by
    refine gd_of (by rw [List.length_append, List.length_append]; omega) ?_ ?_
    · have e := (Wr.len (n := 10) (l := p) (k := 0) (by omega)).app (hw.app (Wr.len (n := 10) (l := s) (k := 0) (by omega)))
      exact e.up (n := 640 - (10 + (20 + 10))) (j := 0) (Nat.zero_le _)
    · have e1 := Nest.edit (a := l) (b := []) (m := s) (d := 0) (k := 8) (by rw [List.append_nil]; exact hn)
      rw [List.drop_nil, List.append_nil] at e1
      exact (e1.adds p).up (by omega)
  have sub : ∀ i j, i ≤ 1 → Gd ((l.drop i).take j) := fun i j hi => by
    refine gd_of (by rw [List.length_take, List.length_drop]; omega) ?_ ?_
    · exact ((hw.drop (i := i)).take (i := j)).up (n := 620) (j := 0) (Nat.zero_le _)
    · exact (nest_take ((Nest.drop (d := i) hn))).up (by omega)
  have cneg : ∀ o : Option Int, o = none ∨ o = some 1 → GV (.str (cutS (S l) o (some (-1)))) := fun o ho => by
    have hi : HT.sIx (S l).length 0 o ≤ 1 := by
      rcases ho with rfl | rfl
      · exact Nat.zero_le _
      · rw [show (1 : Int) = ((1 : Nat) : Int) from rfl, HT.sIx_nat]
        omega
    exact ⟨_, rfl, sub _ _ hi⟩
  have cone : GV (.str (cutS (S l) (some 1) none)) := by
    rw [show (1 : Int) = ((1 : Nat) : Int) from rfl, cutS_suf]
    refine ⟨_, rfl, ?_⟩
    have := sub 1 l.length (by decide)
    rw [List.take_of_length_le (by rw [List.length_drop]; omega)] at this
    exact this
  have ft : ∀ {x y : Str}, x.length ≤ 10000 → y.length ≤ 10000 → x.length + y.length ≤ sizeLine := fun h1 h2 => by
    rw [sizeLine_eq]
    omega
  have sl : (S l).length ≤ sizeLine := by rw [sizeLine_eq, S_len]; omega
  have w3 : ∀ x y : Str, x.length ≤ 10 → y.length ≤ 10 → GV (.str (x ++ S l ++ y)) := fun x y h1 h2 => ⟨_, rfl, by
    have := wrap x.cps.toList y.cps.toList (by rw [Array.length_toList]; exact h1) (by rw [Array.length_toList]; exact h2)
    rw [← List.append_assoc] at this
    rw [PySem.Str.cps_append, Array.toList_append, PySem.Str.cps_append, Array.toList_append]
    exact this⟩
  have wl : ∀ x : Str, x.length ≤ 10 → GV (.str (x ++ S l)) := fun x h1 => ⟨_, rfl, by
    have := wrap x.cps.toList [] (by rw [Array.length_toList]; exact h1) (by decide)
    rw [List.append_nil] at this
    rw [PySem.Str.cps_append, Array.toList_append]
    exact this⟩
  have wr : ∀ y : Str, y.length ≤ 10 → GV (.str (S l ++ y)) := fun y h1 => ⟨_, rfl, by
    have := wrap [] y.cps.toList (by decide) (by rw [Array.length_toList]; exact h1)
    rw [PySem.Str.cps_append, Array.toList_append]
    exact this⟩
  refine ⟨_, rfl, _, _, rfl, rfl, ft (by first | decide +kernel | (rw [S_len]; omega) | (rw [S_len, List.length_replicate]; decide)) (by first | decide +kernel | (rw [S_len]; omega) | (rw [S_len, List.length_replicate]; decide)), _, _, rfl, rfl, ft (Nat.le_trans (Nat.le_of_eq (len_app _ _)) (Nat.add_le_add (show _ ≤ 100 by decide +kernel) (show (S l).length ≤ 9900 by rw [S_len]; omega))) (by decide +kernel), _, rfl, _, _, rfl, rfl, ft (by first | decide +kernel | (rw [S_len]; omega) | (rw [S_len, List.length_replicate]; decide)) (by first | decide +kernel | (rw [S_len]; omega) | (rw [S_len, List.length_replicate]; decide)), _, rfl, _, _, rfl, rfl, ft (by first | decide +kernel | (rw [S_len]; omega) | (rw [S_len, List.length_replicate]; decide)) (by first | decide +kernel | (rw [S_len]; omega) | (rw [S_len, List.length_replicate]; decide)), _, rfl, _, _, rfl, rfl, ft (by first | decide +kernel | (rw [S_len]; omega) | (rw [S_len, List.length_replicate]; decide)) (by first | decide +kernel | (rw [S_len]; omega) | (rw [S_len, List.length_replicate]; decide)), _, rfl, _, _, rfl, rfl, ft (by first | decide +kernel | (rw [S_len]; omega) | (rw [S_len, List.length_replicate]; decide)) (by first | decide +kernel | (rw [S_len]; omega) | (rw [S_len, List.length_replicate]; decide)), _, rfl, _, _, rfl, rfl, ft (by first | decide +kernel | (rw [S_len]; omega) | (rw [S_len, List.length_replicate]; decide)) (by first | decide +kernel | (rw [S_len]; omega) | (rw [S_len, List.length_replicate]; decide)), _, rfl, _, _, rfl, rfl, ft (by first | decide +kernel | (rw [S_len]; omega) | (rw [S_len, List.length_replicate]; decide)) (by first | decide +kernel | (rw [S_len]; omega) | (rw [S_len, List.length_replicate]; decide)), by show 9 ≤ sizeLine; decide, fun p1 h1 => ?_⟩
  have g1 : ∀ v ∈ ([.str (Str.ofString ""), .str (Str.ofString " "), .str (Str.ofString "(" ++ S l ++ Str.ofString ")"), .str (Str.ofString " " ++ S l), .str (S l ++ Str.ofString " "), .str (S l ++ Str.ofString "\n"), .str (Str.ofString "\n" ++ S l), .str (Str.ofString "-" ++ S l), .str (Str.ofString "+" ++ S l)] : List V), GV v := by
    intro v hv
    simp only [List.mem_cons, List.not_mem_nil, or_false] at hv
    rcases hv with rfl | rfl | rfl | rfl | rfl | rfl | rfl | rfl | rfl <;> first
      | exact gv_short (by decide +kernel)
      | exact w3 _ _ (by decide +kernel) (by decide +kernel)
      | exact wl _ (by decide +kernel)
      | exact wr _ (by decide +kernel)
      | exact cone
      | exact cneg _ (.inl rfl)
      | exact cneg _ (.inr rfl)
  have st1 := (Stp.refl hS).new (o := .lst [.str (Str.ofString ""), .str (Str.ofString " "), .str (Str.ofString "(" ++ S l ++ Str.ofString ")"), .str (Str.ofString " " ++ S l), .str (S l ++ Str.ofString " "), .str (S l ++ Str.ofString "\n"), .str (Str.ofString "\n" ++ S l), .str (Str.ofString "-" ++ S l), .str (Str.ofString "+" ++ S l)]) h1
  have a1 : upd H p1 (.lst [.str (Str.ofString ""), .str (Str.ofString " "), .str (Str.ofString "(" ++ S l ++ Str.ofString ")"), .str (Str.ofString " " ++ S l), .str (S l ++ Str.ofString " "), .str (S l ++ Str.ofString "\n"), .str (Str.ofString "\n" ++ S l), .str (Str.ofString "-" ++ S l), .str (Str.ofString "+" ++ S l)]) p1 = some (.lst [.str (Str.ofString ""), .str (Str.ofString " "), .str (Str.ofString "(" ++ S l ++ Str.ofString ")"), .str (Str.ofString " " ++ S l), .str (S l ++ Str.ofString " "), .str (S l ++ Str.ofString "\n"), .str (Str.ofString "\n" ++ S l), .str (Str.ofString "-" ++ S l), .str (Str.ofString "+" ++ S l)]) := upd_same
  have m1 : ([.str (Str.ofString ""), .str (Str.ofString " "), .str (Str.ofString "(" ++ S l ++ Str.ofString ")"), .str (Str.ofString " " ++ S l), .str (S l ++ Str.ofString " "), .str (S l ++ Str.ofString "\n"), .str (Str.ofString "\n" ++ S l), .str (Str.ofString "-" ++ S l), .str (Str.ofString "+" ++ S l)] : List V).length = 9 := rfl
  have n1 : p1 ≠ a := (hS.ne h1).symm
  generalize ([.str (Str.ofString ""), .str (Str.ofString " "), .str (Str.ofString "(" ++ S l ++ Str.ofString ")"), .str (Str.ofString " " ++ S l), .str (S l ++ Str.ofString " "), .str (S l ++ Str.ofString "\n"), .str (Str.ofString "\n" ++ S l), .str (Str.ofString "-" ++ S l), .str (Str.ofString "+" ++ S l)] : List V) = x1 at *
  generalize upd H p1 (.lst x1) = F1 at *
  have g12 : ∀ v ∈ ([.str (cutS (S l) (some 1) none), .str (cutS (S l) none (some (-1))), .str (cutS (S l) (some 1) (some (-1))), .str (Str.ofString "(not " ++ S l), .str (Str.ofString "(not" ++ S l ++ Str.ofString ")"), .str (Str.ofString "not " ++ S l), .str (Str.ofString "(not  a)")] : List V), GV v := by
    intro v hv
    simp only [List.mem_cons, List.not_mem_nil, or_false] at hv
    rcases hv with rfl | rfl | rfl | rfl | rfl | rfl | rfl <;> first
      | exact gv_short (by decide +kernel)
      | exact w3 _ _ (by decide +kernel) (by decide +kernel)
      | exact wl _ (by decide +kernel)
      | exact wr _ (by decide +kernel)
      | exact cone
      | exact cneg _ (.inl rfl)
      | exact cneg _ (.inr rfl)
  refine ⟨_, rfl, _, rfl, _, rfl, S l, rfl, sl, _, rfl, _, rfl, _, rfl, S l, rfl, sl, _, rfl, _, rfl, _, rfl, _, rfl, S l, rfl, sl, _, rfl, _, _, rfl, rfl, ft (by first | decide +kernel | (rw [S_len]; omega) | (rw [S_len, List.length_replicate]; decide)) (by first | decide +kernel | (rw [S_len]; omega) | (rw [S_len, List.length_replicate]; decide)), _, rfl, _, _, rfl, rfl, ft (by first | decide +kernel | (rw [S_len]; omega) | (rw [S_len, List.length_replicate]; decide)) (by first | decide +kernel | (rw [S_len]; omega) | (rw [S_len, List.length_replicate]; decide)), _, _, rfl, rfl, ft (Nat.le_trans (Nat.le_of_eq (len_app _ _)) (Nat.add_le_add (show _ ≤ 100 by decide +kernel) (show (S l).length ≤ 9900 by rw [S_len]; omega))) (by decide +kernel), _, rfl, _, _, rfl, rfl, ft (by first | decide +kernel | (rw [S_len]; omega) | (rw [S_len, List.length_replicate]; decide)) (by first | decide +kernel | (rw [S_len]; omega) | (rw [S_len, List.length_replicate]; decide)), by show 7 ≤ sizeLine; decide, fun q2 i2 => ?_⟩
  have u2 := st1.new (o := .lst [.str (cutS (S l) (some 1) none), .str (cutS (S l) none (some (-1))), .str (cutS (S l) (some 1) (some (-1))), .str (Str.ofString "(not " ++ S l), .str (Str.ofString "(not" ++ S l ++ Str.ofString ")"), .str (Str.ofString "not " ++ S l), .str (Str.ofString "(not  a)")]) i2
  have b2 : upd F1 q2 (.lst [.str (cutS (S l) (some 1) none), .str (cutS (S l) none (some (-1))), .str (cutS (S l) (some 1) (some (-1))), .str (Str.ofString "(not " ++ S l), .str (Str.ofString "(not" ++ S l ++ Str.ofString ")"), .str (Str.ofString "not " ++ S l), .str (Str.ofString "(not  a)")]) q2 = some (.lst [.str (cutS (S l) (some 1) none), .str (cutS (S l) none (some (-1))), .str (cutS (S l) (some 1) (some (-1))), .str (Str.ofString "(not " ++ S l), .str (Str.ofString "(not" ++ S l ++ Str.ofString ")"), .str (Str.ofString "not " ++ S l), .str (Str.ofString "(not  a)")]) := upd_same
  have c2 : upd F1 q2 (.lst [.str (cutS (S l) (some 1) none), .str (cutS (S l) none (some (-1))), .str (cutS (S l) (some 1) (some (-1))), .str (Str.ofString "(not " ++ S l), .str (Str.ofString "(not" ++ S l ++ Str.ofString ")"), .str (Str.ofString "not " ++ S l), .str (Str.ofString "(not  a)")]) p1 = some (.lst x1) := Same.new i2 _ _ _ a1
  have l2 : ([.str (cutS (S l) (some 1) none), .str (cutS (S l) none (some (-1))), .str (cutS (S l) (some 1) (some (-1))), .str (Str.ofString "(not " ++ S l), .str (Str.ofString "(not" ++ S l ++ Str.ofString ")"), .str (Str.ofString "not " ++ S l), .str (Str.ofString "(not  a)")] : List V).length = 7 := rfl
  generalize ([.str (cutS (S l) (some 1) none), .str (cutS (S l) none (some (-1))), .str (cutS (S l) (some 1) (some (-1))), .str (Str.ofString "(not " ++ S l), .str (Str.ofString "(not" ++ S l ++ Str.ofString ")"), .str (Str.ofString "not " ++ S l), .str (Str.ofString "(not  a)")] : List V) = y2 at *
  generalize upd F1 q2 (.lst y2) = E2 at *
  refine ⟨p1, q2, _, _, rfl, rfl, c2, b2, by rw [m1, l2]; decide, fun p2 h2 => ?_⟩
  have st2 := u2.new (o := .lst (x1 ++ y2)) h2
  have a2 : upd E2 p2 (.lst (x1 ++ y2)) p2 = some (.lst (x1 ++ y2)) := upd_same
  have n2 : p2 ≠ a := (u2.s.ne h2).symm
  have m2 : (x1 ++ y2).length = 16 := by rw [List.length_append, m1, l2]
  have g2 : ∀ v ∈ x1 ++ y2, GV v := fun v hv => (List.mem_append.mp hv).elim (g1 v) (g12 v)
  generalize x1 ++ y2 = x2 at *
  generalize upd E2 p2 (.lst x2) = F2 at *
  have g13 : ∀ v ∈ ([.str (Str.ofString "(" ++ S l ++ Str.ofString " + )"), .str (Str.ofString "( + " ++ S l ++ Str.ofString ")"), .str (Str.ofString "()"), .str (Str.ofString "-"), .str (Str.ofString "--1"), .str (Str.ofString "- 1"), .str (Str.ofString "+1"), .str (Str.ofString "-0"), .str (Str.ofString "00"), .str (Str.ofString "007"), .str (Str.ofString "-01")] : List V), GV v := by
    intro v hv
    simp only [List.mem_cons, List.not_mem_nil, or_false] at hv
    rcases hv with rfl | rfl | rfl | rfl | rfl | rfl | rfl | rfl | rfl | rfl | rfl <;> first
      | exact gv_short (by decide +kernel)
      | exact w3 _ _ (by decide +kernel) (by decide +kernel)
      | exact wl _ (by decide +kernel)
      | exact wr _ (by decide +kernel)
      | exact cone
      | exact cneg _ (.inl rfl)
      | exact cneg _ (.inr rfl)
  refine ⟨_, rfl, _, rfl, _, _, rfl, rfl, ft (by first | decide +kernel | (rw [S_len]; omega) | (rw [S_len, List.length_replicate]; decide)) (by first | decide +kernel | (rw [S_len]; omega) | (rw [S_len, List.length_replicate]; decide)), _, _, rfl, rfl, ft (Nat.le_trans (Nat.le_of_eq (len_app _ _)) (Nat.add_le_add (show _ ≤ 100 by decide +kernel) (show (S l).length ≤ 9900 by rw [S_len]; omega))) (by decide +kernel), _, rfl, _, _, rfl, rfl, ft (by first | decide +kernel | (rw [S_len]; omega) | (rw [S_len, List.length_replicate]; decide)) (by first | decide +kernel | (rw [S_len]; omega) | (rw [S_len, List.length_replicate]; decide)), _, _, rfl, rfl, ft (Nat.le_trans (Nat.le_of_eq (len_app _ _)) (Nat.add_le_add (show _ ≤ 100 by decide +kernel) (show (S l).length ≤ 9900 by rw [S_len]; omega))) (by decide +kernel), by show 11 ≤ sizeLine; decide, fun q3 i3 => ?_⟩
  have u3 := st2.new (o := .lst [.str (Str.ofString "(" ++ S l ++ Str.ofString " + )"), .str (Str.ofString "( + " ++ S l ++ Str.ofString ")"), .str (Str.ofString "()"), .str (Str.ofString "-"), .str (Str.ofString "--1"), .str (Str.ofString "- 1"), .str (Str.ofString "+1"), .str (Str.ofString "-0"), .str (Str.ofString "00"), .str (Str.ofString "007"), .str (Str.ofString "-01")]) i3
  have b3 : upd F2 q3 (.lst [.str (Str.ofString "(" ++ S l ++ Str.ofString " + )"), .str (Str.ofString "( + " ++ S l ++ Str.ofString ")"), .str (Str.ofString "()"), .str (Str.ofString "-"), .str (Str.ofString "--1"), .str (Str.ofString "- 1"), .str (Str.ofString "+1"), .str (Str.ofString "-0"), .str (Str.ofString "00"), .str (Str.ofString "007"), .str (Str.ofString "-01")]) q3 = some (.lst [.str (Str.ofString "(" ++ S l ++ Str.ofString " + )"), .str (Str.ofString "( + " ++ S l ++ Str.ofString ")"), .str (Str.ofString "()"), .str (Str.ofString "-"), .str (Str.ofString "--1"), .str (Str.ofString "- 1"), .str (Str.ofString "+1"), .str (Str.ofString "-0"), .str (Str.ofString "00"), .str (Str.ofString "007"), .str (Str.ofString "-01")]) := upd_same
  have c3 : upd F2 q3 (.lst [.str (Str.ofString "(" ++ S l ++ Str.ofString " + )"), .str (Str.ofString "( + " ++ S l ++ Str.ofString ")"), .str (Str.ofString "()"), .str (Str.ofString "-"), .str (Str.ofString "--1"), .str (Str.ofString "- 1"), .str (Str.ofString "+1"), .str (Str.ofString "-0"), .str (Str.ofString "00"), .str (Str.ofString "007"), .str (Str.ofString "-01")]) p2 = some (.lst x2) := Same.new i3 _ _ _ a2
  have l3 : ([.str (Str.ofString "(" ++ S l ++ Str.ofString " + )"), .str (Str.ofString "( + " ++ S l ++ Str.ofString ")"), .str (Str.ofString "()"), .str (Str.ofString "-"), .str (Str.ofString "--1"), .str (Str.ofString "- 1"), .str (Str.ofString "+1"), .str (Str.ofString "-0"), .str (Str.ofString "00"), .str (Str.ofString "007"), .str (Str.ofString "-01")] : List V).length = 11 := rfl
  generalize ([.str (Str.ofString "(" ++ S l ++ Str.ofString " + )"), .str (Str.ofString "( + " ++ S l ++ Str.ofString ")"), .str (Str.ofString "()"), .str (Str.ofString "-"), .str (Str.ofString "--1"), .str (Str.ofString "- 1"), .str (Str.ofString "+1"), .str (Str.ofString "-0"), .str (Str.ofString "00"), .str (Str.ofString "007"), .str (Str.ofString "-01")] : List V) = y3 at *
  generalize upd F2 q3 (.lst y3) = E3 at *
  refine ⟨p2, q3, _, _, rfl, rfl, c3, b3, by rw [m2, l3]; decide, fun p3 h3 => ?_⟩
  have st3 := u3.new (o := .lst (x2 ++ y3)) h3
  have a3 : upd E3 p3 (.lst (x2 ++ y3)) p3 = some (.lst (x2 ++ y3)) := upd_same
  have n3 : p3 ≠ a := (u3.s.ne h3).symm
  have m3 : (x2 ++ y3).length = 27 := by rw [List.length_append, m2, l3]
  have g3 : ∀ v ∈ x2 ++ y3, GV v := fun v hv => (List.mem_append.mp hv).elim (g2 v) (g13 v)
  generalize x2 ++ y3 = x3 at *
  generalize upd E3 p3 (.lst x3) = F3 at *
  have g14 : ∀ v ∈ ([.str (Str.ofString "1a"), .str (Str.ofString "A"), .str (Str.ofString "a_b"), .str (Str.ofString "aB"), .str (Str.ofString "(a+b)"), .str (Str.ofString "(a +b)"), .str (Str.ofString "(a+ b)"), .str (Str.ofString "( a + b)"), .str (Str.ofString "(a + b )"), .str (Str.ofString "( a +b)"), .str (Str.ofString "(a -1)"), .str (Str.ofString "a.b"), .str (Str.ofString "(a - -0)")] : List V), GV v := by
    intro v hv
    simp only [List.mem_cons, List.not_mem_nil, or_false] at hv
    rcases hv with rfl | rfl | rfl | rfl | rfl | rfl | rfl | rfl | rfl | rfl | rfl | rfl | rfl <;> first
      | exact gv_short (by decide +kernel)
      | exact w3 _ _ (by decide +kernel) (by decide +kernel)
      | exact wl _ (by decide +kernel)
      | exact wr _ (by decide +kernel)
      | exact cone
      | exact cneg _ (.inl rfl)
      | exact cneg _ (.inr rfl)
  refine ⟨_, rfl, by show 13 ≤ sizeLine; decide, fun q4 i4 => ?_⟩
  have u4 := st3.new (o := .lst [.str (Str.ofString "1a"), .str (Str.ofString "A"), .str (Str.ofString "a_b"), .str (Str.ofString "aB"), .str (Str.ofString "(a+b)"), .str (Str.ofString "(a +b)"), .str (Str.ofString "(a+ b)"), .str (Str.ofString "( a + b)"), .str (Str.ofString "(a + b )"), .str (Str.ofString "( a +b)"), .str (Str.ofString "(a -1)"), .str (Str.ofString "a.b"), .str (Str.ofString "(a - -0)")]) i4
  have b4 : upd F3 q4 (.lst [.str (Str.ofString "1a"), .str (Str.ofString "A"), .str (Str.ofString "a_b"), .str (Str.ofString "aB"), .str (Str.ofString "(a+b)"), .str (Str.ofString "(a +b)"), .str (Str.ofString "(a+ b)"), .str (Str.ofString "( a + b)"), .str (Str.ofString "(a + b )"), .str (Str.ofString "( a +b)"), .str (Str.ofString "(a -1)"), .str (Str.ofString "a.b"), .str (Str.ofString "(a - -0)")]) q4 = some (.lst [.str (Str.ofString "1a"), .str (Str.ofString "A"), .str (Str.ofString "a_b"), .str (Str.ofString "aB"), .str (Str.ofString "(a+b)"), .str (Str.ofString "(a +b)"), .str (Str.ofString "(a+ b)"), .str (Str.ofString "( a + b)"), .str (Str.ofString "(a + b )"), .str (Str.ofString "( a +b)"), .str (Str.ofString "(a -1)"), .str (Str.ofString "a.b"), .str (Str.ofString "(a - -0)")]) := upd_same
  have c4 : upd F3 q4 (.lst [.str (Str.ofString "1a"), .str (Str.ofString "A"), .str (Str.ofString "a_b"), .str (Str.ofString "aB"), .str (Str.ofString "(a+b)"), .str (Str.ofString "(a +b)"), .str (Str.ofString "(a+ b)"), .str (Str.ofString "( a + b)"), .str (Str.ofString "(a + b )"), .str (Str.ofString "( a +b)"), .str (Str.ofString "(a -1)"), .str (Str.ofString "a.b"), .str (Str.ofString "(a - -0)")]) p3 = some (.lst x3) := Same.new i4 _ _ _ a3
  have l4 : ([.str (Str.ofString "1a"), .str (Str.ofString "A"), .str (Str.ofString "a_b"), .str (Str.ofString "aB"), .str (Str.ofString "(a+b)"), .str (Str.ofString "(a +b)"), .str (Str.ofString "(a+ b)"), .str (Str.ofString "( a + b)"), .str (Str.ofString "(a + b )"), .str (Str.ofString "( a +b)"), .str (Str.ofString "(a -1)"), .str (Str.ofString "a.b"), .str (Str.ofString "(a - -0)")] : List V).length = 13 := rfl
  generalize ([.str (Str.ofString "1a"), .str (Str.ofString "A"), .str (Str.ofString "a_b"), .str (Str.ofString "aB"), .str (Str.ofString "(a+b)"), .str (Str.ofString "(a +b)"), .str (Str.ofString "(a+ b)"), .str (Str.ofString "( a + b)"), .str (Str.ofString "(a + b )"), .str (Str.ofString "( a +b)"), .str (Str.ofString "(a -1)"), .str (Str.ofString "a.b"), .str (Str.ofString "(a - -0)")] : List V) = y4 at *
  generalize upd F3 q4 (.lst y4) = E4 at *
  refine ⟨p3, q4, _, _, rfl, rfl, c4, b4, by rw [m3, l4]; decide, fun p4 h4 => ?_⟩
  have st4 := u4.new (o := .lst (x3 ++ y4)) h4
  have a4 : upd E4 p4 (.lst (x3 ++ y4)) p4 = some (.lst (x3 ++ y4)) := upd_same
  have n4 : p4 ≠ a := (u4.s.ne h4).symm
  have m4 : (x3 ++ y4).length = 40 := by rw [List.length_append, m3, l4]
  have g4 : ∀ v ∈ x3 ++ y4, GV v := fun v hv => (List.mem_append.mp hv).elim (g3 v) (g14 v)
  generalize x3 ++ y4 = x4 at *
  generalize upd E4 p4 (.lst x4) = F4 at *
  have big : ∀ (n c : Nat), isDg c = true → 4000 < n → n ≤ 80000 → ∀ p, (p = [] ∨ p = [40]) → GV (.str (S (p ++ List.replicate n c))) := fun n c hc h1 h2 p hp =>
    gd_big hp (fun d hd => by rw [List.eq_of_mem_replicate hd]; exact hc) (by rw [List.length_replicate]; exact h1) (by rw [List.length_replicate]; omega)
  have g15 : ∀ v ∈ ([.str (S (List.replicate 4400 57)), .str (Str.ofString "(" ++ S (List.replicate 4400 57)), .str (Str.ofString "-" ++ S (List.replicate 30 57)), .str (Str.ofString "1" ++ S (List.replicate 4000 48)), .str (S (List.replicate 40 55))] : List V), GV v := by
    intro v hv
    simp only [List.mem_cons, List.not_mem_nil, or_false] at hv
    rcases hv with rfl | rfl | rfl | rfl | rfl
    · exact big 4400 57 (by decide +kernel) (by decide) (by decide) [] (.inl rfl)
    · rw [show Str.ofString "(" = S [40] from s_open, S_app]
      exact big 4400 57 (by decide +kernel) (by decide) (by decide) [40] (.inr rfl)
    · exact gv_short (by rw [len_app, S_len, List.length_replicate]; decide +kernel)
    · rw [show Str.ofString "1" = S [49] by decide +kernel, S_app]
      exact gd_big (p := []) (.inl rfl) (fun d hd => by
        rcases List.mem_cons.mp hd with rfl | hd
        · decide +kernel
        · rw [List.eq_of_mem_replicate hd]
          decide +kernel) (by show 4000 < (List.replicate 4000 48).length + 1; rw [List.length_replicate]; decide) (by show (List.replicate 4000 48).length + 1 ≤ _; rw [List.length_replicate]; decide)
    · exact gv_short (by rw [S_len, List.length_replicate]; decide)
  refine ⟨_, rfl, _, 57, 4400, rfl, by decide +kernel, rfl, by decide, by decide, _, 57, 4400, rfl, by decide +kernel, rfl, by decide, by decide, _, _, rfl, rfl, ft (by first | decide +kernel | (rw [S_len]; omega) | (rw [S_len, List.length_replicate]; decide)) (by first | decide +kernel | (rw [S_len]; omega) | (rw [S_len, List.length_replicate]; decide)), _, 57, 30, rfl, by decide +kernel, rfl, by decide, by decide, _, _, rfl, rfl, ft (by first | decide +kernel | (rw [S_len]; omega) | (rw [S_len, List.length_replicate]; decide)) (by first | decide +kernel | (rw [S_len]; omega) | (rw [S_len, List.length_replicate]; decide)), _, 48, 4000, rfl, by decide +kernel, rfl, by decide, by decide, _, _, rfl, rfl, ft (by first | decide +kernel | (rw [S_len]; omega) | (rw [S_len, List.length_replicate]; decide)) (by first | decide +kernel | (rw [S_len]; omega) | (rw [S_len, List.length_replicate]; decide)), _, 55, 40, rfl, by decide +kernel, rfl, by decide, by decide, by show 5 ≤ sizeLine; decide, fun q5 i5 => ?_⟩
  have u5 := st4.new (o := .lst [.str (S (List.replicate 4400 57)), .str (Str.ofString "(" ++ S (List.replicate 4400 57)), .str (Str.ofString "-" ++ S (List.replicate 30 57)), .str (Str.ofString "1" ++ S (List.replicate 4000 48)), .str (S (List.replicate 40 55))]) i5
  have b5 : upd F4 q5 (.lst [.str (S (List.replicate 4400 57)), .str (Str.ofString "(" ++ S (List.replicate 4400 57)), .str (Str.ofString "-" ++ S (List.replicate 30 57)), .str (Str.ofString "1" ++ S (List.replicate 4000 48)), .str (S (List.replicate 40 55))]) q5 = some (.lst [.str (S (List.replicate 4400 57)), .str (Str.ofString "(" ++ S (List.replicate 4400 57)), .str (Str.ofString "-" ++ S (List.replicate 30 57)), .str (Str.ofString "1" ++ S (List.replicate 4000 48)), .str (S (List.replicate 40 55))]) := upd_same
  have c5 : upd F4 q5 (.lst [.str (S (List.replicate 4400 57)), .str (Str.ofString "(" ++ S (List.replicate 4400 57)), .str (Str.ofString "-" ++ S (List.replicate 30 57)), .str (Str.ofString "1" ++ S (List.replicate 4000 48)), .str (S (List.replicate 40 55))]) p4 = some (.lst x4) := Same.new i5 _ _ _ a4
  have l5 : ([.str (S (List.replicate 4400 57)), .str (Str.ofString "(" ++ S (List.replicate 4400 57)), .str (Str.ofString "-" ++ S (List.replicate 30 57)), .str (Str.ofString "1" ++ S (List.replicate 4000 48)), .str (S (List.replicate 40 55))] : List V).length = 5 := rfl
  generalize ([.str (S (List.replicate 4400 57)), .str (Str.ofString "(" ++ S (List.replicate 4400 57)), .str (Str.ofString "-" ++ S (List.replicate 30 57)), .str (Str.ofString "1" ++ S (List.replicate 4000 48)), .str (S (List.replicate 40 55))] : List V) = y5 at *
  generalize upd F4 q5 (.lst y5) = E5 at *
  refine ⟨p4, q5, _, _, rfl, rfl, c5, b5, by rw [m4, l5]; decide, fun p5 h5 => ?_⟩
  have st5 := u5.new (o := .lst (x4 ++ y5)) h5
  have a5 : upd E5 p5 (.lst (x4 ++ y5)) p5 = some (.lst (x4 ++ y5)) := upd_same
  have n5 : p5 ≠ a := (u5.s.ne h5).symm
  have m5 : (x4 ++ y5).length = 45 := by rw [List.length_append, m4, l5]
  have g5 : ∀ v ∈ x4 ++ y5, GV v := fun v hv => (List.mem_append.mp hv).elim (g4 v) (g15 v)
  generalize x4 ++ y5 = x5 at *
  generalize upd E5 p5 (.lst x5) = F5 at *
  have g16 : ∀ v ∈ ([.str (Str.ofString "1000000001"), .str (Str.ofString "(a = b)"), .str (Str.ofString "(a > b)"), .str (Str.ofString "(a or b and c)"), .str (Str.ofString "True"), .str (Str.ofString "None"), .str (Str.ofString "(1 + 2 + 3)"), .str (Str.ofString "abcdefghijklm"), .str (Str.ofString "(a1b2c3d4e5f6g7 < -12345678901)")] : List V), GV v := by
    intro v hv
    simp only [List.mem_cons, List.not_mem_nil, or_false] at hv
    rcases hv with rfl | rfl | rfl | rfl | rfl | rfl | rfl | rfl | rfl <;> first
      | exact gv_short (by decide +kernel)
      | exact w3 _ _ (by decide +kernel) (by decide +kernel)
      | exact wl _ (by decide +kernel)
      | exact wr _ (by decide +kernel)
      | exact cone
      | exact cneg _ (.inl rfl)
      | exact cneg _ (.inr rfl)
  refine ⟨_, rfl, _, rfl, by show 9 ≤ sizeLine; decide, fun q6 i6 => ?_⟩
  have u6 := st5.new (o := .lst [.str (Str.ofString "1000000001"), .str (Str.ofString "(a = b)"), .str (Str.ofString "(a > b)"), .str (Str.ofString "(a or b and c)"), .str (Str.ofString "True"), .str (Str.ofString "None"), .str (Str.ofString "(1 + 2 + 3)"), .str (Str.ofString "abcdefghijklm"), .str (Str.ofString "(a1b2c3d4e5f6g7 < -12345678901)")]) i6
  have b6 : upd F5 q6 (.lst [.str (Str.ofString "1000000001"), .str (Str.ofString "(a = b)"), .str (Str.ofString "(a > b)"), .str (Str.ofString "(a or b and c)"), .str (Str.ofString "True"), .str (Str.ofString "None"), .str (Str.ofString "(1 + 2 + 3)"), .str (Str.ofString "abcdefghijklm"), .str (Str.ofString "(a1b2c3d4e5f6g7 < -12345678901)")]) q6 = some (.lst [.str (Str.ofString "1000000001"), .str (Str.ofString "(a = b)"), .str (Str.ofString "(a > b)"), .str (Str.ofString "(a or b and c)"), .str (Str.ofString "True"), .str (Str.ofString "None"), .str (Str.ofString "(1 + 2 + 3)"), .str (Str.ofString "abcdefghijklm"), .str (Str.ofString "(a1b2c3d4e5f6g7 < -12345678901)")]) := upd_same
  have c6 : upd F5 q6 (.lst [.str (Str.ofString "1000000001"), .str (Str.ofString "(a = b)"), .str (Str.ofString "(a > b)"), .str (Str.ofString "(a or b and c)"), .str (Str.ofString "True"), .str (Str.ofString "None"), .str (Str.ofString "(1 + 2 + 3)"), .str (Str.ofString "abcdefghijklm"), .str (Str.ofString "(a1b2c3d4e5f6g7 < -12345678901)")]) p5 = some (.lst x5) := Same.new i6 _ _ _ a5
  have l6 : ([.str (Str.ofString "1000000001"), .str (Str.ofString "(a = b)"), .str (Str.ofString "(a > b)"), .str (Str.ofString "(a or b and c)"), .str (Str.ofString "True"), .str (Str.ofString "None"), .str (Str.ofString "(1 + 2 + 3)"), .str (Str.ofString "abcdefghijklm"), .str (Str.ofString "(a1b2c3d4e5f6g7 < -12345678901)")] : List V).length = 9 := rfl
  generalize ([.str (Str.ofString "1000000001"), .str (Str.ofString "(a = b)"), .str (Str.ofString "(a > b)"), .str (Str.ofString "(a or b and c)"), .str (Str.ofString "True"), .str (Str.ofString "None"), .str (Str.ofString "(1 + 2 + 3)"), .str (Str.ofString "abcdefghijklm"), .str (Str.ofString "(a1b2c3d4e5f6g7 < -12345678901)")] : List V) = y6 at *
  generalize upd F5 q6 (.lst y6) = E6 at *
  refine ⟨p5, q6, _, _, rfl, rfl, c6, b6, by rw [m5, l6]; decide, fun p6 h6 => ?_⟩
  have st6 := u6.new (o := .lst (x5 ++ y6)) h6
  refine ⟨a, .ref p6, rfl, st6.s, .inl ⟨p6, _, rfl, (u6.s.ne h6).symm, .of upd_same, by rw [List.length_append, m5, l6]; decide, by rw [List.length_append, m5, l6]; decide, fun v H9 hv t9 => ?_⟩⟩
  obtain ⟨z, rfl, gz⟩ := (List.mem_append.mp hv).elim (g5 v) (g16 v)
  have := q z.cps.toList H9 (st6.trans t9) gz
  rwa [S_of] at this
end
open PySem L2 ExV
/-! ### a list against the empty one -/
def rEqL0 (K : PySem.W.Frag) (neg : Bool) : R2 := fun x y H Q => ∃ (a b : Addr) (xs : List V), x = .ref a ∧ y = .ref b ∧ SqL K H a xs ∧ SqL K H b [] ∧ Q (.bl (if neg then !xs.isEmpty else xs.isEmpty)) H
theorem op_neL0 {X : Cx} (hu : X.A.units < cLine) : OpR X (compareOp .NotEq) (rEqL0 X.K true) := by
  intro pins s σ H x y v u Q I rx ry h
  obtain ⟨a, b, xs, rfl, rfl, ha, hb, q⟩ := h
  obtain rfl : v = Value.ref a := rx
  obtain rfl : u = Value.ref b := ry
  obtain ⟨its, r1, t1, _⟩ := I.list ha
  obtain ⟨its2, r2, t2, _⟩ := I.list hb
  cases r2
  cases r1 with
  | nil => exact SeqAt.RcNeAt.lists (e := fun _ => true) t1.isList t2.isList rfl hu (fun j h1 h2 => absurd h2 (by simp)) _ _ _ _ ⟨.bl _, H, I, rfl, q⟩
  | cons _ _ => exact SeqAt.RcNeAt.lists_lengths t1.isList t2.isList (by simp) hu _ _ _ _ ⟨.bl _, H, I, rfl, q⟩
theorem op_eqL0 {X : Cx} (hu : X.A.units < cLine) : OpR X (compareOp .Eq) (rEqL0 X.K false) := by
  intro pins s σ H x y v u Q I rx ry h
  obtain ⟨a, b, xs, rfl, rfl, ha, hb, q⟩ := h
  obtain rfl : v = Value.ref a := rx
  obtain rfl : u = Value.ref b := ry
  obtain ⟨its, r1, t1, _⟩ := I.list ha
  obtain ⟨its2, r2, t2, _⟩ := I.list hb
  cases r2
  cases r1 with
  | nil => exact SeqAt.eq_listAt (e := fun _ => true) t1.isList t2.isList rfl hu (fun j h1 h2 => absurd h2 (by simp)) ⟨.bl _, H, I, rfl, q⟩
  | cons _ _ => exact SeqAt.eq_list_lengthsAt t1.isList t2.isList (by simp) hu ⟨.bl _, H, I, rfl, q⟩
/-! ### the law -/
def spLaw (K : PySem.W.Frag) : Sp := fun vs H Q _ => ∃ (a : Addr) (ns : List Int), vs = [.ref a] ∧ SqL K H a (ns.map V.int) ∧ ns.length ≤ 63 ∧ ∀ H', Q (.bl true) H'
def Ex.dat : Ex → PyData
  | .num i => .tuple [.str "num", .int i]
  | .name s => .tuple [.str "name", .str s]
  | .flag b => .tuple [.str "flag", .bool b]
  | .null => .tuple [.str "null"]
  | .not a => .tuple [.str "not", a.dat]
  | .bin op a b => .tuple [.str op, a.dat, b.dat]
theorem ExAt.dp {K : PySem.W.Frag} {H : Hp} : ∀ {e : Ex} {v : V}, ExAt K H e v → Dp K H v e.dat
  | .num _, _, ⟨p, rfl, h⟩ => .tup h (.cons (.str _) (.cons (.int _) .nil))
  | .name _, _, ⟨p, rfl, h⟩ => .tup h (.cons (.str _) (.cons (.str _) .nil))
  | .flag _, _, ⟨p, rfl, h⟩ => .tup h (.cons (.str _) (.cons (.bl _) .nil))
  | .null, _, ⟨p, rfl, h⟩ => .tup h (.cons (.str _) .nil)
  | .not _, _, ⟨p, x, rfl, h, hx⟩ => .tup h (.cons (.str _) (.cons hx.dp .nil))
  | .bin _ _ _, _, ⟨p, x, y, rfl, h, hx, hy⟩ => .tup h (.cons (.str _) (.cons hx.dp (.cons hy.dp .nil)))
def Ex.deep : Ex → Nat
  | .not a => a.deep + 1
  | .bin _ a b => max a.deep b.deep + 1
  | _ => 0
theorem Dok.up : ∀ {n m : Nat} {d : PyData}, Dok n d → n ≤ m → Dok m d := fun {n} => by
  induction n with
  | zero => exact fun h _ => h.elim
  | succ n ih =>
    intro m d h hm
    obtain ⟨m, rfl⟩ : ∃ j, m = j + 1 := ⟨m - 1, by omega⟩
    cases d with
    | none => trivial
    | bool _ => trivial
    | int _ => trivial
    | str _ => trivial
    | tuple ds => exact ⟨h.1, fun d hd => ih (h.2 d hd) (by omega)⟩
    | list ds => exact ⟨h.1, fun d hd => ih (h.2 d hd) (by omega)⟩
    | dict _ => exact h.elim
theorem Ex.dok : ∀ (e : Ex), Dok (e.deep + 2) e.dat
  | .num _ => ⟨by show 2 ≤ 100000; decide, fun d hd => by simp only [List.mem_cons, List.not_mem_nil, or_false] at hd; rcases hd with rfl | rfl <;> trivial⟩
  | .name _ => ⟨by show 2 ≤ 100000; decide, fun d hd => by simp only [List.mem_cons, List.not_mem_nil, or_false] at hd; rcases hd with rfl | rfl <;> trivial⟩
  | .flag _ => ⟨by show 2 ≤ 100000; decide, fun d hd => by simp only [List.mem_cons, List.not_mem_nil, or_false] at hd; rcases hd with rfl | rfl <;> trivial⟩
  | .null => ⟨by show 1 ≤ 100000; decide, fun d hd => by simp only [List.mem_cons, List.not_mem_nil, or_false] at hd; rcases hd with rfl; trivial⟩
  | .not a => ⟨by show 2 ≤ 100000; decide, fun d hd => by
      simp only [List.mem_cons, List.not_mem_nil, or_false] at hd
      rcases hd with rfl | rfl
      · trivial
      · exact a.dok.up (by show _ ≤ a.deep + 1 + 1; omega)⟩
  | .bin op a b => ⟨by show 3 ≤ 100000; decide, fun d hd => by
      simp only [List.mem_cons, List.not_mem_nil, or_false] at hd
      rcases hd with rfl | rfl | rfl
      · trivial
      · exact a.dok.up (by show _ ≤ max a.deep b.deep + 1 + 1; omega)
      · exact b.dok.up (by show _ ≤ max a.deep b.deep + 1 + 1; omega)⟩
/-- an answer as data -/
def ansD : Option Ex → PyData
  | none => .list [.str "bad", .int 1]
  | some e => .list [.str "told", e.dat]
theorem atom_deep {w : List Nat} {e : Ex} (h : atomE w = some e) : e.deep = 0 := by
  unfold atomE at h
  split at h
  · rw [← Option.some.inj h]; rfl
  split at h
  · rw [← Option.some.inj h]; rfl
  split at h
  · rw [← Option.some.inj h]; rfl
  split at h
  · rw [← Option.some.inj h]; rfl
  split at h
  · rw [← Option.some.inj h]; rfl
  · cases h
theorem lat_deep {s r : List Nat} {e : Ex} (h : lat s = some (e, r)) : e.deep = 0 := by
  unfold lat at h
  obtain ⟨x, hx, hy⟩ := Option.map_eq_some_iff.mp h
  rw [← (Prod.mk.inj hy).1]
  exact atom_deep hx
theorem lr_deep : ∀ (k : Nat) {s r : List Nat} {e : Ex}, lr k s = some (e, r) → e.deep ≤ k := fun k => by
  induction k with
  | zero =>
    intro s r e h
    by_cases h40 : ∃ t, s = 40 :: t
    · obtain ⟨t, rfl⟩ := h40
      cases h
    · rw [lr_atom 0 (fun t z => h40 ⟨t, z⟩)] at h
      exact Nat.le_of_eq (lat_deep h)
  | succ k ih =>
    intro s r e h
    by_cases h40 : ∃ t, s = 40 :: t
    case neg =>
      rw [lr_atom (k + 1) (fun t z => h40 ⟨t, z⟩)] at h
      rw [lat_deep h]
      exact Nat.zero_le _
    obtain ⟨t, rfl⟩ := h40
    by_cases hn : ∃ q, t = 110 :: 111 :: 116 :: 32 :: q
    · obtain ⟨t, rfl⟩ := hn
      have h : (match lr k t with | some (e, 41 :: r) => some (Ex.not e, r) | _ => none) = some (e, r) := h
      obtain ⟨b, hb, rfl⟩ := (close_some (f := Ex.not)).mp h
      exact Nat.succ_le_succ (ih hb)
    · rw [lr_opn k (fun q z => hn ⟨q, z⟩)] at h
      cases hr : lr k t with
      | none =>
        rw [hr] at h
        cases h
      | some p =>
        obtain ⟨a, r1⟩ := p
        rw [hr] at h
        have h : (match opAt r1 with | some (op, r1) => (match lr k r1 with | some (b, 41 :: r2) => some (Ex.bin op a b, r2) | _ => none) | none => none) = some (e, r) := h
        cases ho : opAt r1 with
        | none =>
          rw [ho] at h
          cases h
        | some p2 =>
          obtain ⟨o, r2⟩ := p2
          rw [ho] at h
          obtain ⟨b, hb, rfl⟩ := (close_some (f := Ex.bin o a)).mp h
          have h1 := ih hr
          have h2 := ih hb
          show max a.deep b.deep + 1 ≤ k + 1
          omega
theorem gd_ans {l : List Nat} (g : Gd l) : dueE l = fin [] (R l) ∧ Dok 50 (ansD (fin [] (R l))) := by
  have e := due_eq g.2
  refine ⟨e, ?_⟩
  rw [← e]
  have ds : ∀ o : Option Ex, (∀ x, o = some x → x.deep ≤ 40) → Dok 50 (ansD o) := fun o h => by
    cases o with
    | none => exact ⟨by show 2 ≤ 100000; decide, fun d hd => by simp only [List.mem_cons, List.not_mem_nil, or_false] at hd; rcases hd with rfl | rfl <;> trivial⟩
    | some x =>
      refine ⟨by show 2 ≤ 100000; decide, fun d hd => ?_⟩
      simp only [List.mem_cons, List.not_mem_nil, or_false] at hd
      rcases hd with rfl | rfl
      · trivial
      · exact x.dok.up (show x.deep + 2 ≤ 49 by have := h x rfl; omega)
  refine ds _ fun x hx => ?_
  unfold dueE at hx
  cases hl : lr 40 l with
  | none =>
    rw [hl] at hx
    cases hx
  | some p =>
    obtain ⟨e2, r⟩ := p
    rw [hl] at hx
    have hx : (if r = [] then some e2 else none) = some x := hx
    split at hx
    · rw [← Option.some.inj hx]
      exact lr_deep 40 hl
    · cases hx
theorem AskIs.dp {K : PySem.W.Frag} {H : Hp} {o : Option Ex} {p : Addr} (h : AskIs K H o p) : Dp K H (.ref p) (ansD o) := by
  cases o with
  | none => exact .lst (.of h) (.cons (.str _) (.cons (.int _) .nil))
  | some e =>
    obtain ⟨x, h, hx⟩ := h
    exact .lst (.of h) (.cons (.str _) (.cons hx.dp .nil))
theorem AskIs.same {K : PySem.W.Frag} {H H' : Hp} {o : Option Ex} {p : Addr} (s : Same H H') (h : AskIs K H o p) : AskIs K H' o p := by
  cases o with
  | none => exact s _ _ h
  | some e =>
    obtain ⟨x, h, hx⟩ := h
    exact ⟨x, s _ _ h, hx.keep (Keeps.of_same s)⟩
theorem bl_txt : ∀ {m : Nat} {e : Ex}, e.ok m → (txl e).count 32 + 2 ≤ 2 * 2 ^ m
  | 0, _, h => h.elim
  | m + 1, e, h => by
    have pw : 0 < 2 ^ m := Nat.pow_pos (by decide)
    have p2 : (2 : Nat) ^ (m + 1) = 2 * 2 ^ m := by rw [Nat.pow_succ, Nat.mul_comm]
    rcases atom_like h with ⟨_, _, h3⟩ | ⟨a, rfl⟩ | ⟨op, a, b, rfl⟩
    · have : (txl e).count 32 = 0 := List.count_eq_zero.mpr fun z => (dl_ne (h3 32 z)).2.2 rfl
      omega
    · have ih := bl_txt (m := m) (e := a) h
      have : (txl (.not a)).count 32 = (txl a).count 32 + 1 := by
        rw [txl_not]
        simp [List.count_cons, List.count_append]
      omega
    · have h : op ∈ opsL ∧ a.ok m ∧ b.ok m := h
      have i1 := bl_txt (m := m) (e := a) h.2.1
      have i2 := bl_txt (m := m) (e := b) h.2.2
      have o0 : op.cps.toList.count 32 = 0 := List.count_eq_zero.mpr (ops_blank op h.1)
      have : (txl (.bin op a b)).count 32 = (txl a).count 32 + (txl b).count 32 + 2 := by
        rw [txl_bin]
        simp [List.count_cons, List.count_append, o0]
        omega
      omega
def lawMid (a d b2 D H7' : Addr) (v : V) (e : Ex) (wy : Int) (H7 : Hp) (σ' : L2.St) (G : Hp) : Prop :=
  Stp b2 H7 G ∧ ∃ (l2 : List Nat) (y9 : Option V), Gd l2 ∧ σ' = [some (.ref a), some (.ref d), some (.ref b2), some v, some (.str (S (txl e))), some (.int wy), some (.str (S l2)), some (.ref D), none, y9]
def wKv3 (l : Addr) : List (Key × V) := [(kN, .ref l), (kL, .int 11), (kS, .int 9999)]
theorem wv1 (l : Addr) : valV (mergeK [] (wKv3 l)) kN = some (.ref l) := by kernel_rfl
theorem wv2 (l : Addr) : valV (mergeK [] (wKv3 l)) kL = some (.int 11) := by kernel_rfl
theorem wv3 (l : Addr) : valV (mergeK [] (wKv3 l)) kS = some (.int 9999) := by kernel_rfl
section
variable {w : World} {K : PySem.W.Frag} {mg : Str → Option Value} {base : Heap}
theorem ok_law (T : Txt w K mg) : FnOk PWX w K mg base CX0 52 T.a_law T.d_law p_law (spLaw K) := by
  have g_l_cell := ok_l_cell (P := PWX) (K := K) (base := base) T
  have g_l_source := ok_l_source (P := PWX) (base := base) T
  have g_l_pick := ok_l_pick (P := PWX) (base := base) T
  have g_l_one := ok_l_one (P := PWX) (K := K) (base := base) T
  have g_l_node := (ok_draws (P := PWX) (K := K) (base := base) T 8).2
  have g_l_text := ok_l_text (P := PWX) (K := K) (base := base) T 8 (by decide)
  have g_l_changed := ok_l_changed (P := PWX) (base := base) T
  have g_l_near := ok_l_near (P := PWX) (K := K) (base := base) T
  have g_l_with_reserved := ok_l_with_reserved (P := PWX) (K := K) (base := base) T
  have g_l_row := ok_l_row (P := PWX) (K := K) (base := base) T
  have g_l_asked := ok_l_asked (base := base) T
  have g_l_due := ok_l_due (P := PWX) (base := base) T
  have g_l_same := ok_l_same (P := PWX) (K := K) (base := base) T 50
  refine T.F_law.ok sc_law (fun vs H Q E h => ?_) (fun cdv A outer s H vs Q E hr h => ?_)
  · obtain ⟨a, ns, rfl, _⟩ := h
    rfl
  obtain ⟨a, ns, rfl, hS, h63, q⟩ := h
  refine ⟨_, (pss_cons (ps_set (i := 1) sc_law.nd rfl (Or.inl rfl) (pe_disp (pps_cons pe_str (pe_lst pa_nil) (pps_cons pe_str pe_int (pps_cons pe_str pe_int pps_nil))) (by rfl) (by rfl) (fun z => by cases z) (by decide)))
      (pss_cons (ps_set (i := 2) sc_law.nd rfl (Or.inl rfl) (pe_call g_l_source (hr.mono (by first | decide | omega)) rfl T.m_l_source T.F_l_source.kp T.b_l_source .nil pass0 (pa_cons (pe_call g_l_cell (hr.mono (by first | decide | omega)) rfl T.m_l_cell T.F_l_cell.kp T.b_l_cell .nil pass0 (pa_cons (pv 0) (pa_cons pe_int pa_nil))) pa_nil)))
      (pss_cons (ps_set (i := 3) sc_law.nd rfl (Or.inl rfl) (pe_call g_l_node (hr.mono (by first | decide | omega)) rfl T.m_l_node T.F_l_node.kp T.b_l_node .nil pass0 (pa_cons (pv 2) (pa_cons (pv 1) (pa_cons (pe_call g_l_pick (hr.mono (by first | decide | omega)) rfl T.m_l_pick T.F_l_pick.kp T.b_l_pick .nil pass0 (pa_cons (pv 2) (pa_cons pe_int pa_nil))) (pa_cons (pe_op op_add pe_int (pe_callTy call_int1 rfl T.z_int bt_int (pa_cons (pe_cmpR op_eq (pe_call g_l_pick (hr.mono (by first | decide | omega)) rfl T.m_l_pick T.F_l_pick.kp T.b_l_pick .nil pass0 (pa_cons (pv 2) (pa_cons pe_int pa_nil))) pe_int (nomark _)) pa_nil))) pa_nil))))))
      (pss_cons (ps_set (i := 4) sc_law.nd rfl (Or.inr rfl) (pe_call g_l_text (hr.mono (by first | decide | omega)) rfl T.m_l_text T.F_l_text.kp T.b_l_text .nil pass0 (pa_cons (pv 3) pa_nil)))
      (pss_cons (ps_set (i := 2) sc_law.nd rfl (Or.inl rfl) (pe_call g_l_source (hr.mono (by first | decide | omega)) rfl T.m_l_source T.F_l_source.kp T.b_l_source .nil pass0 (pa_cons (pe_call g_l_cell (hr.mono (by first | decide | omega)) rfl T.m_l_cell T.F_l_cell.kp T.b_l_cell .nil pass0 (pa_cons (pv 0) (pa_cons pe_int pa_nil))) pa_nil)))
      (pss_cons (ps_set (i := 5) sc_law.nd rfl (Or.inl rfl) (pe_call g_l_pick (hr.mono (by first | decide | omega)) rfl T.m_l_pick T.F_l_pick.kp T.b_l_pick .nil pass0 (pa_cons (pv 2) (pa_cons pe_int pa_nil))))
      (pss_cons (ps_set (i := 6) sc_law.nd rfl (Or.inl rfl) (pe_call g_l_changed (hr.mono (by first | decide | omega)) rfl T.m_l_changed T.F_l_changed.kp T.b_l_changed .nil pass0 (pa_cons (pv 2) (pa_cons (pv 4) pa_nil))))
      (pss_cons (ps_setLc (i := 7) (own := [("_law_k", 8)]) (g := gName 8) rfl sc_law.nd rfl rfl (sw_true rfl rfl rfl (by decide +kernel)) (pi_range1 rfl T.z_range (pa_cons (pe_callB call_len_str rfl T.z_len PySem.boot_len (pa_cons (pv 4) pa_nil)) pa_nil)) (blkOk_by (own := [("_law_k", 8)]) (N := n_law) (sc := defScope s_law) (by decide +kernel)) (fun _ _ _ _ _ => (pg_name (i := 8) sc_law.nd rfl (Or.inl rfl))) (fun _ _ _ _ _ => (pts_one (pt_cmpR op_eq (pe_ix ix_str (pv 4) (pv 8) (fun _ _ => rfl)) pe_str (nomark _)))) (fun _ _ _ _ _ => (pv 8)))
      (C8.pss_cut (ps_if (PW.pt (pw_and (pt_cmpR op_eq (pv 5) pe_int (nomark _)) (pw_and1 (pt_cmpR (op_neL0 hr.units0) (pv 7) (pe_lst pa_nil) (nomark _))))) (pss_cons (ps_set (i := 9) sc_law.nd rfl (Or.inl rfl) (pe_call g_l_one (hr.mono (by first | decide | omega)) rfl T.m_l_one T.F_l_one.kp T.b_l_one .nil pass0 (pa_cons (pv 2) (pa_cons (pv 7) pa_nil))))
      (pss_one (ps_set (i := 6) sc_law.nd rfl (Or.inl rfl) (pe_op op_add_str (pe_op op_add_str (pe_slice sl_str (pv 4) po_none (po_some (pv 9))) (pe_call g_l_one (hr.mono (by first | decide | omega)) rfl T.m_l_one T.F_l_one.kp T.b_l_one .nil pass0 (pa_cons (pv 2) (pa_cons (pe_lst (pa_cons pe_str (pa_cons pe_str pa_nil))) pa_nil)))) (pe_slice sl_str (pv 4) (po_some (pe_op op_add (pv 9) pe_int)) po_none))))) pss_nil)
      (C8.pss_cut (ps_if (pt_cmpR op_eq (pv 5) pe_int (nomark _)) (pss_one (ps_set (i := 6) sc_law.nd rfl (Or.inl rfl) (pe_call g_l_near (hr.mono (by first | decide | omega)) rfl T.m_l_near T.F_l_near.kp T.b_l_near .nil pass0 (pa_cons (pv 2) (pa_cons (pv 4) pa_nil))))) pss_nil)
      (C8.pss_cut (ps_if (pt_cmpR op_eq (pv 5) pe_int (nomark _)) (pss_one (ps_set (i := 6) sc_law.nd rfl (Or.inl rfl) (pe_call g_l_with_reserved (hr.mono (by first | decide | omega)) rfl T.m_l_with_reserved T.F_l_with_reserved.kp T.b_l_with_reserved .nil pass0 (pa_cons (pv 2) pa_nil)))) pss_nil)
      (C8.pss_cut (ps_if (pt_cmpR op_eq (pv 5) pe_int (nomark _)) (pss_one (ps_set (i := 6) sc_law.nd rfl (Or.inl rfl) (pe_call g_l_row (hr.mono (by first | decide | omega)) rfl T.m_l_row T.F_l_row.kp T.b_l_row .nil pass0 (pa_cons (pv 2) pa_nil)))) pss_nil)
      (C8.pss_cut (ps_if (pt_not (pt_val (pe_call g_l_same (hr.mono (by first | decide | omega)) rfl T.m_l_same T.F_l_same.kp T.b_l_same .nil pass0 (pa_cons (pe_call g_l_asked (hr.mono (by first | decide | omega)) rfl T.m_l_asked T.F_l_asked.kp T.b_l_asked .nil pass0 (pa_cons (pv 4) pa_nil)) (pa_cons (pe_lst (pa_cons pe_str (pa_cons (pv 3) pa_nil))) pa_nil))))) (pss_one (ps_ret pe_bl)) pss_nil)
      (pss_one (ps_ret (pe_and (pe_call g_l_same (hr.mono (by first | decide | omega)) rfl T.m_l_same T.F_l_same.kp T.b_l_same .nil pass0 (pa_cons (pe_call g_l_asked (hr.mono (by first | decide | omega)) rfl T.m_l_asked T.F_l_asked.kp T.b_l_asked .nil pass0 (pa_cons (pv 6) pa_nil)) (pa_cons (pe_call g_l_due (hr.mono (by first | decide | omega)) rfl T.m_l_due T.F_l_due.kp T.b_l_due .nil pass0 (pa_cons (pv 6) pa_nil)) pa_nil))) (pe_one (pe_call g_l_same (hr.mono (by first | decide | omega)) rfl T.m_l_same T.F_l_same.kp T.b_l_same .nil pass0 (pa_cons (pe_call g_l_asked (hr.mono (by first | decide | omega)) rfl T.m_l_asked T.F_l_asked.kp T.b_l_asked .nil pass0 (pa_cons (pv 4) pa_nil)) (pa_cons (pe_lst (pa_cons pe_str (pa_cons (pv 3) pa_nil))) pa_nil)))))))))))))))))))), ?_⟩
  refine fun d hd => ⟨by show 0 ≤ sizeLine; decide, fun ln hln => ?_⟩
  have nd : d ≠ ln := ne_of_none (show upd H d (.dK []) d = some (.dK []) from upd_same) hln
  refine ⟨by rw [upd_ne nd, upd_same], wKv3 ln, rfl, by show 3 ≤ 15; decide, ?_⟩
  have s1 : Same H (upd (upd (upd H d (.dK [])) ln (.lst [])) d (.dK (mergeK [] (wKv3 ln)))) := Same.grow hd (Same.grow (Same.none (Same.new hd _) hln) (Same.new hd _))
  have hW : Wd (upd (upd (upd H d (.dK [])) ln (.lst [])) d (.dK (mergeK [] (wKv3 ln)))) d := ⟨_, ln, [], 11, 9999, upd_same, wv1 ln, wv2 ln, wv3 ln, by rw [upd_ne nd.symm, upd_same]; rfl, by decide, fun z hz => (by cases hz), by decide, by decide, by decide, by decide⟩
  generalize upd (upd (upd H d (.dK [])) ln (.lst [])) d (.dK (mergeK [] (wKv3 ln))) = H1 at s1 hW
  refine ⟨_, rfl, a, ns, 0, rfl, s1.seq hS, by decide, fun c => ⟨c, rfl, fun b H2 hb s2 S2 => ?_⟩⟩
  have s12 := Same.trans s1 s2
  have hW2 := hW.same s2
  refine ⟨_, rfl, _, rfl, _, rfl, b, 15, rfl, S2, by decide, fun ch H3 st3 c0 c1 => ?_⟩
  refine ⟨_, rfl, b, 4, rfl, st3.s, by decide, fun pk H4 st4 p0 p1 => ?_⟩
  have st34 := st3.trans st4
  refine ⟨rfl, .inr ⟨_, rfl, _, _, rfl, rfl, ?_⟩⟩
  refine ⟨b, d, ch, 5 + (if decide (V.int pk = V.int 0) = true then 1 else 0), rfl, st34.s, hW2.stp S2 st34, c0, by omega, .inr (by split <;> decide), by split <;> decide, by decide, fun v e H5 st5 oe he => ?_⟩
  have st35 := st34.trans st5
  have s5 : Same H H5 := Stp.fresh s12 (Same.none s1 hb) st35
  refine ⟨_, rfl, v, e, rfl, he, oe, fun H6 s6 => ?_⟩
  have et : txt e = S (txl e) := (S_of _).symm
  rw [et]
  obtain ⟨tl, tw, tn⟩ := txt_facts oe
  have g0 := txt_gd oe
  have s06 := Same.trans s5 s6
  have he6 := he.keep (Keeps.of_same s6)
  refine ⟨_, rfl, a, ns, 1, rfl, s06.seq hS, by decide, fun c2 => ⟨c2, rfl, fun b2 H7 hb2 s7 S7 => ?_⟩⟩
  have he7 := he6.keep (Keeps.of_same s7)
  refine ⟨_, rfl, b2, 7, rfl, S7, by decide, fun wy H8 st8 w0 w1 => ?_⟩
  refine ⟨_, rfl, _, rfl, b2, txl e, rfl, st8.s, tl, fun i dd m H9 st9 h1 h2 => ?_⟩
  have gl := gd_edit (l := txl e) (m := m) (i := i) (d := dd) h1 h2 (by omega) tw tn
  generalize (txl e).take i ++ (m ++ (txl e).drop (i + dd)) = lo at gl
  have st89 := st8.trans st9
  have sz : (S (txl e)).length ≤ sizeLine := by rw [sizeLine_eq, S_len]; omega
  refine ⟨_, rfl, S (txl e), rfl, sz, _, rfl, by rw [S_len]; omega, by rw [S_len]; omega, fun D hD => ?_⟩
  refine lc_it (walk_range (lo := 0)) (fun i F => Same H9 F ∧ ∃ js : List Nat, F D = some (.lst (js.map fun j => V.int (j : Nat))) ∧ js.length ≤ ((txl e).take i).count 32 ∧ ∀ j ∈ js, j < (txl e).length) ⟨Same.new hD _, [], upd_same, Nat.le_refl _, fun _ z => by cases z⟩ (fun _ _ _ _ => trivial) ?_ ?_
  · rintro i x F F' hi ⟨sF, js, eD, jl, jb⟩ ⟨rfl, rfl⟩
    have hi : i < (txl e).length := by
      rw [S_len] at hi
      omega
    have hc : (txl e)[i]? = some (txl e)[i] := List.getElem?_eq_getElem hi
    refine ⟨rfl, ?_⟩
    refine ⟨_, rfl, _, rfl, S (txl e), ((i : Nat) : Int), (txl e)[i], rfl, by show V.int (0 + (i : Int)) = V.int (i : Int); rw [Int.zero_add], sz, atI_nat hc, rfl, _, rfl, ite2 (fun hb => ?_) (fun _ => ⟨sF, js, eD, Nat.le_trans jl (by rw [List.take_add_one, List.count_append]; omega), jb⟩)⟩
    have c32 : (txl e)[i] = 32 := by
      have := of_decide_eq_true hb
      rw [show Str.ofString " " = S [32] from s_blank] at this
      exact (List.cons.inj (S_inj (V.str.inj this))).1
    have cl : ((txl e).take i).count 32 ≤ 9000 := Nat.le_trans List.count_le_length (by rw [List.length_take]; omega)
    refine ⟨_, rfl, _, eD, lt_line (by rw [List.length_map]; omega), Same.grow hD sF, js ++ [i], ?_, ?_, fun j hj => ?_⟩
    · rw [upd_same, List.map_append]
      show some (HO.lst (_ ++ [V.int (0 + (i : Int))])) = _
      rw [Int.zero_add]
      rfl
    · rw [List.take_add_one, hc, List.count_append, List.length_append, c32]
      show _ + 1 ≤ _ + 1
      omega
    · rcases List.mem_append.mp hj with hj | hj
      · exact jb j hj
      · obtain rfl : j = i := by simpa using hj
        exact hi
  rintro F ⟨sF, js, eD, jl, jb⟩
  have st9F : Stp b2 H7 F := st89.same sF
  have hb27 : H6 b2 = none := hb2
  have b0 := bl_txt oe
  have jl2 : js.length ≤ 510 := by
    have e1 : (txl e).take (((S (txl e)).length : Int) - 0).toNat = txl e := List.take_of_length_le (by rw [S_len]; omega)
    have e2 : (2 : Nat) ^ 8 = 256 := by decide
    have := List.Sublist.count_le 32 (List.take_sublist (((S (txl e)).length : Int).toNat) (txl e))
    omega
  have nDb : D ≠ b2 := by
    intro z
    rw [z] at hD
    exact absurd hD (by obtain ⟨c, m', k', h⟩ := st89.s; rw [h]; intro z; cases z)
  -- the second text
  refine ⟨lawMid a d b2 D D v e wy H7, ?_, ?_⟩
  · refine ⟨_, rfl, rfl, _, rfl, ite2 (fun _ => ?_) (fun _ => ⟨st9F, lo, _, gl, rfl⟩)⟩
    refine ⟨_, rfl, by show 0 ≤ sizeLine; decide, fun p0 hp0 => ⟨D, p0, _, rfl, rfl, .of (Same.new hp0 _ _ _ eD), .of upd_same, _, rfl, ?_⟩⟩
    rw [if_pos rfl]
    have st0 := st9F.new (o := .lst []) hp0
    have eD0 := Same.new hp0 (.lst []) _ _ eD
    generalize upd F p0 (.lst []) = F0 at st0 eD0
    cases js with
    | nil => exact ifF rfl ⟨st0, lo, _, gl, rfl⟩
    | cons j0 js =>
    refine ifT rfl ⟨_, rfl, _, rfl, b2, .ref D, rfl, st0.s, .inl ⟨D, _, rfl, nDb, .of eD0, by rw [List.length_map]; exact Nat.succ_pos _, by rw [List.length_map]; omega, fun x G hx tG => ?_⟩⟩
    obtain ⟨j, hj, rfl⟩ := List.mem_map.mp hx
    have jb := jb j hj
    have stG := st0.trans tG
    refine ⟨_, rfl, _, rfl, _, rfl, S (txl e), rfl, sz, ?_⟩
    rw [cutS_pre]
    refine ⟨_, rfl, by show 2 ≤ sizeLine; decide, fun p1 hp1 => ?_⟩
    have st1 := stG.new (o := .lst [.str (Str.ofString ""), .str (Str.ofString "  ")]) hp1
    refine ⟨b2, .ref p1, rfl, st1.s, .inl ⟨p1, _, rfl, (stG.s.ne hp1).symm, .of upd_same, by show 0 < 2; decide, by show 2 < 1000; decide, fun y G2 hy tG2 => ?_⟩⟩
    have stG2 := st1.trans tG2
    have my : ∃ m : List Nat, y = .str (S m) ∧ m.length ≤ 2 := by
      simp only [List.mem_cons, List.not_mem_nil, or_false] at hy
      rcases hy with rfl | rfl
      · exact ⟨[], by rw [show Str.ofString "" = S [] by decide +kernel], by decide⟩
      · exact ⟨[32, 32], by rw [show Str.ofString "  " = S [32, 32] by decide +kernel], by decide⟩
    obtain ⟨m, rfl, hm⟩ := my
    refine ⟨_, _, rfl, rfl, by rw [sizeLine_eq, S_len, S_len, List.length_take]; omega, _, rfl, _, rfl, _, _, rfl, rfl, _, rfl, S (txl e), rfl, sz, ?_⟩
    rw [show ((j : Int) + 1) = ((j + 1 : Nat) : Int) from rfl, cutS_suf, S_app]
    refine ⟨_, _, rfl, rfl, by rw [sizeLine_eq, S_len, S_len, List.length_append, List.length_take, List.length_drop]; omega, ?_⟩
    rw [S_app, List.append_assoc]
    exact ⟨stG2, _, _, gd_edit (d := 1) (by decide) hm (by omega) tw tn, rfl⟩
  rintro σ G ⟨stG, l2, y9, gl2, rfl⟩
  refine ⟨lawMid a d b2 D D v e wy H7, ⟨_, rfl, rfl, _, rfl, ite2 (fun _ => ⟨_, rfl, _, rfl, b2, txl e, rfl, stG.s, tl, tw, tn, fun l3 G2 t2 g3 => ⟨stG.trans t2, l3, _, g3, rfl⟩⟩) (fun _ => ⟨stG, l2, _, gl2, rfl⟩)⟩, ?_⟩
  rintro σ G ⟨stG, l2, y9, gl2, rfl⟩
  refine ⟨lawMid a d b2 D D v e wy H7, ⟨_, rfl, rfl, _, rfl, ite2 (fun _ => ⟨_, rfl, b2, rfl, stG.s, fun l3 G2 t2 g3 => ⟨stG.trans t2, l3, _, g3, rfl⟩⟩) (fun _ => ⟨stG, l2, _, gl2, rfl⟩)⟩, ?_⟩
  rintro σ G ⟨stG, l2, y9, gl2, rfl⟩
  refine ⟨lawMid a d b2 D D v e wy H7, ⟨_, rfl, rfl, _, rfl, ite2 (fun _ => ⟨_, rfl, b2, rfl, stG.s, fun l3 G2 t2 g3 => ⟨stG.trans t2, l3, _, g3, rfl⟩⟩) (fun _ => ⟨stG, l2, _, gl2, rfl⟩)⟩, ?_⟩
  rintro σ G ⟨stG, l2, y9, gl2, rfl⟩
  -- the answers
  have sG : Same H6 G := Stp.fresh s7 hb2 stG
  have heG := he6.keep (Keeps.of_same sG)
  have okE : Dok 50 (ansD (some e)) := by
    have := (gd_ans g0).2
    rwa [fin_txt oe] at this
  have first : ∀ (G1 : Hp) (y9 : Option V) (R1 : VK), Same G G1 → (∀ G2, Same G G2 → R1 (.bl true) G2) → tCall (spSame K 50) [] E0 (tCons (tCall (spAsked K) [] E0 (tCons (tVar 4) tNil)) (tCons (tLst (tCons (tC (.str (Str.ofString "told"))) (tCons (tVar 3) tNil))) tNil))
      [some (.ref a), some (.ref d), some (.ref b2), some v, some (.str (S (txl e))), some (.int wy), some (.str (S l2)), some (.ref D), none, y9] G1 R1 := fun G1 y9 R1 s1 r => by
    refine ⟨_, rfl, txl e, rfl, g0.1.w, fun p G2 s2 hp ha => ⟨_, rfl, by show 2 ≤ sizeLine; decide, fun p2 hp2 => ?_⟩⟩
    rw [fin_txt oe] at ha
    have s12 := Same.trans s1 s2
    have sn := Same.new hp2 (.lst [.str (Str.ofString "told"), v])
    exact ⟨.ref p, .ref p2, ansD (some e), rfl, (ha.same sn).dp, .lst (.of upd_same) (.cons (.str _) (.cons ((heG.keep (Keeps.of_same (Same.trans s12 sn))).dp) .nil)), okE, r _ (Same.grow (Same.none s12 hp2) s12)⟩
  refine ⟨fun σ' G2 => Same G G2 ∧ σ' = [some (.ref a), some (.ref d), some (.ref b2), some v, some (.str (S (txl e))), some (.int wy), some (.str (S l2)), some (.ref D), none, y9], ?_, ?_⟩
  · exact first G y9 _ (Same.refl _) fun G2 s2 => ⟨_, rfl, ifF rfl ⟨s2, rfl⟩⟩
  rintro σ G2 ⟨s2, rfl⟩
  obtain ⟨de, dk⟩ := gd_ans gl2
  refine ⟨_, rfl, l2, rfl, gl2.1.w, fun p G3 s3 hp ha => ⟨_, rfl, l2, rfl, gl2.1, fun p2 G4 s4 hp2 ha2 => ?_⟩⟩
  rw [de] at ha2
  refine ⟨.ref p, .ref p2, ansD (fin [] (R l2)), rfl, (ha.same s4).dp, ha2.dp, dk, ⟨true, rfl, ifT rfl ?_⟩⟩
  exact first G4 y9 _ (Same.trans s2 (Same.trans s3 s4)) fun G5 _ => q G5
end
theorem all_mk {w : World} {K : PySem.W.Frag} {h : Heap} {mg : Str → Option Value} {fa : Addr} (X : K.In h) (G : h.Ns mainGlobals mg) (hfa : mg "law" = some (.ref fa))
    {f_consists_of : Addr} {od_consists_of an_consists_of : Option Addr} {sl_consists_of : Array (Option Value)} {oc_consists_of kV_consists_of dc_consists_of pm_consists_of cd_consists_of ct_consists_of : Value}
    (A_consists_of : PySem.W.nsIn K mainGlobals "consists_of" = some (some (.ref f_consists_of))) (L_consists_of : K.lookup f_consists_of = some ⟨oc_consists_of, od_consists_of, .func (PySem.W.fnOf "consists_of" "consists_of" (defArgs s_consists_of) (defBody s_consists_of) (defScope s_consists_of) .none kV_consists_of dc_consists_of pm_consists_of an_consists_of cd_consists_of ct_consists_of), sl_consists_of⟩) (C_consists_of : PySem.W.codeIn K cd_consists_of "consists_of" = true) (K_consists_of : PySem.W.keepIn K (.ref f_consists_of) = true)
    {f_is_name : Addr} {od_is_name an_is_name : Option Addr} {sl_is_name : Array (Option Value)} {oc_is_name kV_is_name dc_is_name pm_is_name cd_is_name ct_is_name : Value}
    (A_is_name : PySem.W.nsIn K mainGlobals "is_name" = some (some (.ref f_is_name))) (L_is_name : K.lookup f_is_name = some ⟨oc_is_name, od_is_name, .func (PySem.W.fnOf "is_name" "is_name" (defArgs s_is_name) (defBody s_is_name) (defScope s_is_name) .none kV_is_name dc_is_name pm_is_name an_is_name cd_is_name ct_is_name), sl_is_name⟩) (C_is_name : PySem.W.codeIn K cd_is_name "is_name" = true) (K_is_name : PySem.W.keepIn K (.ref f_is_name) = true)
    {f_number_of td_number_of : Addr} {od_number_of an_number_of dd_number_of : Option Addr} {sl_number_of sk_number_of : Array (Option Value)} {its_number_of : Array Value} {n_number_of : Nat} {oc_number_of kV_number_of dc_number_of pm_number_of cd_number_of ct_number_of tt_number_of : Value}
    (A_number_of : PySem.W.nsIn K mainGlobals "number_of" = some (some (.ref f_number_of))) (L_number_of : K.lookup f_number_of = some ⟨oc_number_of, od_number_of, .func (PySem.W.fnOf "number_of" "number_of" (defArgs s_number_of) (defBody s_number_of) (defScope s_number_of) (.ref td_number_of) kV_number_of dc_number_of pm_number_of an_number_of cd_number_of ct_number_of), sl_number_of⟩) (R_number_of : K.lookup td_number_of = some ⟨tt_number_of, dd_number_of, .seq its_number_of n_number_of, sk_number_of⟩) (W_number_of : isVs [.int 4000] its_number_of.toList = true) (C_number_of : PySem.W.codeIn K cd_number_of "number_of" = true) (K_number_of : PySem.W.keepIn K (.ref f_number_of) = true)
    {f_atom_of : Addr} {od_atom_of an_atom_of : Option Addr} {sl_atom_of : Array (Option Value)} {oc_atom_of kV_atom_of dc_atom_of pm_atom_of cd_atom_of ct_atom_of : Value}
    (A_atom_of : PySem.W.nsIn K mainGlobals "atom_of" = some (some (.ref f_atom_of))) (L_atom_of : K.lookup f_atom_of = some ⟨oc_atom_of, od_atom_of, .func (PySem.W.fnOf "atom_of" "atom_of" (defArgs s_atom_of) (defBody s_atom_of) (defScope s_atom_of) .none kV_atom_of dc_atom_of pm_atom_of an_atom_of cd_atom_of ct_atom_of), sl_atom_of⟩) (C_atom_of : PySem.W.codeIn K cd_atom_of "atom_of" = true) (K_atom_of : PySem.W.keepIn K (.ref f_atom_of) = true)
    {f_open_brackets : Addr} {od_open_brackets an_open_brackets : Option Addr} {sl_open_brackets : Array (Option Value)} {oc_open_brackets kV_open_brackets dc_open_brackets pm_open_brackets cd_open_brackets ct_open_brackets : Value}
    (A_open_brackets : PySem.W.nsIn K mainGlobals "open_brackets" = some (some (.ref f_open_brackets))) (L_open_brackets : K.lookup f_open_brackets = some ⟨oc_open_brackets, od_open_brackets, .func (PySem.W.fnOf "open_brackets" "open_brackets" (defArgs s_open_brackets) (defBody s_open_brackets) (defScope s_open_brackets) .none kV_open_brackets dc_open_brackets pm_open_brackets an_open_brackets cd_open_brackets ct_open_brackets), sl_open_brackets⟩) (C_open_brackets : PySem.W.codeIn K cd_open_brackets "open_brackets" = true) (K_open_brackets : PySem.W.keepIn K (.ref f_open_brackets) = true)
    {f_word_end : Addr} {od_word_end an_word_end : Option Addr} {sl_word_end : Array (Option Value)} {oc_word_end kV_word_end dc_word_end pm_word_end cd_word_end ct_word_end : Value}
    (A_word_end : PySem.W.nsIn K mainGlobals "word_end" = some (some (.ref f_word_end))) (L_word_end : K.lookup f_word_end = some ⟨oc_word_end, od_word_end, .func (PySem.W.fnOf "word_end" "word_end" (defArgs s_word_end) (defBody s_word_end) (defScope s_word_end) .none kV_word_end dc_word_end pm_word_end an_word_end cd_word_end ct_word_end), sl_word_end⟩) (C_word_end : PySem.W.codeIn K cd_word_end "word_end" = true) (K_word_end : PySem.W.keepIn K (.ref f_word_end) = true)
    {f_close_brackets : Addr} {od_close_brackets an_close_brackets : Option Addr} {sl_close_brackets : Array (Option Value)} {oc_close_brackets kV_close_brackets dc_close_brackets pm_close_brackets cd_close_brackets ct_close_brackets : Value}
    (A_close_brackets : PySem.W.nsIn K mainGlobals "close_brackets" = some (some (.ref f_close_brackets))) (L_close_brackets : K.lookup f_close_brackets = some ⟨oc_close_brackets, od_close_brackets, .func (PySem.W.fnOf "close_brackets" "close_brackets" (defArgs s_close_brackets) (defBody s_close_brackets) (defScope s_close_brackets) .none kV_close_brackets dc_close_brackets pm_close_brackets an_close_brackets cd_close_brackets ct_close_brackets), sl_close_brackets⟩) (C_close_brackets : PySem.W.codeIn K cd_close_brackets "close_brackets" = true) (K_close_brackets : PySem.W.keepIn K (.ref f_close_brackets) = true)
    {f_operator_end : Addr} {od_operator_end an_operator_end : Option Addr} {sl_operator_end : Array (Option Value)} {oc_operator_end kV_operator_end dc_operator_end pm_operator_end cd_operator_end ct_operator_end : Value}
    (A_operator_end : PySem.W.nsIn K mainGlobals "operator_end" = some (some (.ref f_operator_end))) (L_operator_end : K.lookup f_operator_end = some ⟨oc_operator_end, od_operator_end, .func (PySem.W.fnOf "operator_end" "operator_end" (defArgs s_operator_end) (defBody s_operator_end) (defScope s_operator_end) .none kV_operator_end dc_operator_end pm_operator_end an_operator_end cd_operator_end ct_operator_end), sl_operator_end⟩) (C_operator_end : PySem.W.codeIn K cd_operator_end "operator_end" = true) (K_operator_end : PySem.W.keepIn K (.ref f_operator_end) = true)
    {f_scan_expression : Addr} {od_scan_expression an_scan_expression : Option Addr} {sl_scan_expression : Array (Option Value)} {oc_scan_expression kV_scan_expression dc_scan_expression pm_scan_expression cd_scan_expression ct_scan_expression : Value}
    (A_scan_expression : PySem.W.nsIn K mainGlobals "scan_expression" = some (some (.ref f_scan_expression))) (L_scan_expression : K.lookup f_scan_expression = some ⟨oc_scan_expression, od_scan_expression, .func (PySem.W.fnOf "scan_expression" "scan_expression" (defArgs s_scan_expression) (defBody s_scan_expression) (defScope s_scan_expression) .none kV_scan_expression dc_scan_expression pm_scan_expression an_scan_expression cd_scan_expression ct_scan_expression), sl_scan_expression⟩) (C_scan_expression : PySem.W.codeIn K cd_scan_expression "scan_expression" = true) (K_scan_expression : PySem.W.keepIn K (.ref f_scan_expression) = true)
    {f_read_expression : Addr} {od_read_expression an_read_expression : Option Addr} {sl_read_expression : Array (Option Value)} {oc_read_expression kV_read_expression dc_read_expression pm_read_expression cd_read_expression ct_read_expression : Value}
    (A_read_expression : PySem.W.nsIn K mainGlobals "read_expression" = some (some (.ref f_read_expression))) (L_read_expression : K.lookup f_read_expression = some ⟨oc_read_expression, od_read_expression, .func (PySem.W.fnOf "read_expression" "read_expression" (defArgs s_read_expression) (defBody s_read_expression) (defScope s_read_expression) .none kV_read_expression dc_read_expression pm_read_expression an_read_expression cd_read_expression ct_read_expression), sl_read_expression⟩) (C_read_expression : PySem.W.codeIn K cd_read_expression "read_expression" = true) (K_read_expression : PySem.W.keepIn K (.ref f_read_expression) = true)
    {f_l_cell : Addr} {od_l_cell an_l_cell : Option Addr} {sl_l_cell : Array (Option Value)} {oc_l_cell kV_l_cell dc_l_cell pm_l_cell cd_l_cell ct_l_cell : Value}
    (A_l_cell : PySem.W.nsIn K mainGlobals "_law_cell" = some (some (.ref f_l_cell))) (L_l_cell : K.lookup f_l_cell = some ⟨oc_l_cell, od_l_cell, .func (PySem.W.fnOf "_law_cell" "_law_cell" (defArgs s_l_cell) (defBody s_l_cell) (defScope s_l_cell) .none kV_l_cell dc_l_cell pm_l_cell an_l_cell cd_l_cell ct_l_cell), sl_l_cell⟩) (C_l_cell : PySem.W.codeIn K cd_l_cell "_law_cell" = true) (K_l_cell : PySem.W.keepIn K (.ref f_l_cell) = true)
    {f_l_source : Addr} {od_l_source an_l_source : Option Addr} {sl_l_source : Array (Option Value)} {oc_l_source kV_l_source dc_l_source pm_l_source cd_l_source ct_l_source : Value}
    (A_l_source : PySem.W.nsIn K mainGlobals "_law_source" = some (some (.ref f_l_source))) (L_l_source : K.lookup f_l_source = some ⟨oc_l_source, od_l_source, .func (PySem.W.fnOf "_law_source" "_law_source" (defArgs s_l_source) (defBody s_l_source) (defScope s_l_source) .none kV_l_source dc_l_source pm_l_source an_l_source cd_l_source ct_l_source), sl_l_source⟩) (C_l_source : PySem.W.codeIn K cd_l_source "_law_source" = true) (K_l_source : PySem.W.keepIn K (.ref f_l_source) = true)
    {f_l_pick : Addr} {od_l_pick an_l_pick : Option Addr} {sl_l_pick : Array (Option Value)} {oc_l_pick kV_l_pick dc_l_pick pm_l_pick cd_l_pick ct_l_pick : Value}
    (A_l_pick : PySem.W.nsIn K mainGlobals "_law_pick" = some (some (.ref f_l_pick))) (L_l_pick : K.lookup f_l_pick = some ⟨oc_l_pick, od_l_pick, .func (PySem.W.fnOf "_law_pick" "_law_pick" (defArgs s_l_pick) (defBody s_l_pick) (defScope s_l_pick) .none kV_l_pick dc_l_pick pm_l_pick an_l_pick cd_l_pick ct_l_pick), sl_l_pick⟩) (C_l_pick : PySem.W.codeIn K cd_l_pick "_law_pick" = true) (K_l_pick : PySem.W.keepIn K (.ref f_l_pick) = true)
    {f_l_one : Addr} {od_l_one an_l_one : Option Addr} {sl_l_one : Array (Option Value)} {oc_l_one kV_l_one dc_l_one pm_l_one cd_l_one ct_l_one : Value}
    (A_l_one : PySem.W.nsIn K mainGlobals "_law_one" = some (some (.ref f_l_one))) (L_l_one : K.lookup f_l_one = some ⟨oc_l_one, od_l_one, .func (PySem.W.fnOf "_law_one" "_law_one" (defArgs s_l_one) (defBody s_l_one) (defScope s_l_one) .none kV_l_one dc_l_one pm_l_one an_l_one cd_l_one ct_l_one), sl_l_one⟩) (C_l_one : PySem.W.codeIn K cd_l_one "_law_one" = true) (K_l_one : PySem.W.keepIn K (.ref f_l_one) = true)
    {f_l_reserved : Addr} {od_l_reserved an_l_reserved : Option Addr} {sl_l_reserved : Array (Option Value)} {oc_l_reserved kV_l_reserved dc_l_reserved pm_l_reserved cd_l_reserved ct_l_reserved : Value}
    (A_l_reserved : PySem.W.nsIn K mainGlobals "_law_reserved" = some (some (.ref f_l_reserved))) (L_l_reserved : K.lookup f_l_reserved = some ⟨oc_l_reserved, od_l_reserved, .func (PySem.W.fnOf "_law_reserved" "_law_reserved" (defArgs s_l_reserved) (defBody s_l_reserved) (defScope s_l_reserved) .none kV_l_reserved dc_l_reserved pm_l_reserved an_l_reserved cd_l_reserved ct_l_reserved), sl_l_reserved⟩) (C_l_reserved : PySem.W.codeIn K cd_l_reserved "_law_reserved" = true) (K_l_reserved : PySem.W.keepIn K (.ref f_l_reserved) = true)
    {f_l_name : Addr} {od_l_name an_l_name : Option Addr} {sl_l_name : Array (Option Value)} {oc_l_name kV_l_name dc_l_name pm_l_name cd_l_name ct_l_name : Value}
    (A_l_name : PySem.W.nsIn K mainGlobals "_law_name" = some (some (.ref f_l_name))) (L_l_name : K.lookup f_l_name = some ⟨oc_l_name, od_l_name, .func (PySem.W.fnOf "_law_name" "_law_name" (defArgs s_l_name) (defBody s_l_name) (defScope s_l_name) .none kV_l_name dc_l_name pm_l_name an_l_name cd_l_name ct_l_name), sl_l_name⟩) (C_l_name : PySem.W.codeIn K cd_l_name "_law_name" = true) (K_l_name : PySem.W.keepIn K (.ref f_l_name) = true)
    {f_l_word : Addr} {od_l_word an_l_word : Option Addr} {sl_l_word : Array (Option Value)} {oc_l_word kV_l_word dc_l_word pm_l_word cd_l_word ct_l_word : Value}
    (A_l_word : PySem.W.nsIn K mainGlobals "_law_word" = some (some (.ref f_l_word))) (L_l_word : K.lookup f_l_word = some ⟨oc_l_word, od_l_word, .func (PySem.W.fnOf "_law_word" "_law_word" (defArgs s_l_word) (defBody s_l_word) (defScope s_l_word) .none kV_l_word dc_l_word pm_l_word an_l_word cd_l_word ct_l_word), sl_l_word⟩) (C_l_word : PySem.W.codeIn K cd_l_word "_law_word" = true) (K_l_word : PySem.W.keepIn K (.ref f_l_word) = true)
    {f_l_number : Addr} {od_l_number an_l_number : Option Addr} {sl_l_number : Array (Option Value)} {oc_l_number kV_l_number dc_l_number pm_l_number cd_l_number ct_l_number : Value}
    (A_l_number : PySem.W.nsIn K mainGlobals "_law_number" = some (some (.ref f_l_number))) (L_l_number : K.lookup f_l_number = some ⟨oc_l_number, od_l_number, .func (PySem.W.fnOf "_law_number" "_law_number" (defArgs s_l_number) (defBody s_l_number) (defScope s_l_number) .none kV_l_number dc_l_number pm_l_number an_l_number cd_l_number ct_l_number), sl_l_number⟩) (C_l_number : PySem.W.codeIn K cd_l_number "_law_number" = true) (K_l_number : PySem.W.keepIn K (.ref f_l_number) = true)
    {f_l_node : Addr} {od_l_node an_l_node : Option Addr} {sl_l_node : Array (Option Value)} {oc_l_node kV_l_node dc_l_node pm_l_node cd_l_node ct_l_node : Value}
    (A_l_node : PySem.W.nsIn K mainGlobals "_law_node" = some (some (.ref f_l_node))) (L_l_node : K.lookup f_l_node = some ⟨oc_l_node, od_l_node, .func (PySem.W.fnOf "_law_node" "_law_node" (defArgs s_l_node) (defBody s_l_node) (defScope s_l_node) .none kV_l_node dc_l_node pm_l_node an_l_node cd_l_node ct_l_node), sl_l_node⟩) (C_l_node : PySem.W.codeIn K cd_l_node "_law_node" = true) (K_l_node : PySem.W.keepIn K (.ref f_l_node) = true)
    {f_l_expression : Addr} {od_l_expression an_l_expression : Option Addr} {sl_l_expression : Array (Option Value)} {oc_l_expression kV_l_expression dc_l_expression pm_l_expression cd_l_expression ct_l_expression : Value}
    (A_l_expression : PySem.W.nsIn K mainGlobals "_law_expression" = some (some (.ref f_l_expression))) (L_l_expression : K.lookup f_l_expression = some ⟨oc_l_expression, od_l_expression, .func (PySem.W.fnOf "_law_expression" "_law_expression" (defArgs s_l_expression) (defBody s_l_expression) (defScope s_l_expression) .none kV_l_expression dc_l_expression pm_l_expression an_l_expression cd_l_expression ct_l_expression), sl_l_expression⟩) (C_l_expression : PySem.W.codeIn K cd_l_expression "_law_expression" = true) (K_l_expression : PySem.W.keepIn K (.ref f_l_expression) = true)
    {f_l_text : Addr} {od_l_text an_l_text : Option Addr} {sl_l_text : Array (Option Value)} {oc_l_text kV_l_text dc_l_text pm_l_text cd_l_text ct_l_text : Value}
    (A_l_text : PySem.W.nsIn K mainGlobals "_law_text" = some (some (.ref f_l_text))) (L_l_text : K.lookup f_l_text = some ⟨oc_l_text, od_l_text, .func (PySem.W.fnOf "_law_text" "_law_text" (defArgs s_l_text) (defBody s_l_text) (defScope s_l_text) .none kV_l_text dc_l_text pm_l_text an_l_text cd_l_text ct_l_text), sl_l_text⟩) (C_l_text : PySem.W.codeIn K cd_l_text "_law_text" = true) (K_l_text : PySem.W.keepIn K (.ref f_l_text) = true)
    {f_l_same : Addr} {od_l_same an_l_same : Option Addr} {sl_l_same : Array (Option Value)} {oc_l_same kV_l_same dc_l_same pm_l_same cd_l_same ct_l_same : Value}
    (A_l_same : PySem.W.nsIn K mainGlobals "_law_same" = some (some (.ref f_l_same))) (L_l_same : K.lookup f_l_same = some ⟨oc_l_same, od_l_same, .func (PySem.W.fnOf "_law_same" "_law_same" (defArgs s_l_same) (defBody s_l_same) (defScope s_l_same) .none kV_l_same dc_l_same pm_l_same an_l_same cd_l_same ct_l_same), sl_l_same⟩) (C_l_same : PySem.W.codeIn K cd_l_same "_law_same" = true) (K_l_same : PySem.W.keepIn K (.ref f_l_same) = true)
    {f_l_is_name : Addr} {od_l_is_name an_l_is_name : Option Addr} {sl_l_is_name : Array (Option Value)} {oc_l_is_name kV_l_is_name dc_l_is_name pm_l_is_name cd_l_is_name ct_l_is_name : Value}
    (A_l_is_name : PySem.W.nsIn K mainGlobals "_law_is_name" = some (some (.ref f_l_is_name))) (L_l_is_name : K.lookup f_l_is_name = some ⟨oc_l_is_name, od_l_is_name, .func (PySem.W.fnOf "_law_is_name" "_law_is_name" (defArgs s_l_is_name) (defBody s_l_is_name) (defScope s_l_is_name) .none kV_l_is_name dc_l_is_name pm_l_is_name an_l_is_name cd_l_is_name ct_l_is_name), sl_l_is_name⟩) (C_l_is_name : PySem.W.codeIn K cd_l_is_name "_law_is_name" = true) (K_l_is_name : PySem.W.keepIn K (.ref f_l_is_name) = true)
    {f_l_is_number : Addr} {od_l_is_number an_l_is_number : Option Addr} {sl_l_is_number : Array (Option Value)} {oc_l_is_number kV_l_is_number dc_l_is_number pm_l_is_number cd_l_is_number ct_l_is_number : Value}
    (A_l_is_number : PySem.W.nsIn K mainGlobals "_law_is_number" = some (some (.ref f_l_is_number))) (L_l_is_number : K.lookup f_l_is_number = some ⟨oc_l_is_number, od_l_is_number, .func (PySem.W.fnOf "_law_is_number" "_law_is_number" (defArgs s_l_is_number) (defBody s_l_is_number) (defScope s_l_is_number) .none kV_l_is_number dc_l_is_number pm_l_is_number an_l_is_number cd_l_is_number ct_l_is_number), sl_l_is_number⟩) (C_l_is_number : PySem.W.codeIn K cd_l_is_number "_law_is_number" = true) (K_l_is_number : PySem.W.keepIn K (.ref f_l_is_number) = true)
    {f_l_atom_end : Addr} {od_l_atom_end an_l_atom_end : Option Addr} {sl_l_atom_end : Array (Option Value)} {oc_l_atom_end kV_l_atom_end dc_l_atom_end pm_l_atom_end cd_l_atom_end ct_l_atom_end : Value}
    (A_l_atom_end : PySem.W.nsIn K mainGlobals "_law_atom_end" = some (some (.ref f_l_atom_end))) (L_l_atom_end : K.lookup f_l_atom_end = some ⟨oc_l_atom_end, od_l_atom_end, .func (PySem.W.fnOf "_law_atom_end" "_law_atom_end" (defArgs s_l_atom_end) (defBody s_l_atom_end) (defScope s_l_atom_end) .none kV_l_atom_end dc_l_atom_end pm_l_atom_end an_l_atom_end cd_l_atom_end ct_l_atom_end), sl_l_atom_end⟩) (C_l_atom_end : PySem.W.codeIn K cd_l_atom_end "_law_atom_end" = true) (K_l_atom_end : PySem.W.keepIn K (.ref f_l_atom_end) = true)
    {f_l_atom : Addr} {od_l_atom an_l_atom : Option Addr} {sl_l_atom : Array (Option Value)} {oc_l_atom kV_l_atom dc_l_atom pm_l_atom cd_l_atom ct_l_atom : Value}
    (A_l_atom : PySem.W.nsIn K mainGlobals "_law_atom" = some (some (.ref f_l_atom))) (L_l_atom : K.lookup f_l_atom = some ⟨oc_l_atom, od_l_atom, .func (PySem.W.fnOf "_law_atom" "_law_atom" (defArgs s_l_atom) (defBody s_l_atom) (defScope s_l_atom) .none kV_l_atom dc_l_atom pm_l_atom an_l_atom cd_l_atom ct_l_atom), sl_l_atom⟩) (C_l_atom : PySem.W.codeIn K cd_l_atom "_law_atom" = true) (K_l_atom : PySem.W.keepIn K (.ref f_l_atom) = true)
    {f_l_read : Addr} {od_l_read an_l_read : Option Addr} {sl_l_read : Array (Option Value)} {oc_l_read kV_l_read dc_l_read pm_l_read cd_l_read ct_l_read : Value}
    (A_l_read : PySem.W.nsIn K mainGlobals "_law_read" = some (some (.ref f_l_read))) (L_l_read : K.lookup f_l_read = some ⟨oc_l_read, od_l_read, .func (PySem.W.fnOf "_law_read" "_law_read" (defArgs s_l_read) (defBody s_l_read) (defScope s_l_read) .none kV_l_read dc_l_read pm_l_read an_l_read cd_l_read ct_l_read), sl_l_read⟩) (C_l_read : PySem.W.codeIn K cd_l_read "_law_read" = true) (K_l_read : PySem.W.keepIn K (.ref f_l_read) = true)
    {f_l_sign : Addr} {od_l_sign an_l_sign : Option Addr} {sl_l_sign : Array (Option Value)} {oc_l_sign kV_l_sign dc_l_sign pm_l_sign cd_l_sign ct_l_sign : Value}
    (A_l_sign : PySem.W.nsIn K mainGlobals "_law_sign" = some (some (.ref f_l_sign))) (L_l_sign : K.lookup f_l_sign = some ⟨oc_l_sign, od_l_sign, .func (PySem.W.fnOf "_law_sign" "_law_sign" (defArgs s_l_sign) (defBody s_l_sign) (defScope s_l_sign) .none kV_l_sign dc_l_sign pm_l_sign an_l_sign cd_l_sign ct_l_sign), sl_l_sign⟩) (C_l_sign : PySem.W.codeIn K cd_l_sign "_law_sign" = true) (K_l_sign : PySem.W.keepIn K (.ref f_l_sign) = true)
    {f_l_changed : Addr} {od_l_changed an_l_changed : Option Addr} {sl_l_changed : Array (Option Value)} {oc_l_changed kV_l_changed dc_l_changed pm_l_changed cd_l_changed ct_l_changed : Value}
    (A_l_changed : PySem.W.nsIn K mainGlobals "_law_changed" = some (some (.ref f_l_changed))) (L_l_changed : K.lookup f_l_changed = some ⟨oc_l_changed, od_l_changed, .func (PySem.W.fnOf "_law_changed" "_law_changed" (defArgs s_l_changed) (defBody s_l_changed) (defScope s_l_changed) .none kV_l_changed dc_l_changed pm_l_changed an_l_changed cd_l_changed ct_l_changed), sl_l_changed⟩) (C_l_changed : PySem.W.codeIn K cd_l_changed "_law_changed" = true) (K_l_changed : PySem.W.keepIn K (.ref f_l_changed) = true)
    {f_l_near : Addr} {od_l_near an_l_near : Option Addr} {sl_l_near : Array (Option Value)} {oc_l_near kV_l_near dc_l_near pm_l_near cd_l_near ct_l_near : Value}
    (A_l_near : PySem.W.nsIn K mainGlobals "_law_near" = some (some (.ref f_l_near))) (L_l_near : K.lookup f_l_near = some ⟨oc_l_near, od_l_near, .func (PySem.W.fnOf "_law_near" "_law_near" (defArgs s_l_near) (defBody s_l_near) (defScope s_l_near) .none kV_l_near dc_l_near pm_l_near an_l_near cd_l_near ct_l_near), sl_l_near⟩) (C_l_near : PySem.W.codeIn K cd_l_near "_law_near" = true) (K_l_near : PySem.W.keepIn K (.ref f_l_near) = true)
    {f_l_with_reserved : Addr} {od_l_with_reserved an_l_with_reserved : Option Addr} {sl_l_with_reserved : Array (Option Value)} {oc_l_with_reserved kV_l_with_reserved dc_l_with_reserved pm_l_with_reserved cd_l_with_reserved ct_l_with_reserved : Value}
    (A_l_with_reserved : PySem.W.nsIn K mainGlobals "_law_with_reserved" = some (some (.ref f_l_with_reserved))) (L_l_with_reserved : K.lookup f_l_with_reserved = some ⟨oc_l_with_reserved, od_l_with_reserved, .func (PySem.W.fnOf "_law_with_reserved" "_law_with_reserved" (defArgs s_l_with_reserved) (defBody s_l_with_reserved) (defScope s_l_with_reserved) .none kV_l_with_reserved dc_l_with_reserved pm_l_with_reserved an_l_with_reserved cd_l_with_reserved ct_l_with_reserved), sl_l_with_reserved⟩) (C_l_with_reserved : PySem.W.codeIn K cd_l_with_reserved "_law_with_reserved" = true) (K_l_with_reserved : PySem.W.keepIn K (.ref f_l_with_reserved) = true)
    {f_l_row : Addr} {od_l_row an_l_row : Option Addr} {sl_l_row : Array (Option Value)} {oc_l_row kV_l_row dc_l_row pm_l_row cd_l_row ct_l_row : Value}
    (A_l_row : PySem.W.nsIn K mainGlobals "_law_row" = some (some (.ref f_l_row))) (L_l_row : K.lookup f_l_row = some ⟨oc_l_row, od_l_row, .func (PySem.W.fnOf "_law_row" "_law_row" (defArgs s_l_row) (defBody s_l_row) (defScope s_l_row) .none kV_l_row dc_l_row pm_l_row an_l_row cd_l_row ct_l_row), sl_l_row⟩) (C_l_row : PySem.W.codeIn K cd_l_row "_law_row" = true) (K_l_row : PySem.W.keepIn K (.ref f_l_row) = true)
    {f_l_asked : Addr} {od_l_asked an_l_asked : Option Addr} {sl_l_asked : Array (Option Value)} {oc_l_asked kV_l_asked dc_l_asked pm_l_asked cd_l_asked ct_l_asked : Value}
    (A_l_asked : PySem.W.nsIn K mainGlobals "_law_asked" = some (some (.ref f_l_asked))) (L_l_asked : K.lookup f_l_asked = some ⟨oc_l_asked, od_l_asked, .func (PySem.W.fnOf "_law_asked" "_law_asked" (defArgs s_l_asked) (defBody s_l_asked) (defScope s_l_asked) .none kV_l_asked dc_l_asked pm_l_asked an_l_asked cd_l_asked ct_l_asked), sl_l_asked⟩) (C_l_asked : PySem.W.codeIn K cd_l_asked "_law_asked" = true) (K_l_asked : PySem.W.keepIn K (.ref f_l_asked) = true)
    {f_l_due : Addr} {od_l_due an_l_due : Option Addr} {sl_l_due : Array (Option Value)} {oc_l_due kV_l_due dc_l_due pm_l_due cd_l_due ct_l_due : Value}
    (A_l_due : PySem.W.nsIn K mainGlobals "_law_due" = some (some (.ref f_l_due))) (L_l_due : K.lookup f_l_due = some ⟨oc_l_due, od_l_due, .func (PySem.W.fnOf "_law_due" "_law_due" (defArgs s_l_due) (defBody s_l_due) (defScope s_l_due) .none kV_l_due dc_l_due pm_l_due an_l_due cd_l_due ct_l_due), sl_l_due⟩) (C_l_due : PySem.W.codeIn K cd_l_due "_law_due" = true) (K_l_due : PySem.W.keepIn K (.ref f_l_due) = true)
    {f_law : Addr} {od_law an_law : Option Addr} {sl_law : Array (Option Value)} {oc_law kV_law dc_law pm_law cd_law ct_law : Value}
    (A_law : PySem.W.nsIn K mainGlobals "law" = some (some (.ref f_law))) (L_law : K.lookup f_law = some ⟨oc_law, od_law, .func (PySem.W.fnOf "law" "law" (defArgs s_law) (defBody s_law) (defScope s_law) .none kV_law dc_law pm_law an_law cd_law ct_law), sl_law⟩) (C_law : PySem.W.codeIn K cd_law "law" = true) (K_law : PySem.W.keepIn K (.ref f_law) = true)
    {C_NeverError : Addr} (A_NeverError : PySem.W.nsIn K mainGlobals "NeverError" = some (some (.ref C_NeverError))) (X_NeverError : excB K C_NeverError [] = true)
    {C_BadText : Addr} (A_BadText : PySem.W.nsIn K mainGlobals "BadText" = some (some (.ref C_BadText))) (X_BadText : excB K C_BadText ["line"] = true)
    {nm_BadText q_BadText : Str} {N_BadText : Addr} {bs_BadText bm_BadText sub_BadText : List Value} {sn_BadText : List Str} {ab_BadText : Bool} {col_BadText : Option Bool} {dd_BadText : Option Addr} {m0_BadText m1_BadText m2_BadText m3_BadText m5_BadText : Option Value} (xL_BadText : K.lookup C_BadText = some (PySem.excClassObj nm_BadText q_BadText C_BadText N_BadText bs_BadText bm_BadText true sn_BadText sub_BadText ab_BadText col_BadText dd_BadText m0_BadText m1_BadText m2_BadText m3_BadText m5_BadText "ValueError.__new__")) (rV_BadText : PySem.HandSPX.refsVE bm_BadText = true)
    {f_BadText_init cda_BadText_init cc_BadText_init : Addr} {od_BadText_init an_BadText_init cdd_BadText_init cld_BadText_init : Option Addr} {sl_BadText_init ccs_BadText_init csl_BadText_init : Array (Option Value)} {vs_BadText_init : Array Value} {file_BadText_init : Str} {tf_BadText_init : Tok} {oc_BadText_init kV_BadText_init dc_BadText_init pm_BadText_init ct_BadText_init ccl_BadText_init cl_BadText_init : Value}
    (iC_BadText : PySem.W.findIn K (.ref C_BadText) "__init__" = some (some (.ref f_BadText_init))) (tI_BadText : PySem.W.typeIn K (.ref f_BadText_init) = some (.type "function"))
    (L_BadText_init : K.lookup f_BadText_init = some ⟨oc_BadText_init, od_BadText_init, .func (PySem.W.ksFn "__init__" "BadText.__init__" (defArgs s_BadText_init) (defBody s_BadText_init) (defScope s_BadText_init) .none kV_BadText_init dc_BadText_init pm_BadText_init an_BadText_init (.ref cda_BadText_init) ct_BadText_init cc_BadText_init), sl_BadText_init⟩) (cd_BadText : PySem.W.codeIn K (.ref cda_BadText_init) "BadText.__init__" = true)
    (ck_BadText : K.lookup cda_BadText_init = some ⟨ccl_BadText_init, cdd_BadText_init, .fields vs_BadText_init, ccs_BadText_init⟩) (cv_BadText : vs_BadText_init[2]? = some (.str file_BadText_init tf_BadText_init)) (cf_BadText : ((PWX.main.file : Str) == file_BadText_init) = true) (cc_BadText : K.lookup cc_BadText_init = some ⟨cl_BadText_init, cld_BadText_init, .cell (some (.ref C_BadText)), csl_BadText_init⟩) (sp_BadText : supB K C_BadText = true)
    {C_Twice : Addr} (A_Twice : PySem.W.nsIn K mainGlobals "Twice" = some (some (.ref C_Twice))) (X_Twice : excB K C_Twice ["name"] = true)
    {nm_Twice q_Twice : Str} {N_Twice : Addr} {bs_Twice bm_Twice sub_Twice : List Value} {sn_Twice : List Str} {ab_Twice : Bool} {col_Twice : Option Bool} {dd_Twice : Option Addr} {m0_Twice m1_Twice m2_Twice m3_Twice m5_Twice : Option Value} (xL_Twice : K.lookup C_Twice = some (PySem.excClassObj nm_Twice q_Twice C_Twice N_Twice bs_Twice bm_Twice true sn_Twice sub_Twice ab_Twice col_Twice dd_Twice m0_Twice m1_Twice m2_Twice m3_Twice m5_Twice "ValueError.__new__")) (rV_Twice : PySem.HandSPX.refsVE bm_Twice = true)
    {f_Twice_init cda_Twice_init cc_Twice_init : Addr} {od_Twice_init an_Twice_init cdd_Twice_init cld_Twice_init : Option Addr} {sl_Twice_init ccs_Twice_init csl_Twice_init : Array (Option Value)} {vs_Twice_init : Array Value} {file_Twice_init : Str} {tf_Twice_init : Tok} {oc_Twice_init kV_Twice_init dc_Twice_init pm_Twice_init ct_Twice_init ccl_Twice_init cl_Twice_init : Value}
    (iC_Twice : PySem.W.findIn K (.ref C_Twice) "__init__" = some (some (.ref f_Twice_init))) (tI_Twice : PySem.W.typeIn K (.ref f_Twice_init) = some (.type "function"))
    (L_Twice_init : K.lookup f_Twice_init = some ⟨oc_Twice_init, od_Twice_init, .func (PySem.W.ksFn "__init__" "Twice.__init__" (defArgs s_Twice_init) (defBody s_Twice_init) (defScope s_Twice_init) .none kV_Twice_init dc_Twice_init pm_Twice_init an_Twice_init (.ref cda_Twice_init) ct_Twice_init cc_Twice_init), sl_Twice_init⟩) (cd_Twice : PySem.W.codeIn K (.ref cda_Twice_init) "Twice.__init__" = true)
    (ck_Twice : K.lookup cda_Twice_init = some ⟨ccl_Twice_init, cdd_Twice_init, .fields vs_Twice_init, ccs_Twice_init⟩) (cv_Twice : vs_Twice_init[2]? = some (.str file_Twice_init tf_Twice_init)) (cf_Twice : ((PWX.main.file : Str) == file_Twice_init) = true) (cc_Twice : K.lookup cc_Twice_init = some ⟨cl_Twice_init, cld_Twice_init, .cell (some (.ref C_Twice)), csl_Twice_init⟩) (sp_Twice : supB K C_Twice = true)
    {C_Unknown : Addr} (A_Unknown : PySem.W.nsIn K mainGlobals "Unknown" = some (some (.ref C_Unknown))) (X_Unknown : excB K C_Unknown ["name"] = true)
    {nm_Unknown q_Unknown : Str} {N_Unknown : Addr} {bs_Unknown bm_Unknown sub_Unknown : List Value} {sn_Unknown : List Str} {ab_Unknown : Bool} {col_Unknown : Option Bool} {dd_Unknown : Option Addr} {m0_Unknown m1_Unknown m2_Unknown m3_Unknown m5_Unknown : Option Value} (xL_Unknown : K.lookup C_Unknown = some (PySem.excClassObj nm_Unknown q_Unknown C_Unknown N_Unknown bs_Unknown bm_Unknown true sn_Unknown sub_Unknown ab_Unknown col_Unknown dd_Unknown m0_Unknown m1_Unknown m2_Unknown m3_Unknown m5_Unknown "ValueError.__new__")) (rV_Unknown : PySem.HandSPX.refsVE bm_Unknown = true)
    {f_Unknown_init cda_Unknown_init cc_Unknown_init : Addr} {od_Unknown_init an_Unknown_init cdd_Unknown_init cld_Unknown_init : Option Addr} {sl_Unknown_init ccs_Unknown_init csl_Unknown_init : Array (Option Value)} {vs_Unknown_init : Array Value} {file_Unknown_init : Str} {tf_Unknown_init : Tok} {oc_Unknown_init kV_Unknown_init dc_Unknown_init pm_Unknown_init ct_Unknown_init ccl_Unknown_init cl_Unknown_init : Value}
    (iC_Unknown : PySem.W.findIn K (.ref C_Unknown) "__init__" = some (some (.ref f_Unknown_init))) (tI_Unknown : PySem.W.typeIn K (.ref f_Unknown_init) = some (.type "function"))
    (L_Unknown_init : K.lookup f_Unknown_init = some ⟨oc_Unknown_init, od_Unknown_init, .func (PySem.W.ksFn "__init__" "Unknown.__init__" (defArgs s_Unknown_init) (defBody s_Unknown_init) (defScope s_Unknown_init) .none kV_Unknown_init dc_Unknown_init pm_Unknown_init an_Unknown_init (.ref cda_Unknown_init) ct_Unknown_init cc_Unknown_init), sl_Unknown_init⟩) (cd_Unknown : PySem.W.codeIn K (.ref cda_Unknown_init) "Unknown.__init__" = true)
    (ck_Unknown : K.lookup cda_Unknown_init = some ⟨ccl_Unknown_init, cdd_Unknown_init, .fields vs_Unknown_init, ccs_Unknown_init⟩) (cv_Unknown : vs_Unknown_init[2]? = some (.str file_Unknown_init tf_Unknown_init)) (cf_Unknown : ((PWX.main.file : Str) == file_Unknown_init) = true) (cc_Unknown : K.lookup cc_Unknown_init = some ⟨cl_Unknown_init, cld_Unknown_init, .cell (some (.ref C_Unknown)), csl_Unknown_init⟩) (sp_Unknown : supB K C_Unknown = true)
    {C_BadKind : Addr} (A_BadKind : PySem.W.nsIn K mainGlobals "BadKind" = some (some (.ref C_BadKind))) (X_BadKind : excB K C_BadKind ["name"] = true)
    {nm_BadKind q_BadKind : Str} {N_BadKind : Addr} {bs_BadKind bm_BadKind sub_BadKind : List Value} {sn_BadKind : List Str} {ab_BadKind : Bool} {col_BadKind : Option Bool} {dd_BadKind : Option Addr} {m0_BadKind m1_BadKind m2_BadKind m3_BadKind m5_BadKind : Option Value} (xL_BadKind : K.lookup C_BadKind = some (PySem.excClassObj nm_BadKind q_BadKind C_BadKind N_BadKind bs_BadKind bm_BadKind true sn_BadKind sub_BadKind ab_BadKind col_BadKind dd_BadKind m0_BadKind m1_BadKind m2_BadKind m3_BadKind m5_BadKind "ValueError.__new__")) (rV_BadKind : PySem.HandSPX.refsVE bm_BadKind = true)
    {f_BadKind_init cda_BadKind_init cc_BadKind_init : Addr} {od_BadKind_init an_BadKind_init cdd_BadKind_init cld_BadKind_init : Option Addr} {sl_BadKind_init ccs_BadKind_init csl_BadKind_init : Array (Option Value)} {vs_BadKind_init : Array Value} {file_BadKind_init : Str} {tf_BadKind_init : Tok} {oc_BadKind_init kV_BadKind_init dc_BadKind_init pm_BadKind_init ct_BadKind_init ccl_BadKind_init cl_BadKind_init : Value}
    (iC_BadKind : PySem.W.findIn K (.ref C_BadKind) "__init__" = some (some (.ref f_BadKind_init))) (tI_BadKind : PySem.W.typeIn K (.ref f_BadKind_init) = some (.type "function"))
    (L_BadKind_init : K.lookup f_BadKind_init = some ⟨oc_BadKind_init, od_BadKind_init, .func (PySem.W.ksFn "__init__" "BadKind.__init__" (defArgs s_BadKind_init) (defBody s_BadKind_init) (defScope s_BadKind_init) .none kV_BadKind_init dc_BadKind_init pm_BadKind_init an_BadKind_init (.ref cda_BadKind_init) ct_BadKind_init cc_BadKind_init), sl_BadKind_init⟩) (cd_BadKind : PySem.W.codeIn K (.ref cda_BadKind_init) "BadKind.__init__" = true)
    (ck_BadKind : K.lookup cda_BadKind_init = some ⟨ccl_BadKind_init, cdd_BadKind_init, .fields vs_BadKind_init, ccs_BadKind_init⟩) (cv_BadKind : vs_BadKind_init[2]? = some (.str file_BadKind_init tf_BadKind_init)) (cf_BadKind : ((PWX.main.file : Str) == file_BadKind_init) = true) (cc_BadKind : K.lookup cc_BadKind_init = some ⟨cl_BadKind_init, cld_BadKind_init, .cell (some (.ref C_BadKind)), csl_BadKind_init⟩) (sp_BadKind : supB K C_BadKind = true)
    {C_WrongKind : Addr} (A_WrongKind : PySem.W.nsIn K mainGlobals "WrongKind" = some (some (.ref C_WrongKind))) (X_WrongKind : excB K C_WrongKind ["function", "place"] = true)
    {nm_WrongKind q_WrongKind : Str} {N_WrongKind : Addr} {bs_WrongKind bm_WrongKind sub_WrongKind : List Value} {sn_WrongKind : List Str} {ab_WrongKind : Bool} {col_WrongKind : Option Bool} {dd_WrongKind : Option Addr} {m0_WrongKind m1_WrongKind m2_WrongKind m3_WrongKind m5_WrongKind : Option Value} (xL_WrongKind : K.lookup C_WrongKind = some (PySem.excClassObj nm_WrongKind q_WrongKind C_WrongKind N_WrongKind bs_WrongKind bm_WrongKind true sn_WrongKind sub_WrongKind ab_WrongKind col_WrongKind dd_WrongKind m0_WrongKind m1_WrongKind m2_WrongKind m3_WrongKind m5_WrongKind "ValueError.__new__")) (rV_WrongKind : PySem.HandSPX.refsVE bm_WrongKind = true)
    {f_WrongKind_init cda_WrongKind_init cc_WrongKind_init : Addr} {od_WrongKind_init an_WrongKind_init cdd_WrongKind_init cld_WrongKind_init : Option Addr} {sl_WrongKind_init ccs_WrongKind_init csl_WrongKind_init : Array (Option Value)} {vs_WrongKind_init : Array Value} {file_WrongKind_init : Str} {tf_WrongKind_init : Tok} {oc_WrongKind_init kV_WrongKind_init dc_WrongKind_init pm_WrongKind_init ct_WrongKind_init ccl_WrongKind_init cl_WrongKind_init : Value}
    (iC_WrongKind : PySem.W.findIn K (.ref C_WrongKind) "__init__" = some (some (.ref f_WrongKind_init))) (tI_WrongKind : PySem.W.typeIn K (.ref f_WrongKind_init) = some (.type "function"))
    (L_WrongKind_init : K.lookup f_WrongKind_init = some ⟨oc_WrongKind_init, od_WrongKind_init, .func (PySem.W.ksFn "__init__" "WrongKind.__init__" (defArgs s_WrongKind_init) (defBody s_WrongKind_init) (defScope s_WrongKind_init) .none kV_WrongKind_init dc_WrongKind_init pm_WrongKind_init an_WrongKind_init (.ref cda_WrongKind_init) ct_WrongKind_init cc_WrongKind_init), sl_WrongKind_init⟩) (cd_WrongKind : PySem.W.codeIn K (.ref cda_WrongKind_init) "WrongKind.__init__" = true)
    (ck_WrongKind : K.lookup cda_WrongKind_init = some ⟨ccl_WrongKind_init, cdd_WrongKind_init, .fields vs_WrongKind_init, ccs_WrongKind_init⟩) (cv_WrongKind : vs_WrongKind_init[2]? = some (.str file_WrongKind_init tf_WrongKind_init)) (cf_WrongKind : ((PWX.main.file : Str) == file_WrongKind_init) = true) (cc_WrongKind : K.lookup cc_WrongKind_init = some ⟨cl_WrongKind_init, cld_WrongKind_init, .cell (some (.ref C_WrongKind)), csl_WrongKind_init⟩) (sp_WrongKind : supB K C_WrongKind = true)
    {C_NoSite : Addr} (A_NoSite : PySem.W.nsIn K mainGlobals "NoSite" = some (some (.ref C_NoSite))) (X_NoSite : excB K C_NoSite ["function", "place", "fault"] = true)
    {nm_NoSite q_NoSite : Str} {N_NoSite : Addr} {bs_NoSite bm_NoSite sub_NoSite : List Value} {sn_NoSite : List Str} {ab_NoSite : Bool} {col_NoSite : Option Bool} {dd_NoSite : Option Addr} {m0_NoSite m1_NoSite m2_NoSite m3_NoSite m5_NoSite : Option Value} (xL_NoSite : K.lookup C_NoSite = some (PySem.excClassObj nm_NoSite q_NoSite C_NoSite N_NoSite bs_NoSite bm_NoSite true sn_NoSite sub_NoSite ab_NoSite col_NoSite dd_NoSite m0_NoSite m1_NoSite m2_NoSite m3_NoSite m5_NoSite "ValueError.__new__")) (rV_NoSite : PySem.HandSPX.refsVE bm_NoSite = true)
    {f_NoSite_init cda_NoSite_init cc_NoSite_init : Addr} {od_NoSite_init an_NoSite_init cdd_NoSite_init cld_NoSite_init : Option Addr} {sl_NoSite_init ccs_NoSite_init csl_NoSite_init : Array (Option Value)} {vs_NoSite_init : Array Value} {file_NoSite_init : Str} {tf_NoSite_init : Tok} {oc_NoSite_init kV_NoSite_init dc_NoSite_init pm_NoSite_init ct_NoSite_init ccl_NoSite_init cl_NoSite_init : Value}
    (iC_NoSite : PySem.W.findIn K (.ref C_NoSite) "__init__" = some (some (.ref f_NoSite_init))) (tI_NoSite : PySem.W.typeIn K (.ref f_NoSite_init) = some (.type "function"))
    (L_NoSite_init : K.lookup f_NoSite_init = some ⟨oc_NoSite_init, od_NoSite_init, .func (PySem.W.ksFn "__init__" "NoSite.__init__" (defArgs s_NoSite_init) (defBody s_NoSite_init) (defScope s_NoSite_init) .none kV_NoSite_init dc_NoSite_init pm_NoSite_init an_NoSite_init (.ref cda_NoSite_init) ct_NoSite_init cc_NoSite_init), sl_NoSite_init⟩) (cd_NoSite : PySem.W.codeIn K (.ref cda_NoSite_init) "NoSite.__init__" = true)
    (ck_NoSite : K.lookup cda_NoSite_init = some ⟨ccl_NoSite_init, cdd_NoSite_init, .fields vs_NoSite_init, ccs_NoSite_init⟩) (cv_NoSite : vs_NoSite_init[2]? = some (.str file_NoSite_init tf_NoSite_init)) (cf_NoSite : ((PWX.main.file : Str) == file_NoSite_init) = true) (cc_NoSite : K.lookup cc_NoSite_init = some ⟨cl_NoSite_init, cld_NoSite_init, .cell (some (.ref C_NoSite)), csl_NoSite_init⟩) (sp_NoSite : supB K C_NoSite = true)
    {C_NoPlace : Addr} (A_NoPlace : PySem.W.nsIn K mainGlobals "NoPlace" = some (some (.ref C_NoPlace))) (X_NoPlace : excB K C_NoPlace ["function", "place"] = true)
    {nm_NoPlace q_NoPlace : Str} {N_NoPlace : Addr} {bs_NoPlace bm_NoPlace sub_NoPlace : List Value} {sn_NoPlace : List Str} {ab_NoPlace : Bool} {col_NoPlace : Option Bool} {dd_NoPlace : Option Addr} {m0_NoPlace m1_NoPlace m2_NoPlace m3_NoPlace m5_NoPlace : Option Value} (xL_NoPlace : K.lookup C_NoPlace = some (PySem.excClassObj nm_NoPlace q_NoPlace C_NoPlace N_NoPlace bs_NoPlace bm_NoPlace true sn_NoPlace sub_NoPlace ab_NoPlace col_NoPlace dd_NoPlace m0_NoPlace m1_NoPlace m2_NoPlace m3_NoPlace m5_NoPlace "ValueError.__new__")) (rV_NoPlace : PySem.HandSPX.refsVE bm_NoPlace = true)
    {f_NoPlace_init cda_NoPlace_init cc_NoPlace_init : Addr} {od_NoPlace_init an_NoPlace_init cdd_NoPlace_init cld_NoPlace_init : Option Addr} {sl_NoPlace_init ccs_NoPlace_init csl_NoPlace_init : Array (Option Value)} {vs_NoPlace_init : Array Value} {file_NoPlace_init : Str} {tf_NoPlace_init : Tok} {oc_NoPlace_init kV_NoPlace_init dc_NoPlace_init pm_NoPlace_init ct_NoPlace_init ccl_NoPlace_init cl_NoPlace_init : Value}
    (iC_NoPlace : PySem.W.findIn K (.ref C_NoPlace) "__init__" = some (some (.ref f_NoPlace_init))) (tI_NoPlace : PySem.W.typeIn K (.ref f_NoPlace_init) = some (.type "function"))
    (L_NoPlace_init : K.lookup f_NoPlace_init = some ⟨oc_NoPlace_init, od_NoPlace_init, .func (PySem.W.ksFn "__init__" "NoPlace.__init__" (defArgs s_NoPlace_init) (defBody s_NoPlace_init) (defScope s_NoPlace_init) .none kV_NoPlace_init dc_NoPlace_init pm_NoPlace_init an_NoPlace_init (.ref cda_NoPlace_init) ct_NoPlace_init cc_NoPlace_init), sl_NoPlace_init⟩) (cd_NoPlace : PySem.W.codeIn K (.ref cda_NoPlace_init) "NoPlace.__init__" = true)
    (ck_NoPlace : K.lookup cda_NoPlace_init = some ⟨ccl_NoPlace_init, cdd_NoPlace_init, .fields vs_NoPlace_init, ccs_NoPlace_init⟩) (cv_NoPlace : vs_NoPlace_init[2]? = some (.str file_NoPlace_init tf_NoPlace_init)) (cf_NoPlace : ((PWX.main.file : Str) == file_NoPlace_init) = true) (cc_NoPlace : K.lookup cc_NoPlace_init = some ⟨cl_NoPlace_init, cld_NoPlace_init, .cell (some (.ref C_NoPlace)), csl_NoPlace_init⟩) (sp_NoPlace : supB K C_NoPlace = true)
    {C_NotAccepted : Addr} (A_NotAccepted : PySem.W.nsIn K mainGlobals "NotAccepted" = some (some (.ref C_NotAccepted))) (X_NotAccepted : excB K C_NotAccepted [] = true)
    {nm_NotAccepted q_NotAccepted : Str} {N_NotAccepted : Addr} {bs_NotAccepted bm_NotAccepted sub_NotAccepted : List Value} {sn_NotAccepted : List Str} {ab_NotAccepted : Bool} {col_NotAccepted : Option Bool} {dd_NotAccepted : Option Addr} {m0_NotAccepted m1_NotAccepted m2_NotAccepted m3_NotAccepted m5_NotAccepted : Option Value} (xL_NotAccepted : K.lookup C_NotAccepted = some (PySem.excClassObj nm_NotAccepted q_NotAccepted C_NotAccepted N_NotAccepted bs_NotAccepted bm_NotAccepted true sn_NotAccepted sub_NotAccepted ab_NotAccepted col_NotAccepted dd_NotAccepted m0_NotAccepted m1_NotAccepted m2_NotAccepted m3_NotAccepted m5_NotAccepted "ValueError.__new__")) (rV_NotAccepted : PySem.HandSPX.refsVE bm_NotAccepted = true)
    {f_NotAccepted_init cda_NotAccepted_init cc_NotAccepted_init : Addr} {od_NotAccepted_init an_NotAccepted_init cdd_NotAccepted_init cld_NotAccepted_init : Option Addr} {sl_NotAccepted_init ccs_NotAccepted_init csl_NotAccepted_init : Array (Option Value)} {vs_NotAccepted_init : Array Value} {file_NotAccepted_init : Str} {tf_NotAccepted_init : Tok} {oc_NotAccepted_init kV_NotAccepted_init dc_NotAccepted_init pm_NotAccepted_init ct_NotAccepted_init ccl_NotAccepted_init cl_NotAccepted_init : Value}
    (iC_NotAccepted : PySem.W.findIn K (.ref C_NotAccepted) "__init__" = some (some (.ref f_NotAccepted_init))) (tI_NotAccepted : PySem.W.typeIn K (.ref f_NotAccepted_init) = some (.type "function"))
    (L_NotAccepted_init : K.lookup f_NotAccepted_init = some ⟨oc_NotAccepted_init, od_NotAccepted_init, .func (PySem.W.ksFn "__init__" "NotAccepted.__init__" (defArgs s_NotAccepted_init) (defBody s_NotAccepted_init) (defScope s_NotAccepted_init) .none kV_NotAccepted_init dc_NotAccepted_init pm_NotAccepted_init an_NotAccepted_init (.ref cda_NotAccepted_init) ct_NotAccepted_init cc_NotAccepted_init), sl_NotAccepted_init⟩) (cd_NotAccepted : PySem.W.codeIn K (.ref cda_NotAccepted_init) "NotAccepted.__init__" = true)
    (ck_NotAccepted : K.lookup cda_NotAccepted_init = some ⟨ccl_NotAccepted_init, cdd_NotAccepted_init, .fields vs_NotAccepted_init, ccs_NotAccepted_init⟩) (cv_NotAccepted : vs_NotAccepted_init[2]? = some (.str file_NotAccepted_init tf_NotAccepted_init)) (cf_NotAccepted : ((PWX.main.file : Str) == file_NotAccepted_init) = true) (cc_NotAccepted : K.lookup cc_NotAccepted_init = some ⟨cl_NotAccepted_init, cld_NotAccepted_init, .cell (some (.ref C_NotAccepted)), csl_NotAccepted_init⟩) (sp_NotAccepted : supB K C_NotAccepted = true)
    {C_BadCertificate : Addr} (A_BadCertificate : PySem.W.nsIn K mainGlobals "BadCertificate" = some (some (.ref C_BadCertificate))) (X_BadCertificate : excB K C_BadCertificate ["line"] = true)
    {nm_BadCertificate q_BadCertificate : Str} {N_BadCertificate : Addr} {bs_BadCertificate bm_BadCertificate sub_BadCertificate : List Value} {sn_BadCertificate : List Str} {ab_BadCertificate : Bool} {col_BadCertificate : Option Bool} {dd_BadCertificate : Option Addr} {m0_BadCertificate m1_BadCertificate m2_BadCertificate m3_BadCertificate m5_BadCertificate : Option Value} (xL_BadCertificate : K.lookup C_BadCertificate = some (PySem.excClassObj nm_BadCertificate q_BadCertificate C_BadCertificate N_BadCertificate bs_BadCertificate bm_BadCertificate true sn_BadCertificate sub_BadCertificate ab_BadCertificate col_BadCertificate dd_BadCertificate m0_BadCertificate m1_BadCertificate m2_BadCertificate m3_BadCertificate m5_BadCertificate "ValueError.__new__")) (rV_BadCertificate : PySem.HandSPX.refsVE bm_BadCertificate = true)
    {f_BadCertificate_init cda_BadCertificate_init cc_BadCertificate_init : Addr} {od_BadCertificate_init an_BadCertificate_init cdd_BadCertificate_init cld_BadCertificate_init : Option Addr} {sl_BadCertificate_init ccs_BadCertificate_init csl_BadCertificate_init : Array (Option Value)} {vs_BadCertificate_init : Array Value} {file_BadCertificate_init : Str} {tf_BadCertificate_init : Tok} {oc_BadCertificate_init kV_BadCertificate_init dc_BadCertificate_init pm_BadCertificate_init ct_BadCertificate_init ccl_BadCertificate_init cl_BadCertificate_init : Value}
    (iC_BadCertificate : PySem.W.findIn K (.ref C_BadCertificate) "__init__" = some (some (.ref f_BadCertificate_init))) (tI_BadCertificate : PySem.W.typeIn K (.ref f_BadCertificate_init) = some (.type "function"))
    (L_BadCertificate_init : K.lookup f_BadCertificate_init = some ⟨oc_BadCertificate_init, od_BadCertificate_init, .func (PySem.W.ksFn "__init__" "BadCertificate.__init__" (defArgs s_BadCertificate_init) (defBody s_BadCertificate_init) (defScope s_BadCertificate_init) .none kV_BadCertificate_init dc_BadCertificate_init pm_BadCertificate_init an_BadCertificate_init (.ref cda_BadCertificate_init) ct_BadCertificate_init cc_BadCertificate_init), sl_BadCertificate_init⟩) (cd_BadCertificate : PySem.W.codeIn K (.ref cda_BadCertificate_init) "BadCertificate.__init__" = true)
    (ck_BadCertificate : K.lookup cda_BadCertificate_init = some ⟨ccl_BadCertificate_init, cdd_BadCertificate_init, .fields vs_BadCertificate_init, ccs_BadCertificate_init⟩) (cv_BadCertificate : vs_BadCertificate_init[2]? = some (.str file_BadCertificate_init tf_BadCertificate_init)) (cf_BadCertificate : ((PWX.main.file : Str) == file_BadCertificate_init) = true) (cc_BadCertificate : K.lookup cc_BadCertificate_init = some ⟨cl_BadCertificate_init, cld_BadCertificate_init, .cell (some (.ref C_BadCertificate)), csl_BadCertificate_init⟩) (sp_BadCertificate : supB K C_BadCertificate = true)
    {C_WrongChange : Addr} (A_WrongChange : PySem.W.nsIn K mainGlobals "WrongChange" = some (some (.ref C_WrongChange))) (X_WrongChange : excB K C_WrongChange ["name"] = true)
    {nm_WrongChange q_WrongChange : Str} {N_WrongChange : Addr} {bs_WrongChange bm_WrongChange sub_WrongChange : List Value} {sn_WrongChange : List Str} {ab_WrongChange : Bool} {col_WrongChange : Option Bool} {dd_WrongChange : Option Addr} {m0_WrongChange m1_WrongChange m2_WrongChange m3_WrongChange m5_WrongChange : Option Value} (xL_WrongChange : K.lookup C_WrongChange = some (PySem.excClassObj nm_WrongChange q_WrongChange C_WrongChange N_WrongChange bs_WrongChange bm_WrongChange true sn_WrongChange sub_WrongChange ab_WrongChange col_WrongChange dd_WrongChange m0_WrongChange m1_WrongChange m2_WrongChange m3_WrongChange m5_WrongChange "ValueError.__new__")) (rV_WrongChange : PySem.HandSPX.refsVE bm_WrongChange = true)
    {f_WrongChange_init cda_WrongChange_init cc_WrongChange_init : Addr} {od_WrongChange_init an_WrongChange_init cdd_WrongChange_init cld_WrongChange_init : Option Addr} {sl_WrongChange_init ccs_WrongChange_init csl_WrongChange_init : Array (Option Value)} {vs_WrongChange_init : Array Value} {file_WrongChange_init : Str} {tf_WrongChange_init : Tok} {oc_WrongChange_init kV_WrongChange_init dc_WrongChange_init pm_WrongChange_init ct_WrongChange_init ccl_WrongChange_init cl_WrongChange_init : Value}
    (iC_WrongChange : PySem.W.findIn K (.ref C_WrongChange) "__init__" = some (some (.ref f_WrongChange_init))) (tI_WrongChange : PySem.W.typeIn K (.ref f_WrongChange_init) = some (.type "function"))
    (L_WrongChange_init : K.lookup f_WrongChange_init = some ⟨oc_WrongChange_init, od_WrongChange_init, .func (PySem.W.ksFn "__init__" "WrongChange.__init__" (defArgs s_WrongChange_init) (defBody s_WrongChange_init) (defScope s_WrongChange_init) .none kV_WrongChange_init dc_WrongChange_init pm_WrongChange_init an_WrongChange_init (.ref cda_WrongChange_init) ct_WrongChange_init cc_WrongChange_init), sl_WrongChange_init⟩) (cd_WrongChange : PySem.W.codeIn K (.ref cda_WrongChange_init) "WrongChange.__init__" = true)
    (ck_WrongChange : K.lookup cda_WrongChange_init = some ⟨ccl_WrongChange_init, cdd_WrongChange_init, .fields vs_WrongChange_init, ccs_WrongChange_init⟩) (cv_WrongChange : vs_WrongChange_init[2]? = some (.str file_WrongChange_init tf_WrongChange_init)) (cf_WrongChange : ((PWX.main.file : Str) == file_WrongChange_init) = true) (cc_WrongChange : K.lookup cc_WrongChange_init = some ⟨cl_WrongChange_init, cld_WrongChange_init, .cell (some (.ref C_WrongChange)), csl_WrongChange_init⟩) (sp_WrongChange : supB K C_WrongChange = true)
    {C_NotPlain : Addr} (A_NotPlain : PySem.W.nsIn K mainGlobals "NotPlain" = some (some (.ref C_NotPlain))) (X_NotPlain : excB K C_NotPlain [] = true)
    {nm_NotPlain q_NotPlain : Str} {N_NotPlain : Addr} {bs_NotPlain bm_NotPlain sub_NotPlain : List Value} {sn_NotPlain : List Str} {ab_NotPlain : Bool} {col_NotPlain : Option Bool} {dd_NotPlain : Option Addr} {m0_NotPlain m1_NotPlain m2_NotPlain m3_NotPlain m5_NotPlain : Option Value} (xL_NotPlain : K.lookup C_NotPlain = some (PySem.excClassObj nm_NotPlain q_NotPlain C_NotPlain N_NotPlain bs_NotPlain bm_NotPlain true sn_NotPlain sub_NotPlain ab_NotPlain col_NotPlain dd_NotPlain m0_NotPlain m1_NotPlain m2_NotPlain m3_NotPlain m5_NotPlain "ValueError.__new__")) (rV_NotPlain : PySem.HandSPX.refsVE bm_NotPlain = true)
    {f_NotPlain_init cda_NotPlain_init cc_NotPlain_init : Addr} {od_NotPlain_init an_NotPlain_init cdd_NotPlain_init cld_NotPlain_init : Option Addr} {sl_NotPlain_init ccs_NotPlain_init csl_NotPlain_init : Array (Option Value)} {vs_NotPlain_init : Array Value} {file_NotPlain_init : Str} {tf_NotPlain_init : Tok} {oc_NotPlain_init kV_NotPlain_init dc_NotPlain_init pm_NotPlain_init ct_NotPlain_init ccl_NotPlain_init cl_NotPlain_init : Value}
    (iC_NotPlain : PySem.W.findIn K (.ref C_NotPlain) "__init__" = some (some (.ref f_NotPlain_init))) (tI_NotPlain : PySem.W.typeIn K (.ref f_NotPlain_init) = some (.type "function"))
    (L_NotPlain_init : K.lookup f_NotPlain_init = some ⟨oc_NotPlain_init, od_NotPlain_init, .func (PySem.W.ksFn "__init__" "NotPlain.__init__" (defArgs s_NotPlain_init) (defBody s_NotPlain_init) (defScope s_NotPlain_init) .none kV_NotPlain_init dc_NotPlain_init pm_NotPlain_init an_NotPlain_init (.ref cda_NotPlain_init) ct_NotPlain_init cc_NotPlain_init), sl_NotPlain_init⟩) (cd_NotPlain : PySem.W.codeIn K (.ref cda_NotPlain_init) "NotPlain.__init__" = true)
    (ck_NotPlain : K.lookup cda_NotPlain_init = some ⟨ccl_NotPlain_init, cdd_NotPlain_init, .fields vs_NotPlain_init, ccs_NotPlain_init⟩) (cv_NotPlain : vs_NotPlain_init[2]? = some (.str file_NotPlain_init tf_NotPlain_init)) (cf_NotPlain : ((PWX.main.file : Str) == file_NotPlain_init) = true) (cc_NotPlain : K.lookup cc_NotPlain_init = some ⟨cl_NotPlain_init, cld_NotPlain_init, .cell (some (.ref C_NotPlain)), csl_NotPlain_init⟩) (sp_NotPlain : supB K C_NotPlain = true)
    {C_BadWitness : Addr} (A_BadWitness : PySem.W.nsIn K mainGlobals "BadWitness" = some (some (.ref C_BadWitness))) (X_BadWitness : excB K C_BadWitness ["line"] = true)
    {nm_BadWitness q_BadWitness : Str} {N_BadWitness : Addr} {bs_BadWitness bm_BadWitness sub_BadWitness : List Value} {sn_BadWitness : List Str} {ab_BadWitness : Bool} {col_BadWitness : Option Bool} {dd_BadWitness : Option Addr} {m0_BadWitness m1_BadWitness m2_BadWitness m3_BadWitness m5_BadWitness : Option Value} (xL_BadWitness : K.lookup C_BadWitness = some (PySem.excClassObj nm_BadWitness q_BadWitness C_BadWitness N_BadWitness bs_BadWitness bm_BadWitness true sn_BadWitness sub_BadWitness ab_BadWitness col_BadWitness dd_BadWitness m0_BadWitness m1_BadWitness m2_BadWitness m3_BadWitness m5_BadWitness "ValueError.__new__")) (rV_BadWitness : PySem.HandSPX.refsVE bm_BadWitness = true)
    {f_BadWitness_init cda_BadWitness_init cc_BadWitness_init : Addr} {od_BadWitness_init an_BadWitness_init cdd_BadWitness_init cld_BadWitness_init : Option Addr} {sl_BadWitness_init ccs_BadWitness_init csl_BadWitness_init : Array (Option Value)} {vs_BadWitness_init : Array Value} {file_BadWitness_init : Str} {tf_BadWitness_init : Tok} {oc_BadWitness_init kV_BadWitness_init dc_BadWitness_init pm_BadWitness_init ct_BadWitness_init ccl_BadWitness_init cl_BadWitness_init : Value}
    (iC_BadWitness : PySem.W.findIn K (.ref C_BadWitness) "__init__" = some (some (.ref f_BadWitness_init))) (tI_BadWitness : PySem.W.typeIn K (.ref f_BadWitness_init) = some (.type "function"))
    (L_BadWitness_init : K.lookup f_BadWitness_init = some ⟨oc_BadWitness_init, od_BadWitness_init, .func (PySem.W.ksFn "__init__" "BadWitness.__init__" (defArgs s_BadWitness_init) (defBody s_BadWitness_init) (defScope s_BadWitness_init) .none kV_BadWitness_init dc_BadWitness_init pm_BadWitness_init an_BadWitness_init (.ref cda_BadWitness_init) ct_BadWitness_init cc_BadWitness_init), sl_BadWitness_init⟩) (cd_BadWitness : PySem.W.codeIn K (.ref cda_BadWitness_init) "BadWitness.__init__" = true)
    (ck_BadWitness : K.lookup cda_BadWitness_init = some ⟨ccl_BadWitness_init, cdd_BadWitness_init, .fields vs_BadWitness_init, ccs_BadWitness_init⟩) (cv_BadWitness : vs_BadWitness_init[2]? = some (.str file_BadWitness_init tf_BadWitness_init)) (cf_BadWitness : ((PWX.main.file : Str) == file_BadWitness_init) = true) (cc_BadWitness : K.lookup cc_BadWitness_init = some ⟨cl_BadWitness_init, cld_BadWitness_init, .cell (some (.ref C_BadWitness)), csl_BadWitness_init⟩) (sp_BadWitness : supB K C_BadWitness = true)
    {C_TooLong : Addr} (A_TooLong : PySem.W.nsIn K mainGlobals "TooLong" = some (some (.ref C_TooLong))) (X_TooLong : excB K C_TooLong ["amount"] = true)
    {nm_TooLong q_TooLong : Str} {N_TooLong : Addr} {bs_TooLong bm_TooLong sub_TooLong : List Value} {sn_TooLong : List Str} {ab_TooLong : Bool} {col_TooLong : Option Bool} {dd_TooLong : Option Addr} {m0_TooLong m1_TooLong m2_TooLong m3_TooLong m5_TooLong : Option Value} (xL_TooLong : K.lookup C_TooLong = some (PySem.excClassObj nm_TooLong q_TooLong C_TooLong N_TooLong bs_TooLong bm_TooLong true sn_TooLong sub_TooLong ab_TooLong col_TooLong dd_TooLong m0_TooLong m1_TooLong m2_TooLong m3_TooLong m5_TooLong "ValueError.__new__")) (rV_TooLong : PySem.HandSPX.refsVE bm_TooLong = true)
    {f_TooLong_init cda_TooLong_init cc_TooLong_init : Addr} {od_TooLong_init an_TooLong_init cdd_TooLong_init cld_TooLong_init : Option Addr} {sl_TooLong_init ccs_TooLong_init csl_TooLong_init : Array (Option Value)} {vs_TooLong_init : Array Value} {file_TooLong_init : Str} {tf_TooLong_init : Tok} {oc_TooLong_init kV_TooLong_init dc_TooLong_init pm_TooLong_init ct_TooLong_init ccl_TooLong_init cl_TooLong_init : Value}
    (iC_TooLong : PySem.W.findIn K (.ref C_TooLong) "__init__" = some (some (.ref f_TooLong_init))) (tI_TooLong : PySem.W.typeIn K (.ref f_TooLong_init) = some (.type "function"))
    (L_TooLong_init : K.lookup f_TooLong_init = some ⟨oc_TooLong_init, od_TooLong_init, .func (PySem.W.ksFn "__init__" "TooLong.__init__" (defArgs s_TooLong_init) (defBody s_TooLong_init) (defScope s_TooLong_init) .none kV_TooLong_init dc_TooLong_init pm_TooLong_init an_TooLong_init (.ref cda_TooLong_init) ct_TooLong_init cc_TooLong_init), sl_TooLong_init⟩) (cd_TooLong : PySem.W.codeIn K (.ref cda_TooLong_init) "TooLong.__init__" = true)
    (ck_TooLong : K.lookup cda_TooLong_init = some ⟨ccl_TooLong_init, cdd_TooLong_init, .fields vs_TooLong_init, ccs_TooLong_init⟩) (cv_TooLong : vs_TooLong_init[2]? = some (.str file_TooLong_init tf_TooLong_init)) (cf_TooLong : ((PWX.main.file : Str) == file_TooLong_init) = true) (cc_TooLong : K.lookup cc_TooLong_init = some ⟨cl_TooLong_init, cld_TooLong_init, .cell (some (.ref C_TooLong)), csl_TooLong_init⟩) (sp_TooLong : supB K C_TooLong = true)
    {C_NothingLoaded : Addr} (A_NothingLoaded : PySem.W.nsIn K mainGlobals "NothingLoaded" = some (some (.ref C_NothingLoaded))) (X_NothingLoaded : excB K C_NothingLoaded [] = true)
    {nm_NothingLoaded q_NothingLoaded : Str} {N_NothingLoaded : Addr} {bs_NothingLoaded bm_NothingLoaded sub_NothingLoaded : List Value} {sn_NothingLoaded : List Str} {ab_NothingLoaded : Bool} {col_NothingLoaded : Option Bool} {dd_NothingLoaded : Option Addr} {m0_NothingLoaded m1_NothingLoaded m2_NothingLoaded m3_NothingLoaded m5_NothingLoaded : Option Value} (xL_NothingLoaded : K.lookup C_NothingLoaded = some (PySem.excClassObj nm_NothingLoaded q_NothingLoaded C_NothingLoaded N_NothingLoaded bs_NothingLoaded bm_NothingLoaded true sn_NothingLoaded sub_NothingLoaded ab_NothingLoaded col_NothingLoaded dd_NothingLoaded m0_NothingLoaded m1_NothingLoaded m2_NothingLoaded m3_NothingLoaded m5_NothingLoaded "ValueError.__new__")) (rV_NothingLoaded : PySem.HandSPX.refsVE bm_NothingLoaded = true)
    {f_NothingLoaded_init cda_NothingLoaded_init cc_NothingLoaded_init : Addr} {od_NothingLoaded_init an_NothingLoaded_init cdd_NothingLoaded_init cld_NothingLoaded_init : Option Addr} {sl_NothingLoaded_init ccs_NothingLoaded_init csl_NothingLoaded_init : Array (Option Value)} {vs_NothingLoaded_init : Array Value} {file_NothingLoaded_init : Str} {tf_NothingLoaded_init : Tok} {oc_NothingLoaded_init kV_NothingLoaded_init dc_NothingLoaded_init pm_NothingLoaded_init ct_NothingLoaded_init ccl_NothingLoaded_init cl_NothingLoaded_init : Value}
    (iC_NothingLoaded : PySem.W.findIn K (.ref C_NothingLoaded) "__init__" = some (some (.ref f_NothingLoaded_init))) (tI_NothingLoaded : PySem.W.typeIn K (.ref f_NothingLoaded_init) = some (.type "function"))
    (L_NothingLoaded_init : K.lookup f_NothingLoaded_init = some ⟨oc_NothingLoaded_init, od_NothingLoaded_init, .func (PySem.W.ksFn "__init__" "NothingLoaded.__init__" (defArgs s_NothingLoaded_init) (defBody s_NothingLoaded_init) (defScope s_NothingLoaded_init) .none kV_NothingLoaded_init dc_NothingLoaded_init pm_NothingLoaded_init an_NothingLoaded_init (.ref cda_NothingLoaded_init) ct_NothingLoaded_init cc_NothingLoaded_init), sl_NothingLoaded_init⟩) (cd_NothingLoaded : PySem.W.codeIn K (.ref cda_NothingLoaded_init) "NothingLoaded.__init__" = true)
    (ck_NothingLoaded : K.lookup cda_NothingLoaded_init = some ⟨ccl_NothingLoaded_init, cdd_NothingLoaded_init, .fields vs_NothingLoaded_init, ccs_NothingLoaded_init⟩) (cv_NothingLoaded : vs_NothingLoaded_init[2]? = some (.str file_NothingLoaded_init tf_NothingLoaded_init)) (cf_NothingLoaded : ((PWX.main.file : Str) == file_NothingLoaded_init) = true) (cc_NothingLoaded : K.lookup cc_NothingLoaded_init = some ⟨cl_NothingLoaded_init, cld_NothingLoaded_init, .cell (some (.ref C_NothingLoaded)), csl_NothingLoaded_init⟩) (sp_NothingLoaded : supB K C_NothingLoaded = true)
    {C_NothingToUndo : Addr} (A_NothingToUndo : PySem.W.nsIn K mainGlobals "NothingToUndo" = some (some (.ref C_NothingToUndo))) (X_NothingToUndo : excB K C_NothingToUndo [] = true)
    {nm_NothingToUndo q_NothingToUndo : Str} {N_NothingToUndo : Addr} {bs_NothingToUndo bm_NothingToUndo sub_NothingToUndo : List Value} {sn_NothingToUndo : List Str} {ab_NothingToUndo : Bool} {col_NothingToUndo : Option Bool} {dd_NothingToUndo : Option Addr} {m0_NothingToUndo m1_NothingToUndo m2_NothingToUndo m3_NothingToUndo m5_NothingToUndo : Option Value} (xL_NothingToUndo : K.lookup C_NothingToUndo = some (PySem.excClassObj nm_NothingToUndo q_NothingToUndo C_NothingToUndo N_NothingToUndo bs_NothingToUndo bm_NothingToUndo true sn_NothingToUndo sub_NothingToUndo ab_NothingToUndo col_NothingToUndo dd_NothingToUndo m0_NothingToUndo m1_NothingToUndo m2_NothingToUndo m3_NothingToUndo m5_NothingToUndo "ValueError.__new__")) (rV_NothingToUndo : PySem.HandSPX.refsVE bm_NothingToUndo = true)
    {f_NothingToUndo_init cda_NothingToUndo_init cc_NothingToUndo_init : Addr} {od_NothingToUndo_init an_NothingToUndo_init cdd_NothingToUndo_init cld_NothingToUndo_init : Option Addr} {sl_NothingToUndo_init ccs_NothingToUndo_init csl_NothingToUndo_init : Array (Option Value)} {vs_NothingToUndo_init : Array Value} {file_NothingToUndo_init : Str} {tf_NothingToUndo_init : Tok} {oc_NothingToUndo_init kV_NothingToUndo_init dc_NothingToUndo_init pm_NothingToUndo_init ct_NothingToUndo_init ccl_NothingToUndo_init cl_NothingToUndo_init : Value}
    (iC_NothingToUndo : PySem.W.findIn K (.ref C_NothingToUndo) "__init__" = some (some (.ref f_NothingToUndo_init))) (tI_NothingToUndo : PySem.W.typeIn K (.ref f_NothingToUndo_init) = some (.type "function"))
    (L_NothingToUndo_init : K.lookup f_NothingToUndo_init = some ⟨oc_NothingToUndo_init, od_NothingToUndo_init, .func (PySem.W.ksFn "__init__" "NothingToUndo.__init__" (defArgs s_NothingToUndo_init) (defBody s_NothingToUndo_init) (defScope s_NothingToUndo_init) .none kV_NothingToUndo_init dc_NothingToUndo_init pm_NothingToUndo_init an_NothingToUndo_init (.ref cda_NothingToUndo_init) ct_NothingToUndo_init cc_NothingToUndo_init), sl_NothingToUndo_init⟩) (cd_NothingToUndo : PySem.W.codeIn K (.ref cda_NothingToUndo_init) "NothingToUndo.__init__" = true)
    (ck_NothingToUndo : K.lookup cda_NothingToUndo_init = some ⟨ccl_NothingToUndo_init, cdd_NothingToUndo_init, .fields vs_NothingToUndo_init, ccs_NothingToUndo_init⟩) (cv_NothingToUndo : vs_NothingToUndo_init[2]? = some (.str file_NothingToUndo_init tf_NothingToUndo_init)) (cf_NothingToUndo : ((PWX.main.file : Str) == file_NothingToUndo_init) = true) (cc_NothingToUndo : K.lookup cc_NothingToUndo_init = some ⟨cl_NothingToUndo_init, cld_NothingToUndo_init, .cell (some (.ref C_NothingToUndo)), csl_NothingToUndo_init⟩) (sp_NothingToUndo : supB K C_NothingToUndo = true)
    {C_BadJournal : Addr} (A_BadJournal : PySem.W.nsIn K mainGlobals "BadJournal" = some (some (.ref C_BadJournal))) (X_BadJournal : excB K C_BadJournal ["position"] = true)
    {nm_BadJournal q_BadJournal : Str} {N_BadJournal : Addr} {bs_BadJournal bm_BadJournal sub_BadJournal : List Value} {sn_BadJournal : List Str} {ab_BadJournal : Bool} {col_BadJournal : Option Bool} {dd_BadJournal : Option Addr} {m0_BadJournal m1_BadJournal m2_BadJournal m3_BadJournal m5_BadJournal : Option Value} (xL_BadJournal : K.lookup C_BadJournal = some (PySem.excClassObj nm_BadJournal q_BadJournal C_BadJournal N_BadJournal bs_BadJournal bm_BadJournal true sn_BadJournal sub_BadJournal ab_BadJournal col_BadJournal dd_BadJournal m0_BadJournal m1_BadJournal m2_BadJournal m3_BadJournal m5_BadJournal "ValueError.__new__")) (rV_BadJournal : PySem.HandSPX.refsVE bm_BadJournal = true)
    {f_BadJournal_init cda_BadJournal_init cc_BadJournal_init : Addr} {od_BadJournal_init an_BadJournal_init cdd_BadJournal_init cld_BadJournal_init : Option Addr} {sl_BadJournal_init ccs_BadJournal_init csl_BadJournal_init : Array (Option Value)} {vs_BadJournal_init : Array Value} {file_BadJournal_init : Str} {tf_BadJournal_init : Tok} {oc_BadJournal_init kV_BadJournal_init dc_BadJournal_init pm_BadJournal_init ct_BadJournal_init ccl_BadJournal_init cl_BadJournal_init : Value}
    (iC_BadJournal : PySem.W.findIn K (.ref C_BadJournal) "__init__" = some (some (.ref f_BadJournal_init))) (tI_BadJournal : PySem.W.typeIn K (.ref f_BadJournal_init) = some (.type "function"))
    (L_BadJournal_init : K.lookup f_BadJournal_init = some ⟨oc_BadJournal_init, od_BadJournal_init, .func (PySem.W.ksFn "__init__" "BadJournal.__init__" (defArgs s_BadJournal_init) (defBody s_BadJournal_init) (defScope s_BadJournal_init) .none kV_BadJournal_init dc_BadJournal_init pm_BadJournal_init an_BadJournal_init (.ref cda_BadJournal_init) ct_BadJournal_init cc_BadJournal_init), sl_BadJournal_init⟩) (cd_BadJournal : PySem.W.codeIn K (.ref cda_BadJournal_init) "BadJournal.__init__" = true)
    (ck_BadJournal : K.lookup cda_BadJournal_init = some ⟨ccl_BadJournal_init, cdd_BadJournal_init, .fields vs_BadJournal_init, ccs_BadJournal_init⟩) (cv_BadJournal : vs_BadJournal_init[2]? = some (.str file_BadJournal_init tf_BadJournal_init)) (cf_BadJournal : ((PWX.main.file : Str) == file_BadJournal_init) = true) (cc_BadJournal : K.lookup cc_BadJournal_init = some ⟨cl_BadJournal_init, cld_BadJournal_init, .cell (some (.ref C_BadJournal)), csl_BadJournal_init⟩) (sp_BadJournal : supB K C_BadJournal = true)
    (kr_NeverError : kitRow K C_NeverError [C_NeverError, C_BadText, C_Twice, C_Unknown, C_BadKind, C_WrongKind, C_NoSite, C_NoPlace, C_NotAccepted, C_BadCertificate, C_WrongChange, C_NotPlain, C_BadWitness, C_TooLong, C_NothingLoaded, C_NothingToUndo, C_BadJournal] = [some true, some false, some false, some false, some false, some false, some false, some false, some false, some false, some false, some false, some false, some false, some false, some false, some false]) (kv_NeverError : PySem.W.kitOne K (.ref C_NeverError) (.type "ValueError") = some true)
    (te_NeverError_BadText : PySem.W.exmOne K (.ref C_NeverError) (.ref C_BadText) = some false)
    (kr_BadText : kitRow K C_BadText [C_NeverError, C_BadText, C_Twice, C_Unknown, C_BadKind, C_WrongKind, C_NoSite, C_NoPlace, C_NotAccepted, C_BadCertificate, C_WrongChange, C_NotPlain, C_BadWitness, C_TooLong, C_NothingLoaded, C_NothingToUndo, C_BadJournal] = [some true, some true, some false, some false, some false, some false, some false, some false, some false, some false, some false, some false, some false, some false, some false, some false, some false]) (kv_BadText : PySem.W.kitOne K (.ref C_BadText) (.type "ValueError") = some true)
    (te_BadText_BadText : PySem.W.exmOne K (.ref C_BadText) (.ref C_BadText) = some true)
    (kr_Twice : kitRow K C_Twice [C_NeverError, C_BadText, C_Twice, C_Unknown, C_BadKind, C_WrongKind, C_NoSite, C_NoPlace, C_NotAccepted, C_BadCertificate, C_WrongChange, C_NotPlain, C_BadWitness, C_TooLong, C_NothingLoaded, C_NothingToUndo, C_BadJournal] = [some true, some false, some true, some false, some false, some false, some false, some false, some false, some false, some false, some false, some false, some false, some false, some false, some false]) (kv_Twice : PySem.W.kitOne K (.ref C_Twice) (.type "ValueError") = some true)
    (te_Twice_BadText : PySem.W.exmOne K (.ref C_Twice) (.ref C_BadText) = some false)
    (kr_Unknown : kitRow K C_Unknown [C_NeverError, C_BadText, C_Twice, C_Unknown, C_BadKind, C_WrongKind, C_NoSite, C_NoPlace, C_NotAccepted, C_BadCertificate, C_WrongChange, C_NotPlain, C_BadWitness, C_TooLong, C_NothingLoaded, C_NothingToUndo, C_BadJournal] = [some true, some false, some false, some true, some false, some false, some false, some false, some false, some false, some false, some false, some false, some false, some false, some false, some false]) (kv_Unknown : PySem.W.kitOne K (.ref C_Unknown) (.type "ValueError") = some true)
    (te_Unknown_BadText : PySem.W.exmOne K (.ref C_Unknown) (.ref C_BadText) = some false)
    (kr_BadKind : kitRow K C_BadKind [C_NeverError, C_BadText, C_Twice, C_Unknown, C_BadKind, C_WrongKind, C_NoSite, C_NoPlace, C_NotAccepted, C_BadCertificate, C_WrongChange, C_NotPlain, C_BadWitness, C_TooLong, C_NothingLoaded, C_NothingToUndo, C_BadJournal] = [some true, some false, some false, some false, some true, some false, some false, some false, some false, some false, some false, some false, some false, some false, some false, some false, some false]) (kv_BadKind : PySem.W.kitOne K (.ref C_BadKind) (.type "ValueError") = some true)
    (te_BadKind_BadText : PySem.W.exmOne K (.ref C_BadKind) (.ref C_BadText) = some false)
    (kr_WrongKind : kitRow K C_WrongKind [C_NeverError, C_BadText, C_Twice, C_Unknown, C_BadKind, C_WrongKind, C_NoSite, C_NoPlace, C_NotAccepted, C_BadCertificate, C_WrongChange, C_NotPlain, C_BadWitness, C_TooLong, C_NothingLoaded, C_NothingToUndo, C_BadJournal] = [some true, some false, some false, some false, some false, some true, some false, some false, some false, some false, some false, some false, some false, some false, some false, some false, some false]) (kv_WrongKind : PySem.W.kitOne K (.ref C_WrongKind) (.type "ValueError") = some true)
    (te_WrongKind_BadText : PySem.W.exmOne K (.ref C_WrongKind) (.ref C_BadText) = some false)
    (kr_NoSite : kitRow K C_NoSite [C_NeverError, C_BadText, C_Twice, C_Unknown, C_BadKind, C_WrongKind, C_NoSite, C_NoPlace, C_NotAccepted, C_BadCertificate, C_WrongChange, C_NotPlain, C_BadWitness, C_TooLong, C_NothingLoaded, C_NothingToUndo, C_BadJournal] = [some true, some false, some false, some false, some false, some false, some true, some false, some false, some false, some false, some false, some false, some false, some false, some false, some false]) (kv_NoSite : PySem.W.kitOne K (.ref C_NoSite) (.type "ValueError") = some true)
    (te_NoSite_BadText : PySem.W.exmOne K (.ref C_NoSite) (.ref C_BadText) = some false)
    (kr_NoPlace : kitRow K C_NoPlace [C_NeverError, C_BadText, C_Twice, C_Unknown, C_BadKind, C_WrongKind, C_NoSite, C_NoPlace, C_NotAccepted, C_BadCertificate, C_WrongChange, C_NotPlain, C_BadWitness, C_TooLong, C_NothingLoaded, C_NothingToUndo, C_BadJournal] = [some true, some false, some false, some false, some false, some false, some false, some true, some false, some false, some false, some false, some false, some false, some false, some false, some false]) (kv_NoPlace : PySem.W.kitOne K (.ref C_NoPlace) (.type "ValueError") = some true)
    (te_NoPlace_BadText : PySem.W.exmOne K (.ref C_NoPlace) (.ref C_BadText) = some false)
    (kr_NotAccepted : kitRow K C_NotAccepted [C_NeverError, C_BadText, C_Twice, C_Unknown, C_BadKind, C_WrongKind, C_NoSite, C_NoPlace, C_NotAccepted, C_BadCertificate, C_WrongChange, C_NotPlain, C_BadWitness, C_TooLong, C_NothingLoaded, C_NothingToUndo, C_BadJournal] = [some true, some false, some false, some false, some false, some false, some false, some false, some true, some false, some false, some false, some false, some false, some false, some false, some false]) (kv_NotAccepted : PySem.W.kitOne K (.ref C_NotAccepted) (.type "ValueError") = some true)
    (te_NotAccepted_BadText : PySem.W.exmOne K (.ref C_NotAccepted) (.ref C_BadText) = some false)
    (kr_BadCertificate : kitRow K C_BadCertificate [C_NeverError, C_BadText, C_Twice, C_Unknown, C_BadKind, C_WrongKind, C_NoSite, C_NoPlace, C_NotAccepted, C_BadCertificate, C_WrongChange, C_NotPlain, C_BadWitness, C_TooLong, C_NothingLoaded, C_NothingToUndo, C_BadJournal] = [some true, some false, some false, some false, some false, some false, some false, some false, some false, some true, some false, some false, some false, some false, some false, some false, some false]) (kv_BadCertificate : PySem.W.kitOne K (.ref C_BadCertificate) (.type "ValueError") = some true)
    (te_BadCertificate_BadText : PySem.W.exmOne K (.ref C_BadCertificate) (.ref C_BadText) = some false)
    (kr_WrongChange : kitRow K C_WrongChange [C_NeverError, C_BadText, C_Twice, C_Unknown, C_BadKind, C_WrongKind, C_NoSite, C_NoPlace, C_NotAccepted, C_BadCertificate, C_WrongChange, C_NotPlain, C_BadWitness, C_TooLong, C_NothingLoaded, C_NothingToUndo, C_BadJournal] = [some true, some false, some false, some false, some false, some false, some false, some false, some false, some false, some true, some false, some false, some false, some false, some false, some false]) (kv_WrongChange : PySem.W.kitOne K (.ref C_WrongChange) (.type "ValueError") = some true)
    (te_WrongChange_BadText : PySem.W.exmOne K (.ref C_WrongChange) (.ref C_BadText) = some false)
    (kr_NotPlain : kitRow K C_NotPlain [C_NeverError, C_BadText, C_Twice, C_Unknown, C_BadKind, C_WrongKind, C_NoSite, C_NoPlace, C_NotAccepted, C_BadCertificate, C_WrongChange, C_NotPlain, C_BadWitness, C_TooLong, C_NothingLoaded, C_NothingToUndo, C_BadJournal] = [some true, some false, some false, some false, some false, some false, some false, some false, some false, some false, some false, some true, some false, some false, some false, some false, some false]) (kv_NotPlain : PySem.W.kitOne K (.ref C_NotPlain) (.type "ValueError") = some true)
    (te_NotPlain_BadText : PySem.W.exmOne K (.ref C_NotPlain) (.ref C_BadText) = some false)
    (kr_BadWitness : kitRow K C_BadWitness [C_NeverError, C_BadText, C_Twice, C_Unknown, C_BadKind, C_WrongKind, C_NoSite, C_NoPlace, C_NotAccepted, C_BadCertificate, C_WrongChange, C_NotPlain, C_BadWitness, C_TooLong, C_NothingLoaded, C_NothingToUndo, C_BadJournal] = [some true, some false, some false, some false, some false, some false, some false, some false, some false, some false, some false, some false, some true, some false, some false, some false, some false]) (kv_BadWitness : PySem.W.kitOne K (.ref C_BadWitness) (.type "ValueError") = some true)
    (te_BadWitness_BadText : PySem.W.exmOne K (.ref C_BadWitness) (.ref C_BadText) = some false)
    (kr_TooLong : kitRow K C_TooLong [C_NeverError, C_BadText, C_Twice, C_Unknown, C_BadKind, C_WrongKind, C_NoSite, C_NoPlace, C_NotAccepted, C_BadCertificate, C_WrongChange, C_NotPlain, C_BadWitness, C_TooLong, C_NothingLoaded, C_NothingToUndo, C_BadJournal] = [some true, some false, some false, some false, some false, some false, some false, some false, some false, some false, some false, some false, some false, some true, some false, some false, some false]) (kv_TooLong : PySem.W.kitOne K (.ref C_TooLong) (.type "ValueError") = some true)
    (te_TooLong_BadText : PySem.W.exmOne K (.ref C_TooLong) (.ref C_BadText) = some false)
    (kr_NothingLoaded : kitRow K C_NothingLoaded [C_NeverError, C_BadText, C_Twice, C_Unknown, C_BadKind, C_WrongKind, C_NoSite, C_NoPlace, C_NotAccepted, C_BadCertificate, C_WrongChange, C_NotPlain, C_BadWitness, C_TooLong, C_NothingLoaded, C_NothingToUndo, C_BadJournal] = [some true, some false, some false, some false, some false, some false, some false, some false, some false, some false, some false, some false, some false, some false, some true, some false, some false]) (kv_NothingLoaded : PySem.W.kitOne K (.ref C_NothingLoaded) (.type "ValueError") = some true)
    (te_NothingLoaded_BadText : PySem.W.exmOne K (.ref C_NothingLoaded) (.ref C_BadText) = some false)
    (kr_NothingToUndo : kitRow K C_NothingToUndo [C_NeverError, C_BadText, C_Twice, C_Unknown, C_BadKind, C_WrongKind, C_NoSite, C_NoPlace, C_NotAccepted, C_BadCertificate, C_WrongChange, C_NotPlain, C_BadWitness, C_TooLong, C_NothingLoaded, C_NothingToUndo, C_BadJournal] = [some true, some false, some false, some false, some false, some false, some false, some false, some false, some false, some false, some false, some false, some false, some false, some true, some false]) (kv_NothingToUndo : PySem.W.kitOne K (.ref C_NothingToUndo) (.type "ValueError") = some true)
    (te_NothingToUndo_BadText : PySem.W.exmOne K (.ref C_NothingToUndo) (.ref C_BadText) = some false)
    (kr_BadJournal : kitRow K C_BadJournal [C_NeverError, C_BadText, C_Twice, C_Unknown, C_BadKind, C_WrongKind, C_NoSite, C_NoPlace, C_NotAccepted, C_BadCertificate, C_WrongChange, C_NotPlain, C_BadWitness, C_TooLong, C_NothingLoaded, C_NothingToUndo, C_BadJournal] = [some true, some false, some false, some false, some false, some false, some false, some false, some false, some false, some false, some false, some false, some false, some false, some false, some true]) (kv_BadJournal : PySem.W.kitOne K (.ref C_BadJournal) (.type "ValueError") = some true)
    (te_BadJournal_BadText : PySem.W.exmOne K (.ref C_BadJournal) (.ref C_BadText) = some false)
    {u_LETTERS : Value} (A_LETTERS : PySem.W.nsIn K mainGlobals "LETTERS" = some (some u_LETTERS)) (U_LETTERS : ∃ t, u_LETTERS = .str "abcdefghijklmnopqrstuvwxyz" t)
    {u_DIGITS : Value} (A_DIGITS : PySem.W.nsIn K mainGlobals "DIGITS" = some (some u_DIGITS)) (U_DIGITS : ∃ t, u_DIGITS = .str "0123456789" t)
    {u_MOST_DIGITS : Value} (A_MOST_DIGITS : PySem.W.nsIn K mainGlobals "MOST_DIGITS" = some (some u_MOST_DIGITS)) (U_MOST_DIGITS : ∃ t, u_MOST_DIGITS = .int 4000 t)
    {r_RESERVED : Addr} {dd_RESERVED : Option Addr} {its_RESERVED : Array Value} {n_RESERVED : Nat} {sl_RESERVED : Array (Option Value)} (A_RESERVED : PySem.W.nsIn K mainGlobals "RESERVED" = some (some (.ref r_RESERVED))) (R_RESERVED : K.lookup r_RESERVED = some ⟨.type "tuple", dd_RESERVED, .seq its_RESERVED n_RESERVED, sl_RESERVED⟩) (V_RESERVED : isStrs ["record", "end", "array", "global", "def", "var", "flag", "input", "new", "free", "return", "if", "else", "while", "break", "assert", "null", "true", "false", "not", "and", "or", "same", "result"] its_RESERVED.toList = true)
    {r_OPERATORS : Addr} {dd_OPERATORS : Option Addr} {its_OPERATORS : Array Value} {n_OPERATORS : Nat} {sl_OPERATORS : Array (Option Value)} (A_OPERATORS : PySem.W.nsIn K mainGlobals "OPERATORS" = some (some (.ref r_OPERATORS))) (R_OPERATORS : K.lookup r_OPERATORS = some ⟨.type "tuple", dd_OPERATORS, .seq its_OPERATORS n_OPERATORS, sl_OPERATORS⟩) (V_OPERATORS : isStrs ["+", "-", "*", "<", "<=", "==", "!=", "same", "and", "or"] its_OPERATORS.toList = true)
    {u_NEGATION : Value} (A_NEGATION : PySem.W.nsIn K mainGlobals "NEGATION" = some (some u_NEGATION)) (U_NEGATION : ∃ t, u_NEGATION = .str "(not " t)
    (Z_ValueError : PySem.W.nsIn K mainGlobals "ValueError" = some none)
    (Z_all : PySem.W.nsIn K mainGlobals "all" = some none)
    (Z_bool : PySem.W.nsIn K mainGlobals "bool" = some none)
    (Z_int : PySem.W.nsIn K mainGlobals "int" = some none)
    (Z_isinstance : PySem.W.nsIn K mainGlobals "isinstance" = some none)
    (Z_len : PySem.W.nsIn K mainGlobals "len" = some none)
    (Z_list : PySem.W.nsIn K mainGlobals "list" = some none)
    (Z_max : PySem.W.nsIn K mainGlobals "max" = some none)
    (Z_min : PySem.W.nsIn K mainGlobals "min" = some none)
    (Z_range : PySem.W.nsIn K mainGlobals "range" = some none)
    (Z_str : PySem.W.nsIn K mainGlobals "str" = some none)
    (Z_super : PySem.W.nsIn K mainGlobals "super" = some none)
    (Z_tuple : PySem.W.nsIn K mainGlobals "tuple" = some none) :
    ∃ fd : FuncData, (∀ (s : Shared) (v : Value), BindsTo s fd ⟨[v], []⟩ [("_law_script", v)]) ∧ ∀ base : Heap, K.In base → base.Ns mainGlobals mg → FnOk PWX w K mg base CX0 52 fa fd ["_law_script"] (spLaw K) := by
  have e := hfa.symm.trans (PySem.W.mg_of X G A_law)
  cases e
  let T : Txt w K mg := {
    a_consists_of := f_consists_of, d_consists_of := _, F_consists_of := fun_mk (st := s_consists_of) L_consists_of C_consists_of K_consists_of, b_consists_of := (fun_mk (st := s_consists_of) L_consists_of C_consists_of K_consists_of).binds (ps := p_consists_of) (fun _ _ _ _ _ _ us hl => match us, hl with | [_, _], _ => rfl), m_consists_of := PySem.W.mg_of X G A_consists_of,
    a_is_name := f_is_name, d_is_name := _, F_is_name := fun_mk (st := s_is_name) L_is_name C_is_name K_is_name, b_is_name := (fun_mk (st := s_is_name) L_is_name C_is_name K_is_name).binds (ps := p_is_name) (fun _ _ _ _ _ _ us hl => match us, hl with | [_], _ => rfl), m_is_name := PySem.W.mg_of X G A_is_name,
    a_number_of := f_number_of, d_number_of := _, F_number_of := (fund_mk (st := s_number_of) L_number_of R_number_of (isVs_vals W_number_of) (by decide) C_number_of K_number_of), b_number_of := FunD.binds1 (fund_mk (st := s_number_of) L_number_of R_number_of (isVs_vals W_number_of) (by decide) C_number_of K_number_of) 2 1 (by decide) rfl (fun T kV doc pm an cdv ct us its h1 h2 => match us, its, h1, h2 with | [_, _], [_], _, _ => ⟨_, rfl, rfl⟩), e_number_of := FunD.binds1 (fund_mk (st := s_number_of) L_number_of R_number_of (isVs_vals W_number_of) (by decide) C_number_of K_number_of) 1 0 (by decide) rfl (fun T kV doc pm an cdv ct us its h1 h2 => match us, its, h1, h2 with | [_], [_], _, _ => ⟨_, rfl, rfl⟩), m_number_of := PySem.W.mg_of X G A_number_of,
    a_atom_of := f_atom_of, d_atom_of := _, F_atom_of := fun_mk (st := s_atom_of) L_atom_of C_atom_of K_atom_of, b_atom_of := (fun_mk (st := s_atom_of) L_atom_of C_atom_of K_atom_of).binds (ps := p_atom_of) (fun _ _ _ _ _ _ us hl => match us, hl with | [_], _ => rfl), m_atom_of := PySem.W.mg_of X G A_atom_of,
    a_open_brackets := f_open_brackets, d_open_brackets := _, F_open_brackets := fun_mk (st := s_open_brackets) L_open_brackets C_open_brackets K_open_brackets, b_open_brackets := (fun_mk (st := s_open_brackets) L_open_brackets C_open_brackets K_open_brackets).binds (ps := p_open_brackets) (fun _ _ _ _ _ _ us hl => match us, hl with | [_, _, _], _ => rfl), m_open_brackets := PySem.W.mg_of X G A_open_brackets,
    a_word_end := f_word_end, d_word_end := _, F_word_end := fun_mk (st := s_word_end) L_word_end C_word_end K_word_end, b_word_end := (fun_mk (st := s_word_end) L_word_end C_word_end K_word_end).binds (ps := p_word_end) (fun _ _ _ _ _ _ us hl => match us, hl with | [_, _], _ => rfl), m_word_end := PySem.W.mg_of X G A_word_end,
    a_close_brackets := f_close_brackets, d_close_brackets := _, F_close_brackets := fun_mk (st := s_close_brackets) L_close_brackets C_close_brackets K_close_brackets, b_close_brackets := (fun_mk (st := s_close_brackets) L_close_brackets C_close_brackets K_close_brackets).binds (ps := p_close_brackets) (fun _ _ _ _ _ _ us hl => match us, hl with | [_, _, _, _], _ => rfl), m_close_brackets := PySem.W.mg_of X G A_close_brackets,
    a_operator_end := f_operator_end, d_operator_end := _, F_operator_end := fun_mk (st := s_operator_end) L_operator_end C_operator_end K_operator_end, b_operator_end := (fun_mk (st := s_operator_end) L_operator_end C_operator_end K_operator_end).binds (ps := p_operator_end) (fun _ _ _ _ _ _ us hl => match us, hl with | [_, _], _ => rfl), m_operator_end := PySem.W.mg_of X G A_operator_end,
    a_scan_expression := f_scan_expression, d_scan_expression := _, F_scan_expression := fun_mk (st := s_scan_expression) L_scan_expression C_scan_expression K_scan_expression, b_scan_expression := (fun_mk (st := s_scan_expression) L_scan_expression C_scan_expression K_scan_expression).binds (ps := p_scan_expression) (fun _ _ _ _ _ _ us hl => match us, hl with | [_], _ => rfl), m_scan_expression := PySem.W.mg_of X G A_scan_expression,
    a_read_expression := f_read_expression, d_read_expression := _, F_read_expression := fun_mk (st := s_read_expression) L_read_expression C_read_expression K_read_expression, b_read_expression := (fun_mk (st := s_read_expression) L_read_expression C_read_expression K_read_expression).binds (ps := p_read_expression) (fun _ _ _ _ _ _ us hl => match us, hl with | [_], _ => rfl), m_read_expression := PySem.W.mg_of X G A_read_expression,
    a_l_cell := f_l_cell, d_l_cell := _, F_l_cell := fun_mk (st := s_l_cell) L_l_cell C_l_cell K_l_cell, b_l_cell := (fun_mk (st := s_l_cell) L_l_cell C_l_cell K_l_cell).binds (ps := p_l_cell) (fun _ _ _ _ _ _ us hl => match us, hl with | [_, _], _ => rfl), m_l_cell := PySem.W.mg_of X G A_l_cell,
    a_l_source := f_l_source, d_l_source := _, F_l_source := fun_mk (st := s_l_source) L_l_source C_l_source K_l_source, b_l_source := (fun_mk (st := s_l_source) L_l_source C_l_source K_l_source).binds (ps := p_l_source) (fun _ _ _ _ _ _ us hl => match us, hl with | [_], _ => rfl), m_l_source := PySem.W.mg_of X G A_l_source,
    a_l_pick := f_l_pick, d_l_pick := _, F_l_pick := fun_mk (st := s_l_pick) L_l_pick C_l_pick K_l_pick, b_l_pick := (fun_mk (st := s_l_pick) L_l_pick C_l_pick K_l_pick).binds (ps := p_l_pick) (fun _ _ _ _ _ _ us hl => match us, hl with | [_, _], _ => rfl), m_l_pick := PySem.W.mg_of X G A_l_pick,
    a_l_one := f_l_one, d_l_one := _, F_l_one := fun_mk (st := s_l_one) L_l_one C_l_one K_l_one, b_l_one := (fun_mk (st := s_l_one) L_l_one C_l_one K_l_one).binds (ps := p_l_one) (fun _ _ _ _ _ _ us hl => match us, hl with | [_, _], _ => rfl), m_l_one := PySem.W.mg_of X G A_l_one,
    a_l_reserved := f_l_reserved, d_l_reserved := _, F_l_reserved := fun_mk (st := s_l_reserved) L_l_reserved C_l_reserved K_l_reserved, b_l_reserved := (fun_mk (st := s_l_reserved) L_l_reserved C_l_reserved K_l_reserved).binds (ps := p_l_reserved) (fun _ _ _ _ _ _ us hl => match us, hl with | [], _ => rfl), m_l_reserved := PySem.W.mg_of X G A_l_reserved,
    a_l_name := f_l_name, d_l_name := _, F_l_name := fun_mk (st := s_l_name) L_l_name C_l_name K_l_name, b_l_name := (fun_mk (st := s_l_name) L_l_name C_l_name K_l_name).binds (ps := p_l_name) (fun _ _ _ _ _ _ us hl => match us, hl with | [_, _], _ => rfl), m_l_name := PySem.W.mg_of X G A_l_name,
    a_l_word := f_l_word, d_l_word := _, F_l_word := fun_mk (st := s_l_word) L_l_word C_l_word K_l_word, b_l_word := (fun_mk (st := s_l_word) L_l_word C_l_word K_l_word).binds (ps := p_l_word) (fun _ _ _ _ _ _ us hl => match us, hl with | [_, _], _ => rfl), m_l_word := PySem.W.mg_of X G A_l_word,
    a_l_number := f_l_number, d_l_number := _, F_l_number := fun_mk (st := s_l_number) L_l_number C_l_number K_l_number, b_l_number := (fun_mk (st := s_l_number) L_l_number C_l_number K_l_number).binds (ps := p_l_number) (fun _ _ _ _ _ _ us hl => match us, hl with | [_, _], _ => rfl), m_l_number := PySem.W.mg_of X G A_l_number,
    a_l_node := f_l_node, d_l_node := _, F_l_node := fun_mk (st := s_l_node) L_l_node C_l_node K_l_node, b_l_node := (fun_mk (st := s_l_node) L_l_node C_l_node K_l_node).binds (ps := p_l_node) (fun _ _ _ _ _ _ us hl => match us, hl with | [_, _, _, _], _ => rfl), m_l_node := PySem.W.mg_of X G A_l_node,
    a_l_expression := f_l_expression, d_l_expression := _, F_l_expression := fun_mk (st := s_l_expression) L_l_expression C_l_expression K_l_expression, b_l_expression := (fun_mk (st := s_l_expression) L_l_expression C_l_expression K_l_expression).binds (ps := p_l_expression) (fun _ _ _ _ _ _ us hl => match us, hl with | [_, _, _], _ => rfl), m_l_expression := PySem.W.mg_of X G A_l_expression,
    a_l_text := f_l_text, d_l_text := _, F_l_text := fun_mk (st := s_l_text) L_l_text C_l_text K_l_text, b_l_text := (fun_mk (st := s_l_text) L_l_text C_l_text K_l_text).binds (ps := p_l_text) (fun _ _ _ _ _ _ us hl => match us, hl with | [_], _ => rfl), m_l_text := PySem.W.mg_of X G A_l_text,
    a_l_same := f_l_same, d_l_same := _, F_l_same := fun_mk (st := s_l_same) L_l_same C_l_same K_l_same, b_l_same := (fun_mk (st := s_l_same) L_l_same C_l_same K_l_same).binds (ps := p_l_same) (fun _ _ _ _ _ _ us hl => match us, hl with | [_, _], _ => rfl), m_l_same := PySem.W.mg_of X G A_l_same,
    a_l_is_name := f_l_is_name, d_l_is_name := _, F_l_is_name := fun_mk (st := s_l_is_name) L_l_is_name C_l_is_name K_l_is_name, b_l_is_name := (fun_mk (st := s_l_is_name) L_l_is_name C_l_is_name K_l_is_name).binds (ps := p_l_is_name) (fun _ _ _ _ _ _ us hl => match us, hl with | [_], _ => rfl), m_l_is_name := PySem.W.mg_of X G A_l_is_name,
    a_l_is_number := f_l_is_number, d_l_is_number := _, F_l_is_number := fun_mk (st := s_l_is_number) L_l_is_number C_l_is_number K_l_is_number, b_l_is_number := (fun_mk (st := s_l_is_number) L_l_is_number C_l_is_number K_l_is_number).binds (ps := p_l_is_number) (fun _ _ _ _ _ _ us hl => match us, hl with | [_], _ => rfl), m_l_is_number := PySem.W.mg_of X G A_l_is_number,
    a_l_atom_end := f_l_atom_end, d_l_atom_end := _, F_l_atom_end := fun_mk (st := s_l_atom_end) L_l_atom_end C_l_atom_end K_l_atom_end, b_l_atom_end := (fun_mk (st := s_l_atom_end) L_l_atom_end C_l_atom_end K_l_atom_end).binds (ps := p_l_atom_end) (fun _ _ _ _ _ _ us hl => match us, hl with | [_, _], _ => rfl), m_l_atom_end := PySem.W.mg_of X G A_l_atom_end,
    a_l_atom := f_l_atom, d_l_atom := _, F_l_atom := fun_mk (st := s_l_atom) L_l_atom C_l_atom K_l_atom, b_l_atom := (fun_mk (st := s_l_atom) L_l_atom C_l_atom K_l_atom).binds (ps := p_l_atom) (fun _ _ _ _ _ _ us hl => match us, hl with | [_, _], _ => rfl), m_l_atom := PySem.W.mg_of X G A_l_atom,
    a_l_read := f_l_read, d_l_read := _, F_l_read := fun_mk (st := s_l_read) L_l_read C_l_read K_l_read, b_l_read := (fun_mk (st := s_l_read) L_l_read C_l_read K_l_read).binds (ps := p_l_read) (fun _ _ _ _ _ _ us hl => match us, hl with | [_, _, _], _ => rfl), m_l_read := PySem.W.mg_of X G A_l_read,
    a_l_sign := f_l_sign, d_l_sign := _, F_l_sign := fun_mk (st := s_l_sign) L_l_sign C_l_sign K_l_sign, b_l_sign := (fun_mk (st := s_l_sign) L_l_sign C_l_sign K_l_sign).binds (ps := p_l_sign) (fun _ _ _ _ _ _ us hl => match us, hl with | [_], _ => rfl), m_l_sign := PySem.W.mg_of X G A_l_sign,
    a_l_changed := f_l_changed, d_l_changed := _, F_l_changed := fun_mk (st := s_l_changed) L_l_changed C_l_changed K_l_changed, b_l_changed := (fun_mk (st := s_l_changed) L_l_changed C_l_changed K_l_changed).binds (ps := p_l_changed) (fun _ _ _ _ _ _ us hl => match us, hl with | [_, _], _ => rfl), m_l_changed := PySem.W.mg_of X G A_l_changed,
    a_l_near := f_l_near, d_l_near := _, F_l_near := fun_mk (st := s_l_near) L_l_near C_l_near K_l_near, b_l_near := (fun_mk (st := s_l_near) L_l_near C_l_near K_l_near).binds (ps := p_l_near) (fun _ _ _ _ _ _ us hl => match us, hl with | [_, _], _ => rfl), m_l_near := PySem.W.mg_of X G A_l_near,
    a_l_with_reserved := f_l_with_reserved, d_l_with_reserved := _, F_l_with_reserved := fun_mk (st := s_l_with_reserved) L_l_with_reserved C_l_with_reserved K_l_with_reserved, b_l_with_reserved := (fun_mk (st := s_l_with_reserved) L_l_with_reserved C_l_with_reserved K_l_with_reserved).binds (ps := p_l_with_reserved) (fun _ _ _ _ _ _ us hl => match us, hl with | [_], _ => rfl), m_l_with_reserved := PySem.W.mg_of X G A_l_with_reserved,
    a_l_row := f_l_row, d_l_row := _, F_l_row := fun_mk (st := s_l_row) L_l_row C_l_row K_l_row, b_l_row := (fun_mk (st := s_l_row) L_l_row C_l_row K_l_row).binds (ps := p_l_row) (fun _ _ _ _ _ _ us hl => match us, hl with | [_], _ => rfl), m_l_row := PySem.W.mg_of X G A_l_row,
    a_l_asked := f_l_asked, d_l_asked := _, F_l_asked := fun_mk (st := s_l_asked) L_l_asked C_l_asked K_l_asked, b_l_asked := (fun_mk (st := s_l_asked) L_l_asked C_l_asked K_l_asked).binds (ps := p_l_asked) (fun _ _ _ _ _ _ us hl => match us, hl with | [_], _ => rfl), m_l_asked := PySem.W.mg_of X G A_l_asked,
    a_l_due := f_l_due, d_l_due := _, F_l_due := fun_mk (st := s_l_due) L_l_due C_l_due K_l_due, b_l_due := (fun_mk (st := s_l_due) L_l_due C_l_due K_l_due).binds (ps := p_l_due) (fun _ _ _ _ _ _ us hl => match us, hl with | [_], _ => rfl), m_l_due := PySem.W.mg_of X G A_l_due,
    a_law := fa, d_law := _, F_law := fun_mk (st := s_law) L_law C_law K_law, b_law := (fun_mk (st := s_law) L_law C_law K_law).binds (ps := p_law) (fun _ _ _ _ _ _ us hl => match us, hl with | [_], _ => rfl), m_law := PySem.W.mg_of X G A_law,
    C_NeverError := C_NeverError, mgc_NeverError := PySem.W.mg_of X G A_NeverError, xb_NeverError := excB_ok X_NeverError,
    C_BadText := C_BadText, mgc_BadText := PySem.W.mg_of X G A_BadText, xb_BadText := excB_ok X_BadText,
    ox_BadText := ⟨⟨_, _, _, _, _, _, _, _, _, _, _, _, _, _, _, xL_BadText, rV_BadText⟩, (excB_ok X_BadText).sa, (excB_ok X_BadText).ec.hs, (excB_ok X_BadText).ty, (excB_ok X_BadText).kp⟩, a_BadText_init := f_BadText_init, d_BadText_init := _, I_BadText := ⟨⟨_, _, _, _, _, _, _, _, _, _, _, _, _, _, _, _, _, _, _, rfl, L_BadText_init, cd_BadText, ck_BadText, cv_BadText, cf_BadText, cc_BadText⟩, iC_BadText, tI_BadText, supB_ok sp_BadText⟩,
    b_BadText_init := IniF.binds (P := PWX) (C := C_BadText) ⟨⟨_, _, _, _, _, _, _, _, _, _, _, _, _, _, _, _, _, _, _, rfl, L_BadText_init, cd_BadText, ck_BadText, cv_BadText, cf_BadText, cc_BadText⟩, iC_BadText, tI_BadText, supB_ok sp_BadText⟩ (fun _ _ _ _ _ _ _ us hl => match us, hl with | [_, _], _ => rfl),
    C_Twice := C_Twice, mgc_Twice := PySem.W.mg_of X G A_Twice, xb_Twice := excB_ok X_Twice,
    ox_Twice := ⟨⟨_, _, _, _, _, _, _, _, _, _, _, _, _, _, _, xL_Twice, rV_Twice⟩, (excB_ok X_Twice).sa, (excB_ok X_Twice).ec.hs, (excB_ok X_Twice).ty, (excB_ok X_Twice).kp⟩, a_Twice_init := f_Twice_init, d_Twice_init := _, I_Twice := ⟨⟨_, _, _, _, _, _, _, _, _, _, _, _, _, _, _, _, _, _, _, rfl, L_Twice_init, cd_Twice, ck_Twice, cv_Twice, cf_Twice, cc_Twice⟩, iC_Twice, tI_Twice, supB_ok sp_Twice⟩,
    b_Twice_init := IniF.binds (P := PWX) (C := C_Twice) ⟨⟨_, _, _, _, _, _, _, _, _, _, _, _, _, _, _, _, _, _, _, rfl, L_Twice_init, cd_Twice, ck_Twice, cv_Twice, cf_Twice, cc_Twice⟩, iC_Twice, tI_Twice, supB_ok sp_Twice⟩ (fun _ _ _ _ _ _ _ us hl => match us, hl with | [_, _], _ => rfl),
    C_Unknown := C_Unknown, mgc_Unknown := PySem.W.mg_of X G A_Unknown, xb_Unknown := excB_ok X_Unknown,
    ox_Unknown := ⟨⟨_, _, _, _, _, _, _, _, _, _, _, _, _, _, _, xL_Unknown, rV_Unknown⟩, (excB_ok X_Unknown).sa, (excB_ok X_Unknown).ec.hs, (excB_ok X_Unknown).ty, (excB_ok X_Unknown).kp⟩, a_Unknown_init := f_Unknown_init, d_Unknown_init := _, I_Unknown := ⟨⟨_, _, _, _, _, _, _, _, _, _, _, _, _, _, _, _, _, _, _, rfl, L_Unknown_init, cd_Unknown, ck_Unknown, cv_Unknown, cf_Unknown, cc_Unknown⟩, iC_Unknown, tI_Unknown, supB_ok sp_Unknown⟩,
    b_Unknown_init := IniF.binds (P := PWX) (C := C_Unknown) ⟨⟨_, _, _, _, _, _, _, _, _, _, _, _, _, _, _, _, _, _, _, rfl, L_Unknown_init, cd_Unknown, ck_Unknown, cv_Unknown, cf_Unknown, cc_Unknown⟩, iC_Unknown, tI_Unknown, supB_ok sp_Unknown⟩ (fun _ _ _ _ _ _ _ us hl => match us, hl with | [_, _], _ => rfl),
    C_BadKind := C_BadKind, mgc_BadKind := PySem.W.mg_of X G A_BadKind, xb_BadKind := excB_ok X_BadKind,
    ox_BadKind := ⟨⟨_, _, _, _, _, _, _, _, _, _, _, _, _, _, _, xL_BadKind, rV_BadKind⟩, (excB_ok X_BadKind).sa, (excB_ok X_BadKind).ec.hs, (excB_ok X_BadKind).ty, (excB_ok X_BadKind).kp⟩, a_BadKind_init := f_BadKind_init, d_BadKind_init := _, I_BadKind := ⟨⟨_, _, _, _, _, _, _, _, _, _, _, _, _, _, _, _, _, _, _, rfl, L_BadKind_init, cd_BadKind, ck_BadKind, cv_BadKind, cf_BadKind, cc_BadKind⟩, iC_BadKind, tI_BadKind, supB_ok sp_BadKind⟩,
    b_BadKind_init := IniF.binds (P := PWX) (C := C_BadKind) ⟨⟨_, _, _, _, _, _, _, _, _, _, _, _, _, _, _, _, _, _, _, rfl, L_BadKind_init, cd_BadKind, ck_BadKind, cv_BadKind, cf_BadKind, cc_BadKind⟩, iC_BadKind, tI_BadKind, supB_ok sp_BadKind⟩ (fun _ _ _ _ _ _ _ us hl => match us, hl with | [_, _], _ => rfl),
    C_WrongKind := C_WrongKind, mgc_WrongKind := PySem.W.mg_of X G A_WrongKind, xb_WrongKind := excB_ok X_WrongKind,
    ox_WrongKind := ⟨⟨_, _, _, _, _, _, _, _, _, _, _, _, _, _, _, xL_WrongKind, rV_WrongKind⟩, (excB_ok X_WrongKind).sa, (excB_ok X_WrongKind).ec.hs, (excB_ok X_WrongKind).ty, (excB_ok X_WrongKind).kp⟩, a_WrongKind_init := f_WrongKind_init, d_WrongKind_init := _, I_WrongKind := ⟨⟨_, _, _, _, _, _, _, _, _, _, _, _, _, _, _, _, _, _, _, rfl, L_WrongKind_init, cd_WrongKind, ck_WrongKind, cv_WrongKind, cf_WrongKind, cc_WrongKind⟩, iC_WrongKind, tI_WrongKind, supB_ok sp_WrongKind⟩,
    b_WrongKind_init := IniF.binds (P := PWX) (C := C_WrongKind) ⟨⟨_, _, _, _, _, _, _, _, _, _, _, _, _, _, _, _, _, _, _, rfl, L_WrongKind_init, cd_WrongKind, ck_WrongKind, cv_WrongKind, cf_WrongKind, cc_WrongKind⟩, iC_WrongKind, tI_WrongKind, supB_ok sp_WrongKind⟩ (fun _ _ _ _ _ _ _ us hl => match us, hl with | [_, _, _], _ => rfl),
    C_NoSite := C_NoSite, mgc_NoSite := PySem.W.mg_of X G A_NoSite, xb_NoSite := excB_ok X_NoSite,
    ox_NoSite := ⟨⟨_, _, _, _, _, _, _, _, _, _, _, _, _, _, _, xL_NoSite, rV_NoSite⟩, (excB_ok X_NoSite).sa, (excB_ok X_NoSite).ec.hs, (excB_ok X_NoSite).ty, (excB_ok X_NoSite).kp⟩, a_NoSite_init := f_NoSite_init, d_NoSite_init := _, I_NoSite := ⟨⟨_, _, _, _, _, _, _, _, _, _, _, _, _, _, _, _, _, _, _, rfl, L_NoSite_init, cd_NoSite, ck_NoSite, cv_NoSite, cf_NoSite, cc_NoSite⟩, iC_NoSite, tI_NoSite, supB_ok sp_NoSite⟩,
    b_NoSite_init := IniF.binds (P := PWX) (C := C_NoSite) ⟨⟨_, _, _, _, _, _, _, _, _, _, _, _, _, _, _, _, _, _, _, rfl, L_NoSite_init, cd_NoSite, ck_NoSite, cv_NoSite, cf_NoSite, cc_NoSite⟩, iC_NoSite, tI_NoSite, supB_ok sp_NoSite⟩ (fun _ _ _ _ _ _ _ us hl => match us, hl with | [_, _, _, _], _ => rfl),
    C_NoPlace := C_NoPlace, mgc_NoPlace := PySem.W.mg_of X G A_NoPlace, xb_NoPlace := excB_ok X_NoPlace,
    ox_NoPlace := ⟨⟨_, _, _, _, _, _, _, _, _, _, _, _, _, _, _, xL_NoPlace, rV_NoPlace⟩, (excB_ok X_NoPlace).sa, (excB_ok X_NoPlace).ec.hs, (excB_ok X_NoPlace).ty, (excB_ok X_NoPlace).kp⟩, a_NoPlace_init := f_NoPlace_init, d_NoPlace_init := _, I_NoPlace := ⟨⟨_, _, _, _, _, _, _, _, _, _, _, _, _, _, _, _, _, _, _, rfl, L_NoPlace_init, cd_NoPlace, ck_NoPlace, cv_NoPlace, cf_NoPlace, cc_NoPlace⟩, iC_NoPlace, tI_NoPlace, supB_ok sp_NoPlace⟩,
    b_NoPlace_init := IniF.binds (P := PWX) (C := C_NoPlace) ⟨⟨_, _, _, _, _, _, _, _, _, _, _, _, _, _, _, _, _, _, _, rfl, L_NoPlace_init, cd_NoPlace, ck_NoPlace, cv_NoPlace, cf_NoPlace, cc_NoPlace⟩, iC_NoPlace, tI_NoPlace, supB_ok sp_NoPlace⟩ (fun _ _ _ _ _ _ _ us hl => match us, hl with | [_, _, _], _ => rfl),
    C_NotAccepted := C_NotAccepted, mgc_NotAccepted := PySem.W.mg_of X G A_NotAccepted, xb_NotAccepted := excB_ok X_NotAccepted,
    ox_NotAccepted := ⟨⟨_, _, _, _, _, _, _, _, _, _, _, _, _, _, _, xL_NotAccepted, rV_NotAccepted⟩, (excB_ok X_NotAccepted).sa, (excB_ok X_NotAccepted).ec.hs, (excB_ok X_NotAccepted).ty, (excB_ok X_NotAccepted).kp⟩, a_NotAccepted_init := f_NotAccepted_init, d_NotAccepted_init := _, I_NotAccepted := ⟨⟨_, _, _, _, _, _, _, _, _, _, _, _, _, _, _, _, _, _, _, rfl, L_NotAccepted_init, cd_NotAccepted, ck_NotAccepted, cv_NotAccepted, cf_NotAccepted, cc_NotAccepted⟩, iC_NotAccepted, tI_NotAccepted, supB_ok sp_NotAccepted⟩,
    b_NotAccepted_init := IniF.binds (P := PWX) (C := C_NotAccepted) ⟨⟨_, _, _, _, _, _, _, _, _, _, _, _, _, _, _, _, _, _, _, rfl, L_NotAccepted_init, cd_NotAccepted, ck_NotAccepted, cv_NotAccepted, cf_NotAccepted, cc_NotAccepted⟩, iC_NotAccepted, tI_NotAccepted, supB_ok sp_NotAccepted⟩ (fun _ _ _ _ _ _ _ us hl => match us, hl with | [_], _ => rfl),
    C_BadCertificate := C_BadCertificate, mgc_BadCertificate := PySem.W.mg_of X G A_BadCertificate, xb_BadCertificate := excB_ok X_BadCertificate,
    ox_BadCertificate := ⟨⟨_, _, _, _, _, _, _, _, _, _, _, _, _, _, _, xL_BadCertificate, rV_BadCertificate⟩, (excB_ok X_BadCertificate).sa, (excB_ok X_BadCertificate).ec.hs, (excB_ok X_BadCertificate).ty, (excB_ok X_BadCertificate).kp⟩, a_BadCertificate_init := f_BadCertificate_init, d_BadCertificate_init := _, I_BadCertificate := ⟨⟨_, _, _, _, _, _, _, _, _, _, _, _, _, _, _, _, _, _, _, rfl, L_BadCertificate_init, cd_BadCertificate, ck_BadCertificate, cv_BadCertificate, cf_BadCertificate, cc_BadCertificate⟩, iC_BadCertificate, tI_BadCertificate, supB_ok sp_BadCertificate⟩,
    b_BadCertificate_init := IniF.binds (P := PWX) (C := C_BadCertificate) ⟨⟨_, _, _, _, _, _, _, _, _, _, _, _, _, _, _, _, _, _, _, rfl, L_BadCertificate_init, cd_BadCertificate, ck_BadCertificate, cv_BadCertificate, cf_BadCertificate, cc_BadCertificate⟩, iC_BadCertificate, tI_BadCertificate, supB_ok sp_BadCertificate⟩ (fun _ _ _ _ _ _ _ us hl => match us, hl with | [_, _], _ => rfl),
    C_WrongChange := C_WrongChange, mgc_WrongChange := PySem.W.mg_of X G A_WrongChange, xb_WrongChange := excB_ok X_WrongChange,
    ox_WrongChange := ⟨⟨_, _, _, _, _, _, _, _, _, _, _, _, _, _, _, xL_WrongChange, rV_WrongChange⟩, (excB_ok X_WrongChange).sa, (excB_ok X_WrongChange).ec.hs, (excB_ok X_WrongChange).ty, (excB_ok X_WrongChange).kp⟩, a_WrongChange_init := f_WrongChange_init, d_WrongChange_init := _, I_WrongChange := ⟨⟨_, _, _, _, _, _, _, _, _, _, _, _, _, _, _, _, _, _, _, rfl, L_WrongChange_init, cd_WrongChange, ck_WrongChange, cv_WrongChange, cf_WrongChange, cc_WrongChange⟩, iC_WrongChange, tI_WrongChange, supB_ok sp_WrongChange⟩,
    b_WrongChange_init := IniF.binds (P := PWX) (C := C_WrongChange) ⟨⟨_, _, _, _, _, _, _, _, _, _, _, _, _, _, _, _, _, _, _, rfl, L_WrongChange_init, cd_WrongChange, ck_WrongChange, cv_WrongChange, cf_WrongChange, cc_WrongChange⟩, iC_WrongChange, tI_WrongChange, supB_ok sp_WrongChange⟩ (fun _ _ _ _ _ _ _ us hl => match us, hl with | [_, _], _ => rfl),
    C_NotPlain := C_NotPlain, mgc_NotPlain := PySem.W.mg_of X G A_NotPlain, xb_NotPlain := excB_ok X_NotPlain,
    ox_NotPlain := ⟨⟨_, _, _, _, _, _, _, _, _, _, _, _, _, _, _, xL_NotPlain, rV_NotPlain⟩, (excB_ok X_NotPlain).sa, (excB_ok X_NotPlain).ec.hs, (excB_ok X_NotPlain).ty, (excB_ok X_NotPlain).kp⟩, a_NotPlain_init := f_NotPlain_init, d_NotPlain_init := _, I_NotPlain := ⟨⟨_, _, _, _, _, _, _, _, _, _, _, _, _, _, _, _, _, _, _, rfl, L_NotPlain_init, cd_NotPlain, ck_NotPlain, cv_NotPlain, cf_NotPlain, cc_NotPlain⟩, iC_NotPlain, tI_NotPlain, supB_ok sp_NotPlain⟩,
    b_NotPlain_init := IniF.binds (P := PWX) (C := C_NotPlain) ⟨⟨_, _, _, _, _, _, _, _, _, _, _, _, _, _, _, _, _, _, _, rfl, L_NotPlain_init, cd_NotPlain, ck_NotPlain, cv_NotPlain, cf_NotPlain, cc_NotPlain⟩, iC_NotPlain, tI_NotPlain, supB_ok sp_NotPlain⟩ (fun _ _ _ _ _ _ _ us hl => match us, hl with | [_], _ => rfl),
    C_BadWitness := C_BadWitness, mgc_BadWitness := PySem.W.mg_of X G A_BadWitness, xb_BadWitness := excB_ok X_BadWitness,
    ox_BadWitness := ⟨⟨_, _, _, _, _, _, _, _, _, _, _, _, _, _, _, xL_BadWitness, rV_BadWitness⟩, (excB_ok X_BadWitness).sa, (excB_ok X_BadWitness).ec.hs, (excB_ok X_BadWitness).ty, (excB_ok X_BadWitness).kp⟩, a_BadWitness_init := f_BadWitness_init, d_BadWitness_init := _, I_BadWitness := ⟨⟨_, _, _, _, _, _, _, _, _, _, _, _, _, _, _, _, _, _, _, rfl, L_BadWitness_init, cd_BadWitness, ck_BadWitness, cv_BadWitness, cf_BadWitness, cc_BadWitness⟩, iC_BadWitness, tI_BadWitness, supB_ok sp_BadWitness⟩,
    b_BadWitness_init := IniF.binds (P := PWX) (C := C_BadWitness) ⟨⟨_, _, _, _, _, _, _, _, _, _, _, _, _, _, _, _, _, _, _, rfl, L_BadWitness_init, cd_BadWitness, ck_BadWitness, cv_BadWitness, cf_BadWitness, cc_BadWitness⟩, iC_BadWitness, tI_BadWitness, supB_ok sp_BadWitness⟩ (fun _ _ _ _ _ _ _ us hl => match us, hl with | [_, _], _ => rfl),
    C_TooLong := C_TooLong, mgc_TooLong := PySem.W.mg_of X G A_TooLong, xb_TooLong := excB_ok X_TooLong,
    ox_TooLong := ⟨⟨_, _, _, _, _, _, _, _, _, _, _, _, _, _, _, xL_TooLong, rV_TooLong⟩, (excB_ok X_TooLong).sa, (excB_ok X_TooLong).ec.hs, (excB_ok X_TooLong).ty, (excB_ok X_TooLong).kp⟩, a_TooLong_init := f_TooLong_init, d_TooLong_init := _, I_TooLong := ⟨⟨_, _, _, _, _, _, _, _, _, _, _, _, _, _, _, _, _, _, _, rfl, L_TooLong_init, cd_TooLong, ck_TooLong, cv_TooLong, cf_TooLong, cc_TooLong⟩, iC_TooLong, tI_TooLong, supB_ok sp_TooLong⟩,
    b_TooLong_init := IniF.binds (P := PWX) (C := C_TooLong) ⟨⟨_, _, _, _, _, _, _, _, _, _, _, _, _, _, _, _, _, _, _, rfl, L_TooLong_init, cd_TooLong, ck_TooLong, cv_TooLong, cf_TooLong, cc_TooLong⟩, iC_TooLong, tI_TooLong, supB_ok sp_TooLong⟩ (fun _ _ _ _ _ _ _ us hl => match us, hl with | [_, _], _ => rfl),
    C_NothingLoaded := C_NothingLoaded, mgc_NothingLoaded := PySem.W.mg_of X G A_NothingLoaded, xb_NothingLoaded := excB_ok X_NothingLoaded,
    ox_NothingLoaded := ⟨⟨_, _, _, _, _, _, _, _, _, _, _, _, _, _, _, xL_NothingLoaded, rV_NothingLoaded⟩, (excB_ok X_NothingLoaded).sa, (excB_ok X_NothingLoaded).ec.hs, (excB_ok X_NothingLoaded).ty, (excB_ok X_NothingLoaded).kp⟩, a_NothingLoaded_init := f_NothingLoaded_init, d_NothingLoaded_init := _, I_NothingLoaded := ⟨⟨_, _, _, _, _, _, _, _, _, _, _, _, _, _, _, _, _, _, _, rfl, L_NothingLoaded_init, cd_NothingLoaded, ck_NothingLoaded, cv_NothingLoaded, cf_NothingLoaded, cc_NothingLoaded⟩, iC_NothingLoaded, tI_NothingLoaded, supB_ok sp_NothingLoaded⟩,
    b_NothingLoaded_init := IniF.binds (P := PWX) (C := C_NothingLoaded) ⟨⟨_, _, _, _, _, _, _, _, _, _, _, _, _, _, _, _, _, _, _, rfl, L_NothingLoaded_init, cd_NothingLoaded, ck_NothingLoaded, cv_NothingLoaded, cf_NothingLoaded, cc_NothingLoaded⟩, iC_NothingLoaded, tI_NothingLoaded, supB_ok sp_NothingLoaded⟩ (fun _ _ _ _ _ _ _ us hl => match us, hl with | [_], _ => rfl),
    C_NothingToUndo := C_NothingToUndo, mgc_NothingToUndo := PySem.W.mg_of X G A_NothingToUndo, xb_NothingToUndo := excB_ok X_NothingToUndo,
    ox_NothingToUndo := ⟨⟨_, _, _, _, _, _, _, _, _, _, _, _, _, _, _, xL_NothingToUndo, rV_NothingToUndo⟩, (excB_ok X_NothingToUndo).sa, (excB_ok X_NothingToUndo).ec.hs, (excB_ok X_NothingToUndo).ty, (excB_ok X_NothingToUndo).kp⟩, a_NothingToUndo_init := f_NothingToUndo_init, d_NothingToUndo_init := _, I_NothingToUndo := ⟨⟨_, _, _, _, _, _, _, _, _, _, _, _, _, _, _, _, _, _, _, rfl, L_NothingToUndo_init, cd_NothingToUndo, ck_NothingToUndo, cv_NothingToUndo, cf_NothingToUndo, cc_NothingToUndo⟩, iC_NothingToUndo, tI_NothingToUndo, supB_ok sp_NothingToUndo⟩,
    b_NothingToUndo_init := IniF.binds (P := PWX) (C := C_NothingToUndo) ⟨⟨_, _, _, _, _, _, _, _, _, _, _, _, _, _, _, _, _, _, _, rfl, L_NothingToUndo_init, cd_NothingToUndo, ck_NothingToUndo, cv_NothingToUndo, cf_NothingToUndo, cc_NothingToUndo⟩, iC_NothingToUndo, tI_NothingToUndo, supB_ok sp_NothingToUndo⟩ (fun _ _ _ _ _ _ _ us hl => match us, hl with | [_], _ => rfl),
    C_BadJournal := C_BadJournal, mgc_BadJournal := PySem.W.mg_of X G A_BadJournal, xb_BadJournal := excB_ok X_BadJournal,
    ox_BadJournal := ⟨⟨_, _, _, _, _, _, _, _, _, _, _, _, _, _, _, xL_BadJournal, rV_BadJournal⟩, (excB_ok X_BadJournal).sa, (excB_ok X_BadJournal).ec.hs, (excB_ok X_BadJournal).ty, (excB_ok X_BadJournal).kp⟩, a_BadJournal_init := f_BadJournal_init, d_BadJournal_init := _, I_BadJournal := ⟨⟨_, _, _, _, _, _, _, _, _, _, _, _, _, _, _, _, _, _, _, rfl, L_BadJournal_init, cd_BadJournal, ck_BadJournal, cv_BadJournal, cf_BadJournal, cc_BadJournal⟩, iC_BadJournal, tI_BadJournal, supB_ok sp_BadJournal⟩,
    b_BadJournal_init := IniF.binds (P := PWX) (C := C_BadJournal) ⟨⟨_, _, _, _, _, _, _, _, _, _, _, _, _, _, _, _, _, _, _, rfl, L_BadJournal_init, cd_BadJournal, ck_BadJournal, cv_BadJournal, cf_BadJournal, cc_BadJournal⟩, iC_BadJournal, tI_BadJournal, supB_ok sp_BadJournal⟩ (fun _ _ _ _ _ _ _ us hl => match us, hl with | [_, _], _ => rfl),
    kr_NeverError := kr_NeverError, kv_NeverError := kv_NeverError,
    te_NeverError_BadText := te_NeverError_BadText,
    kr_BadText := kr_BadText, kv_BadText := kv_BadText,
    te_BadText_BadText := te_BadText_BadText,
    kr_Twice := kr_Twice, kv_Twice := kv_Twice,
    te_Twice_BadText := te_Twice_BadText,
    kr_Unknown := kr_Unknown, kv_Unknown := kv_Unknown,
    te_Unknown_BadText := te_Unknown_BadText,
    kr_BadKind := kr_BadKind, kv_BadKind := kv_BadKind,
    te_BadKind_BadText := te_BadKind_BadText,
    kr_WrongKind := kr_WrongKind, kv_WrongKind := kv_WrongKind,
    te_WrongKind_BadText := te_WrongKind_BadText,
    kr_NoSite := kr_NoSite, kv_NoSite := kv_NoSite,
    te_NoSite_BadText := te_NoSite_BadText,
    kr_NoPlace := kr_NoPlace, kv_NoPlace := kv_NoPlace,
    te_NoPlace_BadText := te_NoPlace_BadText,
    kr_NotAccepted := kr_NotAccepted, kv_NotAccepted := kv_NotAccepted,
    te_NotAccepted_BadText := te_NotAccepted_BadText,
    kr_BadCertificate := kr_BadCertificate, kv_BadCertificate := kv_BadCertificate,
    te_BadCertificate_BadText := te_BadCertificate_BadText,
    kr_WrongChange := kr_WrongChange, kv_WrongChange := kv_WrongChange,
    te_WrongChange_BadText := te_WrongChange_BadText,
    kr_NotPlain := kr_NotPlain, kv_NotPlain := kv_NotPlain,
    te_NotPlain_BadText := te_NotPlain_BadText,
    kr_BadWitness := kr_BadWitness, kv_BadWitness := kv_BadWitness,
    te_BadWitness_BadText := te_BadWitness_BadText,
    kr_TooLong := kr_TooLong, kv_TooLong := kv_TooLong,
    te_TooLong_BadText := te_TooLong_BadText,
    kr_NothingLoaded := kr_NothingLoaded, kv_NothingLoaded := kv_NothingLoaded,
    te_NothingLoaded_BadText := te_NothingLoaded_BadText,
    kr_NothingToUndo := kr_NothingToUndo, kv_NothingToUndo := kv_NothingToUndo,
    te_NothingToUndo_BadText := te_NothingToUndo_BadText,
    kr_BadJournal := kr_BadJournal, kv_BadJournal := kv_BadJournal,
    te_BadJournal_BadText := te_BadJournal_BadText,
    c_LETTERS := by obtain ⟨t, e⟩ := U_LETTERS; exact ⟨t, by rw [← e]; exact PySem.W.mg_of X G A_LETTERS⟩,
    c_DIGITS := by obtain ⟨t, e⟩ := U_DIGITS; exact ⟨t, by rw [← e]; exact PySem.W.mg_of X G A_DIGITS⟩,
    c_MOST_DIGITS := by obtain ⟨t, e⟩ := U_MOST_DIGITS; exact ⟨t, by rw [← e]; exact PySem.W.mg_of X G A_MOST_DIGITS⟩,
    c_RESERVED := ⟨r_RESERVED, PySem.W.mg_of X G A_RESERVED⟩, t_RESERVED := by
      intro a ha
      have e := ha.symm.trans (PySem.W.mg_of X G A_RESERVED)
      cases e
      exact ktup R_RESERVED (by decide) V_RESERVED,
    c_OPERATORS := ⟨r_OPERATORS, PySem.W.mg_of X G A_OPERATORS⟩, t_OPERATORS := by
      intro a ha
      have e := ha.symm.trans (PySem.W.mg_of X G A_OPERATORS)
      cases e
      exact ktup R_OPERATORS (by decide) V_OPERATORS,
    c_NEGATION := by obtain ⟨t, e⟩ := U_NEGATION; exact ⟨t, by rw [← e]; exact PySem.W.mg_of X G A_NEGATION⟩,
    z_ValueError := PySem.W.mg_none_of X G Z_ValueError,
    z_all := PySem.W.mg_none_of X G Z_all,
    z_bool := PySem.W.mg_none_of X G Z_bool,
    z_int := PySem.W.mg_none_of X G Z_int,
    z_isinstance := PySem.W.mg_none_of X G Z_isinstance,
    z_len := PySem.W.mg_none_of X G Z_len,
    z_list := PySem.W.mg_none_of X G Z_list,
    z_max := PySem.W.mg_none_of X G Z_max,
    z_min := PySem.W.mg_none_of X G Z_min,
    z_range := PySem.W.mg_none_of X G Z_range,
    z_str := PySem.W.mg_none_of X G Z_str,
    z_super := PySem.W.mg_none_of X G Z_super,
    z_tuple := PySem.W.mg_none_of X G Z_tuple }
  refine ⟨PySem.W.fnOf "law" "law" (defArgs s_law) (defBody s_law) (defScope s_law) .none kV_law dc_law pm_law an_law cd_law ct_law, fun s v => .of_eq rfl, fun base _ _ => ok_law T⟩
theorem walk {l : PySem.W.OpenLaw} {q : Program} {loose : List Str} {XP : (Str → Option Value) → Heap → Prop} {YP : World → Heap → Prop} {d : DefRec} {K : Params → PySem.W.Frag} (hn : l.most = some 63) (hdf : d.params.defaults = [])
    (hY : ∀ (w : World) (h : Heap), YP w h → (K w.params).In h)
    (F : ∀ (w : World) (mg : Str → Option Value) (fa : Addr) (h : Heap), (K w.params).In h → h.Ns mainGlobals mg → mg d.name = some (.ref fa) →
      ∃ fd : FuncData, (∀ (s : Shared) (u : Value), BindsTo s fd ⟨[u], []⟩ [("_law_script", u)]) ∧ ∀ base : Heap, (K w.params).In base → base.Ns mainGlobals mg → FnOk l.prog w (K w.params) mg base CX0 52 fa fd ["_law_script"] (spLaw (K w.params))) :
    PySem.W.WalkO q loose XP YP l.row.toRowW d [] (fun f vs => PySem.call f vs) :=
  L2.walk_of (n := 63) (k := 52) (x := "_law_script") (CX := fun _ => CX0) (sp := fun w => spLaw (K w.params)) hn (by decide) hdf ⟨rfl, by decide, by decide⟩ hY F (fun _ _ a ns hl _ hS => ⟨a, ns, rfl, hS, hl, fun _ => rfl⟩) fun _ _ _ _ _ z => z
end Mine
open PySem PySem.W PyProof.Rows
set_option maxRecDepth 100000 in
set_option maxHeartbeats 0 in
theorem PySem.Challenge.cw_neverhappens_k02_whole_expression_reader_holds : PySem.Challenge.rw_neverhappens_k02_whole_expression_reader.Holds := by
  w_on; o_law; k_head; (case hw => w_witness2)
  k_fill
  refine Mine.walk (l := PySem.Challenge.rw_neverhappens_k02_whole_expression_reader) rfl rfl (fun w h Y => PySem.W.kIn_of Y) ?F
  case F =>
    intro w mg fa h KX G hmg
    refine' Mine.all_mk KX G hmg ?A_consists_of ?L_consists_of ?C_consists_of ?K_consists_of ?A_is_name ?L_is_name ?C_is_name ?K_is_name ?A_number_of ?L_number_of ?R_number_of ?W_number_of ?C_number_of ?K_number_of ?A_atom_of ?L_atom_of ?C_atom_of ?K_atom_of ?A_open_brackets ?L_open_brackets ?C_open_brackets ?K_open_brackets ?A_word_end ?L_word_end ?C_word_end ?K_word_end ?A_close_brackets ?L_close_brackets ?C_close_brackets ?K_close_brackets ?A_operator_end ?L_operator_end ?C_operator_end ?K_operator_end ?A_scan_expression ?L_scan_expression ?C_scan_expression ?K_scan_expression ?A_read_expression ?L_read_expression ?C_read_expression ?K_read_expression ?A_l_cell ?L_l_cell ?C_l_cell ?K_l_cell ?A_l_source ?L_l_source ?C_l_source ?K_l_source ?A_l_pick ?L_l_pick ?C_l_pick ?K_l_pick ?A_l_one ?L_l_one ?C_l_one ?K_l_one ?A_l_reserved ?L_l_reserved ?C_l_reserved ?K_l_reserved ?A_l_name ?L_l_name ?C_l_name ?K_l_name ?A_l_word ?L_l_word ?C_l_word ?K_l_word ?A_l_number ?L_l_number ?C_l_number ?K_l_number ?A_l_node ?L_l_node ?C_l_node ?K_l_node ?A_l_expression ?L_l_expression ?C_l_expression ?K_l_expression ?A_l_text ?L_l_text ?C_l_text ?K_l_text ?A_l_same ?L_l_same ?C_l_same ?K_l_same ?A_l_is_name ?L_l_is_name ?C_l_is_name ?K_l_is_name ?A_l_is_number ?L_l_is_number ?C_l_is_number ?K_l_is_number ?A_l_atom_end ?L_l_atom_end ?C_l_atom_end ?K_l_atom_end ?A_l_atom ?L_l_atom ?C_l_atom ?K_l_atom ?A_l_read ?L_l_read ?C_l_read ?K_l_read ?A_l_sign ?L_l_sign ?C_l_sign ?K_l_sign ?A_l_changed ?L_l_changed ?C_l_changed ?K_l_changed ?A_l_near ?L_l_near ?C_l_near ?K_l_near ?A_l_with_reserved ?L_l_with_reserved ?C_l_with_reserved ?K_l_with_reserved ?A_l_row ?L_l_row ?C_l_row ?K_l_row ?A_l_asked ?L_l_asked ?C_l_asked ?K_l_asked ?A_l_due ?L_l_due ?C_l_due ?K_l_due ?A_law ?L_law ?C_law ?K_law ?A_NeverError ?X_NeverError ?A_BadText ?X_BadText ?xL_BadText ?rV_BadText ?iC_BadText ?tI_BadText ?L_BadText_init ?cd_BadText ?ck_BadText ?cv_BadText ?cf_BadText ?cc_BadText ?sp_BadText ?A_Twice ?X_Twice ?xL_Twice ?rV_Twice ?iC_Twice ?tI_Twice ?L_Twice_init ?cd_Twice ?ck_Twice ?cv_Twice ?cf_Twice ?cc_Twice ?sp_Twice ?A_Unknown ?X_Unknown ?xL_Unknown ?rV_Unknown ?iC_Unknown ?tI_Unknown ?L_Unknown_init ?cd_Unknown ?ck_Unknown ?cv_Unknown ?cf_Unknown ?cc_Unknown ?sp_Unknown ?A_BadKind ?X_BadKind ?xL_BadKind ?rV_BadKind ?iC_BadKind ?tI_BadKind ?L_BadKind_init ?cd_BadKind ?ck_BadKind ?cv_BadKind ?cf_BadKind ?cc_BadKind ?sp_BadKind ?A_WrongKind ?X_WrongKind ?xL_WrongKind ?rV_WrongKind ?iC_WrongKind ?tI_WrongKind ?L_WrongKind_init ?cd_WrongKind ?ck_WrongKind ?cv_WrongKind ?cf_WrongKind ?cc_WrongKind ?sp_WrongKind ?A_NoSite ?X_NoSite ?xL_NoSite ?rV_NoSite ?iC_NoSite ?tI_NoSite ?L_NoSite_init ?cd_NoSite ?ck_NoSite ?cv_NoSite ?cf_NoSite ?cc_NoSite ?sp_NoSite ?A_NoPlace ?X_NoPlace ?xL_NoPlace ?rV_NoPlace ?iC_NoPlace ?tI_NoPlace ?L_NoPlace_init ?cd_NoPlace ?ck_NoPlace ?cv_NoPlace ?cf_NoPlace ?cc_NoPlace ?sp_NoPlace ?A_NotAccepted ?X_NotAccepted ?xL_NotAccepted ?rV_NotAccepted ?iC_NotAccepted ?tI_NotAccepted ?L_NotAccepted_init ?cd_NotAccepted ?ck_NotAccepted ?cv_NotAccepted ?cf_NotAccepted ?cc_NotAccepted ?sp_NotAccepted ?A_BadCertificate ?X_BadCertificate ?xL_BadCertificate ?rV_BadCertificate ?iC_BadCertificate ?tI_BadCertificate ?L_BadCertificate_init ?cd_BadCertificate ?ck_BadCertificate ?cv_BadCertificate ?cf_BadCertificate ?cc_BadCertificate ?sp_BadCertificate ?A_WrongChange ?X_WrongChange ?xL_WrongChange ?rV_WrongChange ?iC_WrongChange ?tI_WrongChange ?L_WrongChange_init ?cd_WrongChange ?ck_WrongChange ?cv_WrongChange ?cf_WrongChange ?cc_WrongChange ?sp_WrongChange ?A_NotPlain ?X_NotPlain ?xL_NotPlain ?rV_NotPlain ?iC_NotPlain ?tI_NotPlain ?L_NotPlain_init ?cd_NotPlain ?ck_NotPlain ?cv_NotPlain ?cf_NotPlain ?cc_NotPlain ?sp_NotPlain ?A_BadWitness ?X_BadWitness ?xL_BadWitness ?rV_BadWitness ?iC_BadWitness ?tI_BadWitness ?L_BadWitness_init ?cd_BadWitness ?ck_BadWitness ?cv_BadWitness ?cf_BadWitness ?cc_BadWitness ?sp_BadWitness ?A_TooLong ?X_TooLong ?xL_TooLong ?rV_TooLong ?iC_TooLong ?tI_TooLong ?L_TooLong_init ?cd_TooLong ?ck_TooLong ?cv_TooLong ?cf_TooLong ?cc_TooLong ?sp_TooLong ?A_NothingLoaded ?X_NothingLoaded ?xL_NothingLoaded ?rV_NothingLoaded ?iC_NothingLoaded ?tI_NothingLoaded ?L_NothingLoaded_init ?cd_NothingLoaded ?ck_NothingLoaded ?cv_NothingLoaded ?cf_NothingLoaded ?cc_NothingLoaded ?sp_NothingLoaded ?A_NothingToUndo ?X_NothingToUndo ?xL_NothingToUndo ?rV_NothingToUndo ?iC_NothingToUndo ?tI_NothingToUndo ?L_NothingToUndo_init ?cd_NothingToUndo ?ck_NothingToUndo ?cv_NothingToUndo ?cf_NothingToUndo ?cc_NothingToUndo ?sp_NothingToUndo ?A_BadJournal ?X_BadJournal ?xL_BadJournal ?rV_BadJournal ?iC_BadJournal ?tI_BadJournal ?L_BadJournal_init ?cd_BadJournal ?ck_BadJournal ?cv_BadJournal ?cf_BadJournal ?cc_BadJournal ?sp_BadJournal ?kr_NeverError ?kv_NeverError ?te_NeverError_BadText ?kr_BadText ?kv_BadText ?te_BadText_BadText ?kr_Twice ?kv_Twice ?te_Twice_BadText ?kr_Unknown ?kv_Unknown ?te_Unknown_BadText ?kr_BadKind ?kv_BadKind ?te_BadKind_BadText ?kr_WrongKind ?kv_WrongKind ?te_WrongKind_BadText ?kr_NoSite ?kv_NoSite ?te_NoSite_BadText ?kr_NoPlace ?kv_NoPlace ?te_NoPlace_BadText ?kr_NotAccepted ?kv_NotAccepted ?te_NotAccepted_BadText ?kr_BadCertificate ?kv_BadCertificate ?te_BadCertificate_BadText ?kr_WrongChange ?kv_WrongChange ?te_WrongChange_BadText ?kr_NotPlain ?kv_NotPlain ?te_NotPlain_BadText ?kr_BadWitness ?kv_BadWitness ?te_BadWitness_BadText ?kr_TooLong ?kv_TooLong ?te_TooLong_BadText ?kr_NothingLoaded ?kv_NothingLoaded ?te_NothingLoaded_BadText ?kr_NothingToUndo ?kv_NothingToUndo ?te_NothingToUndo_BadText ?kr_BadJournal ?kv_BadJournal ?te_BadJournal_BadText ?A_LETTERS ?U_LETTERS ?A_DIGITS ?U_DIGITS ?A_MOST_DIGITS ?U_MOST_DIGITS ?A_RESERVED ?R_RESERVED ?V_RESERVED ?A_OPERATORS ?R_OPERATORS ?V_OPERATORS ?A_NEGATION ?U_NEGATION ?Z_ValueError ?Z_all ?Z_bool ?Z_int ?Z_isinstance ?Z_len ?Z_list ?Z_max ?Z_min ?Z_range ?Z_str ?Z_super ?Z_tuple
    (case A_consists_of => k_is)
    (case L_consists_of => k_is)
    (case C_consists_of => k_is)
    (case K_consists_of => k_is)
    (case A_is_name => k_is)
    (case L_is_name => k_is)
    (case C_is_name => k_is)
    (case K_is_name => k_is)
    (case A_number_of => k_is)
    (case L_number_of => k_is)
    (case R_number_of => k_is)
    (case W_number_of => first | rfl | decide +kernel)
    (case C_number_of => k_is)
    (case K_number_of => k_is)
    (case A_atom_of => k_is)
    (case L_atom_of => k_is)
    (case C_atom_of => k_is)
    (case K_atom_of => k_is)
    (case A_open_brackets => k_is)
    (case L_open_brackets => k_is)
    (case C_open_brackets => k_is)
    (case K_open_brackets => k_is)
    (case A_word_end => k_is)
    (case L_word_end => k_is)
    (case C_word_end => k_is)
    (case K_word_end => k_is)
    (case A_close_brackets => k_is)
    (case L_close_brackets => k_is)
    (case C_close_brackets => k_is)
    (case K_close_brackets => k_is)
    (case A_operator_end => k_is)
    (case L_operator_end => k_is)
    (case C_operator_end => k_is)
    (case K_operator_end => k_is)
    (case A_scan_expression => k_is)
    (case L_scan_expression => k_is)
    (case C_scan_expression => k_is)
    (case K_scan_expression => k_is)
    (case A_read_expression => k_is)
    (case L_read_expression => k_is)
    (case C_read_expression => k_is)
    (case K_read_expression => k_is)
    (case A_l_cell => k_is)
    (case L_l_cell => k_is)
    (case C_l_cell => k_is)
    (case K_l_cell => k_is)
    (case A_l_source => k_is)
    (case L_l_source => k_is)
    (case C_l_source => k_is)
    (case K_l_source => k_is)
    (case A_l_pick => k_is)
    (case L_l_pick => k_is)
    (case C_l_pick => k_is)
    (case K_l_pick => k_is)
    (case A_l_one => k_is)
    (case L_l_one => k_is)
    (case C_l_one => k_is)
    (case K_l_one => k_is)
    (case A_l_reserved => k_is)
    (case L_l_reserved => k_is)
    (case C_l_reserved => k_is)
    (case K_l_reserved => k_is)
    (case A_l_name => k_is)
    (case L_l_name => k_is)
    (case C_l_name => k_is)
    (case K_l_name => k_is)
    (case A_l_word => k_is)
    (case L_l_word => k_is)
    (case C_l_word => k_is)
    (case K_l_word => k_is)
    (case A_l_number => k_is)
    (case L_l_number => k_is)
    (case C_l_number => k_is)
    (case K_l_number => k_is)
    (case A_l_node => k_is)
    (case L_l_node => k_is)
    (case C_l_node => k_is)
    (case K_l_node => k_is)
    (case A_l_expression => k_is)
    (case L_l_expression => k_is)
    (case C_l_expression => k_is)
    (case K_l_expression => k_is)
    (case A_l_text => k_is)
    (case L_l_text => k_is)
    (case C_l_text => k_is)
    (case K_l_text => k_is)
    (case A_l_same => k_is)
    (case L_l_same => k_is)
    (case C_l_same => k_is)
    (case K_l_same => k_is)
    (case A_l_is_name => k_is)
    (case L_l_is_name => k_is)
    (case C_l_is_name => k_is)
    (case K_l_is_name => k_is)
    (case A_l_is_number => k_is)
    (case L_l_is_number => k_is)
    (case C_l_is_number => k_is)
    (case K_l_is_number => k_is)
    (case A_l_atom_end => k_is)
    (case L_l_atom_end => k_is)
    (case C_l_atom_end => k_is)
    (case K_l_atom_end => k_is)
    (case A_l_atom => k_is)
    (case L_l_atom => k_is)
    (case C_l_atom => k_is)
    (case K_l_atom => k_is)
    (case A_l_read => k_is)
    (case L_l_read => k_is)
    (case C_l_read => k_is)
    (case K_l_read => k_is)
    (case A_l_sign => k_is)
    (case L_l_sign => k_is)
    (case C_l_sign => k_is)
    (case K_l_sign => k_is)
    (case A_l_changed => k_is)
    (case L_l_changed => k_is)
    (case C_l_changed => k_is)
    (case K_l_changed => k_is)
    (case A_l_near => k_is)
    (case L_l_near => k_is)
    (case C_l_near => k_is)
    (case K_l_near => k_is)
    (case A_l_with_reserved => k_is)
    (case L_l_with_reserved => k_is)
    (case C_l_with_reserved => k_is)
    (case K_l_with_reserved => k_is)
    (case A_l_row => k_is)
    (case L_l_row => k_is)
    (case C_l_row => k_is)
    (case K_l_row => k_is)
    (case A_l_asked => k_is)
    (case L_l_asked => k_is)
    (case C_l_asked => k_is)
    (case K_l_asked => k_is)
    (case A_l_due => k_is)
    (case L_l_due => k_is)
    (case C_l_due => k_is)
    (case K_l_due => k_is)
    (case A_law => k_is)
    (case L_law => k_is)
    (case C_law => k_is)
    (case K_law => k_is)
    (case A_NeverError => k_is)
    (case X_NeverError => kernel_rfl)
    (case A_BadText => k_is)
    (case X_BadText => kernel_rfl)
    (case xL_BadText => k_is)
    (case rV_BadText => kernel_rfl)
    (case iC_BadText => k_is)
    (case tI_BadText => k_is)
    (case L_BadText_init => k_is)
    (case cd_BadText => k_is)
    (case ck_BadText => k_is)
    (case cv_BadText => rfl)
    (case cf_BadText => kernel_rfl)
    (case cc_BadText => k_is)
    (case sp_BadText => kernel_rfl)
    (case A_Twice => k_is)
    (case X_Twice => kernel_rfl)
    (case xL_Twice => k_is)
    (case rV_Twice => kernel_rfl)
    (case iC_Twice => k_is)
    (case tI_Twice => k_is)
    (case L_Twice_init => k_is)
    (case cd_Twice => k_is)
    (case ck_Twice => k_is)
    (case cv_Twice => rfl)
    (case cf_Twice => kernel_rfl)
    (case cc_Twice => k_is)
    (case sp_Twice => kernel_rfl)
    (case A_Unknown => k_is)
    (case X_Unknown => kernel_rfl)
    (case xL_Unknown => k_is)
    (case rV_Unknown => kernel_rfl)
    (case iC_Unknown => k_is)
    (case tI_Unknown => k_is)
    (case L_Unknown_init => k_is)
    (case cd_Unknown => k_is)
    (case ck_Unknown => k_is)
    (case cv_Unknown => rfl)
    (case cf_Unknown => kernel_rfl)
    (case cc_Unknown => k_is)
    (case sp_Unknown => kernel_rfl)
    (case A_BadKind => k_is)
    (case X_BadKind => kernel_rfl)
    (case xL_BadKind => k_is)
    (case rV_BadKind => kernel_rfl)
    (case iC_BadKind => k_is)
    (case tI_BadKind => k_is)
    (case L_BadKind_init => k_is)
    (case cd_BadKind => k_is)
    (case ck_BadKind => k_is)
    (case cv_BadKind => rfl)
    (case cf_BadKind => kernel_rfl)
    (case cc_BadKind => k_is)
    (case sp_BadKind => kernel_rfl)
    (case A_WrongKind => k_is)
    (case X_WrongKind => kernel_rfl)
    (case xL_WrongKind => k_is)
    (case rV_WrongKind => kernel_rfl)
    (case iC_WrongKind => k_is)
    (case tI_WrongKind => k_is)
    (case L_WrongKind_init => k_is)
    (case cd_WrongKind => k_is)
    (case ck_WrongKind => k_is)
    (case cv_WrongKind => rfl)
    (case cf_WrongKind => kernel_rfl)
    (case cc_WrongKind => k_is)
    (case sp_WrongKind => kernel_rfl)
    (case A_NoSite => k_is)
    (case X_NoSite => kernel_rfl)
    (case xL_NoSite => k_is)
    (case rV_NoSite => kernel_rfl)
    (case iC_NoSite => k_is)
    (case tI_NoSite => k_is)
    (case L_NoSite_init => k_is)
    (case cd_NoSite => k_is)
    (case ck_NoSite => k_is)
    (case cv_NoSite => rfl)
    (case cf_NoSite => kernel_rfl)
    (case cc_NoSite => k_is)
    (case sp_NoSite => kernel_rfl)
    (case A_NoPlace => k_is)
    (case X_NoPlace => kernel_rfl)
    (case xL_NoPlace => k_is)
    (case rV_NoPlace => kernel_rfl)
    (case iC_NoPlace => k_is)
    (case tI_NoPlace => k_is)
    (case L_NoPlace_init => k_is)
    (case cd_NoPlace => k_is)
    (case ck_NoPlace => k_is)
    (case cv_NoPlace => rfl)
    (case cf_NoPlace => kernel_rfl)
    (case cc_NoPlace => k_is)
    (case sp_NoPlace => kernel_rfl)
    (case A_NotAccepted => k_is)
    (case X_NotAccepted => kernel_rfl)
    (case xL_NotAccepted => k_is)
    (case rV_NotAccepted => kernel_rfl)
    (case iC_NotAccepted => k_is)
    (case tI_NotAccepted => k_is)
    (case L_NotAccepted_init => k_is)
    (case cd_NotAccepted => k_is)
    (case ck_NotAccepted => k_is)
    (case cv_NotAccepted => rfl)
    (case cf_NotAccepted => kernel_rfl)
    (case cc_NotAccepted => k_is)
    (case sp_NotAccepted => kernel_rfl)
    (case A_BadCertificate => k_is)
    (case X_BadCertificate => kernel_rfl)
    (case xL_BadCertificate => k_is)
    (case rV_BadCertificate => kernel_rfl)
    (case iC_BadCertificate => k_is)
    (case tI_BadCertificate => k_is)
    (case L_BadCertificate_init => k_is)
    (case cd_BadCertificate => k_is)
    (case ck_BadCertificate => k_is)
    (case cv_BadCertificate => rfl)
    (case cf_BadCertificate => kernel_rfl)
    (case cc_BadCertificate => k_is)
    (case sp_BadCertificate => kernel_rfl)
    (case A_WrongChange => k_is)
    (case X_WrongChange => kernel_rfl)
    (case xL_WrongChange => k_is)
    (case rV_WrongChange => kernel_rfl)
    (case iC_WrongChange => k_is)
    (case tI_WrongChange => k_is)
    (case L_WrongChange_init => k_is)
    (case cd_WrongChange => k_is)
    (case ck_WrongChange => k_is)
    (case cv_WrongChange => rfl)
    (case cf_WrongChange => kernel_rfl)
    (case cc_WrongChange => k_is)
    (case sp_WrongChange => kernel_rfl)
    (case A_NotPlain => k_is)
    (case X_NotPlain => kernel_rfl)
    (case xL_NotPlain => k_is)
    (case rV_NotPlain => kernel_rfl)
    (case iC_NotPlain => k_is)
    (case tI_NotPlain => k_is)
    (case L_NotPlain_init => k_is)
    (case cd_NotPlain => k_is)
    (case ck_NotPlain => k_is)
    (case cv_NotPlain => rfl)
    (case cf_NotPlain => kernel_rfl)
    (case cc_NotPlain => k_is)
    (case sp_NotPlain => kernel_rfl)
    (case A_BadWitness => k_is)
    (case X_BadWitness => kernel_rfl)
    (case xL_BadWitness => k_is)
    (case rV_BadWitness => kernel_rfl)
    (case iC_BadWitness => k_is)
    (case tI_BadWitness => k_is)
    (case L_BadWitness_init => k_is)
    (case cd_BadWitness => k_is)
    (case ck_BadWitness => k_is)
    (case cv_BadWitness => rfl)
    (case cf_BadWitness => kernel_rfl)
    (case cc_BadWitness => k_is)
    (case sp_BadWitness => kernel_rfl)
    (case A_TooLong => k_is)
    (case X_TooLong => kernel_rfl)
    (case xL_TooLong => k_is)
    (case rV_TooLong => kernel_rfl)
    (case iC_TooLong => k_is)
    (case tI_TooLong => k_is)
    (case L_TooLong_init => k_is)
    (case cd_TooLong => k_is)
    (case ck_TooLong => k_is)
    (case cv_TooLong => rfl)
    (case cf_TooLong => kernel_rfl)
    (case cc_TooLong => k_is)
    (case sp_TooLong => kernel_rfl)
    (case A_NothingLoaded => k_is)
    (case X_NothingLoaded => kernel_rfl)
    (case xL_NothingLoaded => k_is)
    (case rV_NothingLoaded => kernel_rfl)
    (case iC_NothingLoaded => k_is)
    (case tI_NothingLoaded => k_is)
    (case L_NothingLoaded_init => k_is)
    (case cd_NothingLoaded => k_is)
    (case ck_NothingLoaded => k_is)
    (case cv_NothingLoaded => rfl)
    (case cf_NothingLoaded => kernel_rfl)
    (case cc_NothingLoaded => k_is)
    (case sp_NothingLoaded => kernel_rfl)
    (case A_NothingToUndo => k_is)
    (case X_NothingToUndo => kernel_rfl)
    (case xL_NothingToUndo => k_is)
    (case rV_NothingToUndo => kernel_rfl)
    (case iC_NothingToUndo => k_is)
    (case tI_NothingToUndo => k_is)
    (case L_NothingToUndo_init => k_is)
    (case cd_NothingToUndo => k_is)
    (case ck_NothingToUndo => k_is)
    (case cv_NothingToUndo => rfl)
    (case cf_NothingToUndo => kernel_rfl)
    (case cc_NothingToUndo => k_is)
    (case sp_NothingToUndo => kernel_rfl)
    (case A_BadJournal => k_is)
    (case X_BadJournal => kernel_rfl)
    (case xL_BadJournal => k_is)
    (case rV_BadJournal => kernel_rfl)
    (case iC_BadJournal => k_is)
    (case tI_BadJournal => k_is)
    (case L_BadJournal_init => k_is)
    (case cd_BadJournal => k_is)
    (case ck_BadJournal => k_is)
    (case cv_BadJournal => rfl)
    (case cf_BadJournal => kernel_rfl)
    (case cc_BadJournal => k_is)
    (case sp_BadJournal => kernel_rfl)
    (case kr_NeverError => kernel_rfl)
    (case kv_NeverError => kernel_rfl)
    (case te_NeverError_BadText => kernel_rfl)
    (case kr_BadText => kernel_rfl)
    (case kv_BadText => kernel_rfl)
    (case te_BadText_BadText => kernel_rfl)
    (case kr_Twice => kernel_rfl)
    (case kv_Twice => kernel_rfl)
    (case te_Twice_BadText => kernel_rfl)
    (case kr_Unknown => kernel_rfl)
    (case kv_Unknown => kernel_rfl)
    (case te_Unknown_BadText => kernel_rfl)
    (case kr_BadKind => kernel_rfl)
    (case kv_BadKind => kernel_rfl)
    (case te_BadKind_BadText => kernel_rfl)
    (case kr_WrongKind => kernel_rfl)
    (case kv_WrongKind => kernel_rfl)
    (case te_WrongKind_BadText => kernel_rfl)
    (case kr_NoSite => kernel_rfl)
    (case kv_NoSite => kernel_rfl)
    (case te_NoSite_BadText => kernel_rfl)
    (case kr_NoPlace => kernel_rfl)
    (case kv_NoPlace => kernel_rfl)
    (case te_NoPlace_BadText => kernel_rfl)
    (case kr_NotAccepted => kernel_rfl)
    (case kv_NotAccepted => kernel_rfl)
    (case te_NotAccepted_BadText => kernel_rfl)
    (case kr_BadCertificate => kernel_rfl)
    (case kv_BadCertificate => kernel_rfl)
    (case te_BadCertificate_BadText => kernel_rfl)
    (case kr_WrongChange => kernel_rfl)
    (case kv_WrongChange => kernel_rfl)
    (case te_WrongChange_BadText => kernel_rfl)
    (case kr_NotPlain => kernel_rfl)
    (case kv_NotPlain => kernel_rfl)
    (case te_NotPlain_BadText => kernel_rfl)
    (case kr_BadWitness => kernel_rfl)
    (case kv_BadWitness => kernel_rfl)
    (case te_BadWitness_BadText => kernel_rfl)
    (case kr_TooLong => kernel_rfl)
    (case kv_TooLong => kernel_rfl)
    (case te_TooLong_BadText => kernel_rfl)
    (case kr_NothingLoaded => kernel_rfl)
    (case kv_NothingLoaded => kernel_rfl)
    (case te_NothingLoaded_BadText => kernel_rfl)
    (case kr_NothingToUndo => kernel_rfl)
    (case kv_NothingToUndo => kernel_rfl)
    (case te_NothingToUndo_BadText => kernel_rfl)
    (case kr_BadJournal => kernel_rfl)
    (case kv_BadJournal => kernel_rfl)
    (case te_BadJournal_BadText => kernel_rfl)
    (case A_LETTERS => k_is)
    (case U_LETTERS => exact ⟨_, rfl⟩)
    (case A_DIGITS => k_is)
    (case U_DIGITS => exact ⟨_, rfl⟩)
    (case A_MOST_DIGITS => k_is)
    (case U_MOST_DIGITS => exact ⟨_, rfl⟩)
    (case A_RESERVED => k_is)
    (case R_RESERVED => k_is)
    (case V_RESERVED => first | rfl | decide +kernel)
    (case A_OPERATORS => k_is)
    (case R_OPERATORS => k_is)
    (case V_OPERATORS => first | rfl | decide +kernel)
    (case A_NEGATION => k_is)
    (case U_NEGATION => exact ⟨_, rfl⟩)
    (case Z_ValueError => k_is)
    (case Z_all => k_is)
    (case Z_bool => k_is)
    (case Z_int => k_is)
    (case Z_isinstance => k_is)
    (case Z_len => k_is)
    (case Z_list => k_is)
    (case Z_max => k_is)
    (case Z_min => k_is)
    (case Z_range => k_is)
    (case Z_str => k_is)
    (case Z_super => k_is)
    (case Z_tuple => k_is)
#print axioms PySem.Challenge.cw_neverhappens_k02_whole_expression_reader_holds
