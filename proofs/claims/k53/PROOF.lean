import PyProof.Rows.All
import Wide.All
import OpenK.AllK
import Wide.FinOn
import HandS.ForMost
import HandS.IsInst
import HandS.FStr
import HandS.Codes
import HandS.Star
import HandS.Zip
import HandS.More
import HandS.Defaults
import HandS.Rev
import HandS.Walk
import HandS.TupAny
import HandS.TupMul
import HandS.Wide
import HandS.Style
import HandS.Iter
import HandS.Conv
import KE.KTurns
import KE.GoesMore
import HandS.Set
import HandS.SetFor
import HandS.Strs
import HandS.NoneIn
import HandS.Finally
import HandS.TupMul
import HandS.DictComp
import HandS.WordsDict
import KE.KDictPairs
import KE.KDictList
import PySem.Challenge.RW_neverhappens_k53_sites
set_option Elab.async false
set_option linter.all false
set_option maxRecDepth 100000
set_option maxHeartbeats 4000000
namespace LRv
open PySem PySem.Spec PyProof.Rows L2 RT PySem.W
/-! ### list(reversed(x)), x a list -/
section
variable {prog : Program} {w : World} {A : Around} {E : Value → Shared → Prop} {s : Shared}
theorem list_init_rev {R : Result → Shared → Prop} {it l : Addr} {items : Array Value} (hh : A.handled = none) (hit : s.heap.IsRevIter it l ((items.size : Int) - 1)) (hl : s.heap.IsList l items) (hne : l ≠ it) (hn : items.size ≤ sizeLine)
    (S : Addr) (hSi : S ≠ it) (hSl : S ≠ l) (hS : s.heap.get? S = some { cls := .type "list", data := .seq #[] })
    (hR : ∀ h' tk acc' c', (∀ b o, b ≠ S → b ≠ it → s.heap.get? b = some o → h'.get? b = some o) → h'.get? S = some { cls := .type "list", dict := none, data := .seq acc' c', slots := #[] } → ItemsOf (fun i v => items[items.size - 1 - i]? = some v) acc' items.size → R (.ok (.ret .none)) { s with heap := h', toks := tk }) :
    wpAny (model prog w) A.in1 (Builtin.«list.__init__» ⟨[.ref S, .ref it], []⟩)
      (fun fin s' => match fin with | .done f => R (.ok f) s' | .again c' => c'.quiet = true ∧ codeAny (model prog w) A c' R s') (fun e s' => R (.error e) s') s := by
  show wpAny _ _ (do let old ← Builtin.List.listItems (.ref S); Builtin.List.listUpdate (.ref S) (fun _ => #[]); letGo old.toList.reverse; Builtin.List.listExtendWith (.ref S) (.ref it) .none) _ _ s
  refine wpAny_bind ?_
  unfold Builtin.List.listItems
  refine wpAny_bind (wpAny_seqItems hS rfl (wpAny_pure ?_))
  show wpAny _ _ (updateSeq S (fun _ => #[]) >>= fun _ => letGo (#[] : Array Value).toList.reverse >>= fun _ => Builtin.List.listExtendWith (.ref S) (.ref it) .none) _ _ s
  refine wpAny_bind (wpAny_updateSeq hS rfl ?_)
  have hS₂ := Heap.get?_update_self (Obj.mapSeq (fun _ => (#[] : Array Value))) hS rfl
  have oth : ∀ b o, b ≠ S → s.heap.get? b = some o → (s.heap.update S (Obj.mapSeq (fun _ => (#[] : Array Value)))).get? b = some o :=
    fun b o hb e => (Heap.get?_update_other _ _ (Ne.symm hb)).trans e
  refine wpAny_bind (wpAny_letGo ?_)
  have W := (Walks.listRev (prog := prog) (w := w) (A := A.in1) hh it l hne items).toS
  have hSf : S ∉ [it, l] := by simp only [List.mem_cons, List.not_mem_nil, or_false, not_or]; exact ⟨hSi, hSl⟩
  have hit1 : (s.heap.update S (Obj.mapSeq (fun _ => (#[] : Array Value)))).IsRevIter it l ((items.size : Int) - 1) := hit.at fun o e => oth it o hSi.symm e
  have hl1 : (s.heap.update S (Obj.mapSeq (fun _ => (#[] : Array Value)))).IsList l items := by
    obtain ⟨o, ho, hc, n, hd⟩ := hl
    exact ⟨o, oth l o hSl.symm ho, hc, n, hd⟩
  generalize hs1 : ({ s with heap := s.heap.update S (Obj.mapSeq (fun _ => (#[] : Array Value))) } : Shared) = s1
  have es1 : s1.heap = s.heap.update S (Obj.mapSeq (fun _ => (#[] : Array Value))) := by rw [← hs1]
  rw [← es1] at hit1 hl1 hS₂ oth
  have hT : s1.TypeIs (.ref it) "list_reverseiterator" := Heap.IsRevIter.typeIs hit1
  have h1 : Builtin.List.listSameRef (.ref S) (.ref it) = false := by simp [Builtin.List.listSameRef, hSi]
  unfold Builtin.List.listExtendWith
  refine wpAny_bind (wpAny_typeOf hT ?_)
  rw [if_neg (by rw [h1]; decide)]
  refine wpAny_bind (wpAny_pyIter_revIter hit1 ?_)
  refine wpAny_bind (wpAny_holding ?_)
  unfold Builtin.List.listLengthHint
  refine wpAny_bind (wpAny_specialOf hT nolen_lri ?_)
  show wpAny _ A.in1 (specialOf (Value.ref it) (Str.ofString "__length_hint__") >>= _) _ _ _
  refine wpAny_bind (wpAny_specialOf hT hint_lri ?_)
  generalize hid : ("list_reverseiterator.__length_hint__" : String) = id0
  wp_delta
  rw [show splitId id0 = some ("list_reverseiterator", "__length_hint__") from by subst hid; decide +kernel]
  subst hid
  refine wpAny_bind (wpAny_isInstance (b := true) hT (by rw [isSubtype_type]; kernel_rfl) ?_)
  refine wpAny_pure ?_
  rw [if_neg (by decide)]
  have e0 : ((items.size : Nat) : Int) - 1 - ((0 : Nat) : Int) = (items.size : Int) - 1 := by omega
  have hS3 : s1.heap.get? S = some { cls := .type "list", data := .seq #[] 1 } ∨ True := .inr trivial
  refine wpAny_pure ⟨plainId_quiet F.plain_extend_loop _, codeAny_extend_loopS W hn _ hSf _ items.size 0 _ _ _ rfl (Nat.zero_le _) ⟨Nat.zero_le _, by rw [e0]; exact hit1, hl1⟩ hS₂ (ItemsOf.nil _) fun s' acc' c' hm hS' hacc => ?_⟩
  rw [Moved.eq_with hm, ← hs1]
  refine hR s'.heap s'.toks acc' c' (fun b o hb hbi e => hm.heap b o (fun hmem => ?_) (oth b o hb e)) hS' hacc
  rcases List.mem_cons.mp hmem with e' | hmem
  · exact hb e'
  · exact hbi (List.mem_singleton.mp hmem)
theorem call_list_rev {it l : Addr} {items : Array Value} {Q : Value → Shared → Prop} (hh : A.handled = none) (hit : s.heap.IsRevIter it l ((items.size : Int) - 1)) (hl : s.heap.IsList l items) (hne : l ≠ it) (hn : items.size ≤ sizeLine)
    (hQ : ∀ h' tk acc' c', (∀ b o, b ≠ it → s.heap.get? b = some o → h'.get? b = some o) → h'.get? s.heap.objs.size = some { cls := .type "list", dict := none, data := .seq acc' c', slots := #[] } → ItemsOf (fun i v => items[items.size - 1 - i]? = some v) acc' items.size → Q (.ref s.heap.objs.size) { s with heap := h', toks := tk }) :
    wpAny (model prog w) A (call (.type "list") [.ref it]) Q E s := by
  refine callType_codes (Q₁ := fun obj s₁ => obj = .ref s.heap.objs.size ∧ s₁ = { s with heap := s.heap.push { cls := .type "list", data := .seq #[] } }) PySem.F.called_list (PySem.F.typeCall_list_1 _) PySem.F.entry_list_init
    (code_list_new _ ⟨rfl, rfl⟩) fun obj s₁ h₁ => ?_
  obtain ⟨rfl, rfl⟩ := h₁
  have hS : (s.heap.push { cls := .type "list", data := .seq #[] }).get? s.heap.objs.size = some { cls := .type "list", data := .seq #[] } := Heap.get?_push_size _ rfl
  obtain ⟨oi, hoi, _⟩ := id hit
  obtain ⟨ol, hol, _⟩ := id hl
  refine ⟨⟨_, hS, rfl⟩, PySem.F.args_list_init_2 _ _, list_init_rev (A := A.in1) hh (hit.at fun o e => Heap.get?_push_of_some _ e) (hl.push _) hne hn _ (Nat.ne_of_gt (Heap.lt_size hoi)) (Nat.ne_of_gt (Heap.lt_size hol)) hS (fun h' tk acc' c' hk hS' hacc => ?_)⟩
  exact ⟨rfl, hQ h' tk acc' c' (fun b o hb e => hk b o (Nat.ne_of_lt (Heap.lt_size e)) hb (Heap.get?_push_of_some _ e)) hS' hacc⟩
end
def tLstRev (K : PySem.W.Frag) (te : TE) : TE := fun σ H Q => te σ H fun v H1 => ∃ (a : Addr) (xs : List V), v = .ref a ∧ SqL K H1 a xs ∧ ∀ q, H1 q = none → Q (.ref q) (upd H1 q (.lst xs.reverse))
theorem pe_listRev {X : Cx} {e : Expr} {te : TE} {p p2 pos pos2 : Pos} (hc : X.calm = true) (hg : Gl X "list") (hm : X.mg "list" = none) (hg2 : Gl X "reversed") (hm2 : X.mg "reversed" = none) (he : PE X e te)
    (hs : starEach [e] X.env = (false, eval e X.env) :: starEach [] X.env := by rfl)
    (hs2 : starEach [.Call (.Name "reversed" p2) [e] [] pos2] X.env = (false, eval (.Call (.Name "reversed" p2) [e] [] pos2) X.env) :: starEach [] X.env := by rfl) :
    PE X (.Call (.Name "list" p) [.Call (.Name "reversed" p2) [e] [] pos2] [] pos) (tLstRev X.K te) := by
  refine ⟨fun pins s σ H Q I h => ?_⟩
  refine Call_ (ld_blt I hg hm boot_list (PyProof.Rows.callWith_type1 (args_cons (Call_ (ld_blt I hg2 hm2 PyProof.Rows.boot_reversed (PyProof.Rows.callWith_type1 (args_cons (thn (he.run pins s σ H _ I h) fun u s1 ⟨v, H1, I1, r1, q1⟩ => args_nil ?_) hs) hs rfl))) hs2) hs2 rfl))
  obtain ⟨a, xs, ev, hq, q⟩ := q1
  subst ev
  obtain rfl : u = Value.ref a := r1
  obtain ⟨its, rv, p', hz⟩ := I1.list hq
  refine call_reversed_list p'.isList (args_nil ?_)
  have hl := p'.isList
  obtain ⟨ol, hol, _⟩ := id hl
  have hne : a ≠ s1.heap.objs.size := Nat.ne_of_lt (Heap.lt_size hol)
  have hn : its.toArray.size ≤ sizeLine := by rw [List.size_toArray, ← rv.length]; exact hz
  refine call_list_rev (s := { s1 with heap := s1.heap.push (revObj a ((its.toArray.size : Int) - 1)) }) (I1.ok.hd hc) ⟨_, Heap.get?_push_size _ rfl, rfl, rfl⟩ (hl.push _) hne hn fun h' tk acc c' hk hS hi => ?_
  have hS2 : s1.heap.objs.size ≤ (s1.heap.push (revObj a ((its.toArray.size : Int) - 1))).objs.size := by
    rw [Heap.size_push]
    exact Nat.le_succ _
  have nT : H1 (s1.heap.push (revObj a ((its.toArray.size : Int) - 1))).objs.size = none := I1.hok.fresh hS2
  have I2 := I1.turnedNew (h' := h') (t' := tk) (ch := [s1.heap.objs.size]) (T := (s1.heap.push (revObj a ((its.toArray.size : Int) - 1))).objs.size) (ob := .lst xs.reverse) (fun b o hb e => hk b o (fun z => hb (by rw [z]; exact List.mem_cons_self)) (Heap.get?_push_of_some _ e)) (fun b hb => by
    rw [List.mem_singleton.mp hb]
    exact I1.fpOk (Nat.le_refl _) (I1.hok.fresh (Nat.le_refl _))) hS2 ⟨by rw [List.length_reverse]; exact hz, acc.toList, c', vals_rev rv hi, by rw [Array.toArray_toList]; exact hS⟩
  exact ⟨.ref _, _, I2, rfl, q _ nT⟩
end LRv
namespace DcS
open PySem PySem.Spec PyProof.Rows L2
/-! ### dict comprehensions: over any walk; name = {..} on one line, the name a local -/
theorem dc_it {J : It} {n : Nat} {G : Hp → Prop} {Y : Nat → Hp → V → Hp → Prop} (w : Walk J n G Y) {g : TG} {tt : TT} {tk tv : TE} {vs : List Nat} {σ : L2.St} {H1 : Hp} {D : Addr} {Qd : Hp → Prop} (Pv : Nat → Hp → Prop) (h0 : Pv 0 (upd H1 D (.dK []))) (hG : ∀ i H, i ≤ n → Pv i H → G H)
    (hs : ∀ i x H H', i < n → Pv i H → Y i H x H' → g x (wipe σ vs) H' fun σ2 H2 => wipe σ2 vs = wipe σ vs ∧ tt σ2 H2 fun b H3 =>
      if b = true then tk σ2 H3 fun y H4 => tv σ2 H4 fun z H5 => ∃ kvs k, y = kV k ∧ H5 D = some (.dK kvs) ∧ kvs.length < sizeLine ∧ Pv (i + 1) (upd H5 D (.dK (putK kvs k z))) else Pv (i + 1) H3) (hd : ∀ H, Pv n H → Qd H) :
    ∃ W : Nat → Nat → Hp → Prop, (∃ m, W 0 m (upd H1 D (.dK []))) ∧ ∀ i m H, W i m H →
      (J.stop i H ∧ Qd H) ∨ (J.go i H ∧ ∃ Nx : Hp → Prop, (∀ H', Nx H' → ∃ m', m' < m ∧ W (i + 1) m' H') ∧ ∀ x H', J.yld i H x H' → g x (wipe σ vs) H' fun σ2 H2 => wipe σ2 vs = wipe σ vs ∧ tt σ2 H2 fun b H3 =>
        if b = true then tk σ2 H3 fun y H4 => tv σ2 H4 fun z H5 => ∃ kvs k, y = kV k ∧ H5 D = some (.dK kvs) ∧ kvs.length < sizeLine ∧ Nx (upd H5 D (.dK (putK kvs k z))) else Nx H3) := by
  refine ⟨fun i m H => m = n - i ∧ i ≤ n ∧ Pv i H, ⟨n, by simp, Nat.zero_le _, h0⟩, ?_⟩
  rintro i m H ⟨rfl, hi, p⟩
  have q := hG i H hi p
  by_cases hlt : i < n
  · exact .inr ⟨w.goes i H hlt q, Pv (i + 1), fun H' p' => ⟨n - (i + 1), by omega, rfl, hlt, p'⟩, fun x H' y => hs i x H H' hlt p (w.yields i H x H' hlt q y)⟩
  · have e : i = n := by omega
    subst e
    exact .inl ⟨w.stops H q, hd H p⟩
section
variable {X : Cx}
theorem ps_setDc {i : Nat} {y : Str} {py : Pos} {kx vx tg iter : Expr} {ifs : List Expr} {scope : Scope} {own : List (Str × Nat)} {pos spos : Pos} {wi : TI} {g : TG} {tt : TT} {tk tv : TE} (hc : X.calm = true) (hN : X.N.Nodup) (hy : X.N[i]? = some y) (hyl : X.env.scope.names.lookup y = some .local)
    (hsw : swapsWith (.DictComp kx vx [⟨tg, iter, ifs, 0⟩] scope pos) (some (.Name y py)) spos.line X.env = pure true) (hi : PI X tg iter wi) (ok : BlkOk X.N X.env.scope scope own)
    (hg : ∀ (s : Shared) (H : Hp) (C : Addr) (cl : List (Str × Addr)) (fp : List Addr), PG (X.blk s H scope (compEnvC scope cl C X.env) fp) tg g) (ht : ∀ (s : Shared) (H : Hp) (C : Addr) (cl : List (Str × Addr)) (fp : List Addr), PTs (X.blk s H scope (compEnvC scope cl C X.env) fp) ifs tt)
    (hk : ∀ (s : Shared) (H : Hp) (C : Addr) (cl : List (Str × Addr)) (fp : List Addr), PE (X.blk s H scope (compEnvC scope cl C X.env) fp) kx tk)
    (he : ∀ (s : Shared) (H : Hp) (C : Addr) (cl : List (Str × Addr)) (fp : List Addr), PE (X.blk s H scope (compEnvC scope cl C X.env) fp) vx tv) (hs : ∀ x, foldedSetIterable iter X.env x = pure x := by intro _; rfl) :
    PS X (.Assign [.Name y py] (.DictComp kx vx [⟨tg, iter, ifs, 0⟩] scope pos) spos) (tAsg (tDc wi g tt tk tv (own.map (·.2))) (gName i)) := by
  refine ⟨fun pins s σ H D I h => ?_⟩
  rw [exec_Assign_Name_used _ _ _ _ hsw]
  refine wpAny_bind (wpAny_standAt (wpAny_bind ?_))
  show wpAny _ X.A (do let _ ← comprehension (.DictComp kx vx [⟨tg, iter, ifs, 0⟩] scope pos) scope X.env (firstIterPos [⟨tg, iter, ifs, 0⟩] pos) newDict false (eval iter X.env) (some (assign (.Name y py) X.env))) _ _ s
  have h : tDc wi g tt tk tv (own.map (·.2)) σ H (fun x H1 => gName i x σ H1 D.nx) := h
  refine wpAny_bind (thn (dc_core (Qf := fun _ s' => SP X pins D .next s') hc hN I hi ok hg ht hk he hs h fun L C s' m H' I' q hn f => ?_) fun _ s' hq => wpAny_pure (wpAny_pure hq))
  show wpAny _ _ (assign (.Name y py) X.env (.ref L)) _ _ _
  refine wpAny_assign_Name (store_ok2 (v := V.ref L) I' hN hy (.inl hyl) rfl (fun s2 I2 ⟨a, sb, ha⟩ => ?_) (.inr hyl))
  obtain ⟨f0, f1, f2, f3, f4, f5⟩ := f
  have haC : C ≠ a := by
    rcases ha with z | z
    · rw [z]; exact f1
    · exact fun e => f4 y a z e.symm
  refine ⟨m, hn.sameBut sb haC, fun h3 sb3 => ?_⟩
  exact ⟨_, H', I2.turned (t' := s2.toks) (fun b o hb e => (sb3.2 b hb).trans e) f0 f1 f3 f4 f5, q⟩
theorem sw_trueD {kx vx : Expr} {gs : List Comprehension} {scope : Scope} {pos py : Pos} {y : Str} {l : Nat} {env : Env} (hk : env.scope.kind = .function) (hy : env.scope.names.lookup y = some .local) (hl : (py.line == pos.line) = true)
    (ha : (scope.names.any fun (n, k) => n == y && (k == .local || k == .cell)) = false) : swapsWith (.DictComp kx vx gs scope pos) (some (.Name y py)) l env = pure true := by
  have ky : env.kindOf y = some .local := hy
  have hb : env.blockKind = .function := by unfold Env.blockKind; rw [hk]; rfl
  unfold swapsWith
  simp only [hb, ky, ha, Expr.pos, hl]
  rfl
end
end DcS
namespace DTL
open PySem PySem.Spec PyProof.Rows L2
section
variable {X : Cx}
/-- tuple(xs) of a list, the object told: it has no dict -/
theorem call_tuple_fz : CallR X (.type "tuple") (fun xs H Q => ∃ p ys, xs = [.ref p] ∧ SqL X.K H p ys ∧ ∀ l o, H l = none → o.cls = .type "tuple" → o.dict = none → Q (.ref l) (upd H l (.frz o (.tup ys)))) := by
  intro pins s σ H xs us Q I r h
  obtain ⟨p, ys, rfl, hq, q⟩ := h
  obtain ⟨u, rfl, rx⟩ := vals1 r
  cases rx
  obtain ⟨its, r', pl, hz⟩ := I.list hq
  have hlen := r'.length
  refine call_tuple_list pl.isList (fun h' kp => ?_) (by simp only [List.size_toArray] <;> omega)
  have I1 : Inv X pins σ H { s with heap := h' } := I.kept (t' := s.toks) kp
  have I2 : Inv X pins σ (upd H h'.objs.size (.frz { cls := .type "tuple", data := .seq its.toArray } (.tup ys))) { s with heap := h'.push { cls := .type "tuple", data := .seq its.toArray } } :=
    I1.laid (t' := s.toks) (fun b o e => Heap.get?_push_of_some _ e) (Nat.le_refl _) (show ObjOk X.prog X.w _ _ _ (.frz _ (.tup ys)) from ⟨Heap.get?_push_size _ rfl, hz, its, r', IsTup.new _ _⟩)
  exact ⟨.ref h'.objs.size, _, I2, rfl, q _ _ (I1.hok.fresh (Nat.le_refl _)) rfl rfl⟩
theorem pairs_of2 {pins : List (Addr × Obj)} {σ : L2.St} {H : Hp} {s : Shared} (I : Inv X pins σ H s) : ∀ {ps : List Addr} {kvs : List (Key × V)}, Paired (fun p kv => SqT X.K H p [kV kv.1, kv.2]) ps kvs →
    ∃ (prs : List (Key × Value)) (qs : List (Value × Value)), KV kvs prs ∧ prs.length = ps.length ∧ qs.length = ps.length ∧ ∀ (j : Nat) (k v : Value), qs[j]? = some (k, v) → ∃ (b : Addr) (key : Key), ps[j]? = some b ∧ IsTup s.heap b #[k, v] ∧ prs[j]? = some (key, v) ∧ keyIs key k = true
  | _, _, .nil => ⟨[], [], .nil, rfl, rfl, fun j k v e => by simp at e⟩
  | _, _, .cons (a := p) (b := kv) h t => by
    obtain ⟨prs, qs, r, hl, hl2, hp⟩ := pairs_of2 I t
    obtain ⟨its, rv, ht, _⟩ := I.tuple h
    obtain ⟨u, y, ei, ru, ry⟩ := vals2 rv
    subst ei
    refine ⟨(kv.1, y) :: prs, (u, y) :: qs, .cons ⟨rfl, ry⟩ r, by rw [List.length_cons, List.length_cons, hl], by rw [List.length_cons, List.length_cons, hl2], fun j k v e => ?_⟩
    cases j with
    | zero =>
      have e' : (u, y) = (k, v) := Option.some.inj e
      cases e'
      exact ⟨p, kv.1, rfl, ht, rfl, kV_is (P := X.prog) (w := X.w) ru⟩
    | succ j =>
      obtain ⟨b, key, e1, e2, e3, e4⟩ := hp j k v (by simpa using e)
      exact ⟨b, key, by simpa using e1, e2, by simpa using e3, e4⟩
/-- dict(t) of a tuple of pairs, the tuple's object told -/
theorem call_dictPT (hcalm : X.calm = true) : CallR X (.type "dict") (fun xs H Q => ∃ (a : Addr) (o : Obj) (ps : List Addr) (kvs : List (Key × V)), xs = [.ref a] ∧ H a = some (.frz o (.tup (ps.map V.ref))) ∧ o.dict = none ∧ Paired (fun p kv => SqT X.K H p [kV kv.1, kv.2]) ps kvs ∧
    ∀ p, H p = none → Q (.ref p) (upd H p (.dK (mergeK [] kvs)))) := by
  intro pins s σ H xs us Q I r q
  obtain ⟨a, o, ps, kvs, ex, hq, hdn, hp, q⟩ := q
  subst ex
  obtain ⟨u, eu, rx⟩ := vals1 r
  subst eu
  cases rx
  obtain ⟨ho, hz, its, rv, o', ho', hc, n, hdat⟩ := I.hok a _ hq
  rw [ho] at ho'
  cases ho'
  have ei := refs_at rv
  subst ei
  rw [List.length_map] at hz
  obtain ⟨prs, qs, rel, hl, hl2, hpr⟩ := pairs_of2 I hp
  have PA := PySem.PairArg.tuple (prog := X.prog) (w := X.w) a (ps.map Value.ref).toArray (fun j => ps.getD j 0) qs
  refine PySem.call_dict_pairs (knd := mixKind X.prog X.w) (kvs := prs) PA (I.ok.hd hcalm) ⟨⟨o, n, ho, hc, hdn, hdat⟩, by simp [hl2], fun j k v e => ?_⟩ ⟨by rw [hl, hl2], fun j k v e => ?_⟩ (by rw [hl2]; exact hz) fun h' tk hd' k => ?_
  · obtain ⟨b, key, e1, e2, e3, e4⟩ := hpr j k v e
    refine ⟨by simp [List.getD_eq_getElem?_getD, e1], ?_⟩
    have eb : ps.getD j 0 = b := by rw [List.getD_eq_getElem?_getD, e1]; rfl
    show PySem.PairAt s.heap (ps.getD j 0) k v
    rw [eb]
    obtain ⟨o2, h2, c2, n2, d2⟩ := e2
    exact .inl ⟨o2, h2, c2, n2, d2⟩
  · obtain ⟨b, key, e1, e2, e3, e4⟩ := hpr j k v e
    exact ⟨key, e3, e4⟩
  · have hm : (s.heap.objs.size == sysModules) = false := beq_eq_false_iff_ne.mpr (Nat.ne_of_gt I.big)
    have hlen : (mergeK [] kvs).length ≤ sizeLine := by
      refine Nat.le_trans (length_mergeK kvs []) ?_
      rw [List.length_nil, Nat.zero_add, rel.length, hl]
      exact hz
    exact ⟨.ref s.heap.objs.size, upd H s.heap.objs.size (.dK (mergeK [] kvs)), I.laid (t' := tk) (fun b o e => k b o (by simp) e) (Nat.le_refl _) (show ObjOk X.prog X.w _ _ _ (.dK (mergeK [] kvs)) from ⟨hlen, hm, merged [] prs, KV.merge rel .nil, hd'⟩), rfl, q _ (I.hok.fresh (Nat.le_refl _))⟩
end
end DTL
namespace ZG
open PySem PySem.Spec PyProof.Rows L2
/-! ### zip of two rows, each a list or a tuple; the target any -/
def ItAt (t : Bool) (h : Heap) (i l : Addr) (k : Nat) : Prop := match t with
  | true => h.IsTupleIter i l k
  | false => h.IsListIter i l k
def SeqIs (t : Bool) (h : Heap) (l : Addr) (xs : Array Value) : Prop := match t with
  | true => h.IsTuple l xs
  | false => h.IsList l xs
def Sq (t : Bool) (K : PySem.W.Frag) (H : Hp) (a : Addr) (xs : List V) : Prop := match t with
  | true => SqT K H a xs
  | false => SqL K H a xs
theorem ItAt.on {t : Bool} {h h' : Heap} {i l : Addr} {k : Nat} (x : ItAt t h i l k) (e : ∀ o, h.get? i = some o → h'.get? i = some o) : ItAt t h' i l k := by
  cases t
  · exact Heap.IsListIter.at x e
  · exact Heap.IsTupleIter.at x e
theorem ItAt.get {t : Bool} {h : Heap} {i l : Addr} {k : Nat} (x : ItAt t h i l k) : ∃ o fs, h.get? i = some o ∧ o.data = .fields fs := by
  cases t <;> (obtain ⟨o, e, _, d⟩ := x; exact ⟨o, _, e, d⟩)
theorem SeqIs.on {t : Bool} {h h' : Heap} {b l : Addr} {xs : Array Value} (x : SeqIs t h l xs) (hs : Heap.ExtBut b h h') (ne : l ≠ b) : SeqIs t h' l xs := by
  cases t
  · exact Heap.IsList.extBut x hs ne
  · exact Heap.IsTuple.extBut x hs ne
theorem SeqIs.push {t : Bool} {h : Heap} {l : Addr} {xs : Array Value} (x : SeqIs t h l xs) (o : Obj) : SeqIs t (h.push o) l xs := by
  cases t
  · exact Heap.IsList.push x o
  · exact Heap.IsTuple.push x o
theorem SeqIs.lt {t : Bool} {h : Heap} {l : Addr} {xs : Array Value} (x : SeqIs t h l xs) : l < h.objs.size := by
  cases t <;> (obtain ⟨o, e, _⟩ := x; exact Heap.lt_size e)
abbrev itObj (t : Bool) (l : Addr) : Obj := { cls := .type (if t then "tuple_iterator" else "list_iterator"), data := .fields #[.ref l, .int 0 0] }
theorem itAt_new (t : Bool) {h : Heap} {i l : Addr} (e : h.get? i = some (itObj t l)) : ItAt t h i l 0 := by
  cases t <;> exact ⟨_, e, rfl, rfl⟩
section
variable {prog : Program} {w : World} {A : Around} {E : Value → Shared → Prop} {s : Shared}
theorem nextIn_item {t : Bool} {i l : Addr} {k : Nat} {xs : Array Value} {x : Value} {Q : Value → Shared → Prop} (h1 : ItAt t s.heap i l k) (h2 : SeqIs t s.heap l xs) (hx : xs[k]? = some x)
    (q : ∀ h', ItAt t h' i l (k + 1) → Heap.SameBut i s.heap h' → Q x { s with heap := h' }) : wpAny (model prog w) A (Builtin.SmallTypes.nextOf (.ref i)) Q E s := by
  cases t
  · exact wpAny_nextOf_list_item h1 h2 hx q
  · exact RZ.nextOf_tuple_item h1 h2 hx q
theorem nextIn_end {t : Bool} {i l : Addr} {k : Nat} {xs : Array Value} {Q : Value → Shared → Prop} (hh : A.handled = none) (h1 : ItAt t s.heap i l k) (h2 : SeqIs t s.heap l xs) (hx : xs[k]? = none)
    (q : ∀ h' e, Heap.ExtBut i s.heap h' → (∃ o, h'.get? e = some o ∧ o.cls = .type "StopIteration") → E (.ref e) { s with heap := h' }) : wpAny (model prog w) A (Builtin.SmallTypes.nextOf (.ref i)) Q E s := by
  cases t
  · exact wpAny_nextOf_list_end hh h1 h2 hx q
  · exact RZ.nextOf_tuple_end hh h1 h2 hx q
/-- the zip at z: f0 tells which tuple it gave out -/
abbrev ZipSt (h : Heap) (z TI TO : Addr) (f0 : Value) (f : Bool) : Prop :=
  h.get? z = some { cls := .type "zip", dict := none, data := .fields #[f0, .bool f, .bool false, .ref TI, .ref TO], slots := #[] }
def Gave (f0 : Value) : Prop := f0 = .none ∨ ∃ T : Addr, f0 = rawInt T
theorem gave_free {z TI TO : Addr} {f0 : Value} {f : Bool} {Q : Bool → Shared → Prop} (hz : ZipSt s.heap z TI TO f0 f) (g : Gave f0) (q1 : Q true s)
    (q2 : ∀ h', ZipSt h' z TI TO f0 true → Heap.SameBut z s.heap h' → Q false { s with heap := h' }) : wpAny (model prog w) A (Builtin.SmallTypes.ownedTupleIsFree (.ref z)) Q E s := by
  unfold Builtin.SmallTypes.ownedTupleIsFree
  rcases g with rfl | ⟨T, rfl⟩
  · exact wpAny_bind (wpAny_field hz rfl (x := .none) rfl (wpAny_pure q1))
  refine wpAny_bind (wpAny_field hz rfl (x := rawInt T) rfl ?_)
  show wpAny _ _ (loadIfAlive ((T : Int).toNat) >>= _) _ _ _
  rw [Int.toNat_natCast]
  have k : ∀ {Q' : Option Obj → Shared → Prop}, Q' (s.heap.get? T) s → wpAny (model prog w) A (loadIfAlive T) Q' E s := fun h => fun _ _ _ => h
  refine wpAny_bind (k ?_)
  cases s.heap.get? T with
  | none =>
    simp only [Option.isNone_none, if_true]
    exact wpAny_pure q1
  | some oT =>
    simp only [Option.isNone_some, Bool.false_eq_true, if_false]
    refine wpAny_bind (wpAny_field hz rfl (x := .bool f) rfl ?_)
    cases f with
    | true =>
      rw [if_neg (show ¬ ((Value.bool true != Value.bool true) = true) from Bool.false_ne_true)]
      exact wpAny_pure (q2 s.heap hz (Heap.SameBut.refl _ _))
    | false =>
      rw [if_pos (show (Value.bool false != Value.bool true) = true from rfl)]
      exact wpAny_bind (wpAny_setField_rec hz (by simp) fun h₁ z1 s1 => wpAny_pure (q2 h₁ z1 s1))
/-- a zip that has an item left -/
theorem zipG_item {t1 t2 : Bool} {z TI TO i1 i2 l1 l2 : Addr} {f0 : Value} {f : Bool} {k1 k2 : Nat} {xs ys : Array Value} {x y a b : Value} {Q : Option Value → Shared → Prop} (D : ZipApart z TI TO i1 i2 l1 l2)
    (hz : ZipSt s.heap z TI TO f0 f) (g : Gave f0) (hTI : IsPair s.heap TI (.ref i1) (.ref i2)) (hTO : IsPair s.heap TO a b)
    (h1 : ItAt t1 s.heap i1 l1 k1) (h2 : ItAt t2 s.heap i2 l2 k2) (hl1 : SeqIs t1 s.heap l1 xs) (hl2 : SeqIs t2 s.heap l2 ys) (hx : xs[k1]? = some x) (hy : ys[k2]? = some y)
    (hQ : ∀ h' f0' f', ZipSt h' z TI TO f0' f' → Gave f0' → (∃ a b, IsPair h' TO a b) → ItAt t1 h' i1 l1 (k1 + 1) → ItAt t2 h' i2 l2 (k2 + 1) → IsPair h' s.heap.objs.size x y → h'.objs.size = s.heap.objs.size + 1 →
      (∀ c o, c ≠ z → c ≠ TO → c ≠ i1 → c ≠ i2 → s.heap.get? c = some o → h'.get? c = some o) → Q (some (.ref s.heap.objs.size)) { s with heap := h' }) :
    wpAny (model prog w) A (pyNext (.ref z)) Q E s := by
  have hT : s.TypeIs (.ref z) "zip" := ⟨_, hz, rfl⟩
  unfold pyNext
  refine wpAny_bind (wpAny_attempt (wpAny_callSpecial?_slot (name := Str.ofString "__next__") hT F.slot_zip_next (wpAny_call_entry F.slot_zip_next hT F.entry_zip_next ?_ (F.args_zip_next_1 _))))
  show wpAny _ _ (field (.ref z) 2 >>= _) _ _ _
  refine wpAny_bind (wpAny_field hz rfl (x := .bool false) rfl ?_)
  show wpAny _ _ (field (.ref z) 3 >>= _) _ _ _
  refine wpAny_bind (wpAny_field hz rfl (x := .ref TI) rfl ?_)
  refine wpAny_bind (wpAny_seqItems hTI rfl ?_)
  refine wpAny_bind (gave_free (z := z) hz g ?free fun u1 z1 s1 => ?held)
  case free =>
    simp only [if_true]
    refine wpAny_bind (wpAny_rule ?_)
    refine wpAny_bind (wpAny_field hz rfl (x := .ref TO) rfl ?_)
    refine wpAny_bind (wpAny_setField_rec hz (by simp) fun u1 z1 s1 => ?_)
    replace z1 : ZipSt u1 z TI TO .ellipsis f := z1
    refine wpAny_bind ?_
    simp only [List.zipIdx_cons, List.zipIdx_nil, List.forIn_cons, List.forIn_nil]
    refine wpAny_bind (wpAny_bind (wpAny_onRaise ?_))
    show wpAny _ _ (Builtin.SmallTypes.nextOf (.ref i1) >>= _) _ _ _
    refine wpAny_bind (nextIn_item (h1.on fun o e => s1.extBut _ _ D.i1z e) (hl1.on s1.extBut D.l1z) hx fun u2 a2 s2 => wpAny_pure ?_)
    have p2 : IsPair u2 TO a b := s2.extBut _ _ D.TOi1 (s1.extBut _ _ D.TOz hTO)
    refine wpAny_bind (wpAny_seqItems p2 rfl ?_)
    refine wpAny_bind (wpAny_updateSeq_pair p2 fun u3 p3 s3 => ?_)
    replace p3 : IsPair u3 TO x b := p3
    refine wpAny_bind (wpAny_letGo (wpAny_pure ?_))
    refine wpAny_bind (wpAny_bind (wpAny_onRaise ?_))
    show wpAny _ _ (Builtin.SmallTypes.nextOf (.ref i2) >>= _) _ _ _
    refine wpAny_bind (nextIn_item (h2.on fun o e => s3.extBut _ _ D.TOi2.symm (s2.extBut _ _ D.i12.symm (s1.extBut _ _ D.i2z e)))
      (((hl2.on s1.extBut D.l2z).on s2.extBut D.l2i1).on s3.extBut D.l2TO) hy fun u4 a4 s4 => wpAny_pure ?_)
    have p4 : IsPair u4 TO x b := s4.extBut _ _ D.TOi2 p3
    refine wpAny_bind (wpAny_seqItems p4 rfl ?_)
    refine wpAny_bind (wpAny_updateSeq_pair p4 fun u5 p5 s5 => ?_)
    replace p5 : IsPair u5 TO x y := p5
    refine wpAny_bind (wpAny_letGo (wpAny_pure (wpAny_pure ?_)))
    refine wpAny_bind (wpAny_seqItems p5 rfl ?_)
    refine wpAny_bind (wpAny_newTuple ?_)
    have sz : u5.objs.size = s.heap.objs.size := by rw [s5.1, s4.1, s3.1, s2.1, s1.1]
    have z5 : ZipSt u5 z TI TO .ellipsis f := s5.extBut _ _ D.TOz.symm (s4.extBut _ _ D.i2z.symm (s3.extBut _ _ D.TOz.symm (s2.extBut _ _ D.i1z.symm z1)))
    have k5 : ∀ c o, c ≠ z → c ≠ TO → c ≠ i1 → c ≠ i2 → s.heap.get? c = some o → u5.get? c = some o := fun c o c1 c2 c3 c4 e =>
      s5.extBut _ _ c2 (s4.extBut _ _ c4 (s3.extBut _ _ c2 (s2.extBut _ _ c3 (s1.extBut _ _ c1 e))))
    have b1 : ItAt t1 u5 i1 l1 (k1 + 1) := a2.on fun o e => s5.extBut _ _ D.TOi1.symm (s4.extBut _ _ D.i12 (s3.extBut _ _ D.TOi1.symm e))
    have b2 : ItAt t2 u5 i2 l2 (k2 + 1) := a4.on fun o e => s5.extBut _ _ D.TOi2.symm e
    have zl : z < u5.objs.size := Heap.lt_size z5
    show wpAny _ _ (Builtin.SmallTypes.ownedTupleHandOut (.ref z) (.ref u5.objs.size) >>= _) _ _ _
    refine wpAny_bind ?_
    unfold Builtin.SmallTypes.ownedTupleHandOut
    have z6 : ZipSt (u5.push { cls := .type "tuple", data := .seq #[x, y] }) z TI TO .ellipsis f := Heap.get?_push_of_some _ z5
    refine wpAny_bind (wpAny_setField_rec z6 (by simp) fun u7 z7 s7 => ?_)
    replace z7 : ZipSt u7 z TI TO (rawInt u5.objs.size) f := z7
    refine wpAny_setField_rec z7 (by simp) fun u8 z8 s8 => ?_
    replace z8 : ZipSt u8 z TI TO (rawInt u5.objs.size) false := z8
    have up : ∀ c o, c ≠ z → u5.get? c = some o → u8.get? c = some o := fun c o c1 e => s8.extBut _ _ c1 (s7.extBut _ _ c1 (Heap.get?_push_of_some _ e))
    have t8 : IsPair u8 u5.objs.size x y := s8.extBut _ _ (Nat.ne_of_gt zl) (s7.extBut _ _ (Nat.ne_of_gt zl) (Heap.get?_push_size _ rfl))
    have n8 : u8.objs.size = u5.objs.size + 1 := by rw [s8.1, s7.1, Heap.size_push]
    rw [sz] at z8 t8 n8
    refine wpAny_pure ⟨_, rfl, wpAny_pure ?_⟩
    show Q (some (.ref u5.objs.size)) _
    rw [sz]
    exact hQ u8 _ _ z8 (.inr ⟨_, rfl⟩) ⟨_, _, up _ _ D.TOz p5⟩ (b1.on fun o e => up _ o D.i1z e) (b2.on fun o e => up _ o D.i2z e) t8 n8 fun c o c1 c2 c3 c4 e => up c o c1 (k5 c o c1 c2 c3 c4 e)
  case held =>
    simp only [Bool.false_eq_true, if_false]
    refine wpAny_bind ?_
    rw [← Array.forIn_toList]
    simp only [List.forIn_cons, List.forIn_nil]
    refine wpAny_bind (wpAny_bind (wpAny_holding ?_))
    show wpAny _ _ (Builtin.SmallTypes.nextOf (.ref i1) >>= _) _ _ _
    refine wpAny_bind (nextIn_item (s := { s with heap := u1 }) (h1.on fun o e => s1.extBut _ _ D.i1z e) (hl1.on s1.extBut D.l1z) hx fun u2 a2 s2 => wpAny_pure ?_)
    refine wpAny_pure ?_
    refine wpAny_bind (wpAny_bind (wpAny_holding ?_))
    show wpAny _ _ (Builtin.SmallTypes.nextOf (.ref i2) >>= _) _ _ _
    refine wpAny_bind (nextIn_item (s := { s with heap := u2 }) (h2.on fun o e => s2.extBut _ _ D.i12.symm (s1.extBut _ _ D.i2z e)) ((hl2.on s1.extBut D.l2z).on s2.extBut D.l2i1) hy fun u3 a3 s3 => wpAny_pure ?_)
    refine wpAny_pure (wpAny_pure ?_)
    show wpAny _ _ (newTuple [x, y] >>= _) _ _ _
    refine wpAny_bind (wpAny_newTuple ?_)
    have sz : u3.objs.size = s.heap.objs.size := by rw [s3.1, s2.1, s1.1]
    have z3 : ZipSt u3 z TI TO f0 true := s3.extBut _ _ D.i2z.symm (s2.extBut _ _ D.i1z.symm z1)
    have k3 : ∀ c o, c ≠ z → c ≠ TO → c ≠ i1 → c ≠ i2 → s.heap.get? c = some o → u3.get? c = some o := fun c o c1 _ c2 c3 e => s3.extBut _ _ c3 (s2.extBut _ _ c2 (s1.extBut _ _ c1 e))
    have b1 : ItAt t1 u3 i1 l1 (k1 + 1) := a2.on fun o e => s3.extBut _ _ D.i12 e
    refine wpAny_pure ⟨_, rfl, wpAny_pure ?_⟩
    show Q (some (.ref u3.objs.size)) _
    have hp : IsPair (u3.push { cls := .type "tuple", data := .seq #[x, y] }) u3.objs.size x y := Heap.get?_push_size _ rfl
    have n4 : (u3.push { cls := .type "tuple", data := .seq #[x, y] }).objs.size = u3.objs.size + 1 := Heap.size_push ..
    have pTO : IsPair u3 TO a b := s3.extBut _ _ D.TOi2 (s2.extBut _ _ D.TOi1 (s1.extBut _ _ D.TOz hTO))
    rw [sz] at hp n4 ⊢
    exact hQ _ _ _ (Heap.get?_push_of_some _ z3) g ⟨a, b, Heap.get?_push_of_some _ pTO⟩ (b1.on fun o e => Heap.get?_push_of_some _ e) (a3.on fun o e => Heap.get?_push_of_some _ e) hp n4 fun c o c1 c2 c3 c4 e => Heap.get?_push_of_some _ (k3 c o c1 c2 c3 c4 e)
/-- a zip that is through -/
theorem zipG_end {t1 t2 : Bool} {z TI TO i1 i2 l1 l2 : Addr} {f0 : Value} {f : Bool} {k1 k2 : Nat} {xs ys : Array Value} {a b : Value} {Q : Option Value → Shared → Prop} (hh : A.handled = none) (D : ZipApart z TI TO i1 i2 l1 l2)
    (hz : ZipSt s.heap z TI TO f0 f) (g : Gave f0) (hTI : IsPair s.heap TI (.ref i1) (.ref i2)) (hTO : IsPair s.heap TO a b)
    (h1 : ItAt t1 s.heap i1 l1 k1) (h2 : ItAt t2 s.heap i2 l2 k2) (hl1 : SeqIs t1 s.heap l1 xs) (hl2 : SeqIs t2 s.heap l2 ys) (hend : xs[k1]? = none ∨ ys[k2]? = none)
    (hQ : ∀ h', (∀ c o, c ≠ z → c ≠ TO → c ≠ i1 → c ≠ i2 → s.heap.get? c = some o → h'.get? c = some o) → Q none { s with heap := h' }) :
    wpAny (model prog w) A (pyNext (.ref z)) Q E s := by
  have hT : s.TypeIs (.ref z) "zip" := ⟨_, hz, rfl⟩
  have fin : ∀ (h' : Heap) (e : Addr), (∀ c o, c ≠ z → c ≠ TO → c ≠ i1 → c ≠ i2 → s.heap.get? c = some o → h'.get? c = some o) → (∃ o, h'.get? e = some o ∧ o.cls = .type "StopIteration") →
      wpAny (model prog w) A (isInstance (.ref e) (.type "StopIteration")) (fun v s' => v = true ∧ s' = { s with heap := h' }) E { s with heap := h' } := fun h' e _ he => by
    obtain ⟨o, ho, hc⟩ := he
    exact wpAny_isInstance (T := "StopIteration") (b := true) ⟨o, ho, hc⟩ isSubtype_stop ⟨rfl, rfl⟩
  unfold pyNext
  refine wpAny_bind (wpAny_attempt (wpAny_callSpecial?_slot (name := Str.ofString "__next__") hT F.slot_zip_next (wpAny_call_entry F.slot_zip_next hT F.entry_zip_next ?_ (F.args_zip_next_1 _))))
  show wpAny _ _ (field (.ref z) 2 >>= _) _ _ _
  refine wpAny_bind (wpAny_field hz rfl (x := .bool false) rfl ?_)
  show wpAny _ _ (field (.ref z) 3 >>= _) _ _ _
  refine wpAny_bind (wpAny_field hz rfl (x := .ref TI) rfl ?_)
  refine wpAny_bind (wpAny_seqItems hTI rfl ?_)
  refine wpAny_bind (gave_free (z := z) hz g ?free fun u1 z1 s1 => ?held)
  case free =>
    simp only [if_true]
    refine wpAny_bind (wpAny_rule ?_)
    refine wpAny_bind (wpAny_field hz rfl (x := .ref TO) rfl ?_)
    refine wpAny_bind (wpAny_setField_rec hz (by simp) fun u1 z1 s1 => ?_)
    replace z1 : ZipSt u1 z TI TO .ellipsis f := z1
    refine wpAny_bind ?_
    simp only [List.zipIdx_cons, List.zipIdx_nil, List.forIn_cons, List.forIn_nil]
    refine wpAny_bind (wpAny_bind (wpAny_onRaise ?_))
    show wpAny _ _ (Builtin.SmallTypes.nextOf (.ref i1) >>= _) _ _ _
    cases hx : xs[k1]? with
    | none =>
      refine wpAny_bind (nextIn_end hh (h1.on fun o e => s1.extBut _ _ D.i1z e) (hl1.on s1.extBut D.l1z) hx fun u2 e s2 he => ?_)
      obtain ⟨oe, hoe, hce⟩ := he
      have z2 : ZipSt u2 z TI TO .ellipsis f := s2 _ _ D.i1z.symm z1
      have hez : e ≠ z := fun x => by subst x; rw [z2] at hoe; cases hoe; simp at hce
      refine wpAny_setField_rec z2 (by simp) fun u3 _ s3 => ?_
      refine wpAny_bind (wpAny_isInstance (T := "StopIteration") (b := true) ⟨oe, s3.extBut _ _ hez hoe, hce⟩ isSubtype_stop ?_)
      exact wpAny_pure (hQ u3 fun c o c1 _ c3 _ x => s3.extBut _ _ c1 (s2 _ _ c3 (s1.extBut _ _ c1 x)))
    | some x =>
      have hy : ys[k2]? = none := by rcases hend with h | h; rw [hx] at h; cases h; exact h
      refine wpAny_bind (nextIn_item (h1.on fun o e => s1.extBut _ _ D.i1z e) (hl1.on s1.extBut D.l1z) hx fun u2 a2 s2 => wpAny_pure ?_)
      have p2 : IsPair u2 TO a b := s2.extBut _ _ D.TOi1 (s1.extBut _ _ D.TOz hTO)
      refine wpAny_bind (wpAny_seqItems p2 rfl ?_)
      refine wpAny_bind (wpAny_updateSeq_pair p2 fun u3 p3 s3 => ?_)
      refine wpAny_bind (wpAny_letGo (wpAny_pure ?_))
      refine wpAny_bind (wpAny_bind (wpAny_onRaise ?_))
      show wpAny _ _ (Builtin.SmallTypes.nextOf (.ref i2) >>= _) _ _ _
      refine wpAny_bind (nextIn_end hh (h2.on fun o e => s3.extBut _ _ D.TOi2.symm (s2.extBut _ _ D.i12.symm (s1.extBut _ _ D.i2z e)))
        (((hl2.on s1.extBut D.l2z).on s2.extBut D.l2i1).on s3.extBut D.l2TO) hy fun u4 e s4 he => ?_)
      obtain ⟨oe, hoe, hce⟩ := he
      have z4 : ZipSt u4 z TI TO .ellipsis f := s4 _ _ D.i2z.symm (s3.extBut _ _ D.TOz.symm (s2.extBut _ _ D.i1z.symm z1))
      have hez : e ≠ z := fun x => by subst x; rw [z4] at hoe; cases hoe; simp at hce
      refine wpAny_setField_rec z4 (by simp) fun u5 _ s5 => ?_
      refine wpAny_bind (wpAny_isInstance (T := "StopIteration") (b := true) ⟨oe, s5.extBut _ _ hez hoe, hce⟩ isSubtype_stop ?_)
      exact wpAny_pure (hQ u5 fun c o c1 c2 c3 c4 x => s5.extBut _ _ c1 (s4 _ _ c4 (s3.extBut _ _ c2 (s2.extBut _ _ c3 (s1.extBut _ _ c1 x)))))
  case held =>
    simp only [Bool.false_eq_true, if_false]
    refine wpAny_bind ?_
    rw [← Array.forIn_toList]
    simp only [List.forIn_cons, List.forIn_nil]
    refine wpAny_bind (wpAny_bind (wpAny_holding ?_))
    show wpAny _ _ (Builtin.SmallTypes.nextOf (.ref i1) >>= _) _ _ _
    cases hx : xs[k1]? with
    | none =>
      refine wpAny_bind (nextIn_end (s := { s with heap := u1 }) hh (h1.on fun o e => s1.extBut _ _ D.i1z e) (hl1.on s1.extBut D.l1z) hx fun u2 e s2 he => ?_)
      obtain ⟨oe, hoe, hce⟩ := he
      refine wpAny_bind (wpAny_isInstance (T := "StopIteration") (b := true) ⟨oe, hoe, hce⟩ isSubtype_stop ?_)
      exact wpAny_pure (hQ u2 fun c o c1 _ c3 _ x => s2 _ _ c3 (s1.extBut _ _ c1 x))
    | some x =>
      have hy : ys[k2]? = none := by rcases hend with h | h; rw [hx] at h; cases h; exact h
      refine wpAny_bind (nextIn_item (s := { s with heap := u1 }) (h1.on fun o e => s1.extBut _ _ D.i1z e) (hl1.on s1.extBut D.l1z) hx fun u2 a2 s2 => wpAny_pure ?_)
      refine wpAny_pure ?_
      refine wpAny_bind (wpAny_bind (wpAny_holding ?_))
      show wpAny _ _ (Builtin.SmallTypes.nextOf (.ref i2) >>= _) _ _ _
      refine wpAny_bind (nextIn_end (s := { s with heap := u2 }) hh (h2.on fun o e => s2.extBut _ _ D.i12.symm (s1.extBut _ _ D.i2z e)) ((hl2.on s1.extBut D.l2z).on s2.extBut D.l2i1) hy fun u3 e s3 he => ?_)
      obtain ⟨oe, hoe, hce⟩ := he
      refine wpAny_bind (wpAny_isInstance (T := "StopIteration") (b := true) ⟨oe, hoe, hce⟩ isSubtype_stop ?_)
      exact wpAny_pure (hQ u3 fun c o c1 _ c3 c4 x => s3 _ _ c4 (s2.extBut _ _ c3 (s1.extBut _ _ c1 x)))
/-- what is done with the tuple that it gave out ahead of a target -/
theorem goG {tg : Expr} {z TI TO T : Addr} {f0 : Value} {f : Bool} {Q : Unit → Shared → Prop} (hz : ZipSt s.heap z TI TO f0 f) (g : Gave f0)
    (hQ : ∀ h' f0', ZipSt h' z TI TO f0' f → Gave f0' → Heap.SameBut z s.heap h' → Q () { s with heap := h' }) : wpAny (model prog w) A (letOwnedTupleGo tg (.ref z) (.ref T)) Q E s := by
  have q0 : Q () s := hQ s.heap f0 hz g (Heap.SameBut.refl _ _)
  unfold letOwnedTupleGo
  cases tg <;> first
    | exact wpAny_pure q0
    | (refine wpAny_bind (wpAny_load hz ?_)
       show wpAny _ _ (if (["enumerate", "zip", "dict_itemiterator", "dict_reverseitemiterator", "odict_iterator", "itertools.zip_longest", "itertools.pairwise"].contains "zip" && (#[f0, .bool f, .bool false, .ref TI, .ref TO] : Array Value)[0]? == some (rawInt T)) = true then _ else _) Q E s
       split
       · refine wpAny_bind (wpAny_rule ?_)
         show wpAny _ _ (setField (.ref z) 0 .none) Q E s
         exact wpAny_setField_rec hz (by simp) fun h' z' s' => hQ h' .none z' (.inl rfl) s'
       · exact wpAny_pure q0)
abbrev zG1 (t : Bool) (h : Heap) (l1 : Addr) : Heap := h.push (itObj t l1)
abbrev zG2 (t1 t2 : Bool) (h : Heap) (l1 l2 : Addr) : Heap := (zG1 t1 h l1).push (itObj t2 l2)
abbrev zG3 (t1 t2 : Bool) (h : Heap) (l1 l2 : Addr) : Heap := (zG2 t1 t2 h l1 l2).push { cls := .type "tuple", data := .seq #[.ref h.objs.size, .ref (zG1 t1 h l1).objs.size] }
abbrev zG4 (t1 t2 : Bool) (h : Heap) (l1 l2 : Addr) : Heap := (zG3 t1 t2 h l1 l2).push { cls := .type "tuple", data := .seq #[.none, .none] }
abbrev zG5 (t1 t2 : Bool) (h : Heap) (l1 l2 : Addr) : Heap := (zG4 t1 t2 h l1 l2).push { cls := .type "zip", data := .fields #[.none, .bool false, .bool false, .ref (zG2 t1 t2 h l1 l2).objs.size, .ref (zG3 t1 t2 h l1 l2).objs.size] }
theorem iterG {t : Bool} {l : Addr} {xs : Array Value} {Q : Value → Shared → Prop} (hl : SeqIs t s.heap l xs) (q : Q (.ref s.heap.objs.size) { s with heap := s.heap.push (itObj t l) }) : wpAny (model prog w) A (pyIter (.ref l)) Q E s := by
  cases t
  · exact wpAny_pyIter_list hl q
  · exact wpAny_pyIter_tuple hl q
end
theorem meets_zipG (t1 t2 : Bool) (l1 l2 : Addr) (xs ys : Array Value) :
    Meets (Builtin.«zip.__new__» ⟨[.type "zip", .ref l1, .ref l2], []⟩) (fun _ R s => SeqIs t1 s.heap l1 xs ∧ SeqIs t2 s.heap l2 ys ∧
      R (.ok (.ret (.ref (zG4 t1 t2 s.heap l1 l2).objs.size))) { s with heap := zG5 t1 t2 s.heap l1 l2 }) :=
  .of_wp fun prog w A R s h => by
    obtain ⟨hp, g, d, tk, os⟩ := s
    obtain ⟨hl1, hl2, h⟩ := h
    have hsub := sub_zip
    have q1 : SeqIs t1 (Shared.heap ⟨hp, g, d, tk, os⟩) l1 xs := hl1
    have q2 : SeqIs t2 (Shared.heap ⟨hp.push (itObj t1 l1), g, d, tk, os⟩) l2 ys := SeqIs.push hl2 _
    wp_walk using iterG q1, iterG q2
    exact ⟨_, rfl, h⟩
theorem call_zipG {prog : Program} {w : World} {A : Around} {E : Value → Shared → Prop} {s : Shared} {t1 t2 : Bool} {l1 l2 : Addr} {xs ys : Array Value} {Q : Value → Shared → Prop} (hl1 : SeqIs t1 s.heap l1 xs) (hl2 : SeqIs t2 s.heap l2 ys)
    (h : ∀ h', ZipSt h' (s.heap.objs.size + 4) (s.heap.objs.size + 2) (s.heap.objs.size + 3) .none false → IsPair h' (s.heap.objs.size + 2) (.ref s.heap.objs.size) (.ref (s.heap.objs.size + 1)) →
      IsPair h' (s.heap.objs.size + 3) .none .none → ItAt t1 h' s.heap.objs.size l1 0 → ItAt t2 h' (s.heap.objs.size + 1) l2 0 →
      (∀ c o, s.heap.get? c = some o → h'.get? c = some o) → Q (.ref (s.heap.objs.size + 4)) { s with heap := h' }) :
    wpAny (model prog w) A (call (.type "zip") [.ref l1, .ref l2]) Q E s := by
  refine callType_new F.called_zip (by decide) (F.typeCall_zip_2 _ _) (F.newCall_zip_2 _ _) (fun obj => F.args_object_init_3 obj _ _) F.entry_zip_new (meets_zipG t1 t2 l1 l2 xs ys) ⟨hl1, hl2, ?_⟩
  have z1 : (zG1 t1 s.heap l1).objs.size = s.heap.objs.size + 1 := Heap.size_push ..
  have z2 : (zG2 t1 t2 s.heap l1 l2).objs.size = s.heap.objs.size + 2 := by rw [Heap.size_push, z1]
  have z3 : (zG3 t1 t2 s.heap l1 l2).objs.size = s.heap.objs.size + 3 := by rw [Heap.size_push, z2]
  have z4 : (zG4 t1 t2 s.heap l1 l2).objs.size = s.heap.objs.size + 4 := by rw [Heap.size_push, z3]
  have g5 : (zG5 t1 t2 s.heap l1 l2).get? (zG4 t1 t2 s.heap l1 l2).objs.size = some _ := Heap.get?_push_size _ rfl
  have g4 : (zG5 t1 t2 s.heap l1 l2).get? (zG3 t1 t2 s.heap l1 l2).objs.size = some _ := Heap.get?_push_of_some _ (Heap.get?_push_size _ rfl)
  have g3 : (zG5 t1 t2 s.heap l1 l2).get? (zG2 t1 t2 s.heap l1 l2).objs.size = some _ := Heap.get?_push_of_some _ (Heap.get?_push_of_some _ (Heap.get?_push_size _ rfl))
  have g2 : (zG5 t1 t2 s.heap l1 l2).get? (zG1 t1 s.heap l1).objs.size = some (itObj t2 l2) := Heap.get?_push_of_some _ (Heap.get?_push_of_some _ (Heap.get?_push_of_some _ (Heap.get?_push_size _ (by cases t2 <;> rfl))))
  have g1 : (zG5 t1 t2 s.heap l1 l2).get? s.heap.objs.size = some (itObj t1 l1) := Heap.get?_push_of_some _ (Heap.get?_push_of_some _ (Heap.get?_push_of_some _ (Heap.get?_push_of_some _ (Heap.get?_push_size _ (by cases t1 <;> rfl)))))
  show _ ∧ _
  rw [z2, z3, z4] at g5
  rw [z1, z2] at g3
  rw [z3] at g4
  rw [z1] at g2
  rw [z4]
  exact ⟨⟨_, g5, rfl⟩, h _ g5 g3 g4 (itAt_new t1 g1) (itAt_new t2 g2) fun c o x =>
    Heap.get?_push_of_some _ (Heap.get?_push_of_some _ (Heap.get?_push_of_some _ (Heap.get?_push_of_some _ (Heap.get?_push_of_some _ x))))⟩
theorem Sq.at {X : Cx} {pins : List (Addr × Obj)} {σ : L2.St} {H : Hp} {s : Shared} {t : Bool} {a : Addr} {xs : List V} (I : Inv X pins σ H s) (h : Sq t X.K H a xs) : ∃ its : List Value, Vals xs its ∧ SeqIs t s.heap a its.toArray := by
  cases t
  · obtain ⟨its, r, p, _⟩ := I.list h
    exact ⟨its, r, p.isList⟩
  · obtain ⟨its, r, p, _⟩ := I.tuple h
    exact ⟨its, r, p⟩
theorem Sq.inj {X : Cx} {pins : List (Addr × Obj)} {σ : L2.St} {H : Hp} {s : Shared} {t : Bool} {a : Addr} {xs ys : List V} (I : Inv X pins σ H s) (h : Sq t X.K H a xs) (h' : Sq t X.K H a ys) : xs = ys := by
  cases t
  · exact I.list_inj h h'
  · exact I.tuple_inj h h'
/-- the rows at a and b as they stand at each turn, the items in new pairs -/
def ItzG (K : PySem.W.Frag) (t1 t2 : Bool) (a b : Addr) : It :=
  ⟨fun i H => ∃ (xs ys : List V) (x y : V), Sq t1 K H a xs ∧ Sq t2 K H b ys ∧ xs[i]? = some x ∧ ys[i]? = some y,
    fun i H v H' => ∃ T x y, v = .ref T ∧ H T = none ∧ H' = upd H T (.tup [x, y]) ∧ (∀ xs, Sq t1 K H a xs → xs[i]? = some x) ∧ ∀ ys, Sq t2 K H b ys → ys[i]? = some y,
    fun i H => ∃ xs ys : List V, Sq t1 K H a xs ∧ Sq t2 K H b ys ∧ (xs.length ≤ i ∨ ys.length ≤ i)⟩
theorem turn_zipG {P : Program} {w : World} {K : PySem.W.Frag} {tg : Expr} {t1 t2 : Bool} {a b z TI TO i1 i2 : Addr} (D : ZipApart z TI TO i1 i2 a b) :
    Turn P w K tg (ItzG K t1 t2 a b) [z, TI, TO, i1, i2] z (fun i h => (∃ f0 f, ZipSt h z TI TO f0 f ∧ Gave f0) ∧ IsPair h TI (.ref i1) (.ref i2) ∧ (∃ x y, IsPair h TO x y) ∧ ItAt t1 h i1 a i ∧ ItAt t2 h i2 b i) where
  mem := by simp
  obj := fun i h st c hc => by
    obtain ⟨⟨f0, f, hz, _⟩, hTI, ⟨x, y, hTO⟩, h1, h2⟩ := st
    obtain ⟨o1, fs1, e1, d1⟩ := h1.get
    obtain ⟨o2, fs2, e2, d2⟩ := h2.get
    have e' : c = z ∨ c = TI ∨ c = TO ∨ c = i1 ∨ c = i2 := by simpa using hc
    rcases e' with q | q | q | q | q
    · rw [q]; exact ⟨_, hz, fun v q => nomatch q⟩
    · rw [q]; exact ⟨_, hTI, fun v q => nomatch q⟩
    · rw [q]; exact ⟨_, hTO, fun v q => nomatch q⟩
    · rw [q]; exact ⟨o1, e1, fun v q => by rw [d1] at q; cases q⟩
    · rw [q]; exact ⟨o2, e2, fun v q => by rw [d2] at q; cases q⟩
  keep := fun i h h' st k => by
    obtain ⟨⟨f0, f, hz, g⟩, hTI, ⟨x, y, hTO⟩, h1, h2⟩ := st
    exact ⟨⟨f0, f, k z (by simp) _ hz, g⟩, k TI (by simp) _ hTI, ⟨x, y, k TO (by simp) _ hTO⟩, h1.on fun o q => k i1 (by simp) o q, h2.on fun o q => k i2 (by simp) o q⟩
  item := by
    intro X hP hw hK hc i pins s σ H E I hf st hg
    subst hP hw hK
    obtain ⟨⟨f0, f, hz, g⟩, hTI, ⟨x0, y0, hTO⟩, h1, h2⟩ := st
    obtain ⟨xs, ys, x, y, hqx, hqy, hx, hy⟩ := hg
    obtain ⟨its, rv, p⟩ := hqx.at I
    obtain ⟨its2, rv2, p2⟩ := hqy.at I
    obtain ⟨u, hu, ru⟩ := rv.get hx
    obtain ⟨u2, hu2, ru2⟩ := rv2.get hy
    have hzl : z < s.heap.objs.size := Heap.lt_size hz
    refine zipG_item D hz g hTI hTO h1 h2 p p2 (x := u) (y := u2) (by simpa using hu) (by simpa using hu2) fun h' f0' f' z' g' TO' h1' h2' hT hsz hk => ?_
    refine ⟨_, rfl, goG (s := { s with heap := h' }) z' g' fun h'' f0'' z'' g'' sb => ?_⟩
    have hT2 : h''.get? s.heap.objs.size = some { cls := .type "tuple", data := .seq #[u, u2] } := (sb.2 _ (Nat.ne_of_gt hzl)).trans hT
    have new : ObjOk X.prog X.w (upd H s.heap.objs.size (.tup [x, y])) h'' s.heap.objs.size (.tup [x, y]) :=
      ⟨by show 2 ≤ sizeLine; decide, [u, u2], .cons ru (.cons ru2 .nil), ⟨_, hT2, rfl, _, rfl⟩⟩
    have I1 : Inv X pins σ (upd H s.heap.objs.size (.tup [x, y])) { s with heap := h'' } :=
      I.turnedNew (t' := s.toks) (ch := [z, TI, TO, i1, i2]) (fun c o hb q => (sb.2 c (fun q' => hb (by simp [q']))).trans (hk c o (fun q' => hb (by simp [q'])) (fun q' => hb (by simp [q'])) (fun q' => hb (by simp [q'])) (fun q' => hb (by simp [q'])) q)) hf (Nat.le_refl _) new
    have TI' : IsPair h' TI (.ref i1) (.ref i2) := hk _ _ D.TIz D.TITO D.TIi1 D.TIi2 hTI
    obtain ⟨x1, y1, TO'⟩ := TO'
    refine ⟨.ref s.heap.objs.size, _, I1, rfl, ⟨_, x, y, rfl, I.hok.fresh (Nat.le_refl _), rfl, fun l hl => by rw [hl.inj I hqx]; exact hx, fun l hl => by rw [hl.inj I hqy]; exact hy⟩, ⟨⟨_, _, z'', g''⟩, ?_, ⟨x1, y1, ?_⟩, ?_, ?_⟩, fun c hcm => ?_⟩
    · exact (sb.2 _ D.TIz).trans TI'
    · exact (sb.2 _ D.TOz).trans TO'
    · exact h1'.on fun o q => (sb.2 _ D.i1z).trans q
    · exact h2'.on fun o q => (sb.2 _ D.i2z).trans q
    · have hlt : c < s.heap.objs.size := by
        obtain ⟨o1, _, e1, _⟩ := h1.get
        obtain ⟨o2, _, e2, _⟩ := h2.get
        have e' : c = z ∨ c = TI ∨ c = TO ∨ c = i1 ∨ c = i2 := by simpa using hcm
        rcases e' with q | q | q | q | q
        · rw [q]; exact hzl
        · rw [q]; exact Heap.lt_size hTI
        · rw [q]; exact Heap.lt_size hTO
        · rw [q]; exact Heap.lt_size e1
        · rw [q]; exact Heap.lt_size e2
      rw [upd_ne (Nat.ne_of_lt hlt)]
      exact (hf c hcm).1
  done := by
    intro X hP hw hK hc i pins s σ H E I hf st hg
    subst hP hw hK
    obtain ⟨⟨f0, f, hz, g⟩, hTI, ⟨x0, y0, hTO⟩, h1, h2⟩ := st
    obtain ⟨xs, ys, hqx, hqy, hend⟩ := hg
    obtain ⟨its, rv, p⟩ := hqx.at I
    obtain ⟨its2, rv2, p2⟩ := hqy.at I
    have l1 := rv.length
    have l2 := rv2.length
    have he : its.toArray[i]? = none ∨ its2.toArray[i]? = none := by
      rcases hend with q | q
      · exact .inl (by simp; omega)
      · exact .inr (by simp; omega)
    exact zipG_end (I.ok.hd hc) D hz g hTI hTO h1 h2 p p2 he fun h' hk => ⟨rfl, I.turnedL (t' := s.toks) (ch := [z, TI, TO, i1, i2]) (fun c o hb q =>
      hk c o (fun q' => hb (by simp [q'])) (fun q' => hb (by simp [q'])) (fun q' => hb (by simp [q'])) (fun q' => hb (by simp [q'])) q) hf⟩
  self := fun A i s Q E st h => by
    obtain ⟨⟨f0, f, hz, g⟩, _⟩ := st
    have hT : s.TypeIs (.ref z) "zip" := ⟨_, hz, rfl⟩
    refine wpAny_pyIter_slot hT F.slot_zip_iter (wpAny_call_entry F.slot_zip_iter hT F.entry_zip_iter ?_ (F.args_zip_iter_1 _))
    show wpAny _ _ (ret (.ref z)) _ _ s
    exact wpAny_pure ⟨_, rfl, "zip", _, hT, F.slot_zip_next.lookup, h⟩
def iZipG (K : PySem.W.Frag) (ta : TA) : TI := fun σ H R => ta σ H fun vs H1 => ∃ (t1 t2 : Bool) (a b : Addr) (xs ys : List V), vs = [.ref a, .ref b] ∧ Sq t1 K H1 a xs ∧ Sq t2 K H1 b ys ∧ R (ItzG K t1 t2 a b) H1
theorem pi_zipG {X : Cx} {tg e e2 : Expr} {ta : TA} {p pos : Pos} (hg : Gl X "zip") (hm : X.mg "zip" = none) (ha : PA X [e, e2] ta)
    (hs : starEach [e, e2] X.env = (false, eval e X.env) :: starEach [e2] X.env := by rfl) (hpl : (backTo pos (starEach [e2] X.env)).any (·.1) = false := by rfl) :
    PI X tg (.Call (.Name "zip" p) [e, e2] [] pos) (iZipG X.K ta) := by
  refine ⟨fun pins s σ H R I h => ?_⟩
  refine Call_ (ld_blt I hg hm PyProof.Rows.boot_zip (PyProof.Rows.callWith_type1 (thn (ha.run pos pins s σ H _ I h) fun us s1 ⟨vs, H1, I1, r1, q1⟩ => ?_) hs hpl))
  obtain ⟨t1, t2, a, b, xs, ys, ex, hqx, hqy, q⟩ := q1
  subst ex
  cases r1 with
  | cons r rr =>
    cases rr with
    | cons r' rr =>
      cases rr
      cases r
      cases r'
      obtain ⟨its, rv, p1⟩ := hqx.at I1
      obtain ⟨its2, rv2, p2⟩ := hqy.at I1
      refine call_zipG p1 p2 fun h' hz hTI hTO h1 h2 hk => ?_
      have hT : Shared.TypeIs { s1 with heap := h' } (.ref (s1.heap.objs.size + 4)) "zip" := ⟨_, hz, rfl⟩
      refine wpAny_pyIter_slot hT F.slot_zip_iter (wpAny_call_entry F.slot_zip_iter hT F.entry_zip_iter ?_ (F.args_zip_iter_1 _))
      show wpAny _ _ (ret (.ref _)) _ _ _
      refine wpAny_pure ⟨_, rfl, "zip", _, hT, F.slot_zip_next.lookup, ?_⟩
      have I2 : Inv X pins σ H1 { s1 with heap := h' } := I1.kept (t' := s1.toks) hk
      refine ⟨s1.heap.objs.size + 4, [s1.heap.objs.size + 4, s1.heap.objs.size + 2, s1.heap.objs.size + 3, s1.heap.objs.size, s1.heap.objs.size + 1], _, _, H1, rfl, I2, turn_zipG (PySem.W.ktu_apart s1.heap.objs.size a b p1.lt p2.lt), ⟨⟨_, _, hz, .inl rfl⟩, hTI, ⟨_, _, hTO⟩, h1, h2⟩, fun c hcm => ?_, q⟩
      have e' : c = s1.heap.objs.size + 4 ∨ c = s1.heap.objs.size + 2 ∨ c = s1.heap.objs.size + 3 ∨ c = s1.heap.objs.size ∨ c = s1.heap.objs.size + 1 := by simpa using hcm
      have hle : s1.heap.objs.size ≤ c := by
        rcases e' with z | z | z | z | z <;> (rw [z]; omega)
      exact I1.fpOk hle (I1.hok.fresh hle)
theorem walk_zipG {K : PySem.W.Frag} {t1 t2 : Bool} {a b : Addr} {xs ys : List V} {n : Nat} (hn : n = min xs.length ys.length) : Walk (ItzG K t1 t2 a b) n (fun H => Sq t1 K H a xs ∧ Sq t2 K H b ys) (YPair (fun i => xs[i]?) (fun i => ys[i]?)) := by
  subst hn
  refine ⟨fun i _ hi q => ?_, fun _ q => ⟨xs, ys, q.1, q.2, by omega⟩, fun i H v H' _ q y => ?_⟩
  · have h1 : i < xs.length := by omega
    have h2 : i < ys.length := by omega
    exact ⟨xs, ys, xs[i], ys[i], q.1, q.2, by simp [h1], by simp [h2]⟩
  · obtain ⟨T, x, z, h1, h2, h3, h4, h5⟩ := y
    exact ⟨T, x, z, h1, h2, h3, h4 xs q.1, h5 ys q.2⟩
end ZG
namespace EnT
open PySem PySem.Spec PyProof.Rows L2
/-! ### enumerate over a tuple -/
theorem meets_enumT (l : Addr) (items : Array Value) :
    Meets (Builtin.«enumerate.__new__» ⟨[.type "enumerate", .ref l], []⟩) (fun _ R s => s.heap.IsTuple l items ∧
      R (.ok (.ret (.ref (s.heap.push { cls := .type "tuple_iterator", data := .fields #[.ref l, .int 0 0] }).objs.size)))
        { s with heap := (s.heap.push { cls := .type "tuple_iterator", data := .fields #[.ref l, .int 0 0] }).push { cls := .type "enumerate", data := .fields #[.none, .bool false, .ref s.heap.objs.size, rawInt 0, .none, .none] } }) :=
  .of_wp fun prog w A R s h => by
    obtain ⟨hp, g, d, tk, os⟩ := s; obtain ⟨hl, h⟩ := h
    have hsub := sub_enumerate
    have q1 : ∀ {A' : Around} {E : Value → Shared → Prop} {Q : Value → Shared → Prop}, Q (.ref hp.objs.size) ⟨hp.push { cls := .type "tuple_iterator", data := .fields #[.ref l, .int 0 0] }, g, d, tk, os⟩ → wpAny (model prog w) A' (pyIter (.ref l)) Q E ⟨hp, g, d, tk, os⟩ :=
      fun q => wpAny_pyIter_tuple (s := ⟨hp, g, d, tk, os⟩) hl q
    wp_walk using q1
    refine wpAny_stack_any fun st => wpAny_pure ?_
    split
    · rename_i c _ _ _ _ _
      cases (c == Value.type "enumerate")
      · wp_walk using q1
        exact ⟨_, rfl, h⟩
      · wp_walk using q1
        exact ⟨_, rfl, h⟩
    · wp_walk using q1
      exact ⟨_, rfl, h⟩
theorem call_enumT {prog : Program} {w : World} {A : Around} {E : Value → Shared → Prop} {s : Shared} {l : Addr} {items : Array Value} {Q : Value → Shared → Prop} (hL : s.heap.IsTuple l items)
    (h : ∀ h', IsEnum h' (s.heap.objs.size + 1) s.heap.objs.size 0 .none → h'.IsTupleIter s.heap.objs.size l 0 → h'.objs.size = s.heap.objs.size + 2 →
      (∀ b o, s.heap.get? b = some o → h'.get? b = some o) → Q (.ref (s.heap.objs.size + 1)) { s with heap := h' }) :
    wpAny (model prog w) A (call (.type "enumerate") [.ref l]) Q E s := by
  refine callType_new F.called_enumerate (by decide) (F.typeCall_enumerate_1 _) (F.newCall_enumerate_1 _) (fun obj => F.args_object_init_2 obj _) F.entry_enumerate_new
    (meets_enumT l items) ⟨hL, ?_⟩
  have hz : (s.heap.push { cls := .type "tuple_iterator", data := .fields #[.ref l, .int 0 0] }).objs.size = s.heap.objs.size + 1 := Heap.size_push ..
  show _ ∧ _
  rw [hz]
  have he : IsEnum ((s.heap.push { cls := .type "tuple_iterator", data := .fields #[.ref l, .int 0 0] }).push
      { cls := .type "enumerate", data := .fields #[.none, .bool false, .ref s.heap.objs.size, rawInt 0, .none, .none] }) (s.heap.objs.size + 1) s.heap.objs.size 0 .none := by
    have := Heap.get?_push_size (s.heap.push { cls := .type "tuple_iterator", data := .fields #[.ref l, .int 0 0] })
      (o := { cls := .type "enumerate", data := .fields #[.none, .bool false, .ref s.heap.objs.size, rawInt 0, .none, .none] }) rfl
    rw [hz] at this; exact this
  refine ⟨⟨_, he, rfl⟩, h _ he ⟨_, Heap.get?_push_of_some _ (Heap.get?_push_size _ rfl), rfl, rfl⟩ (by rw [Heap.size_push, hz]) fun b o x => Heap.get?_push_of_some _ (Heap.get?_push_of_some _ x)⟩
/-- the tuple at a as it stands at each turn, each item in a new pair -/
def IteT (K : PySem.W.Frag) (a : Addr) : It :=
  ⟨fun i H => ∃ (xs : List V) (x : V), SqT K H a xs ∧ xs[i]? = some x, fun i H v H' => ∃ T x, v = .ref T ∧ H T = none ∧ H' = upd H T (.tup [.int (i : Nat), x]) ∧ ∀ xs, SqT K H a xs → xs[i]? = some x, fun i H => ∃ xs : List V, SqT K H a xs ∧ xs.length ≤ i⟩
theorem enumT_end {prog : Program} {w : World} {A : Around} {E : Value → Shared → Prop} {s : Shared} {e it t : Addr} {i : Nat} {items : Array Value} {old : Value} {Q : Option Value → Shared → Prop} (hh : A.handled = none)
    (he : IsEnum s.heap e it i old) (hit : s.heap.IsTupleIter it t i) (ht : s.heap.IsTuple t items) (hx : items[i]? = none)
    (hQ : ∀ h', Heap.ExtBut it s.heap h' → Q none { s with heap := h' }) : wpAny (model prog w) A (pyNext (.ref e)) Q E s := by
  have hT : s.TypeIs (.ref e) "enumerate" := ⟨_, he, rfl⟩
  unfold pyNext
  refine wpAny_bind (wpAny_attempt (wpAny_callSpecial?_slot (name := Str.ofString "__next__") hT F.slot_enumerate_next
    (wpAny_call_entry F.slot_enumerate_next hT F.entry_enumerate_next ?_ (F.args_enumerate_next_1 _))))
  show wpAny _ _ (field (.ref e) 2 >>= _) _ _ _
  refine wpAny_bind (wpAny_field he rfl (x := .ref it) rfl ?_)
  refine wpAny_bind (wpAny_nextOf_tuple_end (A := A.in1) hh hit ht hx fun h' x he' hx' => ?_)
  obtain ⟨o, ho, hc⟩ := hx'
  refine wpAny_bind (wpAny_isInstance (T := "StopIteration") (b := true) ⟨o, ho, hc⟩ isSubtype_stop ?_)
  exact wpAny_pure (hQ _ he')
theorem turn_enumT {P : Program} {w : World} {K : PySem.W.Frag} {elts : List Expr} {kk : Nat} {tpos : Pos} (a e it : Addr) :
    Turn P w K (.Tuple elts kk tpos) (IteT K a) [e, it] e (fun i h => (∃ old, IsEnum h e it ((i : Nat) : Int) old) ∧ h.IsTupleIter it a i ∧ e ≠ it) where
  mem := by simp
  obj := fun i h st b hb => by
    obtain ⟨⟨old, he⟩, ⟨o, ho, hc, hd⟩, _⟩ := st
    have e' : b = e ∨ b = it := by simpa using hb
    rcases e' with z | z
    · rw [z]; exact ⟨_, he, fun v q => nomatch q⟩
    · rw [z]; exact ⟨o, ho, fun v q => by rw [hd] at q; cases q⟩
  keep := fun i h h' st k => let ⟨⟨old, he⟩, hi, hne⟩ := st; ⟨⟨old, k e (by simp) _ he⟩, hi.at fun o q => k it (by simp) o q, hne⟩
  item := by
    intro X hP hw hK hc i pins s σ H E I hf st hg
    subst hP hw hK
    obtain ⟨⟨old, he⟩, hit, hne⟩ := st
    obtain ⟨xs, x, hq, hx⟩ := hg
    obtain ⟨its, rv, p, hz⟩ := I.tuple hq
    obtain ⟨u, hu, ru⟩ := rv.get hx
    have hel : e < s.heap.objs.size := Heap.lt_size he
    have hil : it < s.heap.objs.size := by obtain ⟨_, q, _⟩ := hit; exact Heap.lt_size q
    have hT0 : s.heap.IsTuple a its.toArray := p
    have nae : e ≠ a := fun z => by
      obtain ⟨o, ho, hcl, _⟩ := hT0
      rw [← z, he] at ho
      obtain rfl := Option.some.inj ho
      exact absurd (show Value.type "enumerate" = Value.type "tuple" from hcl) (by decide)
    have nai : a ≠ it := fun z => by
      obtain ⟨o, ho, hcl, _⟩ := hT0
      obtain ⟨o2, ho2, hcl2, _⟩ := hit
      rw [z, ho2] at ho
      obtain rfl := Option.some.inj ho
      rw [hcl2] at hcl
      exact absurd (show Value.type "tuple_iterator" = Value.type "tuple" from hcl) (by decide)
    refine wpAny_pyNext_enum_itemD (i := i) (Draws.tuple (A := X.A.in1) (I.ok.hd hc) it a nai its.toArray) he ⟨hit, hT0⟩ (by
      have := (List.getElem?_eq_some_iff.mp hu).1
      simpa using this) hne (by simp [hne, nae]) fun y h' tk hy ho hst' hT hsz hk => ?_
    have ey : y = u := by
      have hy' : its[i]? = some y := by simpa using hy
      rw [hu] at hy'
      exact (Option.some.inj hy').symm
    subst ey
    refine ⟨_, rfl, wpAny_letOwnedTupleGo_enum (s := { s with heap := h', toks := tk + 1 }) ho fun h'' he' sb => ?_⟩
    have hT2 : h''.get? s.heap.objs.size = some { cls := .type "tuple", data := .seq #[.int i tk, y] } := (sb.2 _ (Nat.ne_of_gt hel)).trans hT
    have new : ObjOk X.prog X.w (upd H s.heap.objs.size (.tup [.int (i : Nat), x])) h'' s.heap.objs.size (.tup [.int (i : Nat), x]) :=
      ⟨by show 2 ≤ sizeLine; decide, [.int i tk, y], .cons ⟨_, rfl⟩ (.cons ru .nil), ⟨_, hT2, rfl, _, rfl⟩⟩
    have I1 : Inv X pins σ (upd H s.heap.objs.size (.tup [.int (i : Nat), x])) { s with heap := h'', toks := tk + 1 } :=
      I.turnedNew (ch := [e, it]) (fun b ob hb q => (sb.2 b (fun z => hb (by simp [z]))).trans (hk b ob (fun z => hb (by simp [z])) (fun z => hb (by simp [z])) q)) hf (Nat.le_refl _) new
    refine ⟨.ref s.heap.objs.size, _, I1, rfl, ⟨_, x, rfl, I.hok.fresh (Nat.le_refl _), rfl, fun ys hy => by rw [I.tuple_inj hy hq]; exact hx⟩, ⟨⟨y, ?_⟩, hst'.1.at fun o q => (sb.2 it (Ne.symm hne)).trans q, hne⟩, fun b hb => ?_⟩
    · have e1 : ((i + 1 : Nat) : Int) = (i : Int) + 1 := by omega
      rw [e1]; exact he'
    · have hb' : b < s.heap.objs.size := by
        have e' : b = e ∨ b = it := by simpa using hb
        rcases e' with z | z
        · rw [z]; exact hel
        · rw [z]; exact hil
      rw [upd_ne (Nat.ne_of_lt hb')]
      exact (hf b hb).1
  done := by
    intro X hP hw hK hc i pins s σ H E I hf st hg
    subst hP hw hK
    obtain ⟨⟨old, he⟩, hit, hne⟩ := st
    obtain ⟨xs, hq, hx⟩ := hg
    obtain ⟨its, rv, p, hz⟩ := I.tuple hq
    obtain ⟨f0, f1, f2, f3, f4, f5⟩ := hf it (by simp)
    have hl := rv.length
    exact enumT_end (I.ok.hd hc) he hit p (by simp; omega) fun h' eb => ⟨rfl, I.turned (t' := s.toks) (fun b o hb q => eb b o hb q) f0 f1 f3 f4 f5⟩
  self := fun A i s Q E st h => let ⟨⟨_, he⟩, _⟩ := st; wpAny_pyIter_enum he h
def iEnumT (K : PySem.W.Frag) (ta : TA) : TI := fun σ H R => ta σ H fun vs H1 => ∃ a xs, vs = [.ref a] ∧ SqT K H1 a xs ∧ R (IteT K a) H1
theorem pi_enumT {X : Cx} {e : Expr} {ta : TA} {p pos tpos : Pos} {elts : List Expr} {kk : Nat} (hg : Gl X "enumerate") (hm : X.mg "enumerate" = none) (ha : PA X [e] ta) (hs : starEach [e] X.env = [(false, eval e X.env)] := by rfl) :
    PI X (.Tuple elts kk tpos) (.Call (.Name "enumerate" p) [e] [] pos) (iEnumT X.K ta) := by
  refine ⟨fun pins s σ H R I h => ?_⟩
  refine Call_ (ld_blt I hg hm boot_enumerate (PyProof.Rows.callWith_type1 (thn (ha.run pos pins s σ H _ I h) fun us s1 ⟨vs, H1, I1, r1, q1⟩ => ?_) hs rfl))
  obtain ⟨a, xs, ex, hq, q⟩ := q1
  subst ex
  cases r1 with
  | cons r rr =>
    cases rr
    cases r
    obtain ⟨its, rv, p', hz⟩ := I1.tuple hq
    refine call_enumT (show s1.heap.IsTuple a its.toArray from p') fun h' he hit hsz hk => wpAny_pyIter_enum he ?_
    have I2 : Inv X pins σ H1 { s1 with heap := h' } := I1.kept (t' := s1.toks) hk
    refine ⟨s1.heap.objs.size + 1, [s1.heap.objs.size + 1, s1.heap.objs.size], _, _, H1, rfl, I2, turn_enumT a (s1.heap.objs.size + 1) s1.heap.objs.size, ⟨⟨.none, he⟩, hit, Nat.succ_ne_self _⟩, fun b hb => ?_, q⟩
    have e' : b = s1.heap.objs.size + 1 ∨ b = s1.heap.objs.size := by simpa using hb
    have hle : s1.heap.objs.size ≤ b := by
      rcases e' with z | z
      · rw [z]; exact Nat.le_add_right _ _
      · rw [z]; exact Nat.le_refl _
    exact I1.fpOk hle (I1.hok.fresh hle)
/-- a loop over enumerate of a tuple -/
theorem for_enumT {K : PySem.W.Frag} {a : Addr} {xs : List V} {g : TG} {tb : TS} {D : Ends} {σ : L2.St} {H : Hp} (Pv : Nat → L2.St → Hp → Prop) (h0 : Pv 0 σ H) (hq : ∀ i σ H, Pv i σ H → SqT K H a xs)
    (hs : ∀ (i : Nat) (x : V) (T : Addr) (σ : L2.St) (H : Hp), xs[i]? = some x → Pv i σ H → H T = none → g (.ref T) σ (upd H T (.tup [.int (i : Nat), x])) fun σ2 H2 => tb { D with nx := Pv (i + 1), ct := Pv (i + 1), bk := D.nx } σ2 H2) (hd : ∀ σ H, Pv xs.length σ H → D.nx σ H) :
    ∃ W : Nat → Nat → L2.St → Hp → Prop, (∃ m, W 0 m σ H) ∧ ∀ i m σ H, W i m σ H →
      ((IteT K a).stop i H ∧ D.nx σ H) ∨ ((IteT K a).go i H ∧ ∃ N : L2.St → Hp → Prop, (∀ σ' H', N σ' H' → ∃ m', m' < m ∧ W (i + 1) m' σ' H') ∧ ∀ v H', (IteT K a).yld i H v H' → g v σ H' fun σ2 H2 => tb { D with nx := N, ct := N, bk := D.nx } σ2 H2) := by
  refine ⟨fun i m σ H => m = xs.length - i ∧ i ≤ xs.length ∧ Pv i σ H, ⟨xs.length, rfl, Nat.zero_le _, h0⟩, ?_⟩
  rintro i m σ H ⟨rfl, hi, p⟩
  have q := hq i σ H p
  rcases Nat.lt_or_ge i xs.length with hlt | hge
  · have ex := List.getElem?_eq_getElem hlt
    refine .inr ⟨⟨xs, _, q, ex⟩, Pv (i + 1), fun σ' H' p' => ⟨xs.length - (i + 1), by omega, rfl, hlt, p'⟩, ?_⟩
    rintro v H' ⟨T, x, rfl, hT, rfl, f1⟩
    exact hs i x T σ H (f1 xs q) p hT
  · have e : i = xs.length := by omega
    subst e
    exact .inl ⟨⟨xs, q, hge⟩, hd σ H p⟩
/-! ### enumerate over a list or a tuple -/
def ItEG (K : PySem.W.Frag) (t : Bool) (a : Addr) : It := match t with
  | true => IteT K a
  | false => Ite K a
def iEnumG (K : PySem.W.Frag) (ta : TA) : TI := fun σ H R => ta σ H fun vs H1 => ∃ (t : Bool) (a : Addr) (xs : List V), vs = [.ref a] ∧ ZG.Sq t K H1 a xs ∧ R (ItEG K t a) H1
theorem pi_enumG {X : Cx} {e : Expr} {ta : TA} {p pos tpos : Pos} {elts : List Expr} {kk : Nat} (hg : Gl X "enumerate") (hm : X.mg "enumerate" = none) (ha : PA X [e] ta) (hs : starEach [e] X.env = [(false, eval e X.env)] := by rfl) :
    PI X (.Tuple elts kk tpos) (.Call (.Name "enumerate" p) [e] [] pos) (iEnumG X.K ta) := by
  refine ⟨fun pins s σ H R I h => ?_⟩
  refine Call_ (ld_blt I hg hm boot_enumerate (PyProof.Rows.callWith_type1 (thn (ha.run pos pins s σ H _ I h) fun us s1 ⟨vs, H1, I1, r1, q1⟩ => ?_) hs rfl))
  obtain ⟨t, a, xs, ex, hq, q⟩ := q1
  subst ex
  have hle : ∀ b, b ∈ [s1.heap.objs.size + 1, s1.heap.objs.size] → s1.heap.objs.size ≤ b := fun b hb => by
    have e' : b = s1.heap.objs.size + 1 ∨ b = s1.heap.objs.size := by simpa using hb
    rcases e' with z | z
    · rw [z]; exact Nat.le_add_right _ _
    · rw [z]; exact Nat.le_refl _
  cases r1 with
  | cons r rr =>
    cases rr
    cases r
    cases t with
    | true =>
      obtain ⟨its, rv, p', hz⟩ := I1.tuple hq
      refine call_enumT (show s1.heap.IsTuple a its.toArray from p') fun h' he hit hsz hk => wpAny_pyIter_enum he ?_
      have I2 : Inv X pins σ H1 { s1 with heap := h' } := I1.kept (t' := s1.toks) hk
      exact ⟨s1.heap.objs.size + 1, [s1.heap.objs.size + 1, s1.heap.objs.size], _, _, H1, rfl, I2, turn_enumT a (s1.heap.objs.size + 1) s1.heap.objs.size, ⟨⟨.none, he⟩, hit, Nat.succ_ne_self _⟩, fun b hb => I1.fpOk (hle b hb) (I1.hok.fresh (hle b hb)), q⟩
    | false =>
      obtain ⟨its, rv, p', hz⟩ := I1.list hq
      refine call_enumerate_list p'.isList fun h' he hit hsz hk => wpAny_pyIter_enum he ?_
      have I2 : Inv X pins σ H1 { s1 with heap := h' } := I1.kept (t' := s1.toks) hk
      exact ⟨s1.heap.objs.size + 1, [s1.heap.objs.size + 1, s1.heap.objs.size], _, _, H1, rfl, I2, turn_enum a (s1.heap.objs.size + 1) s1.heap.objs.size, ⟨⟨.none, he⟩, hit, Nat.succ_ne_self _⟩, fun b hb => I1.fpOk (hle b hb) (I1.hok.fresh (hle b hb)), q⟩
theorem walk_enumG {K : PySem.W.Frag} {t : Bool} {a : Addr} {xs : List V} : Walk (ItEG K t a) xs.length (fun H => ZG.Sq t K H a xs) (YPair (fun i => some (.int (i : Nat))) (fun i => xs[i]?)) := by
  cases t with
  | false => exact walk_enum
  | true =>
    refine ⟨fun i H hi q => ⟨xs, xs[i], q, List.getElem?_eq_getElem hi⟩, fun H q => ⟨xs, q, Nat.le_refl _⟩, fun i H v H' _ q y => ?_⟩
    obtain ⟨T, x, h1, h2, h3, h4⟩ := y
    exact ⟨T, .int (i : Nat), x, h1, h2, h3, rfl, h4 xs q⟩
end EnT
namespace RpT
open PySem PySem.Spec PyProof.Rows L2
/-! ### tuple * int, for any int from 0 on (the library has it from 2 on) -/
theorem tuple_mul1 (l : Addr) (items : Array Value) (n : Nat) (dd : Option Addr) (sl : Array (Option Value)) (u : Tok) :
    Meets (Builtin.«tuple.__mul__» ⟨[.ref l, .int 1 u], []⟩) (fun _ R s => s.heap.get? l = some { cls := .type "tuple", dict := dd, data := .seq items n, slots := sl } ∧
      R (.ok (.ret (Value.ref l))) s) :=
  .of_wp fun prog w A R s h => by
    obtain ⟨hp, g, d, tk, os⟩ := s
    obtain ⟨hl, h⟩ := h
    have f1 := AutoSeq1.idx_int
    have c0 : (decide ((1 : Int) < -(2 ^ 63)) || decide ((1 : Int) ≥ 2 ^ 63)) = false := by decide
    have c1 : (items.isEmpty || (1 : Int) == 1) = true := by rw [show ((1 : Int) == 1) = true from rfl, Bool.or_true]
    wp_walk using wpAny_loadPart' hl
    repeat (first
      | (refine wpAny_ite_false (decide_eq_false (by rw [c0]; exact Bool.false_ne_true)) ?_; wp_walk using wpAny_loadPart' hl)
      | (refine wpAny_ite_true (decide_eq_true c1) ?_; wp_walk using wpAny_loadPart' hl))
    exact ⟨_, rfl, h⟩
theorem tuple_mul0 (l : Addr) (items : Array Value) (n : Nat) (dd : Option Addr) (sl : Array (Option Value)) (u : Tok) (hne : items.isEmpty = false) :
    Meets (Builtin.«tuple.__mul__» ⟨[.ref l, .int 0 u], []⟩) (fun _ R s => s.heap.get? l = some { cls := .type "tuple", dict := dd, data := .seq items n, slots := sl } ∧
      R (.ok (.ret (Value.ref s.heap.objs.size))) { s with heap := s.heap.push { cls := Value.type "tuple", data := Data.seq #[] }, toks := s.toks }) :=
  .of_wp fun prog w A R s h => by
    obtain ⟨hp, g, d, tk, os⟩ := s
    obtain ⟨hl, h⟩ := h
    have f1 := AutoSeq1.idx_int
    have c0 : (decide ((0 : Int) < -(2 ^ 63)) || decide ((0 : Int) ≥ 2 ^ 63)) = false := by decide
    have c1 : (items.isEmpty || (0 : Int) == 1) = false := by rw [hne]; rfl
    have c2 : (decide ((0 : Int) ≤ 0) || items.isEmpty) = true := by rw [decide_eq_true (Int.le_refl 0)]; rfl
    wp_walk using wpAny_loadPart' hl
    repeat (first
      | (refine wpAny_ite_false (decide_eq_false (by rw [c0]; exact Bool.false_ne_true)) ?_; wp_walk using wpAny_loadPart' hl)
      | (refine wpAny_ite_false (decide_eq_false (by rw [c1]; exact Bool.false_ne_true)) ?_; wp_walk using wpAny_loadPart' hl)
      | (refine wpAny_ite_true (decide_eq_true c2) ?_; wp_walk using wpAny_loadPart' hl))
    exact ⟨_, rfl, h⟩
def rRepTA (K : PySem.W.Frag) : R2 := fun x y H Q => ∃ l k xs, x = .ref l ∧ y = .int k ∧ SqT K H l xs ∧ xs ≠ [] ∧ 0 ≤ k ∧ k ≤ 1000 ∧ xs.length ≤ 1000 ∧ (k = 1 → Q (.ref l) H) ∧ (k ≠ 1 → ∀ p, H p = none → Q (.ref p) (upd H p (.tup (List.replicate k.toNat xs).flatten)))
theorem op_repTA {X : Cx} : OpR X (binaryOp .Mult) (rRepTA X.K) := by
  intro pins s σ H x y v u Q I rx ry h
  obtain ⟨l, k, xs, rfl, rfl, hT, hne, h0, h1, hz, q1, q⟩ := h
  by_cases k2 : 2 ≤ k
  · exact op_repT pins s σ H _ _ v u Q I rx ry ⟨l, k, xs, rfl, rfl, hT, hne, k2, h1, hz, q (by omega)⟩
  cases rx
  obtain ⟨t, rfl⟩ := ry
  obtain ⟨its, r, ⟨⟨cls, dd, data, sl⟩, ho, hc, n, hd⟩, hs⟩ := I.tuple hT
  simp only at hc hd
  subst hc hd
  have hle : its.length = xs.length := r.length.symm
  have hi : its.toArray.isEmpty = false := by
    cases its with
    | nil => exact absurd (List.eq_nil_of_length_eq_zero hle.symm) hne
    | cons a b => rfl
  by_cases k1 : k = 1
  · subst k1
    exact wpAny_binaryOp_repeat_ref (T := "tuple") (U := "int") (by decide) ⟨_, ho, rfl⟩ (fun s' => typeIs_int s' 1 t) noFill_tuple_mul F.fills_int_mul F.slot_int_rmul repeat_tuple F.slot_int_index.lookup
      (call_meets F.slot_int_rmul (typeIs_int s 1 t) F.entry_int_rmul (F.args_int_rmul_2 _ _) (int_rmul_tuple 1 t l its.toArray n dd sl)
        ⟨ho, rfl, ⟨_, ho, rfl⟩, call_meets F.slot_tuple_mul ⟨_, ho, rfl⟩ F.entry_tuple_mul (F.args_tuple_mul_2 _ _) (tuple_mul1 l its.toArray n dd sl t) ⟨ho, ⟨.ref l, H, I, rfl, q1 rfl⟩⟩⟩)
  · have k0 : k = 0 := by omega
    subst k0
    refine wpAny_binaryOp_repeat_ref (T := "tuple") (U := "int") (by decide) ⟨_, ho, rfl⟩ (fun s' => typeIs_int s' 0 t) noFill_tuple_mul F.fills_int_mul F.slot_int_rmul repeat_tuple F.slot_int_index.lookup
      (call_meets F.slot_int_rmul (typeIs_int s 0 t) F.entry_int_rmul (F.args_int_rmul_2 _ _) (int_rmul_tuple 0 t l its.toArray n dd sl)
        ⟨ho, rfl, ⟨_, ho, rfl⟩, call_meets F.slot_tuple_mul ⟨_, ho, rfl⟩ F.entry_tuple_mul (F.args_tuple_mul_2 _ _) (tuple_mul0 l its.toArray n dd sl t hi) ⟨ho, ?_⟩⟩)
    refine ⟨.ref s.heap.objs.size, _, I.laid (t' := s.toks) (o := .tup []) (fun b ob q => Heap.get?_push_of_some _ q) (Nat.le_refl _) ?_, rfl, q (by decide) _ (I.hok.fresh (Nat.le_refl _))⟩
    exact ⟨by rw [sizeLine_eq]; decide, _, .nil, IsTup.new _ _⟩
/-! ### tuple * int, told in one way -/
theorem tuple_mulE (l : Addr) (n : Nat) (dd : Option Addr) (sl : Array (Option Value)) (k : Int) (hk : 0 ≤ k ∧ k ≤ 1000) (u : Tok) :
    Meets (Builtin.«tuple.__mul__» ⟨[.ref l, .int k u], []⟩) (fun _ R s => s.heap.get? l = some { cls := .type "tuple", dict := dd, data := .seq #[] n, slots := sl } ∧
      R (.ok (.ret (Value.ref l))) s) :=
  .of_wp fun prog w A R s h => by
    obtain ⟨hp, g, d, tk, os⟩ := s
    obtain ⟨hl, h⟩ := h
    have f1 := AutoSeq1.idx_int
    have c0 : (decide (k < -(2 ^ 63)) || decide (k ≥ 2 ^ 63)) = false := by
      rw [decide_eq_false (by omega), decide_eq_false (by omega)]
      rfl
    have c1 : ((#[] : Array Value).isEmpty || k == 1) = true := rfl
    wp_walk using wpAny_loadPart' hl
    repeat (first
      | (refine wpAny_ite_false (decide_eq_false (by rw [c0]; exact Bool.false_ne_true)) ?_; wp_walk using wpAny_loadPart' hl)
      | (refine wpAny_ite_true (decide_eq_true c1) ?_; wp_walk using wpAny_loadPart' hl))
    exact ⟨_, rfl, h⟩
theorem op_repU {X : Cx} : OpR X (binaryOp .Mult) (fun x y H Q => ∃ l k xs, x = .ref l ∧ y = .int k ∧ SqT X.K H l xs ∧ 0 ≤ k ∧ k ≤ 1000 ∧ xs.length ≤ 1000 ∧ ∀ p H', Same H H' → SqT X.K H' p (List.replicate k.toNat xs).flatten → Q (.ref p) H') := by
  intro pins s σ H x y v u Q I rx ry h
  obtain ⟨l, k, xs, rfl, rfl, hT, h0, h1, hz, q⟩ := h
  by_cases hne : xs = []
  · subst hne
    have ef : ∀ n : Nat, (List.replicate n ([] : List V)).flatten = [] := fun n => by
      induction n with
      | zero => rfl
      | succ n ih => rw [List.replicate_succ, List.flatten_cons, ih]; rfl
    cases rx
    obtain ⟨t, rfl⟩ := ry
    have hT0 := hT
    obtain ⟨its, r, ⟨⟨cls, dd, data, sl⟩, ho, hc, n, hd⟩, hs⟩ := I.tuple hT
    simp only at hc hd
    subst hc hd
    cases r
    exact wpAny_binaryOp_repeat_ref (T := "tuple") (U := "int") (by decide) ⟨_, ho, rfl⟩ (fun s' => typeIs_int s' k t) noFill_tuple_mul F.fills_int_mul F.slot_int_rmul repeat_tuple F.slot_int_index.lookup
      (call_meets F.slot_int_rmul (typeIs_int s k t) F.entry_int_rmul (F.args_int_rmul_2 _ _) (int_rmul_tuple k t l #[] n dd sl)
        ⟨ho, rfl, ⟨_, ho, rfl⟩, call_meets F.slot_tuple_mul ⟨_, ho, rfl⟩ F.entry_tuple_mul (F.args_tuple_mul_2 _ _) (tuple_mulE l n dd sl k ⟨h0, h1⟩ t) ⟨ho, ⟨.ref l, H, I, rfl, q l H (Same.refl _) (by rw [ef]; exact hT0)⟩⟩⟩)
  · refine op_repTA pins s σ H _ _ v u Q I rx ry ⟨l, k, xs, rfl, rfl, hT, hne, h0, h1, hz, fun e => q l H (Same.refl _) ?_, fun _ p hp => q p _ (fun c o e => ?_) (SqT.of upd_same)⟩
    · subst e
      have : (List.replicate (Int.toNat 1) xs).flatten = xs := by simp
      rw [this]
      exact hT
    · rw [upd_ne (ne_of_none e hp)]
      exact e
/-! ### a method of a tuple that was made on the way (and stays as it is) -/
section
variable {X : Cx}
def TupFz (H : Hp) (p : Addr) : Prop := ∃ o ys, H p = some (.frz o (.tup ys)) ∧ o.dict = none
def tBMT (r : V → List V → Hp → VK → Prop) (to : TE) (t : TA) : TE := fun σ H Q => to σ H fun x H1 => (∃ p, x = .ref p ∧ TupFz H1 p) ∧ t σ H1 fun xs H2 => r x xs H2 Q
variable {o e : Expr} {es : List Expr} {to : TE} {t : TA} {name : Str} {apos cpos : Pos} {id : String} {r : V → List V → Hp → VK → Prop}
theorem pe_bmT (pa : PlainAttrs "tuple") (slot : Slot "tuple" name id) (hty : typeOf (.builtin id) = pure (.type "method_descriptor")) (hm : MtR X id r) (ho : PE X o to) (ha : PA X (e :: es) t)
    (hbase : attributeBase o name X.env (eval o X.env) = eval o X.env := by rfl)
    (hfew : ((backTo cpos (starEach (e :: es) X.env)).all (fun x => !x.1) && (backToKw cpos (keywordEach [] X.env)).all (fun x => x.1.isSome)
      && decide ((e :: es).length + ([] : List Keyword).length + (if ([] : List Keyword).isEmpty then 0 else 1) < 30)) = true := by rfl)
    (hline : (apos.endLine == cpos.line) = true := by rfl) (hs : starEach (e :: es) X.env = (false, eval e X.env) :: starEach es X.env := by rfl) (hplain : (backTo cpos (starEach es X.env)).any (·.1) = false := by rfl) :
    PE X (.Call (.Attribute o name apos) (e :: es) [] cpos) (tBMT r to t) := by
  refine ⟨fun pins s σ H Q I h => ?_⟩
  refine wpAny_Call_method_late hbase hfew hline rfl (thn (ho.run pins s σ H _ I h) fun v s1 ⟨x, H1, I1, r1, ⟨p, ex, o, ys, hp, hd⟩, q1⟩ => ?_)
  subst ex
  cases r1
  obtain ⟨e1, _, its, _, ob, e2, hc, _⟩ := (show ObjOk X.prog X.w H1 s1.heap p (.frz o (.tup ys)) from I1.hok _ _ hp)
  rw [e1] at e2
  cases e2
  refine ⟨"tuple", id, pa, slot, hty, ⟨o, e1, hc⟩, fun a e => ?_, ?_⟩
  · cases e
    exact ⟨o, e1, hd⟩
  have hA := ha.run cpos pins s1 σ H1 _ I1 q1
  rw [hs] at hA ⊢
  refine Calls.callWith_builtin (by show (false || (backTo cpos (starEach es X.env)).any (·.1)) = false; rw [hplain] <;> rfl) (Calls.evalArgs_plain ?_)
  exact thn hA fun us s2 ⟨vs, H2, I2, r2, q2⟩ => hm pins s2 σ H2 (.ref p) vs _ us Q I2 rfl r2 q2
end
end RpT
namespace TZ
open PySem PySem.Spec PyProof.Rows L2
/-! ### tuple(list): a tuple whose object is told -/
variable {X : Cx}
theorem call_tuple_fz : CallR X (.type "tuple") (fun xs H Q => ∃ p ys, xs = [.ref p] ∧ SqL X.K H p ys ∧ ∀ l o, H l = none → o.cls = .type "tuple" → o.dict = none → Q (.ref l) (upd H l (.frz o (.tup ys)))) := by
  intro pins s σ H xs us Q I r h
  obtain ⟨p, ys, rfl, hq, q⟩ := h
  obtain ⟨u, rfl, rx⟩ := vals1 r
  cases rx
  obtain ⟨its, r', pl, hz⟩ := I.list hq
  have hlen := r'.length
  refine call_tuple_list pl.isList (fun h' kp => ?_) (by simp only [List.size_toArray] <;> omega)
  have I1 : Inv X pins σ H { s with heap := h' } := I.kept (t' := s.toks) kp
  have I2 : Inv X pins σ (upd H h'.objs.size (.frz { cls := .type "tuple", data := .seq its.toArray } (.tup ys))) { s with heap := h'.push { cls := .type "tuple", data := .seq its.toArray } } :=
    I1.laid (t' := s.toks) (fun b o e => Heap.get?_push_of_some _ e) (Nat.le_refl _) (show ObjOk X.prog X.w _ _ _ (.frz _ (.tup ys)) from ⟨Heap.get?_push_size _ rfl, hz, its, r', IsTup.new _ _⟩)
  exact ⟨.ref h'.objs.size, _, I2, rfl, q _ _ (I1.hok.fresh (Nat.le_refl _)) rfl rfl⟩
/-! ### tuples whose objects are told: they have no dict -/
def ZT (H : Hp) (p : Addr) (xs : List V) : Prop := ∃ o : Obj, H p = some (.frz o (.tup xs)) ∧ o.dict = none
theorem ZT.sq {K : PySem.W.Frag} {H : Hp} {p : Addr} {xs : List V} (h : ZT H p xs) : SqT K H p xs := by
  obtain ⟨o, h, _⟩ := h
  exact .inl (.inr ⟨o, h⟩)
theorem ZT.same {H H' : Hp} {p : Addr} {xs : List V} (s : Same H H') (h : ZT H p xs) : ZT H' p xs := by
  obtain ⟨o, h, d⟩ := h
  exact ⟨o, s _ _ h, d⟩
def tTupZ (t : TA) : TE := fun σ H Q => t σ H fun xs H1 => xs.length ≤ sizeLine ∧ ∀ p o, H1 p = none → o.cls = .type "tuple" → o.dict = none → Q (.ref p) (upd H1 p (.frz o (.tup xs)))
section
variable {X : Cx} {es : List Expr} {t : TA} {pos : Pos}
theorem pe_tupZ {x1} (h : PA X es t) : PE X (.Tuple es x1 pos) (tTupZ t) := by
  refine ⟨fun pins s σ H Q I hq => ?_⟩
  refine wpAny_Tuple_spliced (thn (h.run pos pins s σ H _ I hq) fun us s1 ⟨xs, H1, I1, r, z, q⟩ => ⟨by rw [← r.length]; exact z, ?_⟩)
  have hf : H1 s1.heap.objs.size = none := I1.hok.fresh (Nat.le_refl _)
  refine ⟨.ref s1.heap.objs.size, upd H1 s1.heap.objs.size (.frz { cls := .type "tuple", data := .seq us.toArray } (.tup xs)), I1.laid (t' := s1.toks) (fun b u e => Heap.get?_push_of_some _ e) (Nat.le_refl _) ?_, rfl, q _ _ hf rfl rfl⟩
  exact ⟨Heap.get?_push_size _ rfl, z, us, r, ⟨_, Heap.get?_push_size _ rfl, rfl, _, rfl⟩⟩
/-- t + u of told tuples -/
theorem op_catZ : OpR X (binaryOp .Add) (fun x y H Q => ∃ a b xs ys, x = .ref a ∧ y = .ref b ∧ ZT H a xs ∧ ZT H b ys ∧ xs.length + ys.length ≤ sizeLine ∧ ∀ p H', Same H H' → ZT H' p (xs ++ ys) → Q (.ref p) H') := by
  intro pins s σ H x y v u Q I rx ry h
  obtain ⟨a, b, xs, ys, rfl, rfl, za, zb, hz, q⟩ := h
  have ha : SqT X.K H a xs := za.sq
  have hb : SqT X.K H b ys := zb.sq
  by_cases hx : xs = []
  · subst hx
    cases rx
    cases ry
    obtain ⟨its, r1, p1, _⟩ := I.tuple ha
    obtain ⟨its2, r2, p2, _⟩ := I.tuple hb
    cases r1
    exact cat_tup0 p1 p2 ⟨.ref b, H, I, rfl, q b H (Same.refl _) zb⟩
  · cases rx
    cases ry
    obtain ⟨its, r1, p1, _⟩ := I.tuple ha
    obtain ⟨its2, r2, p2, _⟩ := I.tuple hb
    refine HT.cat_tup p1 p2 (fun z => hx (r1.nil_iff.mp z)) (fun z => ⟨.ref a, H, I, rfl, q a H (Same.refl _) (by rw [r2.nil_iff.mp z, List.append_nil]; exact za)⟩) (fun z => ?_) (by rw [← r1.length, ← r2.length]; exact hz)
    have hf : H s.heap.objs.size = none := I.hok.fresh (Nat.le_refl _)
    refine ⟨.ref s.heap.objs.size, _, I.laid (t' := s.toks) (o := .frz { cls := .type "tuple", data := .seq (its ++ its2).toArray } (.tup (xs ++ ys))) (fun b ob q => Heap.get?_push_of_some _ q) (Nat.le_refl _) ?_, rfl, q _ _ (fun b ob e => ?_) ⟨_, upd_same, rfl⟩⟩
    · exact ⟨Heap.get?_push_size _ rfl, by rw [List.length_append]; exact hz, _, r1.append r2, IsTup.new _ _⟩
    · rw [upd_ne (ne_of_none e hf)]
      exact e
end
section
variable {X : Cx}
/-- t + u, told in one way -/
theorem op_catU : OpR X (binaryOp .Add) (fun x y H Q => ∃ a b xs ys, x = .ref a ∧ y = .ref b ∧ SqT X.K H a xs ∧ SqT X.K H b ys ∧ xs.length + ys.length ≤ sizeLine ∧ ∀ p H', Same H H' → SqT X.K H' p (xs ++ ys) → Q (.ref p) H') := by
  intro pins s σ H x y v u Q I rx ry h
  obtain ⟨a, b, xs, ys, ex, ey, ha, hb, hz, q⟩ := h
  refine op_catA pins s σ H x y v u Q I rx ry ⟨a, b, xs, ys, ex, ey, ha, hb, hz, fun e => q b H (Same.refl _) (by rw [e]; exact hb), fun _ e => q a H (Same.refl _) (by rw [e, List.append_nil]; exact ha), fun _ _ p hp => q p _ (fun c o e => ?_) (SqT.of upd_same)⟩
  rw [upd_ne (ne_of_none e hp)]
  exact e
/-- t[lo:hi], told in one way -/
theorem sl_tupU : SlR X (fun x lo hi H Q => ∃ a xs, x = .ref a ∧ SqT X.K H a xs ∧ ∀ p H', Same H H' → SqT X.K H' p (cutV xs lo hi) → Q (.ref p) H') := by
  intro pins s σ H x v vl vu lo hi sl Q I rx hs pl pu h
  obtain ⟨a, xs, ex, ha, q⟩ := h
  refine sl_tupA pins s σ H x v vl vu lo hi sl Q I rx hs pl pu ?_
  refine ⟨a, xs, ex, ha, fun e => q a H (Same.refl _) ?_, fun _ p hp => q p _ (fun c o e => ?_) (SqT.of upd_same)⟩
  · have : cutV xs lo hi = xs := by
      unfold cutV
      rw [e.1, e.2, List.drop_zero, Nat.sub_zero, List.take_length]
    rw [this]
    exact ha
  · rw [upd_ne (ne_of_none e hp)]
    exact e
end
end TZ
namespace KG
open PySem PySem.Spec PyProof.Rows L2
/-! ### d.get(k, x) of a written dict -/
/-- a written dict, and keys that it has not -/
def KGet (w : World) (K : PySem.W.Frag) (d : Addr) (ks : List Str) : Prop := ∃ es n, K.lookup d = some ⟨.type "dict", none, .dict es n, #[]⟩ ∧ PySem.W.KeysLit w.params es.toList ∧ (d == PySem.sysModules) = false ∧ ∀ z ∈ ks, PySem.W.nsIn K d z = some none
def tKGet2 (K : PySem.W.Frag) (w : World) (td ty tx : TE) : TE := fun σ H Q => td σ H fun x H1 => ∃ a es n, x = .ref a ∧ K.lookup a = some ⟨.type "dict", none, .dict es n, #[]⟩ ∧ PySem.W.KeysLit w.params es.toList ∧ (a == PySem.sysModules) = false ∧ ty σ H1 fun y H2 => tx σ H2 fun z H3 =>
  ∃ k : Str, y = .str k ∧ ((∃ u v, PySem.W.nsIn K a k = some (some u) ∧ RelV v u ∧ Q v H3) ∨ (PySem.W.nsIn K a k = some none ∧ Q z H3))
section
variable {X : Cx} {o e f : Expr} {apos cpos : Pos} {td ty tx : TE}
theorem pe_kget2 (ho : PE X o td) (he : PE X e ty) (hf : PE X f tx) (m : M2 X o "get" apos e f cpos) : PE X (.Call (.Attribute o "get" apos) [e, f] [] cpos) (tKGet2 X.K X.w td ty tx) := by
  refine ⟨fun pins s σ H Q I h => ?_⟩
  refine wpAny_Call_method m.base m.few m.line PySem.F.plainAttrs_dict PySem.F.slot_dict_get PySem.F.type_dict_get (thn (ho.run pins s σ H _ I h) fun u s1 ⟨x, H1, I1, rx, a, es, n, ex, hl, hk, hd, q1⟩ => ?_)
  subst ex
  obtain rfl : u = Value.ref a := rx
  have t1 := (PySem.W.mapOf_K (prog := X.prog) (w := X.w) I1.kIn hl hk).typeIs
  refine ⟨t1, fun b e => ?_, ?_⟩
  · cases e
    exact ⟨_, I1.kIn _ _ hl, rfl⟩
  rw [m.trees]
  refine Calls.callWith_builtin rfl (Calls.evalArgs_plain (Calls.spliced_cons (thn (he.run pins s1 σ H1 _ I1 q1) fun iv s2 ⟨y, H2, I2, ry, q2⟩ =>
    Calls.spliced_cons (thn (hf.run pins s2 σ H2 _ I2 q2) fun fv s3 ⟨z, H3, I3, rz, k, ey, q3⟩ => Calls.spliced_nil ?_))))
  subst ey
  obtain ⟨t, rfl⟩ := (show ∃ t, iv = Value.str k t from ry)
  have hm := PySem.W.mapOf_K (prog := X.prog) (w := X.w) I3.kIn hl hk
  have ht := hm.typeIs
  refine call_meetsIn PySem.F.slot_dict_get ht PySem.F.entry_dict_get (PySem.F.args_dict_get_3 _ _ _) (meets_dict_get_default (PySem.strKind X.prog X.w) a (strKind_is X.prog X.w k t) hd fv) ⟨_, hm, ?_⟩
  rcases q3 with ⟨u, v, e1, r, q⟩ | ⟨e1, q⟩
  · rw [PySem.W.find_K hl e1]
    exact ⟨v, H3, I3.tok _, r, q⟩
  · rw [PySem.W.find_K hl e1]
    exact ⟨z, H3, I3.tok _, rz, q⟩
end
end KG
namespace Mine
open PySem L2
def top (i : Nat) : Stmt := PySem.Challenge.pw_neverhappens_k53_sites.main.body.getD i (.Pass ⟨0, 0, 0, 0⟩)
abbrev s__wall : Stmt := top 0
abbrev s_is_large : Stmt := top 3
abbrev s_visible_kinds : Stmt := top 5
abbrev s_bodies_of : Stmt := top 9
abbrev s_list_statements : Stmt := top 10
abbrev s_is_number_kind : Stmt := top 13
abbrev s_gives_number : Stmt := top 14
abbrev s_faults_of : Stmt := top 15
abbrev s_sites : Stmt := top 16
abbrev s_is_plain : Stmt := top 17
abbrev s_l_cell : Stmt := top 19
abbrev s_l_source : Stmt := top 20
abbrev s_l_pick : Stmt := top 21
abbrev s_l_one : Stmt := top 22
abbrev s_l_names : Stmt := top 23
abbrev s_l_named : Stmt := top 24
abbrev s_l_number : Stmt := top 25
abbrev s_l_compare : Stmt := top 26
abbrev s_l_reference : Stmt := top 27
abbrev s_l_truth : Stmt := top 28
abbrev s_l_expression : Stmt := top 29
abbrev s_l_call : Stmt := top 30
abbrev s_l_memory : Stmt := top 31
abbrev s_l_element : Stmt := top 32
abbrev s_l_leaf : Stmt := top 33
abbrev s_l_loop : Stmt := top 34
abbrev s_l_body : Stmt := top 35
abbrev s_l_some : Stmt := top 36
abbrev s_l_kinds : Stmt := top 37
abbrev s_l_program : Stmt := top 38
abbrev s_l_flat : Stmt := top 39
abbrev s_l_same : Stmt := top 40
abbrev s_l_longer : Stmt := top 41
abbrev s_l_added : Stmt := top 42
abbrev s_l_taking : Stmt := top 43
abbrev s_l_faults : Stmt := top 44
abbrev s_l_sites : Stmt := top 45
abbrev s_l_plain : Stmt := top 46
abbrev s_law : Stmt := top 47
abbrev p__wall : List Str := ["k"]
abbrev p_is_large : List Str := ["kind"]
abbrev p_visible_kinds : List Str := ["program", "function"]
abbrev p_bodies_of : List Str := ["statement"]
abbrev p_list_statements : List Str := ["body", "in_while"]
abbrev p_is_number_kind : List Str := ["kind"]
abbrev p_gives_number : List Str := ["scope", "statement"]
abbrev p_faults_of : List Str := ["scope", "statement"]
abbrev p_sites : List Str := ["program"]
abbrev p_is_plain : List Str := ["program"]
abbrev p_l_cell : List Str := ["_law_script", "_law_at"]
abbrev p_l_source : List Str := ["_law_cell_here"]
abbrev p_l_pick : List Str := ["_law_source_here", "_law_size"]
abbrev p_l_one : List Str := ["_law_source_here", "_law_row"]
abbrev p_l_names : List Str := ["_law_source_here"]
abbrev p_l_named : List Str := ["_law_env", "_law_kind"]
abbrev p_l_number : List Str := ["_law_source_here", "_law_env", "_law_depth", "_law_simple"]
abbrev p_l_compare : List Str := ["_law_source_here", "_law_env", "_law_simple"]
abbrev p_l_reference : List Str := ["_law_source_here", "_law_env", "_law_kind"]
abbrev p_l_truth : List Str := ["_law_source_here", "_law_env", "_law_depth", "_law_simple"]
abbrev p_l_expression : List Str := ["_law_source_here", "_law_env", "_law_kind", "_law_simple"]
abbrev p_l_call : List Str := ["_law_source_here", "_law_world", "_law_env", "_law_head"]
abbrev p_l_memory : List Str := ["_law_source_here", "_law_world", "_law_env"]
abbrev p_l_element : List Str := ["_law_source_here", "_law_world", "_law_env"]
abbrev p_l_leaf : List Str := ["_law_source_here", "_law_world", "_law_env", "_law_loop_here", "_law_result"]
abbrev p_l_loop : List Str := ["_law_source_here", "_law_world", "_law_env", "_law_depth", "_law_result"]
abbrev p_l_body : List Str := ["_law_source_here", "_law_world", "_law_env", "_law_upto", "_law_depth", "_law_loop_here", "_law_result"]
abbrev p_l_some : List Str := ["_law_source_here", "_law_names_here", "_law_kinds_here", "_law_least"]
abbrev p_l_kinds : List Str := ["_law_source_here", "_law_names_here", "_law_plain_here", "_law_wide"]
abbrev p_l_program : List Str := ["_law_source_here", "_law_plain_here", "_law_simple", "_law_wide"]
abbrev p_l_flat : List Str := ["_law_body_here"]
abbrev p_l_same : List Str := ["_law_actual", "_law_due"]
abbrev p_l_longer : List Str := ["_law_other", "_law_program_here"]
abbrev p_l_added : List Str := ["_law_other", "_law_program_here", "_law_plain_here"]
abbrev p_l_taking : List Str := ["_law_program_here", "_law_kinds_here", "_law_head", "_law_statement"]
abbrev p_l_faults : List Str := ["_law_program_here", "_law_kinds_here", "_law_head", "_law_statement"]
abbrev p_l_sites : List Str := ["_law_program_here"]
abbrev p_l_plain : List Str := ["_law_program_here"]
abbrev p_law : List Str := ["_law_script"]
abbrev s_Scope_init : Stmt := inClass (top 6) 0
abbrev p_Scope_init : List Str := ["self", "program", "function"]
abbrev s_Scope_declares : Stmt := inClass (top 6) 1
abbrev p_Scope_declares : List Str := ["self", "role", "name"]
abbrev s_Scope_field_kind : Stmt := inClass (top 6) 2
abbrev p_Scope_field_kind : List Str := ["self", "name", "field"]
/-- what the program's top leaves: where each def stands -/
def tb_PARTS : List (Str × List Str) := [("set", ["variable", "expression"]), ("input", ["variable"]), ("new", ["variable"]), ("free", ["variable"]), ("load", ["variable", "variable", "field"]), ("store", ["variable", "field", "expression"]), ("get", ["variable", "array", "expression"]), ("put", ["array", "expression", "expression"]), ("call", ["variable", "function", "arguments"]), ("return", ["expression"]), ("if", ["expression", "body", "body"]), ("while", ["expression", "body"]), ("break", []), ("assert", ["expression"])]
def tb_FAULTS : List (Str × List Str) := [("free", ["null", "gone"]), ("load", ["null", "gone"]), ("store", ["null", "gone"]), ("get", ["index"]), ("put", ["index", "range"]), ("assert", ["assert"])]
/-- a list of strings, as values -/
def isStrs : List Str → List Value → Bool
  | [], [] => true
  | x :: xs, v :: vs => Value.isStrOf x v && isStrs xs vs
  | _, _ => false
theorem isStrs_vals : ∀ {xs : List Str} {vs : List Value}, isStrs xs vs = true → Vals (xs.map V.str) vs
  | [], [], _ => .nil
  | [], _ :: _, h => by cases h
  | _ :: _, [], h => by cases h
  | x :: xs, v :: vs, h => by
    have h' := (Bool.and_eq_true_iff).mp h
    obtain ⟨t, e⟩ := Value.isStrOf_shape (x := x) (v := v) h'.1
    exact .cons ⟨t, e⟩ (isStrs_vals h'.2)
/-- an entry of a written dict: a tuple of strings -/
def KPart (w : World) (K : PySem.W.Frag) (d : Addr) (x : Str) (rs : List Str) : Prop := ∃ r, KDct K w d x (.ref r) ∧ ∀ H, SqT K H r (rs.map V.str)
theorem kpart {w : World} {K : PySem.W.Frag} {d r : Addr} {es : Array DictEntry} {n m : Nat} {x : Str} {rs : List Str} {dd : Option Addr} {its : Array Value} {sl : Array (Option Value)} (D : K.lookup d = some ⟨.type "dict", none, .dict es n, #[]⟩) (Y : PySem.W.KeysLit w.params es.toList)
    (N : PySem.W.nsIn K d x = some (some (.ref r))) (R : K.lookup r = some ⟨.type "tuple", dd, .seq its m, sl⟩) (z : rs.length ≤ 1000) (v : isStrs rs its.toList = true) : KPart w K d x rs := by
  have r1 := isStrs_vals v
  refine ⟨r, ⟨es, n, .ref r, D, Y, N, rfl⟩, fun H => .inr ⟨_, its, m, R, rfl, rfl, ?_, r1⟩⟩
  have e := r1.length
  rw [List.length_map] at e
  have e2 : its.toList.length = its.size := by simp
  rw [sizeLine_eq]
  omega
/-- values of defaults -/
def isV : V → Value → Bool
  | .bl b, .bool c => b == c
  | .non, .none => true
  | _, _ => false
def isVs : List V → List Value → Bool
  | [], [] => true
  | x :: xs, v :: vs => isV x v && isVs xs vs
  | _, _ => false
theorem isV_rel : ∀ {x : V} {v : Value}, isV x v = true → RelV x v
  | .bl b, .bool c, h => by
    have e : b = c := by simpa [isV] using h
    subst e
    rfl
  | .non, .none, _ => rfl
theorem isVs_vals : ∀ {xs : List V} {vs : List Value}, isVs xs vs = true → Vals xs vs
  | [], [], _ => .nil
  | [], _ :: _, h => by cases h
  | _ :: _, [], h => by cases h
  | x :: xs, v :: vs, h => by
    have h' := (Bool.and_eq_true_iff).mp h
    exact .cons (isV_rel h'.1) (isVs_vals h'.2)
theorem fund_mk {K : PySem.W.Frag} {x qual : Str} {st : Stmt} {f td : Addr} {oc tt : Value} {od an dd : Option Addr} {osl sk : Array (Option Value)} {kV doc pm cdv ct : Value} {its : Array Value} {n : Nat} {dvs : List V}
    (l : K.lookup f = some ⟨oc, od, .func (PySem.W.fnOf x qual (defArgs st) (defBody st) (defScope st) (.ref td) kV doc pm an cdv ct), osl⟩) (r : K.lookup td = some ⟨tt, dd, .seq its n, sk⟩) (v : Vals dvs its.toList) (ne : dvs ≠ [])
    (c : PySem.W.codeIn K cdv qual = true) (k : PySem.W.keepIn K (.ref f) = true) : FunD K x qual (defArgs st) (defBody st) (defScope st) dvs [] f (PySem.W.fnOf x qual (defArgs st) (defBody st) (defScope st) (.ref td) kV doc pm an cdv ct) :=
  ⟨⟨oc, od, .ref td, kV, doc, pm, an, cdv, ct, osl, rfl, l, c, .inr ⟨ne, td, _, its.toList, n, rfl, r, by simp, v⟩, .inl rfl⟩, k⟩
theorem fund_ok {P : Program} {w : World} {K : PySem.W.Frag} {mg : Str → Option Value} {base : Heap} {x qual : Str} {params : Arguments} {body : List Stmt} {scope : Scope} {dvs : List V} {kws : List (Str × V)} {f : Addr} {fd : FuncData} {N ps : List Str} {k : Nat} {sp : Sp} (F : FunD K x qual params body scope dvs kws f fd) (S : FnScope N ps scope) (len : ∀ vs H Q E, sp vs H Q E → vs.length = ps.length)
    (hbody : ∀ (cdv : Value) (A : Around) (outer : List Env) (s : Shared) (H : Hp) (vs : List V) (Q : VK) (E : XK), Room k (A.deeper (PyProof.Rows.envOfC qual scope s.heap.objs.size f cdv)) → sp vs H Q E →
      ∃ t, PSs (cxOf CX0 P w K mg base N qual scope f cdv A outer s H E).nox body t ∧ t { nx := fun _ H' => Q .non H', rt := Q } (L2.start N vs) H) : FnOk P w K mg base CX0 (k + 1) f fd ps sp :=
  F.ok S len fun cdv A outer s H vs Q E hr h => by
    obtain ⟨t, h, q⟩ := hbody cdv A outer s H vs Q E hr h
    exact ⟨t, h.nox, q⟩
structure Txt (w : World) (K : PySem.W.Frag) (mg : Str → Option Value) where
  a__wall : Addr
  d__wall : FuncData
  F__wall : Fun K "_wall" "_wall" s__wall a__wall d__wall
  b__wall : Binds K d__wall p__wall []
  m__wall : mg "_wall" = some (.ref a__wall)
  a_is_large : Addr
  d_is_large : FuncData
  F_is_large : Fun K "is_large" "is_large" s_is_large a_is_large d_is_large
  b_is_large : Binds K d_is_large p_is_large []
  m_is_large : mg "is_large" = some (.ref a_is_large)
  a_visible_kinds : Addr
  d_visible_kinds : FuncData
  F_visible_kinds : Fun K "visible_kinds" "visible_kinds" s_visible_kinds a_visible_kinds d_visible_kinds
  b_visible_kinds : Binds K d_visible_kinds p_visible_kinds []
  m_visible_kinds : mg "visible_kinds" = some (.ref a_visible_kinds)
  a_bodies_of : Addr
  d_bodies_of : FuncData
  F_bodies_of : Fun K "bodies_of" "bodies_of" s_bodies_of a_bodies_of d_bodies_of
  b_bodies_of : Binds K d_bodies_of p_bodies_of []
  m_bodies_of : mg "bodies_of" = some (.ref a_bodies_of)
  a_list_statements : Addr
  d_list_statements : FuncData
  F_list_statements : FunD K "list_statements" "list_statements" (defArgs s_list_statements) (defBody s_list_statements) (defScope s_list_statements) [.bl false] [] a_list_statements d_list_statements
  b_list_statements : ∃ ds, Vals [] ds ∧ Binds K d_list_statements p_list_statements ds
  e_list_statements : ∃ ds, Vals [.bl false] ds ∧ Binds K d_list_statements p_list_statements ds
  m_list_statements : mg "list_statements" = some (.ref a_list_statements)
  a_is_number_kind : Addr
  d_is_number_kind : FuncData
  F_is_number_kind : Fun K "is_number_kind" "is_number_kind" s_is_number_kind a_is_number_kind d_is_number_kind
  b_is_number_kind : Binds K d_is_number_kind p_is_number_kind []
  m_is_number_kind : mg "is_number_kind" = some (.ref a_is_number_kind)
  a_gives_number : Addr
  d_gives_number : FuncData
  F_gives_number : Fun K "gives_number" "gives_number" s_gives_number a_gives_number d_gives_number
  b_gives_number : Binds K d_gives_number p_gives_number []
  m_gives_number : mg "gives_number" = some (.ref a_gives_number)
  a_faults_of : Addr
  d_faults_of : FuncData
  F_faults_of : Fun K "faults_of" "faults_of" s_faults_of a_faults_of d_faults_of
  b_faults_of : Binds K d_faults_of p_faults_of []
  m_faults_of : mg "faults_of" = some (.ref a_faults_of)
  a_sites : Addr
  d_sites : FuncData
  F_sites : Fun K "sites" "sites" s_sites a_sites d_sites
  b_sites : Binds K d_sites p_sites []
  m_sites : mg "sites" = some (.ref a_sites)
  a_is_plain : Addr
  d_is_plain : FuncData
  F_is_plain : Fun K "is_plain" "is_plain" s_is_plain a_is_plain d_is_plain
  b_is_plain : Binds K d_is_plain p_is_plain []
  m_is_plain : mg "is_plain" = some (.ref a_is_plain)
  a_l_cell : Addr
  d_l_cell : FuncData
  F_l_cell : Fun K "_law_cell" "_law_cell" s_l_cell a_l_cell d_l_cell
  b_l_cell : Binds K d_l_cell p_l_cell []
  m_l_cell : mg "_law_cell" = some (.ref a_l_cell)
  a_l_source : Addr
  d_l_source : FuncData
  F_l_source : Fun K "_law_source" "_law_source" s_l_source a_l_source d_l_source
  b_l_source : Binds K d_l_source p_l_source []
  m_l_source : mg "_law_source" = some (.ref a_l_source)
  a_l_pick : Addr
  d_l_pick : FuncData
  F_l_pick : Fun K "_law_pick" "_law_pick" s_l_pick a_l_pick d_l_pick
  b_l_pick : Binds K d_l_pick p_l_pick []
  m_l_pick : mg "_law_pick" = some (.ref a_l_pick)
  a_l_one : Addr
  d_l_one : FuncData
  F_l_one : Fun K "_law_one" "_law_one" s_l_one a_l_one d_l_one
  b_l_one : Binds K d_l_one p_l_one []
  m_l_one : mg "_law_one" = some (.ref a_l_one)
  a_l_names : Addr
  d_l_names : FuncData
  F_l_names : Fun K "_law_names" "_law_names" s_l_names a_l_names d_l_names
  b_l_names : Binds K d_l_names p_l_names []
  m_l_names : mg "_law_names" = some (.ref a_l_names)
  a_l_named : Addr
  d_l_named : FuncData
  F_l_named : Fun K "_law_named" "_law_named" s_l_named a_l_named d_l_named
  b_l_named : Binds K d_l_named p_l_named []
  m_l_named : mg "_law_named" = some (.ref a_l_named)
  a_l_number : Addr
  d_l_number : FuncData
  F_l_number : Fun K "_law_number" "_law_number" s_l_number a_l_number d_l_number
  b_l_number : Binds K d_l_number p_l_number []
  m_l_number : mg "_law_number" = some (.ref a_l_number)
  a_l_compare : Addr
  d_l_compare : FuncData
  F_l_compare : Fun K "_law_compare" "_law_compare" s_l_compare a_l_compare d_l_compare
  b_l_compare : Binds K d_l_compare p_l_compare []
  m_l_compare : mg "_law_compare" = some (.ref a_l_compare)
  a_l_reference : Addr
  d_l_reference : FuncData
  F_l_reference : Fun K "_law_reference" "_law_reference" s_l_reference a_l_reference d_l_reference
  b_l_reference : Binds K d_l_reference p_l_reference []
  m_l_reference : mg "_law_reference" = some (.ref a_l_reference)
  a_l_truth : Addr
  d_l_truth : FuncData
  F_l_truth : Fun K "_law_truth" "_law_truth" s_l_truth a_l_truth d_l_truth
  b_l_truth : Binds K d_l_truth p_l_truth []
  m_l_truth : mg "_law_truth" = some (.ref a_l_truth)
  a_l_expression : Addr
  d_l_expression : FuncData
  F_l_expression : Fun K "_law_expression" "_law_expression" s_l_expression a_l_expression d_l_expression
  b_l_expression : Binds K d_l_expression p_l_expression []
  m_l_expression : mg "_law_expression" = some (.ref a_l_expression)
  a_l_call : Addr
  d_l_call : FuncData
  F_l_call : Fun K "_law_call" "_law_call" s_l_call a_l_call d_l_call
  b_l_call : Binds K d_l_call p_l_call []
  m_l_call : mg "_law_call" = some (.ref a_l_call)
  a_l_memory : Addr
  d_l_memory : FuncData
  F_l_memory : Fun K "_law_memory" "_law_memory" s_l_memory a_l_memory d_l_memory
  b_l_memory : Binds K d_l_memory p_l_memory []
  m_l_memory : mg "_law_memory" = some (.ref a_l_memory)
  a_l_element : Addr
  d_l_element : FuncData
  F_l_element : Fun K "_law_element" "_law_element" s_l_element a_l_element d_l_element
  b_l_element : Binds K d_l_element p_l_element []
  m_l_element : mg "_law_element" = some (.ref a_l_element)
  a_l_leaf : Addr
  d_l_leaf : FuncData
  F_l_leaf : Fun K "_law_leaf" "_law_leaf" s_l_leaf a_l_leaf d_l_leaf
  b_l_leaf : Binds K d_l_leaf p_l_leaf []
  m_l_leaf : mg "_law_leaf" = some (.ref a_l_leaf)
  a_l_loop : Addr
  d_l_loop : FuncData
  F_l_loop : Fun K "_law_loop" "_law_loop" s_l_loop a_l_loop d_l_loop
  b_l_loop : Binds K d_l_loop p_l_loop []
  m_l_loop : mg "_law_loop" = some (.ref a_l_loop)
  a_l_body : Addr
  d_l_body : FuncData
  F_l_body : Fun K "_law_body" "_law_body" s_l_body a_l_body d_l_body
  b_l_body : Binds K d_l_body p_l_body []
  m_l_body : mg "_law_body" = some (.ref a_l_body)
  a_l_some : Addr
  d_l_some : FuncData
  F_l_some : Fun K "_law_some" "_law_some" s_l_some a_l_some d_l_some
  b_l_some : Binds K d_l_some p_l_some []
  m_l_some : mg "_law_some" = some (.ref a_l_some)
  a_l_kinds : Addr
  d_l_kinds : FuncData
  F_l_kinds : Fun K "_law_kinds" "_law_kinds" s_l_kinds a_l_kinds d_l_kinds
  b_l_kinds : Binds K d_l_kinds p_l_kinds []
  m_l_kinds : mg "_law_kinds" = some (.ref a_l_kinds)
  a_l_program : Addr
  d_l_program : FuncData
  F_l_program : Fun K "_law_program" "_law_program" s_l_program a_l_program d_l_program
  b_l_program : Binds K d_l_program p_l_program []
  m_l_program : mg "_law_program" = some (.ref a_l_program)
  a_l_flat : Addr
  d_l_flat : FuncData
  F_l_flat : Fun K "_law_flat" "_law_flat" s_l_flat a_l_flat d_l_flat
  b_l_flat : Binds K d_l_flat p_l_flat []
  m_l_flat : mg "_law_flat" = some (.ref a_l_flat)
  a_l_same : Addr
  d_l_same : FuncData
  F_l_same : Fun K "_law_same" "_law_same" s_l_same a_l_same d_l_same
  b_l_same : Binds K d_l_same p_l_same []
  m_l_same : mg "_law_same" = some (.ref a_l_same)
  a_l_longer : Addr
  d_l_longer : FuncData
  F_l_longer : Fun K "_law_longer" "_law_longer" s_l_longer a_l_longer d_l_longer
  b_l_longer : Binds K d_l_longer p_l_longer []
  m_l_longer : mg "_law_longer" = some (.ref a_l_longer)
  a_l_added : Addr
  d_l_added : FuncData
  F_l_added : Fun K "_law_added" "_law_added" s_l_added a_l_added d_l_added
  b_l_added : Binds K d_l_added p_l_added []
  m_l_added : mg "_law_added" = some (.ref a_l_added)
  a_l_taking : Addr
  d_l_taking : FuncData
  F_l_taking : Fun K "_law_taking" "_law_taking" s_l_taking a_l_taking d_l_taking
  b_l_taking : Binds K d_l_taking p_l_taking []
  m_l_taking : mg "_law_taking" = some (.ref a_l_taking)
  a_l_faults : Addr
  d_l_faults : FuncData
  F_l_faults : Fun K "_law_faults" "_law_faults" s_l_faults a_l_faults d_l_faults
  b_l_faults : Binds K d_l_faults p_l_faults []
  m_l_faults : mg "_law_faults" = some (.ref a_l_faults)
  a_l_sites : Addr
  d_l_sites : FuncData
  F_l_sites : Fun K "_law_sites" "_law_sites" s_l_sites a_l_sites d_l_sites
  b_l_sites : Binds K d_l_sites p_l_sites []
  m_l_sites : mg "_law_sites" = some (.ref a_l_sites)
  a_l_plain : Addr
  d_l_plain : FuncData
  F_l_plain : Fun K "_law_plain" "_law_plain" s_l_plain a_l_plain d_l_plain
  b_l_plain : Binds K d_l_plain p_l_plain []
  m_l_plain : mg "_law_plain" = some (.ref a_l_plain)
  a_law : Addr
  d_law : FuncData
  F_law : Fun K "law" "law" s_law a_law d_law
  b_law : Binds K d_law p_law []
  m_law : mg "law" = some (.ref a_law)
  C_Scope : Addr
  cl_Scope : Cls K C_Scope
  mgc_Scope : mg "Scope" = some (.ref C_Scope)
  ki_Scope : PySem.W.keepIn K (.ref C_Scope) = true
  no_Scope_name : NoAttr K C_Scope "name"
  no_Scope_result : NoAttr K C_Scope "result"
  no_Scope_kinds : NoAttr K C_Scope "kinds"
  no_Scope_records : NoAttr K C_Scope "records"
  no_Scope_arrays : NoAttr K C_Scope "arrays"
  no_Scope_functions : NoAttr K C_Scope "functions"
  a_Scope_init : Addr
  d_Scope_init : FuncData
  F_Scope_init : Fun K "__init__" "Scope.__init__" s_Scope_init a_Scope_init d_Scope_init
  b_Scope_init : Binds K d_Scope_init p_Scope_init []
  mk_Scope : Mk K C_Scope a_Scope_init
  a_Scope_declares : Addr
  d_Scope_declares : FuncData
  F_Scope_declares : Fun K "declares" "Scope.declares" s_Scope_declares a_Scope_declares d_Scope_declares
  b_Scope_declares : Binds K d_Scope_declares p_Scope_declares []
  me_Scope_declares : Meth K C_Scope "declares" a_Scope_declares
  a_Scope_field_kind : Addr
  d_Scope_field_kind : FuncData
  F_Scope_field_kind : Fun K "field_kind" "Scope.field_kind" s_Scope_field_kind a_Scope_field_kind d_Scope_field_kind
  b_Scope_field_kind : Binds K d_Scope_field_kind p_Scope_field_kind []
  me_Scope_field_kind : Meth K C_Scope "field_kind" a_Scope_field_kind
  c_WIDEST_SMALL : ∃ t, mg "WIDEST_SMALL" = some (.int 7 t)
  c_PARTS : ∃ d, mg "PARTS" = some (.ref d) ∧ ∀ q ∈ tb_PARTS, KPart w K d q.1 q.2
  c_FAULTS : ∃ d, mg "FAULTS" = some (.ref d) ∧ ∀ q ∈ tb_FAULTS, KPart w K d q.1 q.2
  k_FAULTS : ∀ d, mg "FAULTS" = some (.ref d) → KG.KGet w K d ["set", "input", "new", "call", "return", "if", "while", "break"]
  z_any : mg "any" = none
  z_bool : mg "bool" = none
  z_dict : mg "dict" = none
  z_enumerate : mg "enumerate" = none
  z_int : mg "int" = none
  z_isinstance : mg "isinstance" = none
  z_len : mg "len" = none
  z_list : mg "list" = none
  z_min : mg "min" = none
  z_range : mg "range" = none
  z_str : mg "str" = none
  z_tuple : mg "tuple" = none
  z_zip : mg "zip" = none
abbrev n__wall : List Str := ["k"]
theorem sc__wall : FnScope n__wall p__wall (defScope s__wall) := ⟨rfl, rfl, rfl, by decide +kernel, rfl, by decide +kernel, by decide +kernel⟩
abbrev n_is_large : List Str := ["kind"]
theorem sc_is_large : FnScope n_is_large p_is_large (defScope s_is_large) := ⟨rfl, rfl, rfl, by decide +kernel, rfl, by decide +kernel, by decide +kernel⟩
abbrev n_visible_kinds : List Str := ["program", "function"]
theorem sc_visible_kinds : FnScope n_visible_kinds p_visible_kinds (defScope s_visible_kinds) := ⟨rfl, rfl, rfl, by decide +kernel, rfl, by decide +kernel, by decide +kernel⟩
abbrev n_bodies_of : List Str := ["statement", "roles", "role", "part"]
theorem sc_bodies_of : FnScope n_bodies_of p_bodies_of (defScope s_bodies_of) := ⟨rfl, rfl, rfl, by decide +kernel, rfl, by decide +kernel, by decide +kernel⟩
abbrev n_list_statements : List Str := ["body", "in_while", "found", "statement", "inner"]
theorem sc_list_statements : FnScope n_list_statements p_list_statements (defScope s_list_statements) := ⟨rfl, rfl, rfl, by decide +kernel, rfl, by decide +kernel, by decide +kernel⟩
abbrev n_is_number_kind : List Str := ["kind"]
theorem sc_is_number_kind : FnScope n_is_number_kind p_is_number_kind (defScope s_is_number_kind) := ⟨rfl, rfl, rfl, by decide +kernel, rfl, by decide +kernel, by decide +kernel⟩
abbrev n_gives_number : List Str := ["scope", "statement", "word", "_", "kind"]
theorem sc_gives_number : FnScope n_gives_number p_gives_number (defScope s_gives_number) := ⟨rfl, rfl, rfl, by decide +kernel, rfl, by decide +kernel, by decide +kernel⟩
abbrev n_faults_of : List Str := ["scope", "statement", "own"]
theorem sc_faults_of : FnScope n_faults_of p_faults_of (defScope s_faults_of) := ⟨rfl, rfl, rfl, by decide +kernel, rfl, by decide +kernel, by decide +kernel⟩
abbrev n_sites : List Str := ["program", "found", "function", "scope", "place", "statement", "_", "fault"]
theorem sc_sites : FnScope n_sites p_sites (defScope s_sites) := ⟨rfl, rfl, rfl, by decide +kernel, rfl, by decide +kernel, by decide +kernel⟩
abbrev n_is_plain : List Str := ["program", "_", "arrays", "shared", "functions", "kinds", "kind", "params", "result", "own"]
theorem sc_is_plain : FnScope n_is_plain p_is_plain (defScope s_is_plain) := ⟨rfl, rfl, rfl, by decide +kernel, rfl, by decide +kernel, by decide +kernel⟩
abbrev n_l_cell : List Str := ["_law_script", "_law_at"]
theorem sc_l_cell : FnScope n_l_cell p_l_cell (defScope s_l_cell) := ⟨rfl, rfl, rfl, by decide +kernel, rfl, by decide +kernel, by decide +kernel⟩
abbrev n_l_source : List Str := ["_law_cell_here"]
theorem sc_l_source : FnScope n_l_source p_l_source (defScope s_l_source) := ⟨rfl, rfl, rfl, by decide +kernel, rfl, by decide +kernel, by decide +kernel⟩
abbrev n_l_pick : List Str := ["_law_source_here", "_law_size", "_law_k", "_law_digit", "_law_mixed"]
theorem sc_l_pick : FnScope n_l_pick p_l_pick (defScope s_l_pick) := ⟨rfl, rfl, rfl, by decide +kernel, rfl, by decide +kernel, by decide +kernel⟩
abbrev n_l_one : List Str := ["_law_source_here", "_law_row"]
theorem sc_l_one : FnScope n_l_one p_l_one (defScope s_l_one) := ⟨rfl, rfl, rfl, by decide +kernel, rfl, by decide +kernel, by decide +kernel⟩
abbrev n_l_names : List Str := ["_law_source_here", "_law_style", "_law_names_here", "_law_k", "_law_word"]
theorem sc_l_names : FnScope n_l_names p_l_names (defScope s_l_names) := ⟨rfl, rfl, rfl, by decide +kernel, rfl, by decide +kernel, by decide +kernel⟩
abbrev n_l_named : List Str := ["_law_env", "_law_kind", "_law_pair"]
theorem sc_l_named : FnScope n_l_named p_l_named (defScope s_l_named) := ⟨rfl, rfl, rfl, by decide +kernel, rfl, by decide +kernel, by decide +kernel⟩
abbrev n_l_number : List Str := ["_law_source_here", "_law_env", "_law_depth", "_law_simple", "_law_pool", "_law_pair", "_law_choice", "_law_left"]
theorem sc_l_number : FnScope n_l_number p_l_number (defScope s_l_number) := ⟨rfl, rfl, rfl, by decide +kernel, rfl, by decide +kernel, by decide +kernel⟩
abbrev n_l_compare : List Str := ["_law_source_here", "_law_env", "_law_simple", "_law_pool", "_law_pair", "_law_sign", "_law_high"]
theorem sc_l_compare : FnScope n_l_compare p_l_compare (defScope s_l_compare) := ⟨rfl, rfl, rfl, by decide +kernel, rfl, by decide +kernel, by decide +kernel⟩
abbrev n_l_reference : List Str := ["_law_source_here", "_law_env", "_law_kind", "_law_pool"]
theorem sc_l_reference : FnScope n_l_reference p_l_reference (defScope s_l_reference) := ⟨rfl, rfl, rfl, by decide +kernel, rfl, by decide +kernel, by decide +kernel⟩
abbrev n_l_truth : List Str := ["_law_source_here", "_law_env", "_law_depth", "_law_simple", "_law_choice", "_law_flags", "_law_refs", "_law_pair", "_law_left", "_law_pool"]
theorem sc_l_truth : FnScope n_l_truth p_l_truth (defScope s_l_truth) := ⟨rfl, rfl, rfl, by decide +kernel, rfl, by decide +kernel, by decide +kernel⟩
abbrev n_l_expression : List Str := ["_law_source_here", "_law_env", "_law_kind", "_law_simple", "_law_choice", "_law_pool", "_law_name"]
theorem sc_l_expression : FnScope n_l_expression p_l_expression (defScope s_l_expression) := ⟨rfl, rfl, rfl, by decide +kernel, rfl, by decide +kernel, by decide +kernel⟩
abbrev n_l_call : List Str := ["_law_source_here", "_law_world", "_law_env", "_law_head", "_law_arguments", "_law_pair", "_law_targets", "_law_target"]
theorem sc_l_call : FnScope n_l_call p_l_call (defScope s_l_call) := ⟨rfl, rfl, rfl, by decide +kernel, rfl, by decide +kernel, by decide +kernel⟩
abbrev n_l_memory : List Str := ["_law_source_here", "_law_world", "_law_env", "_law_choice", "_law_refs", "_law_pair", "_law_fields", "_law_field", "_law_targets"]
theorem sc_l_memory : FnScope n_l_memory p_l_memory (defScope s_l_memory) := ⟨rfl, rfl, rfl, by decide +kernel, rfl, by decide +kernel, by decide +kernel⟩
abbrev n_l_element : List Str := ["_law_source_here", "_law_world", "_law_env", "_law_array", "_law_where", "_law_targets"]
theorem sc_l_element : FnScope n_l_element p_l_element (defScope s_l_element) := ⟨rfl, rfl, rfl, by decide +kernel, rfl, by decide +kernel, by decide +kernel⟩
abbrev n_l_leaf : List Str := ["_law_source_here", "_law_world", "_law_env", "_law_loop_here", "_law_result", "_law_choice", "_law_made", "_law_pair"]
theorem sc_l_leaf : FnScope n_l_leaf p_l_leaf (defScope s_l_leaf) := ⟨rfl, rfl, rfl, by decide +kernel, rfl, by decide +kernel, by decide +kernel⟩
abbrev n_l_loop : List Str := ["_law_source_here", "_law_world", "_law_env", "_law_depth", "_law_result", "_law_test", "_law_pool", "_law_pair", "_law_body_here", "_law_high"]
theorem sc_l_loop : FnScope n_l_loop p_l_loop (defScope s_l_loop) := ⟨rfl, rfl, rfl, by decide +kernel, rfl, by decide +kernel, by decide +kernel⟩
abbrev n_l_body : List Str := ["_law_source_here", "_law_world", "_law_env", "_law_upto", "_law_depth", "_law_loop_here", "_law_result", "_law_body_here", "_law_k", "_law_choice", "_law_test", "_law_first", "_law_second"]
theorem sc_l_body : FnScope n_l_body p_l_body (defScope s_l_body) := ⟨rfl, rfl, rfl, by decide +kernel, rfl, by decide +kernel, by decide +kernel⟩
abbrev n_l_some : List Str := ["_law_source_here", "_law_names_here", "_law_kinds_here", "_law_least", "_law_pairs", "_law_k"]
theorem sc_l_some : FnScope n_l_some p_l_some (defScope s_l_some) := ⟨rfl, rfl, rfl, by decide +kernel, rfl, by decide +kernel, by decide +kernel⟩
abbrev n_l_kinds : List Str := ["_law_source_here", "_law_names_here", "_law_plain_here", "_law_wide", "_law_low", "_law_small", "_law_kinds_here", "_law_base", "_law_large"]
theorem sc_l_kinds : FnScope n_l_kinds p_l_kinds (defScope s_l_kinds) := ⟨rfl, rfl, rfl, by decide +kernel, rfl, by decide +kernel, by decide +kernel⟩
abbrev n_l_program : List Str := ["_law_source_here", "_law_plain_here", "_law_simple", "_law_wide", "_law_names_here", "_law_kinds_here", "_law_fields", "_law_records", "_law_arrays", "_law_upto", "_law_pairs", "_law_heads", "_law_k", "_law_result", "_law_world", "_law_functions", "_law_head", "_law_own", "_law_env", "_law_body_here", "_law_pair", "_law_other", "_law_at", "_law_shift"]
theorem sc_l_program : FnScope n_l_program p_l_program (defScope s_l_program) := ⟨rfl, rfl, rfl, by decide +kernel, rfl, by decide +kernel, by decide +kernel⟩
abbrev n_l_flat : List Str := ["_law_body_here", "_law_flat_here", "_law_statement"]
theorem sc_l_flat : FnScope n_l_flat p_l_flat (defScope s_l_flat) := ⟨rfl, rfl, rfl, by decide +kernel, rfl, by decide +kernel, by decide +kernel⟩
abbrev n_l_same : List Str := ["_law_actual", "_law_due", "_law_k"]
theorem sc_l_same : FnScope n_l_same p_l_same (defScope s_l_same) := ⟨rfl, rfl, rfl, by decide +kernel, rfl, by decide +kernel, by decide +kernel⟩
abbrev n_l_longer : List Str := ["_law_other", "_law_program_here", "_law_functions", "_law_at", "_law_head", "_law_times"]
theorem sc_l_longer : FnScope n_l_longer p_l_longer (defScope s_l_longer) := ⟨rfl, rfl, rfl, by decide +kernel, rfl, by decide +kernel, by decide +kernel⟩
abbrev n_l_added : List Str := ["_law_other", "_law_program_here", "_law_plain_here", "_law_low", "_law_width", "_law_choice", "_law_kind", "_law_records", "_law_arrays", "_law_pairs", "_law_functions", "_law_at", "_law_head"]
theorem sc_l_added : FnScope n_l_added p_l_added (defScope s_l_added) := ⟨rfl, rfl, rfl, by decide +kernel, rfl, by decide +kernel, by decide +kernel⟩
abbrev n_l_taking : List Str := ["_law_program_here", "_law_kinds_here", "_law_head", "_law_statement", "_law_sign", "_law_other", "_law_pair", "_law_record", "_law_field"]
theorem sc_l_taking : FnScope n_l_taking p_l_taking (defScope s_l_taking) := ⟨rfl, rfl, rfl, by decide +kernel, rfl, by decide +kernel, by decide +kernel⟩
abbrev n_l_faults : List Str := ["_law_program_here", "_law_kinds_here", "_law_head", "_law_statement", "_law_sign", "_law_faults_here", "_law_kind"]
theorem sc_l_faults : FnScope n_l_faults p_l_faults (defScope s_l_faults) := ⟨rfl, rfl, rfl, by decide +kernel, rfl, by decide +kernel, by decide +kernel⟩
abbrev n_l_sites : List Str := ["_law_program_here", "_law_due", "_law_head", "_law_kinds_here", "_law_pair", "_law_flat_here", "_law_place", "_law_fault"]
theorem sc_l_sites : FnScope n_l_sites p_l_sites (defScope s_l_sites) := ⟨rfl, rfl, rfl, by decide +kernel, rfl, by decide +kernel, by decide +kernel⟩
abbrev n_l_plain : List Str := ["_law_program_here", "_law_kinds_here", "_law_pair", "_law_head", "_law_kind"]
theorem sc_l_plain : FnScope n_l_plain p_l_plain (defScope s_l_plain) := ⟨rfl, rfl, rfl, by decide +kernel, rfl, by decide +kernel, by decide +kernel⟩
abbrev n_law : List Str := ["_law_script", "_law_other", "_law_plain_here", "_law_simple", "_law_wide", "_law_program_here", "_law_due", "_law_first"]
theorem sc_law : FnScope n_law p_law (defScope s_law) := ⟨rfl, rfl, rfl, by decide +kernel, rfl, by decide +kernel, by decide +kernel⟩
abbrev n_Scope_init : List Str := ["self", "program", "function", "record", "array", "other"]
theorem sc_Scope_init : FnScope n_Scope_init p_Scope_init (defScope s_Scope_init) := ⟨rfl, rfl, rfl, by decide +kernel, rfl, by decide +kernel, by decide +kernel⟩
abbrev n_Scope_declares : List Str := ["self", "role", "name"]
theorem sc_Scope_declares : FnScope n_Scope_declares p_Scope_declares (defScope s_Scope_declares) := ⟨rfl, rfl, rfl, by decide +kernel, rfl, by decide +kernel, by decide +kernel⟩
abbrev n_Scope_field_kind : List Str := ["self", "name", "field", "kind"]
theorem sc_Scope_field_kind : FnScope n_Scope_field_kind p_Scope_field_kind (defScope s_Scope_field_kind) := ⟨rfl, rfl, rfl, by decide +kernel, rfl, by decide +kernel, by decide +kernel⟩
/-! ### a list against the empty one -/
def rEqL0 (K : PySem.W.Frag) (neg : Bool) : R2 := fun x y H Q => ∃ (a b : Addr) (xs : List V), x = .ref a ∧ y = .ref b ∧ SqL K H a xs ∧ SqL K H b [] ∧ Q (.bl (if neg then !xs.isEmpty else xs.isEmpty)) H
theorem op_neL0 {X : Cx} (hu : X.A.units < cLine) : OpR X (compareOp .NotEq) (rEqL0 X.K true) := by
  intro pins s σ H x y v u Q I rx ry h
  obtain ⟨a, b, xs, rfl, rfl, ha, hb, q⟩ := h
  obtain rfl : v = Value.ref a := rx
  obtain rfl : u = Value.ref b := ry
  obtain ⟨its, r1, t1, _⟩ := I.list ha
  obtain ⟨its2, r2, t2, _⟩ := I.list hb
  cases r2
  cases r1 with
  | nil => exact SeqAt.RcNeAt.lists (e := fun _ => true) t1.isList t2.isList rfl hu (fun j h1 h2 => absurd h2 (by simp)) _ _ _ _ ⟨.bl _, H, I, rfl, q⟩
  | cons _ _ => exact SeqAt.RcNeAt.lists_lengths t1.isList t2.isList (by simp) hu _ _ _ _ ⟨.bl _, H, I, rfl, q⟩
theorem op_eqL0 {X : Cx} (hu : X.A.units < cLine) : OpR X (compareOp .Eq) (rEqL0 X.K false) := by
  intro pins s σ H x y v u Q I rx ry h
  obtain ⟨a, b, xs, rfl, rfl, ha, hb, q⟩ := h
  obtain rfl : v = Value.ref a := rx
  obtain rfl : u = Value.ref b := ry
  obtain ⟨its, r1, t1, _⟩ := I.list ha
  obtain ⟨its2, r2, t2, _⟩ := I.list hb
  cases r2
  cases r1 with
  | nil => exact SeqAt.eq_listAt (e := fun _ => true) t1.isList t2.isList rfl hu (fun j h1 h2 => absurd h2 (by simp)) ⟨.bl _, H, I, rfl, q⟩
  | cons _ _ => exact SeqAt.eq_list_lengthsAt t1.isList t2.isList (by simp) hu ⟨.bl _, H, I, rfl, q⟩
/-! ### built-in names -/
theorem bt_int : bootBuiltins "int" = some (.type "int") := by decide +kernel
theorem bt_str : bootBuiltins "str" = some (.type "str") := by decide +kernel
theorem bt_bool : bootBuiltins "bool" = some (.type "bool") := by decide +kernel
theorem bt_tuple : bootBuiltins "tuple" = some (.type "tuple") := by decide +kernel
theorem bt_list : bootBuiltins "list" = some (.type "list") := by decide +kernel
theorem bt_dict : bootBuiltins "dict" = some (.type "dict") := by decide +kernel
theorem bb_max : bootBuiltins "max" = some (.builtin "max") := by decide +kernel
theorem bb_min : bootBuiltins "min" = some (.builtin "min") := by decide +kernel
theorem bb_isinstance : bootBuiltins "isinstance" = some (.builtin "isinstance") := by decide +kernel
/-! ### a source of draws: a list of three ints, which draws alone change -/
def Src (H : Hp) (a : Addr) : Prop := ∃ c m k : Int, H a = some (.lst [.int c, .int m, .int k])
/-- a source stands at a, and nothing else that was tracked has changed -/
structure Stp (a : Addr) (H H' : Hp) : Prop where
  s : Src H' a
  k : ∀ b o, b ≠ a → H b = some o → H' b = some o
theorem Stp.refl {a : Addr} {H : Hp} (h : Src H a) : Stp a H H := ⟨h, fun _ _ _ e => e⟩
theorem Stp.trans {a : Addr} {H H1 H2 : Hp} (x : Stp a H H1) (y : Stp a H1 H2) : Stp a H H2 := ⟨y.s, fun b o hb e => y.k b o hb (x.k b o hb e)⟩
theorem Src.ne {a p : Addr} {H : Hp} (h : Src H a) (n : H p = none) : a ≠ p := by
  obtain ⟨c, m, k, h⟩ := h
  exact ne_of_none h n
theorem Stp.free {a p : Addr} {H H' : Hp} (x : Stp a H H') (n : H' p = none) : H p = none := by
  cases q : H p with
  | none => rfl
  | some o =>
    have ne : p ≠ a := fun z => x.s.ne n z.symm
    rw [x.k p o ne q] at n
    cases n
/-- a new object beside the source -/
theorem Stp.new {a p : Addr} {H H' : Hp} {o : HO} (x : Stp a H H') (n : H' p = none) : Stp a H (upd H' p o) := by
  have ne := x.s.ne n
  obtain ⟨c, m, k, h⟩ := x.s
  refine ⟨⟨c, m, k, by rw [upd_ne ne]; exact h⟩, fun b u hb e => ?_⟩
  have e' := x.k b u hb e
  rw [upd_ne (ne_of_none e' n)]
  exact e'
theorem Stp.same {a : Addr} {H H' H2 : Hp} (x : Stp a H H') (s : Same H' H2) : Stp a H H2 := by
  obtain ⟨c, m, k, h⟩ := x.s
  exact ⟨⟨c, m, k, s _ _ h⟩, fun b o hb e => s b o (x.k b o hb e)⟩
theorem Stp.of_same {a : Addr} {H H' : Hp} (h : Src H a) (s : Same H H') : Stp a H H' := (Stp.refl h).same s
theorem Same.new {H : Hp} {p : Addr} (h : H p = none) (o : HO) : Same H (upd H p o) := fun b u q => by rw [upd_ne (ne_of_none q h)]; exact q
/-- a source that is new ahead of its draws: all that was tracked stands -/
theorem Stp.fresh {a : Addr} {H H1 H2 : Hp} (s : Same H H1) (n : H a = none) (x : Stp a H1 H2) : Same H H2 := fun b o e => x.k b o (ne_of_none e n) (s b o e)
theorem Stp.rd {K : PySem.W.Frag} {a p : Addr} {H H' : Hp} {xs : List V} (x : Stp a H H') (h : SqT K H p xs) (hs : Src H a) : SqT K H' p xs := by
  obtain ⟨c, m, k, hs⟩ := hs
  rcases h with (h | ⟨o, h⟩) | h
  · exact .inl (.inl (x.k _ _ (ne_of h hs (by intro z; cases z)) h))
  · exact .inl (.inr ⟨o, x.k _ _ (ne_of h hs (by intro z; cases z)) h⟩)
  · exact .inr h
theorem Stp.rdL {K : PySem.W.Frag} {a p : Addr} {H H' : Hp} {xs : List V} (x : Stp a H H') (h : SqL K H p xs) (ne : p ≠ a) : SqL K H' p xs := by
  rcases h with (h | ⟨o, h⟩) | h
  · exact .inl (.inl (x.k _ _ ne h))
  · exact .inl (.inr ⟨o, x.k _ _ ne h⟩)
  · exact .inr h
theorem Same.tup {K : PySem.W.Frag} {p : Addr} {H H' : Hp} {xs : List V} (x : Same H H') (h : SqT K H p xs) : SqT K H' p xs := by
  rcases h with (h | ⟨o, h⟩) | h
  · exact .inl (.inl (x _ _ h))
  · exact .inl (.inr ⟨o, x _ _ h⟩)
  · exact .inr h
/-! ### numbers -/
theorem ifT {c : Bool} {A B : Prop} (h : c = true) (a : A) : if c = true then A else B := by rw [if_pos h]; exact a
theorem ifF {c : Bool} {A B : Prop} (h : c = false) (b : B) : if c = true then A else B := by rw [h]; exact iteF b
theorem fmod_bd {x m : Int} (h : 0 < m) : 0 ≤ x.fmod m ∧ x.fmod m < m := ⟨Int.fmod_nonneg_of_pos x h, Int.fmod_lt_of_pos x h⟩
theorem fm64 {x m : Int} (h : 0 < m) (h2 : m ≤ 2 ^ 64) : -(2 ^ 64) < x.fmod m ∧ x.fmod m < 2 ^ 64 :=
  ⟨Int.lt_of_lt_of_le (by decide) (fmod_bd h).1, Int.lt_of_lt_of_le (fmod_bd h).2 h2⟩
theorem atI_int {α : Type} {xs : List α} {r : Int} (h0 : 0 ≤ r) (h : r.toNat < xs.length) : atI xs r = some xs[r.toNat] := by
  have e := atI_nat (xs := xs) (j := r.toNat) (List.getElem?_eq_getElem h)
  rwa [Int.toNat_of_nonneg h0] at e
/-! ### the promises of the draws -/
def spCell (K : PySem.W.Frag) : Sp := fun vs H Q _ => ∃ (l : Addr) (ns : List Int) (j : Int), vs = [.ref l, .int j] ∧ SqL K H l (ns.map V.int) ∧ 0 ≤ j ∧ ∀ i : Int, Q (.int i) H
def spSource : Sp := fun vs H Q _ => ∃ c : Int, vs = [.int c] ∧ ∀ p H', H p = none → Same H H' → Src H' p → Q (.ref p) H'
def spPick : Sp := fun vs H Q _ => ∃ (a : Addr) (n : Int), vs = [.ref a, .int n] ∧ Src H a ∧ n < 1073741824 ∧ ∀ (r : Int) (H' : Hp), Stp a H H' → 0 ≤ r → (r < n ∨ r = 0) → Q (.int r) H'
def spOne (K : PySem.W.Frag) : Sp := fun vs H Q _ => ∃ (a : Addr) (row : V), vs = [.ref a, row] ∧ Src H a ∧
  ((∃ (p : Addr) (xs : List V), row = .ref p ∧ p ≠ a ∧ SqL K H p xs ∧ 0 < xs.length ∧ xs.length < 1000 ∧ ∀ v H', v ∈ xs → Stp a H H' → Q v H') ∨
   (∃ z : Str, row = .str z ∧ 0 < z.length ∧ z.length < 1000 ∧ ∀ (c : Nat) H', c ∈ z.cps.toList → Stp a H H' → Q (.str ⟨#[c]⟩) H'))
section
variable {P : Program} {w : World} {K : PySem.W.Frag} {mg : Str → Option Value} {base : Heap}
theorem ok_l_cell (T : Txt w K mg) : FnOk P w K mg base CX0 1 T.a_l_cell T.d_l_cell p_l_cell (spCell K) := by
  refine T.F_l_cell.ok sc_l_cell (fun vs H Q E h => ?_) (fun cdv A outer s H vs Q E hr h => ?_)
  · obtain ⟨l, ns, j, rfl, _⟩ := h
    rfl
  obtain ⟨l, ns, j, rfl, hS, h0, q⟩ := h
  refine ⟨_, (pss_cons (ps_if (pt_cmpR op_lt (pv 1) (pe_callB call_len_seq rfl T.z_len PySem.boot_len (pa_cons (pv 0) pa_nil)) (nomark _)) (pss_one (ps_ret (pe_ix ix_list (pv 0) (pv 1) (fun _ _ => rfl)))) pss_nil)
      (pss_one (ps_ret pe_int))), ?_⟩
  have hl : (ns.map V.int).length = ns.length := List.length_map _
  refine ⟨_, rfl, _, rfl, l, _, rfl, .inl hS, _, _, rfl, rfl, _, rfl, ?_⟩
  refine ite2 (fun c => ?_) (fun c => ?_)
  · have c' : j < (((ns.map V.int).length : Nat) : Int) := of_decide_eq_true c
    rw [hl] at c'
    have hk : j.toNat < ns.length := by omega
    have e := atI_int (xs := ns.map V.int) h0 (by omega)
    rw [List.getElem_map] at e
    exact ⟨_, rfl, _, rfl, l, _, _, _, rfl, rfl, hS, e, q _⟩
  · exact q 0
theorem ok_l_source (T : Txt w K mg) : FnOk P w K mg base CX0 1 T.a_l_source T.d_l_source p_l_source spSource := by
  refine T.F_l_source.ok sc_l_source (fun vs H Q E h => ?_) (fun cdv A outer s H vs Q E hr h => ?_)
  · obtain ⟨c, rfl, _⟩ := h
    rfl
  obtain ⟨c, rfl, q⟩ := h
  refine ⟨_, (pss_one (ps_ret (pe_lst (pa_cons (pv 0) (pa_cons (pv 0) (pa_cons pe_int pa_nil)))))), ?_⟩
  refine ⟨_, rfl, _, rfl, (by show 3 ≤ sizeLine; decide), fun p hp => ?_⟩
  exact q p _ hp (Same.new hp _) ⟨c, c, 0, upd_same⟩
theorem ok_l_pick (T : Txt w K mg) : FnOk P w K mg base CX0 1 T.a_l_pick T.d_l_pick p_l_pick spPick := by
  refine T.F_l_pick.ok sc_l_pick (fun vs H Q E h => ?_) (fun cdv A outer s H vs Q E hr h => ?_)
  · obtain ⟨a, n, rfl, _⟩ := h
    rfl
  obtain ⟨a, n, rfl, ⟨c, m, k, hS⟩, hn, q⟩ := h
  refine ⟨_, (pss_cons (ps_set (i := 2) sc_l_pick.nd rfl (Or.inl rfl) (pe_ix ix_list (pv 0) pe_int (fun _ _ => rfl)))
      (pss_cons (ps_asg (pe_op op_add (pv 2) pe_int) (pg_sub (pv 0) pe_int set_list))
      (pss_cons (ps_if (pt_cmpR op_lt (pv 1) pe_int (nomark _)) (pss_one (ps_ret pe_int)) pss_nil)
      (pss_cons (ps_if (PW.pt (pw_and (pt_cmpR op_ge (pe_ix ix_list (pv 0) pe_int (fun _ _ => rfl)) (pe_op op_pow pe_int pe_int) (nomark _)) (pw_and1 (pt_cmpR op_gt (pe_ix ix_list (pv 0) pe_int (fun _ _ => rfl)) pe_int (nomark _))))) (pss_cons (ps_set (i := 3) sc_l_pick.nd rfl (Or.inl rfl) (pe_op op_modN (pe_callTy call_int1 rfl T.z_int bt_int (pa_cons (pe_ix ix_list (pv 0) pe_int (fun _ _ => rfl)) pa_nil)) (pv 1)))
      (pss_cons (ps_asg (pe_op op_fdivN (pe_ix ix_list (pv 0) pe_int (fun _ _ => rfl)) (pv 1)) (pg_sub (pv 0) pe_int set_list))
      (pss_one (ps_ret (pv 3))))) pss_nil)
      (pss_cons (ps_set (i := 4) sc_l_pick.nd rfl (Or.inl rfl) (pe_op op_modN (pe_callTy call_int1 rfl T.z_int bt_int (pa_cons (pe_op op_add (pe_op op_add (pe_ix ix_list (pv 0) pe_int (fun _ _ => rfl)) (pe_op op_mul pe_int (pv 2))) pe_int) pa_nil)) pe_int))
      (pss_cons (ps_set (i := 4) sc_l_pick.nd rfl (Or.inl rfl) (pe_op op_modN (pe_callTy call_int1 rfl T.z_int bt_int (pa_cons (pe_op op_mul (pv 4) (pe_op op_add (pv 4) pe_int)) pa_nil)) pe_int))
      (pss_cons (ps_set (i := 4) sc_l_pick.nd rfl (Or.inl rfl) (pe_op op_modN (pe_callTy call_int1 rfl T.z_int bt_int (pa_cons (pe_op op_add (pe_op op_mul (pv 4) (pe_op op_add (pv 4) pe_int)) (pe_op op_mul pe_int (pv 2))) pa_nil)) pe_int))
      (pss_one (ps_ret (pe_op op_modN (pe_callTy call_int1 rfl T.z_int bt_int (pa_cons (pe_op op_fdivN (pv 4) pe_int) pa_nil)) (pv 1))))))))))), ?_⟩
  refine ⟨_, rfl, a, _, 2, _, rfl, rfl, SqL.of hS, rfl, ?_⟩
  refine ⟨_, rfl, k, 1, rfl, rfl, _, rfl, a, _, 2, 2, rfl, rfl, hS, rfl, ?_⟩
  have h1 : (upd H a (.lst [.int c, .int m, .int (k + 1)])) a = some (.lst [.int c, .int m, .int (k + 1)]) := upd_same
  have st : Stp a H (upd H a (.lst [.int c, .int m, .int (k + 1)])) := ⟨⟨c, m, k + 1, upd_same⟩, fun b o hb e => by rw [upd_ne hb]; exact e⟩
  refine ⟨_, rfl, n, 2, rfl, rfl, _, rfl, ?_⟩
  refine ite2 (fun _ => ?_) (fun c2 => ?_)
  · exact q 0 _ st (Int.le_refl 0) (.inr rfl)
  have hn2 : ¬ n < 2 := of_decide_eq_false (Bool.eq_false_iff.mpr c2)
  refine ⟨_, rfl, a, _, 0, _, rfl, rfl, SqL.of h1, rfl, 10, 18, rfl, rfl, ⟨by decide, by decide, by decide⟩, _, _, rfl, rfl, _, rfl, ?_⟩
  refine ite2 (fun _ => ⟨_, rfl, a, _, 1, _, rfl, rfl, SqL.of h1, rfl, _, _, rfl, rfl, _, rfl, ite2 (fun _ => ?first) (fun _ => ?second)⟩) (fun _ => iteF ?third)
  case first =>
    refine ⟨_, rfl, a, _, 1, _, rfl, rfl, SqL.of h1, rfl, .inl ⟨_, rfl, ?_⟩⟩
    refine ⟨_, rfl, _, _, rfl, rfl, by omega, ?_⟩
    refine ⟨_, rfl, a, _, 1, _, rfl, rfl, SqL.of h1, rfl, _, rfl, m, n, rfl, rfl, ⟨by omega, by omega⟩, _, rfl, a, _, 1, 1, rfl, rfl, h1, rfl, ?_⟩
    refine ⟨_, rfl, ?_⟩
    have b := fmod_bd (x := m) (m := n) (by omega)
    refine q _ _ ⟨⟨c, m.fdiv n, k + 1, upd_same⟩, fun b o hb e => ?_⟩ b.1 (.inl b.2)
    rw [upd_ne hb]
    exact st.k b o hb e
  all_goals
    refine ⟨_, rfl, a, _, 0, _, rfl, rfl, SqL.of h1, rfl, _, rfl, 7919, k, rfl, rfl, .inl ⟨by decide, by decide⟩, _, _, rfl, rfl, _, _, rfl, rfl, .inl ⟨_, rfl, ?_⟩⟩
    refine ⟨_, _, rfl, rfl, (by intro z; cases z), ?_⟩
    refine ⟨_, rfl, _, rfl, _, _, rfl, rfl, _, _, rfl, rfl, .inl (fm64 (by decide) (by decide)), .inl ⟨_, rfl, ?_⟩⟩
    refine ⟨_, _, rfl, rfl, (by intro z; cases z), ?_⟩
    refine ⟨_, rfl, _, rfl, _, _, rfl, rfl, _, _, rfl, rfl, .inl (fm64 (by decide) (by decide)), _, rfl, 31, k, rfl, rfl, .inl ⟨by decide, by decide⟩, _, _, rfl, rfl, .inl ⟨_, rfl, ?_⟩⟩
    refine ⟨_, _, rfl, rfl, (by intro z; cases z), ?_⟩
    refine ⟨_, rfl, _, _, rfl, rfl, ⟨by decide, by decide⟩, .inl ⟨_, rfl, ?_⟩⟩
    refine ⟨_, rfl, _, _, rfl, rfl, (by omega), ?_⟩
    exact q _ _ st (fmod_bd (by omega)).1 (.inl (fmod_bd (by omega)).2)
theorem ok_l_one (T : Txt w K mg) : FnOk P w K mg base CX0 2 T.a_l_one T.d_l_one p_l_one (spOne K) := by
  have g_l_pick := ok_l_pick (P := P) (w := w) (base := base) T
  refine T.F_l_one.ok sc_l_one (fun vs H Q E h => ?_) (fun cdv A outer s H vs Q E hr h => ?_)
  · obtain ⟨a, row, rfl, _⟩ := h
    rfl
  obtain ⟨a, row, rfl, hS, h⟩ := h
  refine ⟨_, (pss_one (ps_ret (pe_ix ix_seq (pv 1) (pe_call g_l_pick (hr.mono (by first | decide | omega)) rfl T.m_l_pick T.F_l_pick.kp T.b_l_pick .nil pass0 (pa_cons (pv 0) (pa_cons (pe_callB call_len rfl T.z_len PySem.boot_len (pa_cons (pv 1) pa_nil)) pa_nil))) (fun _ _ => rfl)))), ?_⟩
  rcases h with ⟨p, xs, rfl, ne, hx, h0, h9, q⟩ | ⟨z, rfl, h0, h9, q⟩
  · refine ⟨_, rfl, _, rfl, _, rfl, .ref p, xs.length, rfl, .inl ⟨_, hx, rfl⟩, ?_⟩
    refine ⟨a, _, rfl, hS, by omega, fun r H' st r0 r1 => ?_⟩
    have hr' : r.toNat < xs.length := by omega
    have e := atI_int (xs := xs) r0 hr'
    exact .inl ⟨p, xs, r, _, rfl, rfl, st.rdL hx ne, e, q _ _ (List.getElem_mem hr') st⟩
  · refine ⟨_, rfl, _, rfl, _, rfl, .str z, z.length, rfl, ⟨Nat.le_of_lt (small1000 (by omega)), rfl⟩, ?_⟩
    refine ⟨a, _, rfl, hS, by omega, fun r H' st r0 r1 => ?_⟩
    have ez : z.length = z.cps.toList.length := by simp [Str.length]
    have hr' : r.toNat < z.cps.toList.length := by omega
    have e := atI_int (xs := z.cps.toList) r0 hr'
    exact .inr (.inr ⟨z, r, _, rfl, rfl, Nat.le_of_lt (small1000 (by omega)), e, q _ _ (List.getElem_mem hr') st⟩)
end
/-! ### data: equal data are the same to _law_same -/
def Dok : Nat → PyData → Prop
  | 0, _ => False
  | _ + 1, .none => True
  | _ + 1, .bool _ => True
  | _ + 1, .int _ => True
  | _ + 1, .str _ => True
  | n + 1, .tuple ds => ds.length ≤ 100000 ∧ ∀ d ∈ ds, Dok n d
  | n + 1, .list ds => ds.length ≤ 100000 ∧ ∀ d ∈ ds, Dok n d
  | _ + 1, .dict _ => False
theorem dpAll_len {K : PySem.W.Frag} {H : Hp} : ∀ {vs : List V} {ds : List PyData}, DpAll K H vs ds → vs.length = ds.length
  | _, _, .nil => rfl
  | _, _, .cons _ r => congrArg (· + 1) (dpAll_len r)
theorem dpAll_get {K : PySem.W.Frag} {H : Hp} : ∀ {vs : List V} {ds : List PyData} {i : Nat} {d : PyData}, DpAll K H vs ds → ds[i]? = some d → ∃ v, vs[i]? = some v ∧ Dp K H v d
  | _, _, _, _, .nil, e => by simp at e
  | _, _, 0, d, .cons h _, e => by
    simp at e
    subst e
    exact ⟨_, rfl, h⟩
  | _, _, i + 1, d, .cons _ r, e => by
    obtain ⟨v, h1, h2⟩ := dpAll_get (i := i) r (by simpa using e)
    exact ⟨v, by simpa using h1, h2⟩
theorem tyL {K : PySem.W.Frag} {H : Hp} {a : Addr} {xs : List V} (h : SqL K H a xs) : TyX K H (.ref a) (.type "list") := by
  rcases h with (h | ⟨o, h⟩) | ⟨o, its, n, h, c, _⟩
  · exact .base (.lst h)
  · exact .base (.frz h)
  · exact .kList h c
theorem tyT {K : PySem.W.Frag} {H : Hp} {a : Addr} {xs : List V} (h : SqT K H a xs) : TyX K H (.ref a) (.type "tuple") := by
  rcases h with (h | ⟨o, h⟩) | ⟨o, its, n, h, c, _⟩
  · exact .base (.tup h)
  · exact .fTuple h
  · exact .kTuple h c
theorem isi {K : PySem.W.Frag} {H : Hp} {Q : VK} {x : V} {t c : String} (b : Bool) (ty : TyX K H x (.type t)) (kb : kitB t c = some b) (q : Q (.bl b) H) : rIsi K [x, .ty c] H Q := ⟨x, .ty c, _, _, b, rfl, .ty c, ty, kit_ty kb, q⟩
theorem kb_nt : kitB "NoneType" "tuple" = some false := by decide +kernel
theorem kb_nl : kitB "NoneType" "list" = some false := by decide +kernel
theorem kb_bt : kitB "bool" "tuple" = some false := by decide +kernel
theorem kb_bl : kitB "bool" "list" = some false := by decide +kernel
theorem kb_bb : kitB "bool" "bool" = some true := by decide +kernel
theorem kb_it : kitB "int" "tuple" = some false := by decide +kernel
theorem kb_il : kitB "int" "list" = some false := by decide +kernel
theorem kb_ib : kitB "int" "bool" = some false := by decide +kernel
theorem kb_ii : kitB "int" "int" = some true := by decide +kernel
theorem kb_st : kitB "str" "tuple" = some false := by decide +kernel
theorem kb_sl : kitB "str" "list" = some false := by decide +kernel
theorem kb_sb : kitB "str" "bool" = some false := by decide +kernel
theorem kb_si : kitB "str" "int" = some false := by decide +kernel
theorem kb_ss : kitB "str" "str" = some true := by decide +kernel
theorem kb_tt : kitB "tuple" "tuple" = some true := by decide +kernel
theorem kb_tl : kitB "tuple" "list" = some false := by decide +kernel
theorem kb_lt : kitB "list" "tuple" = some false := by decide +kernel
theorem kb_ll : kitB "list" "list" = some true := by decide +kernel
def spSame (K : PySem.W.Frag) (n : Nat) : Sp := fun vs H Q _ => ∃ (x y : V) (d : PyData), vs = [x, y] ∧ Dp K H x d ∧ Dp K H y d ∧ Dok n d ∧ Q (.bl true) H
section
variable {P : Program} {w : World} {K : PySem.W.Frag} {mg : Str → Option Value} {base : Heap}
theorem ok_l_same0 (T : Txt w K mg) : FnOk P w K mg base CX0 0 T.a_l_same T.d_l_same p_l_same (spSame K 0) := by
  have no : ∀ vs H Q E, ¬ spSame K 0 vs H Q E := fun vs H Q E h => by
    obtain ⟨x, y, d, _, _, _, h, _⟩ := h
    exact h
  exact ⟨fun vs H Q E h => absurd h (no vs H Q E), fun A outer s H args us vs Q E _ _ _ _ h => absurd h (no vs H Q E)⟩
/-- the part for two lists or two tuples -/
theorem same_seq {n : Nat} {H : Hp} {p r : Addr} {xs ys : List V} {ds : List PyData} (h1 : SqL K H p xs ∨ SqT K H p xs) (h2 : SqL K H r ys ∨ SqT K H r ys) (d1 : DpAll K H xs ds) (d2 : DpAll K H ys ds)
    (hd : ∀ d ∈ ds, Dok n d) {i : Nat} (hi : i < ds.length) {R : V → Hp → Prop} (q : R (.bl true) H) :
    tCall (spSame K n) [] E0 (tCons (tOp (rIx K) (tVar 0) (tVar 2)) (tCons (tOp (rIx K) (tVar 1) (tVar 2)) tNil)) [some (.ref p), some (.ref r), some (.int (0 + (i : Int)))] H R := by
  obtain ⟨x, e1, q1⟩ := dpAll_get (i := i) d1 (List.getElem?_eq_getElem hi)
  obtain ⟨y, e2, q2⟩ := dpAll_get (i := i) d2 (List.getElem?_eq_getElem hi)
  have a1 : atI xs (0 + (i : Int)) = some x := by rw [Int.zero_add]; exact atI_nat e1
  have a2 : atI ys (0 + (i : Int)) = some y := by rw [Int.zero_add]; exact atI_nat e2
  have k2 : tOp (rIx K) (tVar 1) (tVar 2) [some (.ref p), some (.ref r), some (.int (0 + (i : Int)))] H (fun v H' => tNil [some (.ref p), some (.ref r), some (.int (0 + (i : Int)))] H' fun vs H'' => spSame K n ((x :: v :: vs) ++ []) H'' R E0) := by
    refine ⟨_, rfl, _, rfl, ?_⟩
    have z : spSame K n [x, y] H R E0 := ⟨x, y, _, rfl, q1, q2, hd _ (List.getElem_mem hi), q⟩
    rcases h2 with h2 | h2
    · exact .inl ⟨r, _, _, _, rfl, rfl, h2, a2, z⟩
    · exact .inr (.inl ⟨r, _, _, _, rfl, rfl, h2, a2, z⟩)
  refine ⟨_, rfl, _, rfl, ?_⟩
  rcases h1 with h1 | h1
  · exact .inl ⟨p, _, _, _, rfl, rfl, h1, a1, k2⟩
  · exact .inr (.inl ⟨p, _, _, _, rfl, rfl, h1, a1, k2⟩)
theorem ok_l_same (T : Txt w K mg) : ∀ n : Nat, FnOk P w K mg base CX0 n T.a_l_same T.d_l_same p_l_same (spSame K n)
  | 0 => ok_l_same0 T
  | n + 1 => by
    have g_l_same := ok_l_same T n
    refine T.F_l_same.ok sc_l_same (fun vs H Q E h => ?_) (fun cdv A outer s H vs Q E hr h => ?_)
    · obtain ⟨x, y, d, rfl, _⟩ := h
      rfl
    obtain ⟨x, y, d, rfl, hx, hy, hd, q⟩ := h
    refine ⟨_, (pss_cons (ps_if (PW.pt (pw_or (pt_val (pe_callB call_isi rfl T.z_isinstance bb_isinstance (pa_cons (pv 1) (pa_cons (pe_bltn (v := .ty "tuple") rfl T.z_tuple bt_tuple rfl) pa_nil)))) (pw_or1 (pt_val (pe_callB call_isi rfl T.z_isinstance bb_isinstance (pa_cons (pv 1) (pa_cons (pe_bltn (v := .ty "list") rfl T.z_list bt_list rfl) pa_nil))))))) (pss_cons (ps_if (PW.pt (pw_or (pt_cmpR op_ne (pe_callB call_isi rfl T.z_isinstance bb_isinstance (pa_cons (pv 1) (pa_cons (pe_bltn (v := .ty "tuple") rfl T.z_tuple bt_tuple rfl) pa_nil))) (pe_callB call_isi rfl T.z_isinstance bb_isinstance (pa_cons (pv 0) (pa_cons (pe_bltn (v := .ty "tuple") rfl T.z_tuple bt_tuple rfl) pa_nil))) (nomark _)) (pw_or1 (pt_cmpR op_ne (pe_callB call_isi rfl T.z_isinstance bb_isinstance (pa_cons (pv 1) (pa_cons (pe_bltn (v := .ty "list") rfl T.z_list bt_list rfl) pa_nil))) (pe_callB call_isi rfl T.z_isinstance bb_isinstance (pa_cons (pv 0) (pa_cons (pe_bltn (v := .ty "list") rfl T.z_list bt_list rfl) pa_nil))) (nomark _))))) (pss_one (ps_ret pe_bl)) pss_nil)
      (pss_cons (ps_if (pt_cmpR op_ne (pe_callB call_len_seq rfl T.z_len PySem.boot_len (pa_cons (pv 0) pa_nil)) (pe_callB call_len_seq rfl T.z_len PySem.boot_len (pa_cons (pv 1) pa_nil)) (nomark _)) (pss_one (ps_ret pe_bl)) pss_nil)
      (pss_cons (ps_for PassesOwn.never rfl (pi_range1 rfl T.z_range (pa_cons (pe_callB call_len_seq rfl T.z_len PySem.boot_len (pa_cons (pv 1) pa_nil)) pa_nil)) (pg_name (i := 2) sc_l_same.nd rfl (Or.inl rfl))
        (pss_one (ps_if (pt_not (pt_val (pe_call g_l_same (hr.mono (by first | decide | omega)) rfl T.m_l_same T.F_l_same.kp T.b_l_same .nil pass0 (pa_cons (pe_ix ix_seq (pv 0) (pv 2) (fun _ _ => rfl)) (pa_cons (pe_ix ix_seq (pv 1) (pv 2) (fun _ _ => rfl)) pa_nil))))) (pss_one (ps_ret pe_bl)) pss_nil)))
      (pss_one (ps_ret pe_bl))))) pss_nil)
      (pss_cons (ps_if (pt_cmpR op_isN (pv 1) pe_non (nomark _)) (pss_one (ps_ret (pe_cmpR op_isN (pv 0) pe_non (nomark _)))) pss_nil)
      (pss_cons (ps_if (pt_val (pe_callB call_isi rfl T.z_isinstance bb_isinstance (pa_cons (pv 1) (pa_cons (pe_bltn (v := .ty "bool") rfl T.z_bool bt_bool rfl) pa_nil)))) (pss_one (ps_ret (pe_and (pe_callB call_isi rfl T.z_isinstance bb_isinstance (pa_cons (pv 0) (pa_cons (pe_bltn (v := .ty "bool") rfl T.z_bool bt_bool rfl) pa_nil))) (pe_one (pe_cmpR op_eq (pv 0) (pv 1) (nomark _)))))) pss_nil)
      (pss_cons (ps_if (pt_val (pe_callB call_isi rfl T.z_isinstance bb_isinstance (pa_cons (pv 1) (pa_cons (pe_bltn (v := .ty "int") rfl T.z_int bt_int rfl) pa_nil)))) (pss_one (ps_ret (pe_and (pe_callB call_isi rfl T.z_isinstance bb_isinstance (pa_cons (pv 0) (pa_cons (pe_bltn (v := .ty "int") rfl T.z_int bt_int rfl) pa_nil))) (pe_and (pe_not (pe_callB call_isi rfl T.z_isinstance bb_isinstance (pa_cons (pv 0) (pa_cons (pe_bltn (v := .ty "bool") rfl T.z_bool bt_bool rfl) pa_nil)))) (pe_one (pe_cmpR op_eq (pv 0) (pv 1) (nomark _))))))) pss_nil)
      (pss_one (ps_ret (pe_and (pe_callB call_isi rfl T.z_isinstance bb_isinstance (pa_cons (pv 0) (pa_cons (pe_bltn (v := .ty "str") rfl T.z_str bt_str rfl) pa_nil))) (pe_one (pe_cmpR op_eq (pv 0) (pv 1) (nomark _)))))))))), ?_⟩
    cases hx with
    | non =>
      cases hy
      refine ⟨_, rfl, _, _, _, _, false, rfl, .ty _, (.base .non), kit_ty kb_nt, ⟨_, rfl, iteF ⟨_, rfl, _, _, _, _, false, rfl, .ty _, (.base .non), kit_ty kb_nl, ⟨_, rfl, iteF ?_⟩⟩⟩⟩
      refine ⟨_, rfl, rfl, _, rfl, iteT ?_⟩
      exact ⟨_, rfl, rfl, q⟩
    | bl b =>
      cases hy
      refine ⟨_, rfl, _, _, _, _, false, rfl, .ty _, (.base (.bl _)), kit_ty kb_bt, ⟨_, rfl, iteF ⟨_, rfl, _, _, _, _, false, rfl, .ty _, (.base (.bl _)), kit_ty kb_bl, ⟨_, rfl, iteF ?_⟩⟩⟩⟩
      refine ⟨_, rfl, rfl, _, rfl, iteF ?_⟩
      refine ⟨_, rfl, _, _, _, _, true, rfl, .ty _, (.base (.bl _)), kit_ty kb_bb, ⟨_, rfl, iteT ?_⟩⟩
      refine ⟨_, rfl, _, _, _, _, true, rfl, .ty _, (.base (.bl _)), kit_ty kb_bb, ⟨_, rfl, iteT ?_⟩⟩
      refine ⟨_, rfl, _, rfl, rfl, ?_⟩
      rw [decide_eq_true rfl]
      exact q
    | int b =>
      cases hy
      refine ⟨_, rfl, _, _, _, _, false, rfl, .ty _, (.base (.int _)), kit_ty kb_it, ⟨_, rfl, iteF ⟨_, rfl, _, _, _, _, false, rfl, .ty _, (.base (.int _)), kit_ty kb_il, ⟨_, rfl, iteF ?_⟩⟩⟩⟩
      refine ⟨_, rfl, rfl, _, rfl, iteF ?_⟩
      refine ⟨_, rfl, _, _, _, _, false, rfl, .ty _, (.base (.int _)), kit_ty kb_ib, ⟨_, rfl, iteF ?_⟩⟩
      refine ⟨_, rfl, _, _, _, _, true, rfl, .ty _, (.base (.int _)), kit_ty kb_ii, ⟨_, rfl, iteT ?_⟩⟩
      refine ⟨_, rfl, _, _, _, _, true, rfl, .ty _, (.base (.int _)), kit_ty kb_ii, ⟨_, rfl, iteT ?_⟩⟩
      refine ⟨_, rfl, _, _, _, _, false, rfl, .ty _, (.base (.int _)), kit_ty kb_ib, ⟨_, rfl, _, rfl, iteT ?_⟩⟩
      refine ⟨_, rfl, _, rfl, rfl, ?_⟩
      rw [decide_eq_true rfl]
      exact q
    | str b =>
      cases hy
      refine ⟨_, rfl, _, _, _, _, false, rfl, .ty _, (.base (.str _)), kit_ty kb_st, ⟨_, rfl, iteF ⟨_, rfl, _, _, _, _, false, rfl, .ty _, (.base (.str _)), kit_ty kb_sl, ⟨_, rfl, iteF ?_⟩⟩⟩⟩
      refine ⟨_, rfl, rfl, _, rfl, iteF ?_⟩
      refine ⟨_, rfl, _, _, _, _, false, rfl, .ty _, (.base (.str _)), kit_ty kb_sb, ⟨_, rfl, iteF ?_⟩⟩
      refine ⟨_, rfl, _, _, _, _, false, rfl, .ty _, (.base (.str _)), kit_ty kb_si, ⟨_, rfl, iteF ?_⟩⟩
      refine ⟨_, rfl, _, _, _, _, true, rfl, .ty _, (.base (.str _)), kit_ty kb_ss, ⟨_, rfl, iteT ?_⟩⟩
      refine ⟨_, rfl, _, rfl, rfl, ?_⟩
      rw [decide_eq_true rfl]
      exact q
    | @lst p xs ds h1 d1 =>
      cases hy with
      | @lst r ys _ h2 d2 =>
      have l1 := dpAll_len d1
      have l2 := dpAll_len d2
      obtain ⟨hlen, hd⟩ := hd
      refine ⟨_, rfl, _, _, _, _, false, rfl, .ty _, (tyL h2), kit_ty kb_lt, ⟨_, rfl, iteF ⟨_, rfl, _, _, _, _, true, rfl, .ty _, (tyL h2), kit_ty kb_ll, ⟨_, rfl, iteT ?_⟩⟩⟩⟩
      refine ⟨_, rfl, _, _, _, _, false, rfl, .ty _, (tyL h2), kit_ty kb_lt, ⟨_, rfl, _, _, _, _, false, rfl, .ty _, (tyL h1), kit_ty kb_lt, ⟨rfl, _, rfl, iteF ?_⟩⟩⟩
      refine ⟨_, rfl, _, _, _, _, true, rfl, .ty _, (tyL h2), kit_ty kb_ll, ⟨_, rfl, _, _, _, _, true, rfl, .ty _, (tyL h1), kit_ty kb_ll, ⟨rfl, _, rfl, iteF ?_⟩⟩⟩
      refine ⟨_, rfl, p, _, rfl, .inl h1, _, rfl, r, _, rfl, .inl h2, rfl, _, rfl, ?_⟩
      refine iteNS (congrArg V.int (by omega)) ?_
      refine ⟨_, rfl, r, _, rfl, .inl h2, _, rfl, by omega, by omega, for_range (lo := 0) (fun i σ H' => H' = H ∧ ∃ v : Option V, σ = [some (.ref p), some (.ref r), v]) ⟨rfl, none, rfl⟩ ?_ ?_⟩
      · rintro i σ H' hi ⟨rfl, v, rfl⟩
        refine same_seq (.inl h1) (.inl h2) d1 d2 hd (by omega) ⟨_, rfl, iteF ?_⟩
        exact ⟨rfl, _, rfl⟩
      · rintro σ H' ⟨rfl, v, rfl⟩
        exact q
    | @tup p xs ds h1 d1 =>
      cases hy with
      | @tup r ys _ h2 d2 =>
      have l1 := dpAll_len d1
      have l2 := dpAll_len d2
      obtain ⟨hlen, hd⟩ := hd
      refine ⟨_, rfl, _, _, _, _, true, rfl, .ty _, (tyT h2), kit_ty kb_tt, ⟨_, rfl, iteT ?_⟩⟩
      refine ⟨_, rfl, _, _, _, _, true, rfl, .ty _, (tyT h2), kit_ty kb_tt, ⟨_, rfl, _, _, _, _, true, rfl, .ty _, (tyT h1), kit_ty kb_tt, ⟨rfl, _, rfl, iteF ?_⟩⟩⟩
      refine ⟨_, rfl, _, _, _, _, false, rfl, .ty _, (tyT h2), kit_ty kb_tl, ⟨_, rfl, _, _, _, _, false, rfl, .ty _, (tyT h1), kit_ty kb_tl, ⟨rfl, _, rfl, iteF ?_⟩⟩⟩
      refine ⟨_, rfl, p, _, rfl, .inr h1, _, rfl, r, _, rfl, .inr h2, rfl, _, rfl, ?_⟩
      refine iteNS (congrArg V.int (by omega)) ?_
      refine ⟨_, rfl, r, _, rfl, .inr h2, _, rfl, by omega, by omega, for_range (lo := 0) (fun i σ H' => H' = H ∧ ∃ v : Option V, σ = [some (.ref p), some (.ref r), v]) ⟨rfl, none, rfl⟩ ?_ ?_⟩
      · rintro i σ H' hi ⟨rfl, v, rfl⟩
        refine same_seq (.inr h1) (.inr h2) d1 d2 hd (by omega) ⟨_, rfl, iteF ?_⟩
        exact ⟨rfl, _, rfl⟩
      · rintro σ H' ⟨rfl, v, rfl⟩
        exact q
end
/-! ### the names of the draws: twenty texts in one of four styles -/
def numS (i : Int) : Str := Str.ofString (toString i)
theorem len_app (x y : Str) : (x ++ y).length = x.length + y.length := Array.size_append
def lettersL : List Nat := ("bcdeghijklmnopqrtuvw" : Str).cps.toList
def nmW (st : Int) (k : Nat) : Str :=
  if st = 3 then ("n" : Str) ++ numS ((k : Int) * (k : Int) + 3)
  else if st = 2 then ("zz" : Str) ++ ⟨#[lettersL.getD k 0]⟩
  else if st = 1 then (⟨#[lettersL.getD k 0]⟩ : Str) ++ ("q7" : Str)
  else ⟨#[lettersL.getD k 0]⟩
def namesOf (st : Int) : List Str := (List.range 20).map (nmW st)
theorem numS_short {i : Int} (h : -1000000000 ≤ i ∧ i ≤ 1000000000) : (numS i).length ≤ 11 := by
  have e := int_text_length_le10 (a := i) (k := 10) (by decide) (by omega)
  unfold numS
  rw [ofString_length]
  exact e
theorem log_short {i : Int} (h : -1000000000 ≤ i ∧ i ≤ 1000000000) : i.natAbs.log2 < 1920 := by
  by_cases z : i.natAbs = 0
  · rw [z]
    decide
  · refine (Nat.log2_lt z).mpr (Nat.lt_of_lt_of_le (m := 2 ^ 32) ?_ (Nat.pow_le_pow_right (by decide) (by decide)))
    omega
def spNames : Sp := fun vs H Q _ => ∃ a : Addr, vs = [.ref a] ∧ Src H a ∧ ∀ (st : Int) (p : Addr) (H' : Hp), Stp a H H' → H p = none → 0 ≤ st → st < 4 → H' p = some (.lst ((namesOf st).map V.str)) → Q (.ref p) H'
section
variable {P : Program} {w : World} {K : PySem.W.Frag} {mg : Str → Option Value} {base : Heap}
theorem ok_l_names (T : Txt w K mg) : FnOk P w K mg base CX0 2 T.a_l_names T.d_l_names p_l_names spNames := by
  have g_l_pick := ok_l_pick (P := P) (w := w) (base := base) T
  refine T.F_l_names.ok sc_l_names (fun vs H Q E h => ?_) (fun cdv A outer s H vs Q E hr h => ?_)
  · obtain ⟨a, rfl, _⟩ := h
    rfl
  obtain ⟨a, rfl, hS, q⟩ := h
  refine ⟨_, (pss_cons (ps_set (i := 1) sc_l_names.nd rfl (Or.inl rfl) (pe_call g_l_pick (hr.mono (by first | decide | omega)) rfl T.m_l_pick T.F_l_pick.kp T.b_l_pick .nil pass0 (pa_cons (pv 0) (pa_cons pe_int pa_nil))))
      (pss_cons (ps_set (i := 2) sc_l_names.nd rfl (Or.inl rfl) (pe_lst pa_nil))
      (pss_cons (ps_for PassesOwn.never rfl (pi_range1 rfl T.z_range (pa_cons pe_int pa_nil)) (pg_name (i := 3) sc_l_names.nd rfl (Or.inl rfl))
        (pss_cons (ps_set (i := 4) sc_l_names.nd rfl (Or.inl rfl) (pe_ix ix_str pe_str (pv 3) (fun _ _ => rfl)))
      (C8.pss_cut (ps_if (pt_cmpR op_eq (pv 1) pe_int (nomark _)) (pss_one (ps_set (i := 4) sc_l_names.nd rfl (Or.inl rfl) (pe_op op_add_str (pv 4) pe_str))) pss_nil)
      (C8.pss_cut (ps_if (pt_cmpR op_eq (pv 1) pe_int (nomark _)) (pss_one (ps_set (i := 4) sc_l_names.nd rfl (Or.inl rfl) (pe_op op_add_str pe_str (pv 4)))) pss_nil)
      (C8.pss_cut (ps_if (pt_cmpR op_eq (pv 1) pe_int (nomark _)) (pss_one (ps_set (i := 4) sc_l_names.nd rfl (Or.inl rfl) (pe_op op_add_str pe_str (pe_callTy call_str_int rfl T.z_str bt_str (pa_cons (pe_op op_add (pe_op op_mul (pv 3) (pv 3)) pe_int) pa_nil))))) pss_nil)
      (pss_one (ps_expr (pe_bm PySem.F.plainAttrs_list PySem.F.slot_list_append PySem.F.type_list_append mt_append (pv 2) (pa_cons (pv 4) pa_nil)))))))))
      (pss_one (ps_ret (pv 2)))))), ?_⟩
  refine ⟨_, rfl, a, 4, rfl, hS, by decide, fun st H1 st1 s0 s1 => ?_⟩
  refine ⟨by show 0 ≤ sizeLine; decide, fun l hl => ?_⟩
  have n0 : H l = none := st1.free hl
  refine ⟨20, rfl, by decide, by decide, for_range (lo := 0) (n := 20) (fun i σ H' => Stp a H H' ∧ H' l = some (.lst ((List.range i).map fun k => V.str (nmW st k))) ∧ ∃ v1 v2 : Option V, σ = [some (.ref a), some (.int st), some (.ref l), v1, v2]) ⟨st1.new hl, upd_same, none, none, rfl⟩ ?_ ?_⟩
  · rintro i σ H' hi ⟨sti, hli, v1, v2, rfl⟩
    have hi' : (0 + (i : Int)).toNat < ("bcdeghijklmnopqrtuvw" : Str).cps.toList.length := by
      show (0 + (i : Int)).toNat < 20
      omega
    have e0 := atI_int (xs := ("bcdeghijklmnopqrtuvw" : Str).cps.toList) (r := 0 + (i : Int)) (by omega) hi'
    have e1 : ("bcdeghijklmnopqrtuvw" : Str).cps.toList[(0 + (i : Int)).toNat] = lettersL.getD i 0 := by
      have z : (0 + (i : Int)).toNat = i := by omega
      have hi2 : i < lettersL.length := by show i < 20; exact hi
      show lettersL[(0 + (i : Int)).toNat]'_ = _
      rw [List.getD_eq_getElem?_getD, List.getElem?_eq_getElem hi2]
      show _ = lettersL[i]
      congr 1
    rw [e1] at e0
    refine ⟨_, rfl, _, _, _, rfl, rfl, by decide +kernel, e0, ?_⟩
    generalize ec : lettersL.getD i 0 = c
    refine ⟨fun σ H2 => H2 = H' ∧ σ = [some (.ref a), some (.int st), some (.ref l), some (.int (0 + (i : Int))), some (.str (if st = 1 then (⟨#[c]⟩ : Str) ++ ("q7" : Str) else ⟨#[c]⟩))], ⟨_, rfl, rfl, _, rfl, ?_⟩, ?_⟩
    · refine ite2 (fun h => ?_) (fun h => ?_)
      · have h1 : st = 1 := V.int.inj (of_decide_eq_true h)
        refine ⟨_, rfl, _, _, rfl, rfl, (by show 1 + 2 ≤ sizeLine; decide), rfl, ?_⟩
        rw [if_pos h1]
        rfl
      · have h1 : ¬ st = 1 := fun z => h (decide_eq_true (congrArg V.int z))
        refine ⟨rfl, ?_⟩
        rw [if_neg h1]
        rfl
    rintro σ H2 ⟨rfl, rfl⟩
    refine ⟨fun σ H3 => H3 = H2 ∧ σ = [some (.ref a), some (.int st), some (.ref l), some (.int (0 + (i : Int))), some (.str (if st = 2 then ("zz" : Str) ++ ⟨#[c]⟩ else if st = 1 then (⟨#[c]⟩ : Str) ++ ("q7" : Str) else ⟨#[c]⟩))], ⟨_, rfl, rfl, _, rfl, ?_⟩, ?_⟩
    · refine ite2 (fun h => ?_) (fun h => ?_)
      · have h1 : st = 2 := V.int.inj (of_decide_eq_true h)
        subst h1
        refine ⟨_, rfl, _, _, rfl, rfl, ?_, rfl, rfl⟩
        rw [if_neg (by decide)]
        show 2 + 1 ≤ sizeLine
        decide
      · have h1 : ¬ st = 2 := fun z => h (decide_eq_true (congrArg V.int z))
        refine ⟨rfl, ?_⟩
        rw [if_neg h1]
    rintro σ H3 ⟨rfl, rfl⟩
    refine ⟨fun σ H4 => H4 = H3 ∧ σ = [some (.ref a), some (.int st), some (.ref l), some (.int (0 + (i : Int))), some (.str (nmW st i))], ⟨_, rfl, rfl, _, rfl, ?_⟩, ?_⟩
    · refine ite2 (fun h => ?_) (fun h => ?_)
      · have h1 : st = 3 := V.int.inj (of_decide_eq_true h)
        subst h1
        have hb : ((0 + (i : Int)) * (0 + (i : Int)) + 3) = ((i : Int) * (i : Int) + 3) := by rw [Int.zero_add]
        have hsq : 0 ≤ (i : Int) * (i : Int) ∧ (i : Int) * (i : Int) ≤ 400 := by
          refine ⟨Int.mul_nonneg (by omega) (by omega), ?_⟩
          exact Int.le_trans (Int.mul_le_mul (by omega : (i : Int) ≤ 20) (by omega : (i : Int) ≤ 20) (by omega) (by decide)) (by decide)
        have hbd : -1000000000 ≤ (i : Int) * (i : Int) + 3 ∧ (i : Int) * (i : Int) + 3 ≤ 1000000000 := by omega
        refine ⟨_, rfl, _, rfl, _, _, rfl, rfl, .inl ⟨by omega, by omega⟩, _, _, rfl, rfl, _, rfl, ?_, _, _, rfl, rfl, ?_, rfl, ?_⟩
        · rw [hb]
          exact log_short hbd
        · rw [hb]
          have z := numS_short hbd
          show 1 + (numS ((i : Int) * (i : Int) + 3)).length ≤ sizeLine
          rw [sizeLine_eq]
          omega
        · rw [hb]
          rfl
      · have h1 : ¬ st = 3 := fun z => h (decide_eq_true (congrArg V.int z))
        refine ⟨rfl, ?_⟩
        unfold nmW
        rw [if_neg h1, ec]
    rintro σ H4 ⟨rfl, rfl⟩
    refine ⟨_, rfl, .inl ⟨rfl, _, SqL.of hli⟩, _, rfl, l, _, _, rfl, rfl, hli, ?_, ?_⟩
    · rw [List.length_map, List.length_range]
      exact small1000 (by omega)
    have nl : l ≠ a := (st1.s.ne hl).symm
    have st2 : Stp a H (upd H4 l (.lst ((List.range i).map (fun k => V.str (nmW st k)) ++ [.str (nmW st i)]))) := by
      obtain ⟨c1, m1, k1, hc⟩ := sti.s
      refine ⟨⟨c1, m1, k1, by rw [upd_ne nl.symm]; exact hc⟩, fun b o hb e => ?_⟩
      rw [upd_ne (ne_of_none e n0)]
      exact sti.k b o hb e
    refine ⟨st2, ?_, _, _, rfl⟩
    rw [upd_same, List.range_succ, List.map_append]
    rfl
  · rintro σ H' ⟨sti, hli, v1, v2, rfl⟩
    refine ⟨_, rfl, q st l H' sti n0 s0 (by omega) ?_⟩
    rw [hli]
    exact congrArg (fun z => some (HO.lst z)) (by show _ = (List.map V.str (List.map (nmW st) (List.range 20))); rw [List.map_map]; rfl)
end
theorem lt_line {n : Nat} (h : n ≤ 10000000) : n < sizeLine := by rw [sizeLine_eq]; omega
/-- a comprehension without a test -/
theorem tyes {σ : L2.St} {H : Hp} {A B : Hp → Prop} (h : A H) : tYes σ H (fun b H3 => if b = true then A H3 else B H3) := by
  show if true = true then A H else B H
  rw [if_pos rfl]
  exact h
/-! ### kinds -/
inductive Kd where
  | flag | ref (s : Str) | num (lo hi : Int)
deriving DecidableEq
def Kd.vals : Kd → List V
  | .flag => [.str "flag"]
  | .ref s => [.str "ref", .str s]
  | .num lo hi => [.str "num", .int lo, .int hi]
def Kd.ok : Kd → Prop
  | .flag => True
  | .ref _ => True
  | .num lo hi => -1000000000 ≤ lo ∧ lo ≤ hi ∧ hi ≤ 1000000000
def Kd.small : Kd → Bool
  | .flag => true
  | .ref _ => false
  | .num lo hi => decide (hi - lo ≤ 7)
def Kd.large : Kd → Bool
  | .flag => false
  | .ref _ => false
  | .num lo hi => decide (hi - lo > 7)
def Kd.disc : Kd → Bool
  | .flag => true
  | .ref _ => true
  | .num lo hi => decide (hi - lo ≤ 7)
def Kd.isN : Kd → Bool
  | .num _ _ => true
  | _ => false
def Kd.isR : Kd → Bool
  | .ref _ => true
  | _ => false
def KdAt (K : PySem.W.Frag) (H : Hp) (v : V) (k : Kd) : Prop := ∃ p, v = .ref p ∧ SqT K H p k.vals
/-! ### expressions -/
inductive Ex where
  | num (i : Int) | name (s : Str) | flag (b : Bool) | null | not (a : Ex) | bin (op : Str) (a b : Ex)
def opsL : List Str := ["+", "-", "*", "<", "<=", "==", "!=", "same", "and", "or"]
theorem ops_ne : ∀ s ∈ opsL, ¬ (V.str s = V.str "num") ∧ ¬ (V.str s = V.str "flag") ∧ ¬ (V.str s = V.str "null") ∧ ¬ (V.str s = V.str "name") ∧ ¬ (V.str s = V.str "not") ∧ s.length ≤ 4 := by decide +kernel
def Ex.ok : Nat → Ex → Prop
  | 0, _ => False
  | _ + 1, .num i => -1000000000 ≤ i ∧ i ≤ 1000000000
  | _ + 1, .name s => s.length ≤ 20
  | _ + 1, .flag _ => True
  | _ + 1, .null => True
  | m + 1, .not a => a.ok m
  | m + 1, .bin op a b => op ∈ opsL ∧ a.ok m ∧ b.ok m
def ExAt (K : PySem.W.Frag) (H : Hp) : Ex → V → Prop
  | .num i, v => ∃ p, v = .ref p ∧ SqT K H p [.str "num", .int i]
  | .name s, v => ∃ p, v = .ref p ∧ SqT K H p [.str "name", .str s]
  | .flag b, v => ∃ p, v = .ref p ∧ SqT K H p [.str "flag", .bl b]
  | .null, v => ∃ p, v = .ref p ∧ SqT K H p [.str "null"]
  | .not a, v => ∃ p x, v = .ref p ∧ SqT K H p [.str "not", x] ∧ ExAt K H a x
  | .bin op a b, v => ∃ p x y, v = .ref p ∧ SqT K H p [.str op, x, y] ∧ ExAt K H a x ∧ ExAt K H b y
/-- tuples stand as they were -/
def Keeps (K : PySem.W.Frag) (H H' : Hp) : Prop := ∀ p xs, SqT K H p xs → SqT K H' p xs
theorem Keeps.of_same {K : PySem.W.Frag} {H H' : Hp} (s : Same H H') : Keeps K H H' := fun _ _ h => Same.tup s h
theorem Keeps.of_stp {K : PySem.W.Frag} {a : Addr} {H H' : Hp} (s : Stp a H H') (h : Src H a) : Keeps K H H' := fun _ _ q => s.rd q h
theorem ExAt.keep {K : PySem.W.Frag} {H H' : Hp} (k : Keeps K H H') : ∀ {e : Ex} {v : V}, ExAt K H e v → ExAt K H' e v
  | .num _, _, ⟨p, e, h⟩ => ⟨p, e, k _ _ h⟩
  | .name _, _, ⟨p, e, h⟩ => ⟨p, e, k _ _ h⟩
  | .flag _, _, ⟨p, e, h⟩ => ⟨p, e, k _ _ h⟩
  | .null, _, ⟨p, e, h⟩ => ⟨p, e, k _ _ h⟩
  | .not _, _, ⟨p, x, e, h, q⟩ => ⟨p, x, e, k _ _ h, ExAt.keep k q⟩
  | .bin _ _ _, _, ⟨p, x, y, e, h, q, r⟩ => ⟨p, x, y, e, k _ _ h, ExAt.keep k q, ExAt.keep k r⟩
/-! ### statements and bodies -/
mutual
inductive Sm where
  | set (x : Str) (e : Ex) | input (x : Str) | new (x : Str) | free (x : Str) | load (x y f : Str) | store (y f : Str) (e : Ex) | get (x a : Str) (e : Ex) | put (a : Str) (e1 e2 : Ex)
  | call (x : Option Str) (g : Str) (es : List Ex) | ret (e : Option Ex) | iff (e : Ex) (b c : Bd) | loop (e : Ex) (b : Bd) | brk | asrt (e : Ex)
inductive Bd where
  | nil | cons (s : Sm) (b : Bd)
end
def ExL (K : PySem.W.Frag) (H : Hp) : List Ex → List V → Prop
  | [], [] => True
  | e :: es, v :: vs => ExAt K H e v ∧ ExL K H es vs
  | _, _ => False
theorem ExL.keep {K : PySem.W.Frag} {H H' : Hp} (k : Keeps K H H') : ∀ {es : List Ex} {vs : List V}, ExL K H es vs → ExL K H' es vs
  | [], [], _ => trivial
  | _ :: _, _ :: _, h => ⟨ExAt.keep k h.1, ExL.keep k h.2⟩
  | [], _ :: _, h => h.elim
  | _ :: _, [], h => h.elim
def optV : Option Str → V
  | none => .non
  | some x => .str x
mutual
def SmAt (K : PySem.W.Frag) (H : Hp) : Sm → V → Prop
  | .set x e, v => ∃ p a, v = .ref p ∧ SqT K H p [.str "set", .str x, a] ∧ ExAt K H e a
  | .input x, v => ∃ p, v = .ref p ∧ SqT K H p [.str "input", .str x]
  | .new x, v => ∃ p, v = .ref p ∧ SqT K H p [.str "new", .str x]
  | .free x, v => ∃ p, v = .ref p ∧ SqT K H p [.str "free", .str x]
  | .load x y f, v => ∃ p, v = .ref p ∧ SqT K H p [.str "load", .str x, .str y, .str f]
  | .store y f e, v => ∃ p a, v = .ref p ∧ SqT K H p [.str "store", .str y, .str f, a] ∧ ExAt K H e a
  | .get x y e, v => ∃ p a, v = .ref p ∧ SqT K H p [.str "get", .str x, .str y, a] ∧ ExAt K H e a
  | .put y e1 e2, v => ∃ p a b, v = .ref p ∧ SqT K H p [.str "put", .str y, a, b] ∧ ExAt K H e1 a ∧ ExAt K H e2 b
  | .call x g es, v => ∃ p q vs, v = .ref p ∧ SqT K H p [.str "call", optV x, .str g, .ref q] ∧ SqT K H q vs ∧ ExL K H es vs
  | .ret none, v => ∃ p, v = .ref p ∧ SqT K H p [.str "return", .non]
  | .ret (some e), v => ∃ p a, v = .ref p ∧ SqT K H p [.str "return", a] ∧ ExAt K H e a
  | .iff e b c, v => ∃ p a q r vs ws, v = .ref p ∧ SqT K H p [.str "if", a, .ref q, .ref r] ∧ ExAt K H e a ∧ SqT K H q vs ∧ BdL K H b vs ∧ SqT K H r ws ∧ BdL K H c ws
  | .loop e b, v => ∃ p a q vs, v = .ref p ∧ SqT K H p [.str "while", a, .ref q] ∧ ExAt K H e a ∧ SqT K H q vs ∧ BdL K H b vs
  | .brk, v => ∃ p, v = .ref p ∧ SqT K H p [.str "break"]
  | .asrt e, v => ∃ p a, v = .ref p ∧ SqT K H p [.str "assert", a] ∧ ExAt K H e a
def BdL (K : PySem.W.Frag) (H : Hp) : Bd → List V → Prop
  | .nil, vs => vs = []
  | .cons s b, vs => ∃ v ws, vs = v :: ws ∧ SmAt K H s v ∧ BdL K H b ws
end
mutual
theorem SmAt.keep {K : PySem.W.Frag} {H H' : Hp} (k : Keeps K H H') : ∀ {s : Sm} {v : V}, SmAt K H s v → SmAt K H' s v
  | .set _ _, _, ⟨p, a, e, h, x⟩ => ⟨p, a, e, k _ _ h, ExAt.keep k x⟩
  | .input _, _, ⟨p, e, h⟩ => ⟨p, e, k _ _ h⟩
  | .new _, _, ⟨p, e, h⟩ => ⟨p, e, k _ _ h⟩
  | .free _, _, ⟨p, e, h⟩ => ⟨p, e, k _ _ h⟩
  | .load _ _ _, _, ⟨p, e, h⟩ => ⟨p, e, k _ _ h⟩
  | .store _ _ _, _, ⟨p, a, e, h, x⟩ => ⟨p, a, e, k _ _ h, ExAt.keep k x⟩
  | .get _ _ _, _, ⟨p, a, e, h, x⟩ => ⟨p, a, e, k _ _ h, ExAt.keep k x⟩
  | .put _ _ _, _, ⟨p, a, b, e, h, x, y⟩ => ⟨p, a, b, e, k _ _ h, ExAt.keep k x, ExAt.keep k y⟩
  | .call _ _ _, _, ⟨p, q, vs, e, h, h2, x⟩ => ⟨p, q, vs, e, k _ _ h, k _ _ h2, ExL.keep k x⟩
  | .ret none, _, ⟨p, e, h⟩ => ⟨p, e, k _ _ h⟩
  | .ret (some _), _, ⟨p, a, e, h, x⟩ => ⟨p, a, e, k _ _ h, ExAt.keep k x⟩
  | .iff _ _ _, _, ⟨p, a, q, r, vs, ws, e, h, x, h2, b, h3, c⟩ => ⟨p, a, q, r, vs, ws, e, k _ _ h, ExAt.keep k x, k _ _ h2, BdL.keep k b, k _ _ h3, BdL.keep k c⟩
  | .loop _ _, _, ⟨p, a, q, vs, e, h, x, h2, b⟩ => ⟨p, a, q, vs, e, k _ _ h, ExAt.keep k x, k _ _ h2, BdL.keep k b⟩
  | .brk, _, ⟨p, e, h⟩ => ⟨p, e, k _ _ h⟩
  | .asrt _, _, ⟨p, a, e, h, x⟩ => ⟨p, a, e, k _ _ h, ExAt.keep k x⟩
theorem BdL.keep {K : PySem.W.Frag} {H H' : Hp} (k : Keeps K H H') : ∀ {b : Bd} {vs : List V}, BdL K H b vs → BdL K H' b vs
  | .nil, _, h => h
  | .cons _ _, _, ⟨v, ws, e, h, r⟩ => ⟨v, ws, e, SmAt.keep k h, BdL.keep k r⟩
end
def Bd.snoc : Bd → Sm → Bd
  | .nil, s => .cons s .nil
  | .cons x b, s => .cons x (b.snoc s)
theorem BdL.snoc {K : PySem.W.Frag} {H : Hp} {s : Sm} {v : V} (h : SmAt K H s v) : ∀ {b : Bd} {vs : List V}, BdL K H b vs → BdL K H (b.snoc s) (vs ++ [v])
  | .nil, _, e => by
    subst e
    exact ⟨v, [], rfl, h, rfl⟩
  | .cons _ _, _, ⟨x, ws, e, q, r⟩ => by
    subst e
    exact ⟨x, ws ++ [v], rfl, q, BdL.snoc h r⟩
mutual
def Sm.cnt : Sm → Nat
  | .iff _ b c => 1 + b.cnt + c.cnt
  | .loop _ b => 1 + b.cnt
  | _ => 1
def Bd.cnt : Bd → Nat
  | .nil => 0
  | .cons s b => s.cnt + b.cnt
end
theorem Bd.cnt_snoc (s : Sm) : ∀ b : Bd, (b.snoc s).cnt = b.cnt + s.cnt
  | .nil => by show s.cnt + 0 = 0 + s.cnt; omega
  | .cons x b => by
    have ih := Bd.cnt_snoc s b
    show x.cnt + (b.snoc s).cnt = x.cnt + b.cnt + s.cnt
    omega
/-! ### drawn programs: rows of things in the heap -/
def A2 {α : Type} (R : α → V → Prop) : List α → List V → Prop
  | [], [] => True
  | a :: l, v :: vs => R a v ∧ A2 R l vs
  | _, _ => False
theorem A2.len {α : Type} {R : α → V → Prop} : ∀ {l : List α} {vs : List V}, A2 R l vs → vs.length = l.length
  | [], [], _ => rfl
  | _ :: _, _ :: _, h => congrArg (· + 1) (A2.len h.2)
  | [], _ :: _, h => h.elim
  | _ :: _, [], h => h.elim
theorem A2.get {α : Type} {R : α → V → Prop} : ∀ {l : List α} {vs : List V} {i : Nat} {a : α} {v : V}, A2 R l vs → l[i]? = some a → vs[i]? = some v → R a v
  | [], [], _, _, _, _, h, _ => by simp at h
  | _ :: _, _ :: _, 0, _, _, h, h1, h2 => by
    simp at h1 h2
    subst h1 h2
    exact h.1
  | _ :: l, _ :: vs, i + 1, _, _, h, h1, h2 => A2.get (i := i) h.2 (by simpa using h1) (by simpa using h2)
  | [], _ :: _, _, _, _, h, _, _ => h.elim
  | _ :: _, [], _, _, _, h, _, _ => h.elim
theorem A2.imp {α : Type} {R R' : α → V → Prop} (k : ∀ a v, R a v → R' a v) : ∀ {l : List α} {vs : List V}, A2 R l vs → A2 R' l vs
  | [], [], _ => trivial
  | _ :: _, _ :: _, h => ⟨k _ _ h.1, A2.imp k h.2⟩
  | [], _ :: _, h => h.elim
  | _ :: _, [], h => h.elim
theorem A2.snoc {α : Type} {R : α → V → Prop} {a : α} {v : V} (h : R a v) : ∀ {l : List α} {vs : List V}, A2 R l vs → A2 R (l ++ [a]) (vs ++ [v])
  | [], [], _ => ⟨h, trivial⟩
  | _ :: _, _ :: _, q => ⟨q.1, A2.snoc h q.2⟩
  | [], _ :: _, q => q.elim
  | _ :: _, [], q => q.elim
theorem A2.app {α : Type} {R : α → V → Prop} {m : List α} {us : List V} (h : A2 R m us) : ∀ {l : List α} {vs : List V}, A2 R l vs → A2 R (l ++ m) (vs ++ us)
  | [], [], _ => h
  | _ :: _, _ :: _, q => ⟨q.1, A2.app h q.2⟩
  | [], _ :: _, q => q.elim
  | _ :: _, [], q => q.elim
theorem A2.atv {α : Type} {R : α → V → Prop} {l : List α} {vs : List V} {i : Nat} {v : V} (h : A2 R l vs) (e : vs[i]? = some v) : ∃ a, l[i]? = some a ∧ R a v := by
  have hi := (List.getElem?_eq_some_iff.mp e).1
  rw [h.len] at hi
  exact ⟨l[i], List.getElem?_eq_getElem hi, h.get (List.getElem?_eq_getElem hi) e⟩
theorem A2.mem {α : Type} {R : α → V → Prop} {l : List α} {vs : List V} {v : V} (h : A2 R l vs) (e : v ∈ vs) : ∃ a ∈ l, R a v := by
  obtain ⟨i, hi⟩ := List.mem_iff_getElem?.mp e
  obtain ⟨a, ha, r⟩ := h.atv hi
  exact ⟨a, List.mem_of_getElem? ha, r⟩
theorem A2.take {α : Type} {R : α → V → Prop} : ∀ (n : Nat) {l : List α} {vs : List V}, A2 R l vs → A2 R (l.take n) (vs.take n)
  | 0, _, _, _ => by simp [A2]
  | n + 1, [], [], _ => by simp [A2]
  | n + 1, _ :: _, _ :: _, h => ⟨h.1, A2.take n h.2⟩
  | n + 1, [], _ :: _, h => h.elim
  | n + 1, _ :: _, [], h => h.elim
theorem A2.drop {α : Type} {R : α → V → Prop} : ∀ (n : Nat) {l : List α} {vs : List V}, A2 R l vs → A2 R (l.drop n) (vs.drop n)
  | 0, _, _, h => by simpa using h
  | n + 1, [], [], _ => by simp [A2]
  | n + 1, _ :: _, _ :: _, h => A2.drop n h.2
  | n + 1, [], _ :: _, h => h.elim
  | n + 1, _ :: _, [], h => h.elim
theorem strs_A2 {zs : List Str} : A2 (fun z v => v = V.str z) zs (zs.map V.str) := by
  induction zs with
  | nil => exact trivial
  | cons a l ih => exact ⟨rfl, ih⟩
theorem A2.strs {zs : List Str} {vs : List V} (h : A2 (fun z v => v = V.str z) zs vs) : vs = zs.map V.str := by
  induction zs generalizing vs with
  | nil => cases vs with
    | nil => rfl
    | cons => exact h.elim
  | cons a l ih => cases vs with
    | nil => exact h.elim
    | cons v r =>
      rw [h.1, ih h.2]
      rfl
/-! ### kinds, names and kinds -/
theorem KdAt.keep {K : PySem.W.Frag} {H H' : Hp} {v : V} {k : Kd} (kp : Keeps K H H') (h : KdAt K H v k) : KdAt K H' v k := by
  obtain ⟨p, e, h⟩ := h
  exact ⟨p, e, kp _ _ h⟩
/-- a name and a kind -/
abbrev Pk := Str × Kd
def PkAt (K : PySem.W.Frag) (H : Hp) (a : Pk) (v : V) : Prop := ∃ p kv, v = .ref p ∧ SqT K H p [.str a.1, kv] ∧ KdAt K H kv a.2
theorem PkAt.keep {K : PySem.W.Frag} {H H' : Hp} (kp : Keeps K H H') {a : Pk} {v : V} (h : PkAt K H a v) : PkAt K H' a v := by
  obtain ⟨p, kv, e, h1, h2⟩ := h
  exact ⟨p, kv, e, kp _ _ h1, h2.keep kp⟩
abbrev PksL (K : PySem.W.Frag) (H : Hp) (l : List Pk) (vs : List V) : Prop := A2 (PkAt K H) l vs
theorem PksL.keep {K : PySem.W.Frag} {H H' : Hp} (kp : Keeps K H H') {l : List Pk} {vs : List V} (h : PksL K H l vs) : PksL K H' l vs := h.imp fun _ _ => PkAt.keep kp
/-- kinds within the bounds of a program -/
def Kd.fine : Kd → Prop
  | .flag => True
  | .ref s => PyData.strOk s = true ∧ s.length ≤ 20
  | .num lo hi => -1000000000 ≤ lo ∧ lo ≤ hi ∧ hi ≤ 1000000000
def PkOk (a : Pk) : Prop := PyData.strOk a.1 = true ∧ a.1.length ≤ 20 ∧ a.2.fine
/-- a list of names and kinds that stands at p -/
structure EnvAt (K : PySem.W.Frag) (H : Hp) (p : Addr) (env : List Pk) : Prop where
  at' : ∃ vs, H p = some (.lst vs) ∧ PksL K H env vs
  ok : ∀ a ∈ env, PkOk a
  ln : env.length ≤ 40
theorem EnvAt.ne {K : PySem.W.Frag} {H : Hp} {p a : Addr} {env : List Pk} (h : EnvAt K H p env) (hs : Src H a) : p ≠ a := by
  obtain ⟨⟨vs, e, h2⟩, _, _⟩ := h
  obtain ⟨c, m, k, hs⟩ := hs
  intro z
  rw [z, hs] at e
  have e2 := HO.lst.inj (Option.some.inj e)
  subst e2
  cases env with
  | nil => exact h2.elim
  | cons x r =>
    obtain ⟨⟨p, kv, z, _⟩, _⟩ := h2
    cases z
theorem EnvAt.stp {K : PySem.W.Frag} {H H' : Hp} {p a : Addr} {env : List Pk} (h : EnvAt K H p env) (hs : Src H a) (s : Stp a H H') : EnvAt K H' p env := by
  have ne := h.ne hs
  obtain ⟨⟨vs, e, h2⟩, h3, h4⟩ := h
  exact ⟨⟨vs, s.k _ _ ne e, h2.keep (Keeps.of_stp s hs)⟩, h3, h4⟩
theorem EnvAt.same {K : PySem.W.Frag} {H H' : Hp} {p : Addr} {env : List Pk} (h : EnvAt K H p env) (s : Same H H') : EnvAt K H' p env := by
  obtain ⟨⟨vs, e, h2⟩, h3, h4⟩ := h
  exact ⟨⟨vs, s _ _ e, h2.keep (Keeps.of_same s)⟩, h3, h4⟩
/-! ### kinds as data -/
def kdP : Kd → PyData
  | .flag => .tuple [.str "flag"]
  | .ref s => .tuple [.str "ref", .str s]
  | .num lo hi => .tuple [.str "num", .int lo, .int hi]
def okdP : Option Kd → PyData
  | none => .none
  | some k => kdP k
def OkdAt (K : PySem.W.Frag) (H : Hp) (v : V) : Option Kd → Prop
  | none => v = .non
  | some k => KdAt K H v k
theorem OkdAt.keep {K : PySem.W.Frag} {H H' : Hp} {v : V} {k : Option Kd} (kp : Keeps K H H') (h : OkdAt K H v k) : OkdAt K H' v k := by
  cases k with
  | none => exact h
  | some k => exact KdAt.keep kp h
theorem KdAt.dp {K : PySem.W.Frag} {H : Hp} {v : V} {k : Kd} (h : KdAt K H v k) : Dp K H v (kdP k) := by
  obtain ⟨p, rfl, h⟩ := h
  cases k with
  | flag => exact .tup h (.cons (.str _) .nil)
  | ref s => exact .tup h (.cons (.str _) (.cons (.str _) .nil))
  | num lo hi => exact .tup h (.cons (.str _) (.cons (.int _) (.cons (.int _) .nil)))
theorem OkdAt.dp {K : PySem.W.Frag} {H : Hp} {v : V} {k : Option Kd} (h : OkdAt K H v k) : Dp K H v (okdP k) := by
  cases k with
  | none => rw [show v = .non from h]; exact .non
  | some k => exact KdAt.dp h
theorem kdP_shaped {k : Kd} (h : k.fine) : SeqAt.shaped (kdP k) = true := by
  have a1 : PyData.strOk "flag" = true := by decide +kernel
  have a2 : PyData.strOk "ref" = true := by decide +kernel
  have a3 : PyData.strOk "num" = true := by decide +kernel
  cases k with
  | flag => simp [kdP, SeqAt.shaped, PyData.canLay0, PyData.canLayAll0, PyData.depth, PyData.depthAll, a1]
  | ref s =>
    have := h.1
    simp [kdP, SeqAt.shaped, PyData.canLay0, PyData.canLayAll0, PyData.depth, PyData.depthAll, a2, this]
  | num lo hi => simp [kdP, SeqAt.shaped, PyData.canLay0, PyData.canLayAll0, PyData.depth, PyData.depthAll, a3]
def okFine : Option Kd → Prop
  | none => True
  | some k => k.fine
theorem okdP_shaped {k : Option Kd} (h : okFine k) : SeqAt.shaped (okdP k) = true := by
  cases k with
  | none => simp [okdP, SeqAt.shaped, PyData.canLay0, PyData.depth]
  | some k => exact kdP_shaped h
theorem str_beq (x y : Str) : (x == y) = decide (x = y) := by
  rw [Bool.eq_iff_iff, beq_iff_eq, decide_eq_true_eq]
theorem kdP_eqv (k k' : Kd) : PyData.eqv (kdP k) (kdP k') = decide (k = k') := by
  have b1 : ((("flag" : Str) == ("ref" : Str)) = false) ∧ ((("flag" : Str) == ("num" : Str)) = false) ∧ ((("ref" : Str) == ("flag" : Str)) = false) ∧ ((("ref" : Str) == ("num" : Str)) = false) ∧ ((("num" : Str) == ("flag" : Str)) = false) ∧ ((("num" : Str) == ("ref" : Str)) = false) := by decide +kernel
  obtain ⟨b1, b2, b3, b4, b5, b6⟩ := b1
  cases k <;> cases k' <;> simp [kdP, PyData.eqv, PyData.eqvAll, b1, b2, b3, b4, b5, b6, Bool.beq_eq_decide_eq]
  all_goals try exact str_beq _ _
theorem okdP_eqv (k : Kd) (k' : Option Kd) : PyData.eqv (kdP k) (okdP k') = decide (some k = k') := by
  cases k' with
  | none => cases k <;> simp [kdP, okdP, PyData.eqv]
  | some k' =>
    show PyData.eqv (kdP k) (kdP k') = _
    rw [kdP_eqv]
    simp
/-! ### the sorts of expressions -/
inductive Ty where
  | num | flag | ref (s : Str)
def Kd.ty : Kd → Ty
  | .flag => .flag
  | .ref s => .ref s
  | .num _ _ => .num
def arOps : List Str := ["+", "-", "*"]
def cmOps : List Str := ["<", "<=", "==", "!="]
def loOps : List Str := ["and", "or"]
def Ex.ty (env : List Pk) : Ex → Ty → Prop
  | .num _, t => t = .num
  | .flag _, t => t = .flag
  | .name z, t => ∃ k, (z, k) ∈ env ∧ k.ty = t
  | .null, t => ∃ s, t = .ref s
  | .not a, t => t = .flag ∧ a.ty env .flag
  | .bin op a b, t => (t = .num ∧ op ∈ arOps ∧ a.ty env .num ∧ b.ty env .num) ∨ (t = .flag ∧ ((op ∈ cmOps ∧ a.ty env .num ∧ b.ty env .num) ∨ (op ∈ loOps ∧ a.ty env .flag ∧ b.ty env .flag) ∨ (op = "same" ∧ ∃ s, a.ty env (.ref s) ∧ b.ty env (.ref s))))
theorem Ex.ok_up : ∀ {n m : Nat} {e : Ex}, n ≤ m → e.ok n → e.ok m
  | 0, _, _, _, h => h.elim
  | n + 1, 0, _, l, _ => absurd l (by omega)
  | n + 1, m + 1, .num _, _, h => h
  | n + 1, m + 1, .name _, _, h => h
  | n + 1, m + 1, .flag _, _, h => h
  | n + 1, m + 1, .null, _, h => h
  | n + 1, m + 1, .not _, l, h => Ex.ok_up (n := n) (m := m) (by omega) h
  | n + 1, m + 1, .bin _ _ _, l, h => ⟨h.1, Ex.ok_up (n := n) (m := m) (by omega) h.2.1, Ex.ok_up (n := n) (m := m) (by omega) h.2.2⟩
/-- an expression, in the heap, of a sort, in its bounds -/
structure ExOf (K : PySem.W.Frag) (H : Hp) (env : List Pk) (n : Nat) (t : Ty) (v : V) (e : Ex) : Prop where
  h : ExAt K H e v
  o : e.ok n
  t : e.ty env t
theorem ExOf.keep {K : PySem.W.Frag} {H H' : Hp} {env : List Pk} {n : Nat} {t : Ty} {v : V} {e : Ex} (kp : Keeps K H H') (h : ExOf K H env n t v e) : ExOf K H' env n t v e := ⟨h.h.keep kp, h.o, h.t⟩
theorem ExOf.up {K : PySem.W.Frag} {H : Hp} {env : List Pk} {n m : Nat} {t : Ty} {v : V} {e : Ex} (l : n ≤ m) (h : ExOf K H env n t v e) : ExOf K H env m t v e := ⟨h.h, Ex.ok_up l h.o, h.t⟩
theorem ar_ops {op : Str} (h : op ∈ arOps) : op ∈ opsL := by
  have : ∀ s ∈ arOps, s ∈ opsL := by decide +kernel
  exact this _ h
theorem cm_ops {op : Str} (h : op ∈ cmOps) : op ∈ opsL := by
  have : ∀ s ∈ cmOps, s ∈ opsL := by decide +kernel
  exact this _ h
theorem lo_ops {op : Str} (h : op ∈ loOps) : op ∈ opsL := by
  have : ∀ s ∈ loOps, s ∈ opsL := by decide +kernel
  exact this _ h
/-! ### filtered rows -/
theorem filt_snoc {α : Type} {p : α → Bool} {xs : List α} {i : Nat} {a : α} (h : xs[i]? = some a) : (xs.take (i + 1)).filter p = (xs.take i).filter p ++ (if p a = true then [a] else []) := by
  rw [List.take_add_one, h, List.filter_append]
  cases e : p a <;> simp [e]
def nmsOf (p : Pk → Bool) (env : List Pk) : List Str := (env.filter p).map (·.1)
theorem mem_nms {p : Pk → Bool} {env : List Pk} {z : Str} (h : z ∈ nmsOf p env) : ∃ k, (z, k) ∈ env ∧ p (z, k) = true := by
  obtain ⟨a, ha, e⟩ := List.mem_map.mp h
  obtain ⟨h1, h2⟩ := List.mem_filter.mp ha
  subst e
  exact ⟨a.2, h1, h2⟩
theorem nms_len {p : Pk → Bool} {env : List Pk} : (nmsOf p env).length ≤ env.length := by
  unfold nmsOf
  rw [List.length_map]
  exact List.length_filter_le _ _
theorem nms_yes {p : Pk → Bool} {xs : List Pk} {i : Nat} {a : Pk} (h : xs[i]? = some a) (c : p a = true) : nmsOf p (xs.take (i + 1)) = nmsOf p (xs.take i) ++ [a.1] := by
  unfold nmsOf
  rw [filt_snoc h, if_pos c, List.map_append]
  rfl
theorem nms_no {p : Pk → Bool} {xs : List Pk} {i : Nat} {a : Pk} (h : xs[i]? = some a) (c : p a = false) : nmsOf p (xs.take (i + 1)) = nmsOf p (xs.take i) := by
  unfold nmsOf
  rw [filt_snoc h, if_neg (by rw [c]; decide), List.append_nil]
theorem str_mem {v : V} {l : List Str} (h : v ∈ l.map V.str) : ∃ z ∈ l, v = .str z := by
  obtain ⟨z, h1, h2⟩ := List.mem_map.mp h
  exact ⟨z, h1, h2.symm⟩
/-- a name of a pool is a typed expression -/
theorem name_ty {p : Pk → Bool} {env : List Pk} {z : Str} {t : Ty} (ok : ∀ a ∈ env, PkOk a) (h : z ∈ nmsOf p env) (ht : ∀ k, p (z, k) = true → k.ty = t) : (Ex.name z).ok 1 ∧ (Ex.name z).ty env t := by
  obtain ⟨k, h1, h2⟩ := mem_nms h
  exact ⟨(ok _ h1).2.1, k, h1, ht k h2⟩
/-! ### drawn programs: names of a kind, numbers -/
def spNamed (K : PySem.W.Frag) : Sp := fun vs H Q _ => ∃ (p : Addr) (env : List Pk) (kv : V) (k : Option Kd), vs = [.ref p, kv] ∧ EnvAt K H p env ∧ OkdAt K H kv k ∧ okFine k ∧ ∀ q H', H q = none → Same H H' → H' q = some (.lst ((nmsOf (fun a => decide (some a.2 = k)) env).map V.str)) → Q (.ref q) H'
def numP (env : List Pk) : List Str := nmsOf (fun a => a.2.isN) env
theorem isN_ty {k : Kd} (h : k.isN = true) : k.ty = .num := by
  cases k with
  | num lo hi => rfl
  | _ => cases h
def spNb (K : PySem.W.Frag) (m : Nat) : Sp := fun vs H Q _ => ∃ (a p : Addr) (env : List Pk) (d : Int) (sm : Bool), vs = [.ref a, .ref p, .int d, .bl sm] ∧ Src H a ∧ EnvAt K H p env ∧ 0 ≤ d ∧ d < (m : Int) ∧ ∀ v e H', Stp a H H' → ExOf K H' env (d.toNat + 1) .num v e → Q v H'
section
variable {P : Program} {w : World} {K : PySem.W.Frag} {mg : Str → Option Value} {base : Heap}
theorem ok_l_named (T : Txt w K mg) : FnOk P w K mg base CX0 1 T.a_l_named T.d_l_named p_l_named (spNamed K) := by
  refine T.F_l_named.ok sc_l_named (fun vs H Q E h => ?_) (fun cdv A outer s H vs Q E hr h => ?_)
  · obtain ⟨p, env, kv, k, rfl, _⟩ := h
    rfl
  obtain ⟨p, env, kv, k, rfl, hE, hk, hf, q⟩ := h
  refine ⟨_, (pss_one (ps_ret (pe_lc (own := [("_law_pair", 2)]) (g := gName 2) rfl sc_l_named.nd (pi_list (pv 0)) (blkOk_by (own := [("_law_pair", 2)]) (N := n_l_named) (sc := defScope s_l_named) (by decide +kernel)) (fun _ _ _ _ _ => (pg_name (i := 2) sc_l_named.nd rfl (Or.inl rfl))) (fun _ _ _ _ _ => (pts_one (pt_cmpR (show OpR _ _ (rEqD K) from (op_eqD hr.units)) (pe_ix (show IxR _ (rIxT K) from ix_tup) (pv 2) pe_int (fun _ _ => rfl)) (pv 1) (nomark _)))) (fun _ _ _ _ _ => (pe_ix (show IxR _ (rIxT K) from ix_tup) (pv 2) pe_int (fun _ _ => rfl)))))), ?_⟩
  obtain ⟨⟨vs, hp, hP⟩, ok, ln⟩ := hE
  have lv := hP.len
  refine ⟨_, rfl, p, rfl, ⟨_, SqL.of hp⟩, fun D hD => ?_⟩
  refine lc_it (walk_list (xs := vs)) (fun i G => Same H G ∧ G D = some (.lst ((nmsOf (fun a => decide (some a.2 = k)) (env.take i)).map V.str))) ⟨Same.new hD _, upd_same⟩ (fun i G _ P => SqL.of (P.1 _ _ hp)) ?_ ?_
  · rintro i x G G' hi ⟨sG, eD⟩ ⟨rfl, ex⟩
    obtain ⟨a, ea, pk, kv2, rfl, h1, h2⟩ := hP.atv ex
    have kp := Keeps.of_same (K := K) sG
    refine ⟨rfl, ?_⟩
    refine ⟨_, rfl, pk, _, _, _, rfl, rfl, kp _ _ h1, rfl, _, rfl, _, _, (h2.keep kp).dp, (hk.keep kp).dp, kdP_shaped (ok a (List.mem_of_getElem? ea)).2.2, okdP_shaped hf, _, rfl, ?_⟩
    rw [okdP_eqv]
    by_cases c : some a.2 = k
    · refine ifT (decide_eq_true c) ⟨_, rfl, pk, _, _, _, rfl, rfl, kp _ _ h1, rfl, _, eD, lt_line ?_, fun b o e => by rw [upd_ne (ne_of_none e hD)]; exact sG _ _ e, ?_⟩
      · rw [List.length_map]
        have := nms_len (p := fun a => decide (some a.2 = k)) (env := env.take i)
        rw [List.length_take] at this
        omega
      · rw [nms_yes ea (decide_eq_true c), List.map_append]
        exact upd_same
    · refine ifF (decide_eq_false c) ⟨sG, ?_⟩
      rw [nms_no ea (decide_eq_false c)]
      exact eD
  · rintro G ⟨sG, eD⟩
    rw [lv, List.take_length] at eD
    exact q D G hD sG eD
theorem ok_number0 (T : Txt w K mg) {m : Nat} (g_l_number : FnOk P w K mg base CX0 (m + 3) T.a_l_number T.d_l_number p_l_number (spNb K m)) : FnOk P w K mg base CX0 (m + 4) T.a_l_number T.d_l_number p_l_number (spNb K (m + 1)) := by
  have g_l_pick := ok_l_pick (P := P) (w := w) (base := base) T
  have g_l_one := ok_l_one (P := P) (w := w) (K := K) (base := base) T
  refine T.F_l_number.ok sc_l_number (fun vs H Q E h => ?_) (fun cdv A outer s H vs Q E hr h => ?_)
  · obtain ⟨a, p, env, d, sm, rfl, _⟩ := h
    rfl
  obtain ⟨a, p, env, d, sm, rfl, hS, hE, hd0, hd, q⟩ := h
  refine ⟨_, (pss_cons (ps_setLc (i := 4) (own := [("_law_pair", 5)]) (g := gName 5) rfl sc_l_number.nd rfl rfl (sw_true rfl rfl rfl (by decide +kernel)) (pi_list (pv 1)) (blkOk_by (own := [("_law_pair", 5)]) (N := n_l_number) (sc := defScope s_l_number) (by decide +kernel)) (fun _ _ _ _ _ => (pg_name (i := 5) sc_l_number.nd rfl (Or.inl rfl))) (fun _ _ _ _ _ => (pts_one (pt_cmpR op_eq (pe_ix (show IxR _ (rIxT K) from ix_tup) (pe_ix (show IxR _ (rIxT K) from ix_tup) (pv 5) pe_int (fun _ _ => rfl)) pe_int (fun _ _ => rfl)) pe_str (nomark _)))) (fun _ _ _ _ _ => (pe_ix (show IxR _ (rIxT K) from ix_tup) (pv 5) pe_int (fun _ _ => rfl))))
      (pss_cons (ps_set (i := 6) sc_l_number.nd rfl (Or.inl rfl) (pe_call g_l_pick (hr.mono (by first | decide | omega)) rfl T.m_l_pick T.F_l_pick.kp T.b_l_pick .nil pass0 (pa_cons (pv 0) (pa_cons pe_int pa_nil))))
      (C8.pss_cut (ps_if (PW.pt (pw_and (pt_val (pv 3)) (pw_and (pt_cmpR op_gt (pv 2) pe_int (nomark _)) (pw_and (pt_cmpR op_lt (pv 6) pe_int (nomark _)) (pw_and1 (pt_cmpR (op_neL0 hr.units0) (pv 4) (pe_lst pa_nil) (nomark _))))))) (pss_one (ps_ret (pe_tup (pa_cons (pe_ix ix_list (pe_lst (pa_cons pe_str (pa_cons pe_str pa_nil))) (pe_op op_modN (pv 6) pe_int) (fun _ _ => rfl)) (pa_cons (pe_tup (pa_cons pe_str (pa_cons (pe_call g_l_one (hr.mono (by first | decide | omega)) rfl T.m_l_one T.F_l_one.kp T.b_l_one .nil pass0 (pa_cons (pv 0) (pa_cons (pv 4) pa_nil))) pa_nil))) (pa_cons (pe_tup (pa_cons pe_str (pa_cons (pe_op op_sub (pe_call g_l_pick (hr.mono (by first | decide | omega)) rfl T.m_l_pick T.F_l_pick.kp T.b_l_pick .nil pass0 (pa_cons (pv 0) (pa_cons pe_int pa_nil))) pe_int) pa_nil))) pa_nil)))))) pss_nil)
      (C8.pss_cut (ps_if (PW.pt (pw_and (pt_not (pt_val (pv 3))) (pw_and (pt_cmpR op_gt (pv 2) pe_int (nomark _)) (pw_and1 (pt_cmpR op_lt (pv 6) pe_int (nomark _)))))) (pss_cons (ps_set (i := 7) sc_l_number.nd rfl (Or.inl rfl) (pe_call g_l_number (hr.mono (by first | decide | omega)) rfl T.m_l_number T.F_l_number.kp T.b_l_number .nil pass0 (pa_cons (pv 0) (pa_cons (pv 1) (pa_cons (pe_op op_sub (pv 2) pe_int) (pa_cons (pv 3) pa_nil))))))
      (pss_one (ps_ret (pe_tup (pa_cons (pe_ix ix_list (pe_lst (pa_cons pe_str (pa_cons pe_str (pa_cons pe_str pa_nil)))) (pv 6) (fun _ _ => rfl)) (pa_cons (pv 7) (pa_cons (pe_call g_l_number (hr.mono (by first | decide | omega)) rfl T.m_l_number T.F_l_number.kp T.b_l_number .nil pass0 (pa_cons (pv 0) (pa_cons (pv 1) (pa_cons (pe_op op_sub (pv 2) pe_int) (pa_cons (pv 3) pa_nil))))) pa_nil))))))) pss_nil)
      (C8.pss_cut (ps_if (PW.pt (pw_and (pt_cmpR (op_neL0 hr.units0) (pv 4) (pe_lst pa_nil) (nomark _)) (pw_and1 (pt_cmpR op_lt (pv 6) pe_int (nomark _))))) (pss_one (ps_ret (pe_tup (pa_cons pe_str (pa_cons (pe_call g_l_one (hr.mono (by first | decide | omega)) rfl T.m_l_one T.F_l_one.kp T.b_l_one .nil pass0 (pa_cons (pv 0) (pa_cons (pv 4) pa_nil))) pa_nil))))) pss_nil)
      (pss_one (ps_ret (pe_tup (pa_cons pe_str (pa_cons (pe_op op_sub (pe_call g_l_pick (hr.mono (by first | decide | omega)) rfl T.m_l_pick T.F_l_pick.kp T.b_l_pick .nil pass0 (pa_cons (pv 0) (pa_cons pe_int pa_nil))) pe_int) pa_nil)))))))))), ?_⟩
  have hE0 := hE
  obtain ⟨⟨vs, hp, hP⟩, ok, ln⟩ := hE
  have lv := hP.len
  refine ⟨_, rfl, p, rfl, ⟨_, SqL.of hp⟩, fun D hD => ?_⟩
  refine lc_it (walk_list (xs := vs)) (fun i G => Same H G ∧ G D = some (.lst ((numP (env.take i)).map V.str))) ⟨Same.new hD _, upd_same⟩ (fun i G _ P => SqL.of (P.1 _ _ hp)) ?_ ?_
  · rintro i x G G' hi ⟨sG, eD⟩ ⟨rfl, ex⟩
    obtain ⟨⟨nm, kd⟩, ea, pk, kv2, rfl, h1, pk2, rfl, h2⟩ := hP.atv ex
    have kp := Keeps.of_same (K := K) sG
    have yes : kd.isN = true → ∃ acc, G' D = some (.lst acc) ∧ acc.length < sizeLine ∧ (Same H (upd G' D (.lst (acc ++ [.str nm]))) ∧ (upd G' D (.lst (acc ++ [.str nm]))) D = some (.lst ((numP (env.take (i + 1))).map V.str))) := fun c => by
      refine ⟨_, eD, lt_line ?_, fun b o e => by rw [upd_ne (ne_of_none e hD)]; exact sG _ _ e, ?_⟩
      · rw [List.length_map]
        have := nms_len (p := fun a => a.2.isN) (env := env.take i)
        rw [List.length_take] at this
        unfold numP
        omega
      · unfold numP
        rw [nms_yes ea c, List.map_append]
        exact upd_same
    have no : kd.isN = false → (Same H G' ∧ G' D = some (.lst ((numP (env.take (i + 1))).map V.str))) := fun c => by
      unfold numP
      rw [nms_no ea c]
      exact ⟨sG, eD⟩
    refine ⟨rfl, ?_⟩
    cases kd with
    | flag => exact ⟨_, rfl, pk, _, _, _, rfl, rfl, kp _ _ h1, rfl, pk2, _, _, _, rfl, rfl, kp _ _ h2, rfl, rfl, _, rfl, ifF (by decide +kernel) (no rfl)⟩
    | ref s => exact ⟨_, rfl, pk, _, _, _, rfl, rfl, kp _ _ h1, rfl, pk2, _, _, _, rfl, rfl, kp _ _ h2, rfl, rfl, _, rfl, ifF (by decide +kernel) (no rfl)⟩
    | num lo hi => exact ⟨_, rfl, pk, _, _, _, rfl, rfl, kp _ _ h1, rfl, pk2, _, _, _, rfl, rfl, kp _ _ h2, rfl, rfl, _, rfl, ifT (by decide +kernel) ⟨_, rfl, pk, _, _, _, rfl, rfl, kp _ _ h1, rfl, yes rfl⟩⟩
  rintro G ⟨sG, eD⟩
  rw [lv, List.take_length] at eD
  have st0 : Stp a H G := Stp.of_same hS sG
  have lnP : (numP env).length ≤ 40 := Nat.le_trans nms_len ln
  refine ⟨_, rfl, a, 8, rfl, st0.s, by decide, fun c G1 st1 c0 c1 => ?_⟩
  have nDa : D ≠ a := (hS.ne hD).symm
  refine ⟨fun σ F => Stp a H F ∧ F D = some (.lst ((numP env).map V.str)) ∧ σ = [some (.ref a), some (.ref p), some (.int d), some (.bl sm), some (.ref D), none, some (.int c), none], ?_, ?_⟩
  · have nn := And.intro (st0.trans st1) (And.intro (st1.k _ _ nDa eD) (rfl : [some (V.ref a), some (.ref p), some (.int d), some (.bl sm), some (.ref D), none, some (.int c), none] = [some (V.ref a), some (.ref p), some (.int d), some (.bl sm), some (.ref D), none, some (.int c), none]))
    refine ⟨_, rfl, _, rfl, ite2 (fun _ => ⟨_, rfl, _, _, rfl, rfl, _, rfl, ite2 (fun cd => ⟨_, rfl, _, _, rfl, rfl, _, rfl, ite2 (fun _ => ?_) (fun _ => iteF nn)⟩) (fun _ => iteF nn)⟩) (fun _ => iteF nn)⟩
    have cd : 0 < d := of_decide_eq_true cd
    refine ⟨_, rfl, by show 0 ≤ sizeLine; decide, fun z hz => ⟨D, z, _, rfl, rfl, SqL.of (Same.new hz _ _ _ nn.2.1), SqL.of upd_same, _, rfl, ite2 (fun ne => ?_) (fun _ => ⟨nn.1.new hz, Same.new hz _ _ _ nn.2.1, rfl⟩)⟩⟩
    have stZ := nn.1.new (o := .lst []) hz
    have eZ := Same.new hz (.lst []) _ _ nn.2.1
    generalize (upd G1 z (.lst [])) = F at stZ eZ
    refine ⟨by show 2 ≤ sizeLine; decide, fun l hl => ?_⟩
    have b := fmod_bd (x := c) (m := 2) (by decide)
    have hi : (c.fmod 2).toNat < ((["+", "-"] : List Str).map V.str).length := by show _ < 2; omega
    have e0 := atI_int (xs := (["+", "-"] : List Str).map V.str) b.1 hi
    obtain ⟨sg, msg, esg⟩ := str_mem (List.getElem_mem hi)
    rw [esg] at e0
    have sgo : sg ∈ arOps := by
      have : ∀ s ∈ (["+", "-"] : List Str), s ∈ arOps := by decide +kernel
      exact this _ msg
    have stL := stZ.new (o := .lst ((["+", "-"] : List Str).map V.str)) hl
    have eL := Same.new hl (.lst ((["+", "-"] : List Str).map V.str)) _ _ eZ
    refine ⟨_, rfl, _, _, rfl, rfl, (by intro z; cases z), l, _, _, _, rfl, rfl, SqL.of upd_same, e0, ?_⟩
    refine ⟨_, rfl, _, rfl, a, .ref D, rfl, stL.s, .inl ⟨D, _, rfl, nDa, SqL.of eL, ?_, ?_, fun v F1 hv stv => ⟨by show 2 ≤ sizeLine; decide, fun p1 hp1 => ?_⟩⟩⟩
    · rw [List.length_map]
      exact List.length_pos_iff.mpr fun z => by rw [z] at ne; cases ne
    · rw [List.length_map]; omega
    obtain ⟨zn, hzn, rfl⟩ := str_mem hv
    have tn := name_ty (t := .num) ok hzn fun k hk => isN_ty hk
    have st2 := (stL.trans stv).new (o := .tup [.str "name", .str zn]) hp1
    have x2 : ExAt K (upd F1 p1 (.tup [.str "name", .str zn])) (.name zn) (.ref p1) := ⟨p1, rfl, SqT.of upd_same⟩
    generalize (upd F1 p1 (.tup [.str "name", .str zn])) = F2 at st2 x2
    refine ⟨_, rfl, a, 5, rfl, st2.s, by decide, fun r F3 st3 r0 r1 => ⟨_, _, rfl, rfl, by show 2 ≤ sizeLine; decide, fun p2 hp2 => ⟨by show 3 ≤ sizeLine; decide, fun p3 hp3 => ?_⟩⟩⟩
    have x3 := x2.keep (Keeps.of_stp st3 st2.s)
    have s4 := Same.new hp2 (.tup [.str "num", .int (r - 1)])
    have x4 : ExAt K (upd F3 p2 (.tup [.str "num", .int (r - 1)])) (.num (r - 1)) (.ref p2) := ⟨p2, rfl, SqT.of upd_same⟩
    have s5 := Same.new hp3 (.tup [.str sg, .ref p1, .ref p2])
    refine q _ (.bin sg (.name zn) (.num (r - 1))) _ (((st2.trans st3).new hp2).new hp3) ⟨⟨p3, _, _, rfl, SqT.of upd_same, (x3.keep (Keeps.of_same s4)).keep (Keeps.of_same s5), x4.keep (Keeps.of_same s5)⟩, ?_, .inl ⟨rfl, sgo, tn.2, rfl⟩⟩
    exact ⟨ar_ops sgo, Ex.ok_up (by omega) tn.1, Ex.ok_up (n := 1) (by omega) (by show -1000000000 ≤ r - 1 ∧ r - 1 ≤ 1000000000; omega)⟩
  clear eD st0 st1 sG
  rintro σ F ⟨stF, eF, rfl⟩
  have hEF := hE0.stp hS stF
  refine ⟨fun σ F => Stp a H F ∧ F D = some (.lst ((numP env).map V.str)) ∧ ∃ v7 : Option V, σ = [some (.ref a), some (.ref p), some (.int d), some (.bl sm), some (.ref D), none, some (.int c), v7], ?_, ?_⟩
  · have nn : Stp a H F ∧ F D = some (.lst ((numP env).map V.str)) ∧ ∃ v7 : Option V, [some (V.ref a), some (.ref p), some (.int d), some (.bl sm), some (.ref D), none, some (.int c), none] = [some (V.ref a), some (.ref p), some (.int d), some (.bl sm), some (.ref D), none, some (.int c), v7] := ⟨stF, eF, none, rfl⟩
    refine ⟨_, rfl, _, rfl, ite2 (fun _ => ⟨_, rfl, _, _, rfl, rfl, _, rfl, ite2 (fun cd => ⟨_, rfl, _, _, rfl, rfl, _, rfl, ite2 (fun c3 => ?_) (fun _ => nn)⟩) (fun _ => iteF nn)⟩) (fun _ => iteF nn)⟩
    have cd : 0 < d := of_decide_eq_true cd
    have c3 : c < 3 := of_decide_eq_true c3
    refine ⟨_, rfl, _, rfl, _, rfl, _, _, rfl, rfl, _, rfl, a, p, env, d - 1, sm, rfl, stF.s, hEF, by omega, by omega, fun v1 e1 F1 st1 x1 => ?_⟩
    refine ⟨by show 3 ≤ sizeLine; decide, fun l hl => ?_⟩
    have hi : c.toNat < (arOps.map V.str).length := by show _ < 3; omega
    have e0 := atI_int (xs := arOps.map V.str) c0 hi
    obtain ⟨sg, sgo, esg⟩ := str_mem (List.getElem_mem hi)
    rw [esg] at e0
    have sL := Same.new hl (.lst (arOps.map V.str))
    have stL := (stF.trans st1).same sL
    refine ⟨_, rfl, l, _, _, _, rfl, rfl, SqL.of upd_same, e0, ?_⟩
    refine ⟨_, rfl, _, rfl, _, rfl, _, rfl, _, _, rfl, rfl, _, rfl, a, p, env, d - 1, sm, rfl, stL.s, hE0.stp hS stL, by omega, by omega, fun v2 e2 F2 st2 x2 => ⟨by show 3 ≤ sizeLine; decide, fun p3 hp3 => ?_⟩⟩
    have x1' := (x1.keep (Keeps.of_same sL)).keep (Keeps.of_stp st2 stL.s)
    have k3 := Keeps.of_same (K := K) (Same.new hp3 (.tup [.str sg, v1, v2]))
    refine q _ (.bin sg e1 e2) _ ((stL.trans st2).new hp3) ⟨⟨p3, _, _, rfl, SqT.of upd_same, (x1'.keep k3).h, (x2.keep k3).h⟩, ?_, .inl ⟨rfl, sgo, x1.t, x2.t⟩⟩
    exact ⟨ar_ops sgo, Ex.ok_up (by omega) x1.o, Ex.ok_up (by omega) x2.o⟩
  clear eF hEF stF
  rintro σ F ⟨stF, eF, v7, rfl⟩
  refine ⟨fun σ F => Stp a H F ∧ ∃ v7 : Option V, σ = [some (.ref a), some (.ref p), some (.int d), some (.bl sm), some (.ref D), none, some (.int c), v7], ?_, ?_⟩
  · refine ⟨_, rfl, by show 0 ≤ sizeLine; decide, fun z hz => ⟨D, z, _, rfl, rfl, SqL.of (Same.new hz _ _ _ eF), SqL.of upd_same, _, rfl, ite2 (fun ne => ⟨_, rfl, _, _, rfl, rfl, _, rfl, ite2 (fun _ => ?_) (fun _ => ⟨stF.new hz, _, rfl⟩)⟩) (fun _ => iteF ⟨stF.new hz, _, rfl⟩)⟩⟩
    have stZ := stF.new (o := .lst []) hz
    have eZ := Same.new hz (.lst []) _ _ eF
    refine ⟨_, rfl, _, rfl, a, .ref D, rfl, stZ.s, .inl ⟨D, _, rfl, nDa, SqL.of eZ, ?_, ?_, fun v F1 hv stv => ⟨by show 2 ≤ sizeLine; decide, fun p1 hp1 => ?_⟩⟩⟩
    · rw [List.length_map]
      exact List.length_pos_iff.mpr fun z => by rw [z] at ne; cases ne
    · rw [List.length_map]; omega
    obtain ⟨zn, hzn, rfl⟩ := str_mem hv
    have tn := name_ty (t := .num) ok hzn fun k hk => isN_ty hk
    exact q _ (.name zn) _ ((stZ.trans stv).new hp1) ⟨⟨p1, rfl, SqT.of upd_same⟩, Ex.ok_up (by omega) tn.1, tn.2⟩
  rintro σ F ⟨stF, v7, rfl⟩
  refine ⟨_, rfl, a, 9, rfl, stF.s, by decide, fun r F3 st3 r0 r1 => ⟨_, _, rfl, rfl, by show 2 ≤ sizeLine; decide, fun p2 hp2 => ?_⟩⟩
  exact q _ (.num (r - 4)) _ ((stF.trans st3).new hp2) ⟨⟨p2, rfl, SqT.of upd_same⟩, Ex.ok_up (n := 1) (by omega) (by show -1000000000 ≤ r - 4 ∧ r - 4 ≤ 1000000000; omega), rfl⟩
end
/-! ### a tuple against the empty one -/
def rNeT0 (K : PySem.W.Frag) : R2 := fun x y H Q => ∃ (a b : Addr) (xs : List V), x = .ref a ∧ y = .ref b ∧ SqT K H a xs ∧ SqT K H b [] ∧ Q (.bl (!xs.isEmpty)) H
theorem op_neT0 {X : Cx} (hu : X.A.units < cLine) : OpR X (compareOp .NotEq) (rNeT0 X.K) := by
  intro pins s σ H x y v u Q I rx ry h
  obtain ⟨a, b, xs, rfl, rfl, ha, hb, q⟩ := h
  obtain rfl : v = Value.ref a := rx
  obtain rfl : u = Value.ref b := ry
  obtain ⟨its, r1, t1, _⟩ := I.tuple ha
  obtain ⟨its2, r2, t2, _⟩ := I.tuple hb
  cases r2
  refine SeqAt.RcNeAt.tuples (e := fun _ => true) t1 t2 hu (fun j h1 h2 => absurd h2 (by simp)) _ _ _ _ ?_
  refine ⟨.bl (!xs.isEmpty), H, I, ?_, q⟩
  have e : xs.isEmpty = its.isEmpty := by cases r1 <;> rfl
  rw [e]
  cases its <;> rfl
theorem op_eqT0 {X : Cx} (hu : X.A.units < cLine) : OpR X (compareOp .Eq) (fun x y H Q => ∃ (a b : Addr) (xs : List V), x = .ref a ∧ y = .ref b ∧ SqT X.K H a xs ∧ SqT X.K H b [] ∧ Q (.bl xs.isEmpty) H) := by
  intro pins s σ H x y v u Q I rx ry h
  obtain ⟨a, b, xs, rfl, rfl, ha, hb, q⟩ := h
  obtain rfl : v = Value.ref a := rx
  obtain rfl : u = Value.ref b := ry
  obtain ⟨its, r1, t1, _⟩ := I.tuple ha
  obtain ⟨its2, r2, t2, _⟩ := I.tuple hb
  cases r2
  refine SeqAt.eq_tupleAt (e := fun _ => true) t1 t2 hu (fun j h1 h2 => absurd h2 (by simp)) ?_
  refine ⟨.bl xs.isEmpty, H, I, ?_, q⟩
  have e : xs.isEmpty = its.isEmpty := by cases r1 <;> rfl
  rw [e]
  cases its <;> rfl
section
variable {P : Program} {w : World} {K : PySem.W.Frag} {mg : Str → Option Value} {base : Heap}
theorem fn_vac {k : Nat} {f : Addr} {fd : FuncData} {ps : List Str} {sp : Sp} (no : ∀ vs H Q E, ¬ sp vs H Q E) : FnOk P w K mg base CX0 k f fd ps sp :=
  ⟨fun vs H Q E h => absurd h (no vs H Q E), fun A outer s H args us vs Q E _ _ _ _ h => absurd h (no vs H Q E)⟩
theorem ok_l_number (T : Txt w K mg) : ∀ m : Nat, FnOk P w K mg base CX0 (m + 3) T.a_l_number T.d_l_number p_l_number (spNb K m)
  | 0 => fn_vac fun vs H Q E h => by obtain ⟨a, p, env, d, sm, _, _, _, h1, h2, _⟩ := h; omega
  | m + 1 => ok_number0 T (ok_l_number T m)
end
/-! ### one of a list or a tuple -/
def spOneQ (K : PySem.W.Frag) : Sp := fun vs H Q _ => ∃ (a p : Addr) (xs : List V), vs = [.ref a, .ref p] ∧ Src H a ∧ ((p ≠ a ∧ SqL K H p xs) ∨ SqT K H p xs) ∧ 0 < xs.length ∧ xs.length < 1000 ∧ ∀ v H', v ∈ xs → Stp a H H' → Q v H'
section
variable {P : Program} {w : World} {K : PySem.W.Frag} {mg : Str → Option Value} {base : Heap}
theorem ok_l_oneQ (T : Txt w K mg) : FnOk P w K mg base CX0 2 T.a_l_one T.d_l_one p_l_one (spOneQ K) := by
  have g_l_pick := ok_l_pick (P := P) (w := w) (base := base) T
  refine T.F_l_one.ok sc_l_one (fun vs H Q E h => ?_) (fun cdv A outer s H vs Q E hr h => ?_)
  · obtain ⟨a, p, xs, rfl, _⟩ := h
    rfl
  obtain ⟨a, p, xs, rfl, hS, h, h0, h9, q⟩ := h
  refine ⟨_, (pss_one (ps_ret (pe_ix ix_seq (pv 1) (pe_call g_l_pick (hr.mono (by first | decide | omega)) rfl T.m_l_pick T.F_l_pick.kp T.b_l_pick .nil pass0 (pa_cons (pv 0) (pa_cons (pe_callB call_len rfl T.z_len PySem.boot_len (pa_cons (pv 1) pa_nil)) pa_nil))) (fun _ _ => rfl)))), ?_⟩
  rcases h with ⟨ne, hx⟩ | hx
  · refine ⟨_, rfl, _, rfl, _, rfl, .ref p, xs.length, rfl, .inl ⟨_, hx, rfl⟩, ?_⟩
    refine ⟨a, _, rfl, hS, by omega, fun r H' st r0 r1 => ?_⟩
    have hr' : r.toNat < xs.length := by omega
    have e := atI_int (xs := xs) r0 hr'
    exact .inl ⟨p, xs, r, _, rfl, rfl, st.rdL hx ne, e, q _ _ (List.getElem_mem hr') st⟩
  · refine ⟨_, rfl, _, rfl, _, rfl, .ref p, xs.length, rfl, .inr ⟨_, hx, rfl⟩, ?_⟩
    refine ⟨a, _, rfl, hS, by omega, fun r H' st r0 r1 => ?_⟩
    have hr' : r.toNat < xs.length := by omega
    have e := atI_int (xs := xs) r0 hr'
    exact .inr (.inl ⟨p, xs, r, _, rfl, rfl, st.rd hx hS, e, q _ _ (List.getElem_mem hr') st⟩)
end
/-! ### drawn programs: comparisons, references, flags, expressions -/
/-- a row of names and kinds out of another one -/
def spCmp (K : PySem.W.Frag) : Sp := fun vs H Q _ => ∃ (a p : Addr) (env : List Pk) (sm : Bool), vs = [.ref a, .ref p, .bl sm] ∧ Src H a ∧ EnvAt K H p env ∧ ∀ v e H', Stp a H H' → ExOf K H' env 3 .flag v e → Q v H'
def spRfx (K : PySem.W.Frag) : Sp := fun vs H Q _ => ∃ (a p : Addr) (env : List Pk) (kv : V) (s : Str), vs = [.ref a, .ref p, kv] ∧ Src H a ∧ EnvAt K H p env ∧ KdAt K H kv (.ref s) ∧ PyData.strOk s = true ∧ s.length ≤ 20 ∧ ∀ v e H', Stp a H H' → ExOf K H' env 1 (.ref s) v e → Q v H'
def spTr (K : PySem.W.Frag) (m : Nat) : Sp := fun vs H Q _ => ∃ (a p : Addr) (env : List Pk) (d : Int) (sm : Bool), vs = [.ref a, .ref p, .int d, .bl sm] ∧ Src H a ∧ EnvAt K H p env ∧ 0 ≤ d ∧ d < (m : Int) ∧ ∀ v e H', Stp a H H' → ExOf K H' env (d.toNat + 3) .flag v e → Q v H'
theorem kd_num {k : Kd} (h : k.isN = true) : ∃ lo hi, k = .num lo hi := by
  cases k with
  | num lo hi => exact ⟨lo, hi, rfl⟩
  | _ => cases h
theorem kd_ref {k : Kd} (h : k.isR = true) : ∃ s, k = .ref s := by
  cases k with
  | ref s => exact ⟨s, rfl⟩
  | _ => cases h
def fP (f : Kd → Bool) (env : List Pk) : List Pk := env.filter fun a => f a.2
theorem fP_yes {f : Kd → Bool} {xs : List Pk} {i : Nat} {a : Pk} (h : xs[i]? = some a) (c : f a.2 = true) : fP f (xs.take (i + 1)) = fP f (xs.take i) ++ [a] := by
  unfold fP
  rw [filt_snoc h, if_pos c]
theorem fP_no {f : Kd → Bool} {xs : List Pk} {i : Nat} {a : Pk} (h : xs[i]? = some a) (c : f a.2 = false) : fP f (xs.take (i + 1)) = fP f (xs.take i) := by
  unfold fP
  rw [filt_snoc h, if_neg (by rw [c]; decide), List.append_nil]
theorem mem_fP {f : Kd → Bool} {env : List Pk} {a : Pk} (h : a ∈ fP f env) : a ∈ env ∧ f a.2 = true := List.mem_filter.mp h
theorem fP_len {f : Kd → Bool} {env : List Pk} : (fP f env).length ≤ env.length := List.length_filter_le _ _
/-- a list of names and kinds, or of such that were picked -/
def PkLst (K : PySem.W.Frag) (H : Hp) (D : Addr) (l : List Pk) : Prop := ∃ us, H D = some (.lst us) ∧ PksL K H l us
theorem PkLst.same {K : PySem.W.Frag} {H H' : Hp} {D : Addr} {l : List Pk} (s : Same H H') (h : PkLst K H D l) : PkLst K H' D l := by
  obtain ⟨us, h1, h2⟩ := h
  exact ⟨us, s _ _ h1, h2.keep (Keeps.of_same s)⟩
theorem PkLst.stp {K : PySem.W.Frag} {a : Addr} {H H' : Hp} {D : Addr} {l : List Pk} (hs : Src H a) (ne : D ≠ a) (s : Stp a H H') (h : PkLst K H D l) : PkLst K H' D l := by
  obtain ⟨us, h1, h2⟩ := h
  exact ⟨us, s.k _ _ ne h1, h2.keep (Keeps.of_stp s hs)⟩
theorem keep_lst {K : PySem.W.Frag} {H : Hp} {d : Addr} {xs : List V} {o : HO} (h : H d = some (.lst xs)) : Keeps K H (upd H d o) := fun p ys q => by
  have ne : ∀ {u : HO}, H p = some u → (∀ xs, u ≠ .lst xs) → p ≠ d := fun e n z => by
    rw [z, h] at e
    exact n _ (Option.some.inj e).symm
  rcases q with (q | ⟨o', q⟩) | q
  · exact .inl (.inl (by rw [upd_ne (ne q (fun _ z => nomatch z))]; exact q))
  · exact .inl (.inr ⟨o', by rw [upd_ne (ne q (fun _ z => nomatch z))]; exact q⟩)
  · exact .inr q
theorem PkLst.push {K : PySem.W.Frag} {H : Hp} {D : Addr} {l : List Pk} {a : Pk} {v : V} (h : PkLst K H D l) (ha : PkAt K H a v) (n : l.length ≤ 100) : ∃ acc, H D = some (.lst acc) ∧ acc.length < sizeLine ∧ PkLst K (upd H D (.lst (acc ++ [v]))) D (l ++ [a]) := by
  obtain ⟨us, h1, h2⟩ := h
  exact ⟨us, h1, lt_line (by rw [h2.len]; omega), _, upd_same, (h2.keep (keep_lst h1)).snoc (ha.keep (keep_lst h1))⟩
theorem cs_ok : ∀ s ∈ cmOps, s.length ≤ 4 := by decide +kernel
section
variable {P : Program} {w : World} {K : PySem.W.Frag} {mg : Str → Option Value} {base : Heap}
theorem ok_l_compare (T : Txt w K mg) : FnOk P w K mg base CX0 6 T.a_l_compare T.d_l_compare p_l_compare (spCmp K) := by
  have g_l_pick := ok_l_pick (P := P) (w := w) (base := base) T
  have g_l_one := ok_l_oneQ (P := P) (w := w) (K := K) (base := base) T
  have g_l_number := ok_l_number (P := P) (w := w) (K := K) (base := base) T 2
  refine T.F_l_compare.ok sc_l_compare (fun vs H Q E h => ?_) (fun cdv A outer s H vs Q E hr h => ?_)
  · obtain ⟨a, p, env, sm, rfl, _⟩ := h
    rfl
  obtain ⟨a, p, env, sm, rfl, hS, hE, q⟩ := h
  refine ⟨_, (pss_cons (ps_setLc (i := 3) (own := [("_law_pair", 4)]) (g := gName 4) rfl sc_l_compare.nd rfl rfl (sw_true rfl rfl rfl (by decide +kernel)) (pi_list (pv 1)) (blkOk_by (own := [("_law_pair", 4)]) (N := n_l_compare) (sc := defScope s_l_compare) (by decide +kernel)) (fun _ _ _ _ _ => (pg_name (i := 4) sc_l_compare.nd rfl (Or.inl rfl))) (fun _ _ _ _ _ => (pts_one (pt_cmpR op_eq (pe_ix (show IxR _ (rIxT K) from ix_tup) (pe_ix (show IxR _ (rIxT K) from ix_tup) (pv 4) pe_int (fun _ _ => rfl)) pe_int (fun _ _ => rfl)) pe_str (nomark _)))) (fun _ _ _ _ _ => (pv 4)))
      (pss_cons (ps_set (i := 5) sc_l_compare.nd rfl (Or.inl rfl) (pe_call g_l_one (hr.mono (by first | decide | omega)) rfl T.m_l_one T.F_l_one.kp T.b_l_one .nil pass0 (pa_cons (pv 0) (pa_cons (pe_lst (pa_cons pe_str (pa_cons pe_str (pa_cons pe_str (pa_cons pe_str pa_nil))))) pa_nil))))
      (C8.pss_cut (ps_if (pt_cmpR (op_eqL0 hr.units0) (pv 3) (pe_lst pa_nil) (nomark _)) (pss_one (ps_ret (pe_tup (pa_cons (pv 5) (pa_cons (pe_tup (pa_cons pe_str (pa_cons (pe_call g_l_pick (hr.mono (by first | decide | omega)) rfl T.m_l_pick T.F_l_pick.kp T.b_l_pick .nil pass0 (pa_cons (pv 0) (pa_cons pe_int pa_nil))) pa_nil))) (pa_cons (pe_tup (pa_cons pe_str (pa_cons (pe_call g_l_pick (hr.mono (by first | decide | omega)) rfl T.m_l_pick T.F_l_pick.kp T.b_l_pick .nil pass0 (pa_cons (pv 0) (pa_cons pe_int pa_nil))) pa_nil))) pa_nil)))))) pss_nil)
      (pss_cons (ps_set (i := 4) sc_l_compare.nd rfl (Or.inl rfl) (pe_call g_l_one (hr.mono (by first | decide | omega)) rfl T.m_l_one T.F_l_one.kp T.b_l_one .nil pass0 (pa_cons (pv 0) (pa_cons (pv 3) pa_nil))))
      (C8.pss_cut (ps_if (pt_cmpR op_gt (pe_call g_l_pick (hr.mono (by first | decide | omega)) rfl T.m_l_pick T.F_l_pick.kp T.b_l_pick .nil pass0 (pa_cons (pv 0) (pa_cons pe_int pa_nil))) pe_int (nomark _)) (pss_cons (ps_set (i := 6) sc_l_compare.nd rfl (Or.inl rfl) (pe_callB (call_min2 rfl) rfl T.z_min bb_min (pa_cons (pe_op op_add (pe_op op_sub (pe_ix ix_tup (pe_ix ix_tup (pv 4) pe_int (fun _ _ => rfl)) pe_int (fun _ _ => rfl)) (pe_ix ix_tup (pe_ix ix_tup (pv 4) pe_int (fun _ _ => rfl)) pe_int (fun _ _ => rfl))) pe_int) (pa_cons pe_int pa_nil))))
      (pss_one (ps_ret (pe_tup (pa_cons (pv 5) (pa_cons (pe_tup (pa_cons pe_str (pa_cons (pe_ix ix_tup (pv 4) pe_int (fun _ _ => rfl)) pa_nil))) (pa_cons (pe_tup (pa_cons pe_str (pa_cons (pe_op op_add (pe_ix ix_tup (pe_ix ix_tup (pv 4) pe_int (fun _ _ => rfl)) pe_int (fun _ _ => rfl)) (pe_call g_l_pick (hr.mono (by first | decide | omega)) rfl T.m_l_pick T.F_l_pick.kp T.b_l_pick .nil pass0 (pa_cons (pv 0) (pa_cons (pv 6) pa_nil)))) pa_nil))) pa_nil))))))) pss_nil)
      (pss_one (ps_ret (pe_tup (pa_cons (pv 5) (pa_cons (pe_call g_l_number (hr.mono (by first | decide | omega)) rfl T.m_l_number T.F_l_number.kp T.b_l_number .nil pass0 (pa_cons (pv 0) (pa_cons (pv 1) (pa_cons pe_int (pa_cons (pv 2) pa_nil))))) (pa_cons (pe_tup (pa_cons pe_str (pa_cons (pe_ix ix_tup (pv 4) pe_int (fun _ _ => rfl)) pa_nil))) pa_nil))))))))))), ?_⟩
  have hE0 := hE
  obtain ⟨⟨vs, hp, hP⟩, ok, ln⟩ := hE
  have lv := hP.len
  refine ⟨_, rfl, p, rfl, ⟨_, SqL.of hp⟩, fun D hD => ?_⟩
  refine lc_it (walk_list (xs := vs)) (fun i G => Same H G ∧ PkLst K G D (fP Kd.isN (env.take i))) ⟨Same.new hD _, [], upd_same, trivial⟩ (fun i G _ P => SqL.of (P.1 _ _ hp)) ?_ ?_
  · rintro i x G G' hi ⟨sG, eD⟩ ⟨rfl, ex⟩
    obtain ⟨⟨nm, kd⟩, ea, pk, kv2, rfl, h1, pk2, rfl, h2⟩ := hP.atv ex
    have kp := Keeps.of_same (K := K) sG
    have yes : kd.isN = true → ∃ acc, G' D = some (.lst acc) ∧ acc.length < sizeLine ∧ (Same H (upd G' D (.lst (acc ++ [.ref pk]))) ∧ PkLst K (upd G' D (.lst (acc ++ [.ref pk]))) D (fP Kd.isN (env.take (i + 1)))) := fun c => by
      have := fP_len (f := Kd.isN) (env := env.take i)
      rw [List.length_take] at this
      obtain ⟨acc, e1, e2, e3⟩ := eD.push (a := (nm, kd)) (v := .ref pk) ⟨pk, _, rfl, kp _ _ h1, pk2, rfl, kp _ _ h2⟩ (by omega)
      rw [fP_yes ea c]
      exact ⟨acc, e1, e2, fun b o e => by rw [upd_ne (ne_of_none e hD)]; exact sG _ _ e, e3⟩
    have no : kd.isN = false → (Same H G' ∧ PkLst K G' D (fP Kd.isN (env.take (i + 1)))) := fun c => by
      rw [fP_no ea c]
      exact ⟨sG, eD⟩
    refine ⟨rfl, ?_⟩
    cases kd with
    | flag => exact ⟨_, rfl, pk, _, _, _, rfl, rfl, kp _ _ h1, rfl, pk2, _, _, _, rfl, rfl, kp _ _ h2, rfl, rfl, _, rfl, ifF (by decide +kernel) (no rfl)⟩
    | ref s => exact ⟨_, rfl, pk, _, _, _, rfl, rfl, kp _ _ h1, rfl, pk2, _, _, _, rfl, rfl, kp _ _ h2, rfl, rfl, _, rfl, ifF (by decide +kernel) (no rfl)⟩
    | num lo hi => exact ⟨_, rfl, pk, _, _, _, rfl, rfl, kp _ _ h1, rfl, pk2, _, _, _, rfl, rfl, kp _ _ h2, rfl, rfl, _, rfl, ifT (by decide +kernel) ⟨_, rfl, yes rfl⟩⟩
  rintro G ⟨sG, eD⟩
  rw [lv, List.take_length] at eD
  have st0 : Stp a H G := Stp.of_same hS sG
  have lnP := fP_len (f := Kd.isN) (env := env)
  have nDa : D ≠ a := (hS.ne hD).symm
  -- the sign
  refine ⟨_, rfl, by show 4 ≤ sizeLine; decide, fun l hl => ?_⟩
  have stL := st0.new (o := .lst (cmOps.map V.str)) hl
  have eL := eD.same (Same.new hl (.lst (cmOps.map V.str)))
  refine ⟨a, l, cmOps.map V.str, rfl, stL.s, .inl ⟨(st0.s.ne hl).symm, SqL.of upd_same⟩, by decide, by decide, fun v G1 hv st1 => ?_⟩
  obtain ⟨sg, sgo, rfl⟩ := str_mem hv
  have eD1 := eL.stp stL.s nDa st1
  have st01 := stL.trans st1
  -- no numbers
  refine ⟨fun σ F => Stp a H F ∧ PkLst K F D (fP Kd.isN env) ∧ fP Kd.isN env ≠ [] ∧ σ = [some (.ref a), some (.ref p), some (.bl sm), some (.ref D), none, some (.str sg), none], ?_, ?_⟩
  · obtain ⟨us, e1, e2⟩ := id eD1
    refine ⟨_, rfl, by show 0 ≤ sizeLine; decide, fun z hz => ⟨D, z, us, rfl, rfl, SqL.of (Same.new hz _ _ _ e1), SqL.of upd_same, _, rfl, ite2 (fun _ => ?_) (fun ne => ?_)⟩⟩
    · have stZ := st01.new (o := .lst []) hz
      refine ⟨_, rfl, _, rfl, a, 3, rfl, stZ.s, by decide, fun r1 F1 s1 r10 r11 => ⟨by show 2 ≤ sizeLine; decide, fun p1 hp1 => ?_⟩⟩
      have x1 : ExAt K (upd F1 p1 (.tup [.str "num", .int r1])) (.num r1) (.ref p1) := ⟨p1, rfl, SqT.of upd_same⟩
      have s1' := (stZ.trans s1).new (o := .tup [.str "num", .int r1]) hp1
      refine ⟨_, rfl, a, 3, rfl, s1'.s, by decide, fun r2 F2 s2 r20 r21 => ⟨by show 2 ≤ sizeLine; decide, fun p2 hp2 => ⟨by show 3 ≤ sizeLine; decide, fun p3 hp3 => ?_⟩⟩⟩
      have x1' := (x1.keep (Keeps.of_stp s2 s1'.s)).keep (Keeps.of_same (Same.new hp2 (.tup [.str "num", .int r2])))
      have x2 : ExAt K (upd F2 p2 (.tup [.str "num", .int r2])) (.num r2) (.ref p2) := ⟨p2, rfl, SqT.of upd_same⟩
      have k3 := Keeps.of_same (K := K) (Same.new hp3 (.tup [.str sg, .ref p1, .ref p2]))
      refine q _ (.bin sg (.num r1) (.num r2)) _ (((s1'.trans s2).new hp2).new hp3) ⟨⟨p3, _, _, rfl, SqT.of upd_same, x1'.keep k3, x2.keep k3⟩, ?_, .inr ⟨rfl, .inl ⟨sgo, rfl, rfl⟩⟩⟩
      exact ⟨cm_ops sgo, Ex.ok_up (n := 1) (m := 2) (by omega) (by show -1000000000 ≤ r1 ∧ r1 ≤ 1000000000; omega), Ex.ok_up (n := 1) (m := 2) (by omega) (by show -1000000000 ≤ r2 ∧ r2 ≤ 1000000000; omega)⟩
    · refine ⟨st01.new hz, eD1.same (Same.new hz _), fun z => ?_, rfl⟩
      rw [z] at e2
      cases us with
      | nil => exact ne rfl
      | cons => exact e2.elim
  clear eD st0 sG stL eL st01 eD1 st1
  rintro σ F ⟨stF, eF, neP, rfl⟩
  obtain ⟨us, e1, e2⟩ := eF
  have lu : us.length = (fP Kd.isN env).length := e2.len
  have lu0 : 0 < us.length := by
    have := List.length_pos_iff.mpr neP
    omega
  refine ⟨_, rfl, _, rfl, a, D, us, rfl, stF.s, .inl ⟨nDa, SqL.of e1⟩, lu0, by omega, fun v F1 hv st1 => ?_⟩
  obtain ⟨⟨nm, kd⟩, ma, pk, kv2, rfl, h1, pk2, rfl, h2⟩ := (e2.keep (Keeps.of_stp st1 stF.s)).mem hv
  obtain ⟨mE, kn⟩ := mem_fP ma
  obtain ⟨lo, hi, rfl⟩ := kd_num kn
  have fine := (ok _ mE).2.2
  have fine : -1000000000 ≤ lo ∧ lo ≤ hi ∧ hi ≤ 1000000000 := fine
  have nml := (ok _ mE).2.1
  have st01 := stF.trans st1
  clear e1 e2 lu lu0
  have nmx : ∀ n, (Ex.name nm).ok (n + 1) ∧ (Ex.name nm).ty env .num := fun n => ⟨nml, _, mE, rfl⟩
  refine ⟨fun σ F => Stp a H F ∧ KdAt K F (.ref pk2) (.num lo hi) ∧ SqT K F pk [.str nm, .ref pk2] ∧ ∃ v6 : Option V, σ = [some (.ref a), some (.ref p), some (.bl sm), some (.ref D), some (.ref pk), some (.str sg), v6], ?_, ?_⟩
  · refine ⟨_, rfl, a, 3, rfl, st01.s, by decide, fun r F2 st2 r0 r1 => ⟨_, _, rfl, rfl, _, rfl, ite2 (fun _ => ?_) (fun _ => ?_)⟩⟩
    · have stt := st01.trans st2
      have g1 := st2.rd h1 st01.s
      have g2 := st2.rd h2 st01.s
      refine ⟨_, rfl, pk, _, _, _, rfl, rfl, g1, rfl, pk2, _, _, _, rfl, rfl, g2, rfl, _, rfl, pk, _, _, _, rfl, rfl, g1, rfl, pk2, _, _, _, rfl, rfl, g2, rfl, _, _, rfl, rfl, _, _, rfl, rfl, _, _, rfl, ?_⟩
      refine ⟨_, rfl, _, rfl, pk, _, _, _, rfl, rfl, g1, rfl, by show 2 ≤ sizeLine; decide, fun p1 hp1 => ?_⟩
      have x1 : ExAt K (upd F2 p1 (.tup [.str "name", .str nm])) (.name nm) (.ref p1) := ⟨p1, rfl, SqT.of upd_same⟩
      have s1' := stt.new (o := .tup [.str "name", .str nm]) hp1
      have kk := Keeps.of_same (K := K) (Same.new hp1 (.tup [.str "name", .str nm]))
      have g1' := kk _ _ g1
      have g2' := kk _ _ g2
      generalize (upd F2 p1 (.tup [.str "name", .str nm])) = F3 at x1 s1' g1' g2'
      have hb : (if 12 < hi - lo + 1 then (12 : Int) else hi - lo + 1) ≤ 12 := by split <;> omega
      have hb2 : (if 12 < hi - lo + 1 then (12 : Int) else hi - lo + 1) ≤ hi - lo + 1 := by split <;> omega
      generalize (if 12 < hi - lo + 1 then (12 : Int) else hi - lo + 1) = hg at hb hb2
      refine ⟨_, rfl, pk, _, _, _, rfl, rfl, g1', rfl, pk2, _, _, _, rfl, rfl, g2', rfl, _, rfl, _, rfl, a, _, rfl, s1'.s, by omega, fun r2 F4 s2 r20 r21 => ⟨_, _, rfl, rfl, by show 2 ≤ sizeLine; decide, fun p2 hp2 => ⟨by show 3 ≤ sizeLine; decide, fun p3 hp3 => ?_⟩⟩⟩
      have x1' := (x1.keep (Keeps.of_stp s2 s1'.s)).keep (Keeps.of_same (Same.new hp2 (.tup [.str "num", .int (lo + r2)])))
      have x2 : ExAt K (upd F4 p2 (.tup [.str "num", .int (lo + r2)])) (.num (lo + r2)) (.ref p2) := ⟨p2, rfl, SqT.of upd_same⟩
      have k3 := Keeps.of_same (K := K) (Same.new hp3 (.tup [.str sg, .ref p1, .ref p2]))
      refine q _ (.bin sg (.name nm) (.num (lo + r2))) _ (((s1'.trans s2).new hp2).new hp3) ⟨⟨p3, _, _, rfl, SqT.of upd_same, x1'.keep k3, x2.keep k3⟩, ?_, .inr ⟨rfl, .inl ⟨sgo, (nmx 0).2, rfl⟩⟩⟩
      exact ⟨cm_ops sgo, (nmx 1).1, Ex.ok_up (n := 1) (m := 2) (by omega) (by show -1000000000 ≤ lo + r2 ∧ lo + r2 ≤ 1000000000; omega)⟩
    · exact ⟨st01.trans st2, ⟨pk2, rfl, st2.rd h2 st01.s⟩, st2.rd h1 st01.s, none, rfl⟩
  clear h1 h2 st01 st1 stF
  rintro σ F2 ⟨stF, h2, h1, v6, rfl⟩
  refine ⟨_, rfl, _, rfl, _, rfl, _, rfl, a, p, env, 1, sm, rfl, stF.s, hE0.stp hS stF, by decide, by decide, fun v1 e1 F3 st3 x1 => ?_⟩
  refine ⟨_, rfl, pk, _, _, _, rfl, rfl, st3.rd h1 stF.s, rfl, by show 2 ≤ sizeLine; decide, fun p1 hp1 => ⟨by show 3 ≤ sizeLine; decide, fun p3 hp3 => ?_⟩⟩
  have x1' := x1.keep (Keeps.of_same (Same.new hp1 (.tup [.str "name", .str nm])))
  have x2 : ExAt K (upd F3 p1 (.tup [.str "name", .str nm])) (.name nm) (.ref p1) := ⟨p1, rfl, SqT.of upd_same⟩
  have k3 := Keeps.of_same (K := K) (Same.new hp3 (.tup [.str sg, v1, .ref p1]))
  exact q _ (.bin sg e1 (.name nm)) _ (((stF.trans st3).new hp1).new hp3) ⟨⟨p3, _, _, rfl, SqT.of upd_same, x1'.h.keep k3, x2.keep k3⟩, ⟨cm_ops sgo, x1.o, (nmx 1).1⟩, .inr ⟨rfl, .inl ⟨sgo, x1.t, (nmx 0).2⟩⟩⟩
theorem ok_l_reference (T : Txt w K mg) : FnOk P w K mg base CX0 3 T.a_l_reference T.d_l_reference p_l_reference (spRfx K) := by
  have g_l_pick := ok_l_pick (P := P) (w := w) (base := base) T
  have g_l_one := ok_l_oneQ (P := P) (w := w) (K := K) (base := base) T
  have g_l_named := ok_l_named (P := P) (w := w) (K := K) (base := base) T
  refine T.F_l_reference.ok sc_l_reference (fun vs H Q E h => ?_) (fun cdv A outer s H vs Q E hr h => ?_)
  · obtain ⟨a, p, env, kv, s, rfl, _⟩ := h
    rfl
  obtain ⟨a, p, env, kv, sn, rfl, hS, hE, hk, hs1, hs2, q⟩ := h
  refine ⟨_, (pss_cons (ps_set (i := 3) sc_l_reference.nd rfl (Or.inl rfl) (pe_call g_l_named (hr.mono (by first | decide | omega)) rfl T.m_l_named T.F_l_named.kp T.b_l_named .nil pass0 (pa_cons (pv 1) (pa_cons (pv 2) pa_nil))))
      (C8.pss_cut (ps_if (PW.pt (pw_or (pt_cmpR (op_eqL0 hr.units0) (pv 3) (pe_lst pa_nil) (nomark _)) (pw_or1 (pt_cmpR op_eq (pe_call g_l_pick (hr.mono (by first | decide | omega)) rfl T.m_l_pick T.F_l_pick.kp T.b_l_pick .nil pass0 (pa_cons (pv 0) (pa_cons pe_int pa_nil))) pe_int (nomark _))))) (pss_one (ps_ret (pe_tup (pa_cons pe_str pa_nil)))) pss_nil)
      (pss_one (ps_ret (pe_tup (pa_cons pe_str (pa_cons (pe_call g_l_one (hr.mono (by first | decide | omega)) rfl T.m_l_one T.F_l_one.kp T.b_l_one .nil pass0 (pa_cons (pv 0) (pa_cons (pv 3) pa_nil))) pa_nil))))))), ?_⟩
  refine ⟨_, rfl, _, rfl, p, env, kv, some (.ref sn), rfl, hE, hk, ⟨hs1, hs2⟩, fun D G nD sG eD => ?_⟩
  have nDa : D ≠ a := (hS.ne nD).symm
  have lnP := nms_len (p := fun a => decide (some a.2 = some (Kd.ref sn))) (env := env)
  have ln := hE.ln
  have st0 : Stp a H G := Stp.of_same hS sG
  refine ⟨fun σ F => Stp a H F ∧ F D = some (.lst ((nmsOf (fun a => decide (some a.2 = some (Kd.ref sn))) env).map V.str)) ∧ nmsOf (fun a => decide (some a.2 = some (Kd.ref sn))) env ≠ [] ∧ σ = [some (.ref a), some (.ref p), some kv, some (.ref D)], ?_, ?_⟩
  · have nul : ∀ F : Hp, Stp a H F → ∀ p1, F p1 = none → Q (.ref p1) (upd F p1 (.tup [.str "null"])) := fun F st p1 hp1 => q _ .null _ (st.new hp1) ⟨⟨p1, rfl, SqT.of upd_same⟩, trivial, sn, rfl⟩
    refine ⟨_, rfl, by show 0 ≤ sizeLine; decide, fun z hz => ⟨D, z, _, rfl, rfl, SqL.of (Same.new hz _ _ _ eD), SqL.of upd_same, _, rfl, ite2 (fun _ => iteT ⟨by show 1 ≤ sizeLine; decide, fun p1 hp1 => nul _ (st0.new hz) p1 hp1⟩) (fun ne => ?_)⟩⟩
    have stZ := st0.new (o := .lst []) hz
    have eZ := Same.new hz (.lst []) _ _ eD
    refine ⟨_, rfl, a, 5, rfl, stZ.s, by decide, fun r F1 s1 r0 r1 => ⟨rfl, _, rfl, ite2 (fun _ => ⟨by show 1 ≤ sizeLine; decide, fun p1 hp1 => nul _ (stZ.trans s1) p1 hp1⟩) (fun _ => ?_)⟩⟩
    exact ⟨stZ.trans s1, s1.k _ _ nDa eZ, fun z => by rw [z] at ne; exact ne rfl, rfl⟩
  rintro σ F ⟨stF, eF, ne, rfl⟩
  refine ⟨_, rfl, _, rfl, a, D, _, rfl, stF.s, .inl ⟨nDa, SqL.of eF⟩, by rw [List.length_map]; exact List.length_pos_iff.mpr ne, by rw [List.length_map]; omega, fun v F1 hv st1 => ⟨by show 2 ≤ sizeLine; decide, fun p1 hp1 => ?_⟩⟩
  obtain ⟨zn, hzn, rfl⟩ := str_mem hv
  have tn := name_ty (t := .ref sn) hE.ok hzn fun k hk => by
    have := of_decide_eq_true hk
    have := Option.some.inj this
    subst this
    rfl
  exact q _ (.name zn) _ ((stF.trans st1).new hp1) ⟨⟨p1, rfl, SqT.of upd_same⟩, tn.1, tn.2⟩
end
/-! ### drawn programs: flags, expressions -/
def flagP (env : List Pk) : List Str := nmsOf (fun a => decide (some a.2 = some Kd.flag)) env
def spXp (K : PySem.W.Frag) : Sp := fun vs H Q _ => ∃ (a p : Addr) (env : List Pk) (kv : V) (k : Kd) (sm : Bool), vs = [.ref a, .ref p, kv, .bl sm] ∧ Src H a ∧ EnvAt K H p env ∧ KdAt K H kv k ∧ k.fine ∧ ∀ v e H', Stp a H H' → ExOf K H' env 4 k.ty v e → Q v H'
theorem flag_ty {k : Kd} (h : decide (some k = some Kd.flag) = true) : k.ty = .flag := by
  have := Option.some.inj (of_decide_eq_true h)
  subst this
  rfl
section
variable {P : Program} {w : World} {K : PySem.W.Frag} {mg : Str → Option Value} {base : Heap}
theorem ok_truth0 (T : Txt w K mg) {m : Nat} (g_l_truth : FnOk P w K mg base CX0 (m + 6) T.a_l_truth T.d_l_truth p_l_truth (spTr K m)) : FnOk P w K mg base CX0 (m + 7) T.a_l_truth T.d_l_truth p_l_truth (spTr K (m + 1)) := by
  have g_l_pick := ok_l_pick (P := P) (w := w) (base := base) T
  have g_l_one := ok_l_oneQ (P := P) (w := w) (K := K) (base := base) T
  have g_l_named := ok_l_named (P := P) (w := w) (K := K) (base := base) T
  have g_l_reference := ok_l_reference (P := P) (w := w) (K := K) (base := base) T
  have g_l_compare := ok_l_compare (P := P) (w := w) (K := K) (base := base) T
  refine T.F_l_truth.ok sc_l_truth (fun vs H Q E h => ?_) (fun cdv A outer s H vs Q E hr h => ?_)
  · obtain ⟨a, p, env, d, sm, rfl, _⟩ := h
    rfl
  obtain ⟨a, p, env, d, sm, rfl, hS, hE, hd0, hd, q⟩ := h
  refine ⟨_, (pss_cons (ps_set (i := 4) sc_l_truth.nd rfl (Or.inl rfl) (pe_call g_l_pick (hr.mono (by first | decide | omega)) rfl T.m_l_pick T.F_l_pick.kp T.b_l_pick .nil pass0 (pa_cons (pv 0) (pa_cons pe_int pa_nil))))
      (pss_cons (ps_set (i := 5) sc_l_truth.nd rfl (Or.inl rfl) (pe_call g_l_named (hr.mono (by first | decide | omega)) rfl T.m_l_named T.F_l_named.kp T.b_l_named .nil pass0 (pa_cons (pv 1) (pa_cons (pe_tup (pa_cons pe_str pa_nil)) pa_nil))))
      (pss_cons (ps_setLc (i := 6) (own := [("_law_pair", 7)]) (g := gName 7) rfl sc_l_truth.nd rfl rfl (sw_true rfl rfl rfl (by decide +kernel)) (pi_list (pv 1)) (blkOk_by (own := [("_law_pair", 7)]) (N := n_l_truth) (sc := defScope s_l_truth) (by decide +kernel)) (fun _ _ _ _ _ => (pg_name (i := 7) sc_l_truth.nd rfl (Or.inl rfl))) (fun _ _ _ _ _ => (pts_one (pt_cmpR op_eq (pe_ix (show IxR _ (rIxT K) from ix_tup) (pe_ix (show IxR _ (rIxT K) from ix_tup) (pv 7) pe_int (fun _ _ => rfl)) pe_int (fun _ _ => rfl)) pe_str (nomark _)))) (fun _ _ _ _ _ => (pv 7)))
      (C8.pss_cut (ps_if (PW.pt (pw_and (pt_cmpR op_gt (pv 2) pe_int (nomark _)) (pw_and1 (pt_cmpR op_lt (pv 4) pe_int (nomark _))))) (pss_cons (ps_set (i := 8) sc_l_truth.nd rfl (Or.inl rfl) (pe_call g_l_truth (hr.mono (by first | decide | omega)) rfl T.m_l_truth T.F_l_truth.kp T.b_l_truth .nil pass0 (pa_cons (pv 0) (pa_cons (pv 1) (pa_cons (pe_op op_sub (pv 2) pe_int) (pa_cons (pv 3) pa_nil))))))
      (pss_one (ps_ret (pe_tup (pa_cons (pe_ix ix_list (pe_lst (pa_cons pe_str (pa_cons pe_str pa_nil))) (pv 4) (fun _ _ => rfl)) (pa_cons (pv 8) (pa_cons (pe_call g_l_truth (hr.mono (by first | decide | omega)) rfl T.m_l_truth T.F_l_truth.kp T.b_l_truth .nil pass0 (pa_cons (pv 0) (pa_cons (pv 1) (pa_cons (pe_op op_sub (pv 2) pe_int) (pa_cons (pv 3) pa_nil))))) pa_nil))))))) pss_nil)
      (C8.pss_cut (ps_if (PW.pt (pw_and (pt_cmpR op_gt (pv 2) pe_int (nomark _)) (pw_and1 (pt_cmpR op_eq (pv 4) pe_int (nomark _))))) (pss_one (ps_ret (pe_tup (pa_cons pe_str (pa_cons (pe_call g_l_truth (hr.mono (by first | decide | omega)) rfl T.m_l_truth T.F_l_truth.kp T.b_l_truth .nil pass0 (pa_cons (pv 0) (pa_cons (pv 1) (pa_cons (pe_op op_sub (pv 2) pe_int) (pa_cons (pv 3) pa_nil))))) pa_nil))))) pss_nil)
      (C8.pss_cut (ps_if (PW.pt (pw_and (pt_cmpR op_lt (pv 4) pe_int (nomark _)) (pw_and1 (pt_cmpR (op_neL0 hr.units0) (pv 5) (pe_lst pa_nil) (nomark _))))) (pss_one (ps_ret (pe_tup (pa_cons pe_str (pa_cons (pe_call g_l_one (hr.mono (by first | decide | omega)) rfl T.m_l_one T.F_l_one.kp T.b_l_one .nil pass0 (pa_cons (pv 0) (pa_cons (pv 5) pa_nil))) pa_nil))))) pss_nil)
      (C8.pss_cut (ps_if (PW.pt (pw_and (pt_cmpR op_lt (pv 4) pe_int (nomark _)) (pw_and1 (pt_cmpR (op_neL0 hr.units0) (pv 6) (pe_lst pa_nil) (nomark _))))) (pss_cons (ps_set (i := 7) sc_l_truth.nd rfl (Or.inl rfl) (pe_call g_l_one (hr.mono (by first | decide | omega)) rfl T.m_l_one T.F_l_one.kp T.b_l_one .nil pass0 (pa_cons (pv 0) (pa_cons (pv 6) pa_nil))))
      (pss_one (ps_ret (pe_tup (pa_cons pe_str (pa_cons (pe_tup (pa_cons pe_str (pa_cons (pe_ix ix_tup (pv 7) pe_int (fun _ _ => rfl)) pa_nil))) (pa_cons (pe_call g_l_reference (hr.mono (by first | decide | omega)) rfl T.m_l_reference T.F_l_reference.kp T.b_l_reference .nil pass0 (pa_cons (pv 0) (pa_cons (pv 1) (pa_cons (pe_ix ix_tup (pv 7) pe_int (fun _ _ => rfl)) pa_nil)))) pa_nil))))))) pss_nil)
      (pss_cons (ps_setLc (i := 9) (own := [("_law_pair", 7)]) (g := gName 7) rfl sc_l_truth.nd rfl rfl (sw_true rfl rfl rfl (by decide +kernel)) (pi_list (pv 1)) (blkOk_by (own := [("_law_pair", 7)]) (N := n_l_truth) (sc := defScope s_l_truth) (by decide +kernel)) (fun _ _ _ _ _ => (pg_name (i := 7) sc_l_truth.nd rfl (Or.inl rfl))) (fun _ _ _ _ _ => (pts_one (pt_cmpR op_eq (pe_ix (show IxR _ (rIxT K) from ix_tup) (pe_ix (show IxR _ (rIxT K) from ix_tup) (pv 7) pe_int (fun _ _ => rfl)) pe_int (fun _ _ => rfl)) pe_str (nomark _)))) (fun _ _ _ _ _ => (pe_ix (show IxR _ (rIxT K) from ix_tup) (pv 7) pe_int (fun _ _ => rfl))))
      (C8.pss_cut (ps_if (PW.pt (pw_and (pt_cmpR (op_eqL0 hr.units0) (pv 9) (pe_lst pa_nil) (nomark _)) (pw_and1 (pt_cmpR (op_neL0 hr.units0) (pv 5) (pe_lst pa_nil) (nomark _))))) (pss_one (ps_ret (pe_tup (pa_cons pe_str (pa_cons (pe_call g_l_one (hr.mono (by first | decide | omega)) rfl T.m_l_one T.F_l_one.kp T.b_l_one .nil pass0 (pa_cons (pv 0) (pa_cons (pv 5) pa_nil))) pa_nil))))) pss_nil)
      (C8.pss_cut (ps_if (PW.pt (pw_or (pt_cmpR (op_eqL0 hr.units0) (pv 9) (pe_lst pa_nil) (nomark _)) (pw_or1 (PW.pt (pw_and (pt_cmpR op_eq (pv 4) pe_int (nomark _)) (pw_and1 (pt_cmpR op_eq (pe_call g_l_pick (hr.mono (by first | decide | omega)) rfl T.m_l_pick T.F_l_pick.kp T.b_l_pick .nil pass0 (pa_cons (pv 0) (pa_cons pe_int pa_nil))) pe_int (nomark _)))))))) (pss_one (ps_ret (pe_tup (pa_cons pe_str (pa_cons (pe_cmpR op_gt (pe_call g_l_pick (hr.mono (by first | decide | omega)) rfl T.m_l_pick T.F_l_pick.kp T.b_l_pick .nil pass0 (pa_cons (pv 0) (pa_cons pe_int pa_nil))) pe_int (nomark _)) pa_nil))))) pss_nil)
      (pss_one (ps_ret (pe_call g_l_compare (hr.mono (by first | decide | omega)) rfl T.m_l_compare T.F_l_compare.kp T.b_l_compare .nil pass0 (pa_cons (pv 0) (pa_cons (pv 1) (pa_cons (pv 3) pa_nil)))))))))))))))), ?_⟩
  have ok := hE.ok
  have ln := hE.ln
  have lnF : (flagP env).length ≤ 40 := Nat.le_trans nms_len ln
  have lnR := fP_len (f := Kd.isR) (env := env)
  refine ⟨_, rfl, a, 12, rfl, hS, by decide, fun c G0 st0 c0 c1 => ?_⟩
  -- flags
  refine ⟨_, rfl, by show 1 ≤ sizeLine; decide, fun t ht => ?_⟩
  have s1 := st0.new (o := .tup [.str "flag"]) ht
  refine ⟨p, env, .ref t, some .flag, rfl, hE.stp hS s1, ⟨t, rfl, SqT.of upd_same⟩, trivial, fun Df G1 nDf sG1 eDf => ?_⟩
  have s2 := s1.same sG1
  have nDfa : Df ≠ a := (s1.s.ne nDf).symm
  have eDf : G1 Df = some (.lst ((flagP env).map V.str)) := eDf
  clear s1 sG1 st0
  -- references
  have hE2 := hE.stp hS s2
  obtain ⟨⟨vs, hp, hP⟩, _, _⟩ := hE2
  have lv := hP.len
  refine ⟨_, rfl, p, rfl, ⟨_, SqL.of hp⟩, fun D hD => ?_⟩
  have nDa : D ≠ a := (s2.s.ne hD).symm
  generalize hH0 : G1 = H0 at *
  clear hH0
  refine lc_it (walk_list (xs := vs)) (fun i G => Same H0 G ∧ PkLst K G D (fP Kd.isR (env.take i))) ⟨Same.new hD _, [], upd_same, trivial⟩ (fun i G _ P => SqL.of (P.1 _ _ hp)) ?_ ?_
  · rintro i x G G' hi ⟨sG, eD⟩ ⟨rfl, ex⟩
    obtain ⟨⟨nm, kd⟩, ea, pk, kv2, rfl, h1, pk2, rfl, h2⟩ := hP.atv ex
    have kp := Keeps.of_same (K := K) sG
    have yes : Kd.isR kd = true → ∃ acc, G' D = some (.lst acc) ∧ acc.length < sizeLine ∧ (Same H0 (upd G' D (.lst (acc ++ [.ref pk]))) ∧ PkLst K (upd G' D (.lst (acc ++ [.ref pk]))) D (fP Kd.isR (env.take (i + 1)))) := fun c => by
      have := fP_len (f := Kd.isR) (env := env.take i)
      rw [List.length_take] at this
      obtain ⟨acc, e1, e2, e3⟩ := eD.push (a := (nm, kd)) (v := .ref pk) ⟨pk, _, rfl, kp _ _ h1, pk2, rfl, kp _ _ h2⟩ (by omega)
      rw [fP_yes ea c]
      exact ⟨acc, e1, e2, fun b o e => by rw [upd_ne (ne_of_none e hD)]; exact sG _ _ e, e3⟩
    have no : Kd.isR kd = false → (Same H0 G' ∧ PkLst K G' D (fP Kd.isR (env.take (i + 1)))) := fun c => by
      rw [fP_no ea c]
      exact ⟨sG, eD⟩
    refine ⟨rfl, ?_⟩
    cases kd with
    | flag => exact ⟨_, rfl, pk, _, _, _, rfl, rfl, kp _ _ h1, rfl, pk2, _, _, _, rfl, rfl, kp _ _ h2, rfl, rfl, _, rfl, ifF (by decide +kernel) (no rfl)⟩
    | ref s => exact ⟨_, rfl, pk, _, _, _, rfl, rfl, kp _ _ h1, rfl, pk2, _, _, _, rfl, rfl, kp _ _ h2, rfl, rfl, _, rfl, ifT (by decide +kernel) ⟨_, rfl, yes rfl⟩⟩
    | num lo hi => exact ⟨_, rfl, pk, _, _, _, rfl, rfl, kp _ _ h1, rfl, pk2, _, _, _, rfl, rfl, kp _ _ h2, rfl, rfl, _, rfl, ifF (by decide +kernel) (no rfl)⟩
  rintro G ⟨sG, eD⟩
  rw [lv, List.take_length] at eD
  have s3 := s2.same sG
  have eDf := sG _ _ eDf
  clear s2 sG hp hP hD lv nDf
  generalize hDr : D = Dr at *
  clear hDr
  -- and, or
  refine ⟨fun σ F => Stp a H F ∧ F Df = some (.lst ((flagP env).map V.str)) ∧ PkLst K F Dr (fP Kd.isR env) ∧ ∃ v8 : Option V, σ = [some (.ref a), some (.ref p), some (.int d), some (.bl sm), some (.int c), some (.ref Df), some (.ref Dr), none, v8, none], ?_, ?_⟩
  · refine ⟨_, rfl, _, _, rfl, rfl, _, rfl, ite2 (fun cd => ⟨_, rfl, _, _, rfl, rfl, _, rfl, ite2 (fun c2 => ?_) (fun _ => ⟨s3, eDf, eD, none, rfl⟩)⟩) (fun _ => iteF ⟨s3, eDf, eD, none, rfl⟩)⟩
    have cd : 0 < d := of_decide_eq_true cd
    have c2 : c < 2 := of_decide_eq_true c2
    refine ⟨_, rfl, _, rfl, _, rfl, _, _, rfl, rfl, _, rfl, a, p, env, d - 1, sm, rfl, s3.s, hE.stp hS s3, by omega, by omega, fun v1 e1 F1 st1 x1 => ?_⟩
    refine ⟨by show 2 ≤ sizeLine; decide, fun l hl => ?_⟩
    have hi : c.toNat < (loOps.map V.str).length := by show _ < 2; omega
    have e0 := atI_int (xs := loOps.map V.str) c0 hi
    obtain ⟨sg, sgo, esg⟩ := str_mem (List.getElem_mem hi)
    rw [esg] at e0
    have sL := Same.new hl (.lst (loOps.map V.str))
    have stL := (s3.trans st1).same sL
    refine ⟨_, rfl, l, _, _, _, rfl, rfl, SqL.of upd_same, e0, ?_⟩
    refine ⟨_, rfl, _, rfl, _, rfl, _, rfl, _, _, rfl, rfl, _, rfl, a, p, env, d - 1, sm, rfl, stL.s, hE.stp hS stL, by omega, by omega, fun v2 e2 F2 st2 x2 => ⟨by show 3 ≤ sizeLine; decide, fun p3 hp3 => ?_⟩⟩
    have x1' := (x1.keep (Keeps.of_same sL)).keep (Keeps.of_stp st2 stL.s)
    have k3 := Keeps.of_same (K := K) (Same.new hp3 (.tup [.str sg, v1, v2]))
    refine q _ (.bin sg e1 e2) _ ((stL.trans st2).new hp3) ⟨⟨p3, _, _, rfl, SqT.of upd_same, (x1'.keep k3).h, (x2.keep k3).h⟩, ?_, .inr ⟨rfl, .inr (.inl ⟨sgo, x1.t, x2.t⟩)⟩⟩
    exact ⟨lo_ops sgo, Ex.ok_up (m := d.toNat + 2) (by omega) x1.o, Ex.ok_up (m := d.toNat + 2) (by omega) x2.o⟩
  clear s3 eDf eD
  rintro σ F ⟨s3, eDf, eD, v8, rfl⟩
  -- not
  refine ⟨fun σ F => Stp a H F ∧ F Df = some (.lst ((flagP env).map V.str)) ∧ PkLst K F Dr (fP Kd.isR env) ∧ σ = [some (.ref a), some (.ref p), some (.int d), some (.bl sm), some (.int c), some (.ref Df), some (.ref Dr), none, v8, none], ?_, ?_⟩
  · refine ⟨_, rfl, _, _, rfl, rfl, _, rfl, ite2 (fun cd => ⟨_, rfl, rfl, _, rfl, ite2 (fun c2 => ?_) (fun _ => ⟨s3, eDf, eD, rfl⟩)⟩) (fun _ => iteF ⟨s3, eDf, eD, rfl⟩)⟩
    have cd : 0 < d := of_decide_eq_true cd
    refine ⟨_, rfl, _, rfl, _, rfl, _, _, rfl, rfl, _, rfl, a, p, env, d - 1, sm, rfl, s3.s, hE.stp hS s3, by omega, by omega, fun v1 e1 F1 st1 x1 => ⟨by show 2 ≤ sizeLine; decide, fun p3 hp3 => ?_⟩⟩
    have k3 := Keeps.of_same (K := K) (Same.new hp3 (.tup [.str "not", v1]))
    exact q _ (.not e1) _ ((s3.trans st1).new hp3) ⟨⟨p3, _, rfl, SqT.of upd_same, (x1.keep k3).h⟩, Ex.ok_up (m := d.toNat + 2) (by omega) x1.o, rfl, x1.t⟩
  clear s3 eDf eD
  rintro σ F ⟨s3, eDf, eD, rfl⟩
  have nam : ∀ F1 F2 : Hp, Stp a H F1 → F1 Df = some (.lst ((flagP env).map V.str)) → ∀ v p1, v ∈ (flagP env).map V.str → Stp a F1 F2 → F2 p1 = none → Q (.ref p1) (upd F2 p1 (.tup [.str "name", v])) := fun F1 F2 st _ v p1 hv st1 hp1 => by
    obtain ⟨zn, hzn, rfl⟩ := str_mem hv
    have tn := name_ty (t := .flag) ok hzn fun k hk => flag_ty hk
    exact q _ (.name zn) _ ((st.trans st1).new hp1) ⟨⟨p1, rfl, SqT.of upd_same⟩, Ex.ok_up (m := d.toNat + 3) (by omega) tn.1, tn.2⟩
  have lmF : ((flagP env).map V.str).length < 1000 := by rw [List.length_map]; omega
  -- a flag
  refine ⟨fun σ F => Stp a H F ∧ F Df = some (.lst ((flagP env).map V.str)) ∧ PkLst K F Dr (fP Kd.isR env) ∧ σ = [some (.ref a), some (.ref p), some (.int d), some (.bl sm), some (.int c), some (.ref Df), some (.ref Dr), none, v8, none], ?_, ?_⟩
  · refine ⟨_, rfl, _, _, rfl, rfl, _, rfl, ite2 (fun _ => ⟨_, rfl, by show 0 ≤ sizeLine; decide, fun z hz => ⟨Df, z, _, rfl, rfl, SqL.of (Same.new hz _ _ _ eDf), SqL.of upd_same, _, rfl, ite2 (fun ne => ?_) (fun _ => ⟨s3.new hz, Same.new hz _ _ _ eDf, eD.same (Same.new hz _), rfl⟩)⟩⟩) (fun _ => iteF ⟨s3, eDf, eD, rfl⟩)⟩
    have eDf' := Same.new hz (.lst []) _ _ eDf
    have s3' := s3.new (o := .lst []) hz
    exact ⟨_, rfl, _, rfl, a, Df, _, rfl, s3'.s, .inl ⟨nDfa, SqL.of eDf'⟩, List.length_pos_iff.mpr (fun z => by rw [z] at ne; cases ne), lmF, fun v F1 hv st1 => ⟨by show 2 ≤ sizeLine; decide, fun p1 hp1 => nam _ _ s3' eDf' v p1 hv st1 hp1⟩⟩
  clear s3 eDf eD
  rintro σ F ⟨s3, eDf, eD, rfl⟩
  -- same
  refine ⟨fun σ F => Stp a H F ∧ F Df = some (.lst ((flagP env).map V.str)) ∧ σ = [some (.ref a), some (.ref p), some (.int d), some (.bl sm), some (.int c), some (.ref Df), some (.ref Dr), none, v8, none], ?_, ?_⟩
  · obtain ⟨us, e1, e2⟩ := eD
    refine ⟨_, rfl, _, _, rfl, rfl, _, rfl, ite2 (fun _ => ⟨_, rfl, by show 0 ≤ sizeLine; decide, fun z hz => ⟨Dr, z, us, rfl, rfl, SqL.of (Same.new hz _ _ _ e1), SqL.of upd_same, _, rfl, ite2 (fun ne => ?_) (fun _ => ⟨s3.new hz, Same.new hz _ _ _ eDf, rfl⟩)⟩⟩) (fun _ => iteF ⟨s3, eDf, rfl⟩)⟩
    have e1' := Same.new hz (.lst []) _ _ e1
    have e2' := PksL.keep (Keeps.of_same (Same.new hz (.lst []))) e2
    have s3' := s3.new (o := .lst []) hz
    refine ⟨_, rfl, _, rfl, a, Dr, us, rfl, s3'.s, .inl ⟨nDa, SqL.of e1'⟩, List.length_pos_iff.mpr (fun z => by rw [z] at ne; cases ne), by have := e2.len; omega, fun v F1 hv st1 => ?_⟩
    obtain ⟨⟨nm, kd⟩, ma, pk, kv2, rfl, h1, pk2, rfl, h2⟩ := (e2'.keep (Keeps.of_stp st1 s3'.s)).mem hv
    obtain ⟨mE, kn⟩ := mem_fP ma
    obtain ⟨sn, rfl⟩ := kd_ref kn
    have fine := (ok _ mE).2.2
    have nml := (ok _ mE).2.1
    have s4 := s3'.trans st1
    refine ⟨_, rfl, pk, _, _, _, rfl, rfl, h1, rfl, by show 2 ≤ sizeLine; decide, fun p1 hp1 => ?_⟩
    have x1 : ExAt K (upd F1 p1 (.tup [.str "name", .str nm])) (.name nm) (.ref p1) := ⟨p1, rfl, SqT.of upd_same⟩
    have kk := Keeps.of_same (K := K) (Same.new hp1 (.tup [.str "name", .str nm]))
    have h1' := kk _ _ h1
    have h2' := kk _ _ h2
    have s5 := s4.new (o := .tup [.str "name", .str nm]) hp1
    refine ⟨_, rfl, _, rfl, _, rfl, pk, _, _, _, rfl, rfl, h1', rfl, a, p, env, .ref pk2, sn, rfl, s5.s, hE.stp hS s5, ⟨pk2, rfl, h2'⟩, fine.1, fine.2, fun v2 e2 F2 st2 x2 => ⟨by show 3 ≤ sizeLine; decide, fun p3 hp3 => ?_⟩⟩
    have k3 := Keeps.of_same (K := K) (Same.new hp3 (.tup [.str "same", .ref p1, v2]))
    refine q _ (.bin "same" (.name nm) e2) _ ((s5.trans st2).new hp3) ⟨⟨p3, _, _, rfl, SqT.of upd_same, (x1.keep (Keeps.of_stp st2 s5.s)).keep k3, (x2.keep k3).h⟩, ?_, .inr ⟨rfl, .inr (.inr ⟨rfl, sn, ⟨_, mE, rfl⟩, x2.t⟩)⟩⟩
    exact ⟨by decide +kernel, Ex.ok_up (n := 1) (m := d.toNat + 2) (by omega) nml, Ex.ok_up (m := d.toNat + 2) (by omega) x2.o⟩
  clear s3 eDf eD
  rintro σ F ⟨s3, eDf, rfl⟩
  -- numbers
  have hE3 := hE.stp hS s3
  obtain ⟨⟨vs, hp, hP⟩, _, _⟩ := hE3
  have lv := hP.len
  refine ⟨_, rfl, p, rfl, ⟨_, SqL.of hp⟩, fun D hD => ?_⟩
  have nDpa : D ≠ a := (s3.s.ne hD).symm
  generalize hH0 : F = H0 at *
  clear hH0
  refine lc_it (walk_list (xs := vs)) (fun i G => Same H0 G ∧ G D = some (.lst ((numP (env.take i)).map V.str))) ⟨Same.new hD _, upd_same⟩ (fun i G _ P => SqL.of (P.1 _ _ hp)) ?_ ?_
  · rintro i x G G' hi ⟨sG, eD⟩ ⟨rfl, ex⟩
    obtain ⟨⟨nm, kd⟩, ea, pk, kv2, rfl, h1, pk2, rfl, h2⟩ := hP.atv ex
    have kp := Keeps.of_same (K := K) sG
    have yes : kd.isN = true → ∃ acc, G' D = some (.lst acc) ∧ acc.length < sizeLine ∧ (Same H0 (upd G' D (.lst (acc ++ [.str nm]))) ∧ (upd G' D (.lst (acc ++ [.str nm]))) D = some (.lst ((numP (env.take (i + 1))).map V.str))) := fun c => by
      refine ⟨_, eD, lt_line ?_, fun b o e => by rw [upd_ne (ne_of_none e hD)]; exact sG _ _ e, ?_⟩
      · rw [List.length_map]
        have := nms_len (p := fun a => a.2.isN) (env := env.take i)
        rw [List.length_take] at this
        unfold numP
        omega
      · unfold numP
        rw [nms_yes ea c, List.map_append]
        exact upd_same
    have no : kd.isN = false → (Same H0 G' ∧ G' D = some (.lst ((numP (env.take (i + 1))).map V.str))) := fun c => by
      unfold numP
      rw [nms_no ea c]
      exact ⟨sG, eD⟩
    refine ⟨rfl, ?_⟩
    cases kd with
    | flag => exact ⟨_, rfl, pk, _, _, _, rfl, rfl, kp _ _ h1, rfl, pk2, _, _, _, rfl, rfl, kp _ _ h2, rfl, rfl, _, rfl, ifF (by decide +kernel) (no rfl)⟩
    | ref s => exact ⟨_, rfl, pk, _, _, _, rfl, rfl, kp _ _ h1, rfl, pk2, _, _, _, rfl, rfl, kp _ _ h2, rfl, rfl, _, rfl, ifF (by decide +kernel) (no rfl)⟩
    | num lo hi => exact ⟨_, rfl, pk, _, _, _, rfl, rfl, kp _ _ h1, rfl, pk2, _, _, _, rfl, rfl, kp _ _ h2, rfl, rfl, _, rfl, ifT (by decide +kernel) ⟨_, rfl, pk, _, _, _, rfl, rfl, kp _ _ h1, rfl, yes rfl⟩⟩
  rintro G ⟨sG, eD⟩
  rw [lv, List.take_length] at eD
  have s3 := s3.same sG
  have eDf := sG _ _ eDf
  clear sG hp hP hD lv
  refine ⟨fun σ F => Stp a H F ∧ F D = some (.lst ((numP env).map V.str)) ∧ σ = [some (.ref a), some (.ref p), some (.int d), some (.bl sm), some (.int c), some (.ref Df), some (.ref Dr), none, v8, some (.ref D)], ?_, ?_⟩
  · refine ⟨_, rfl, by show 0 ≤ sizeLine; decide, fun z hz => ⟨D, z, _, rfl, rfl, SqL.of (Same.new hz _ _ _ eD), SqL.of upd_same, _, rfl, ite2 (fun _ => ?_) (fun _ => iteF ⟨s3.new hz, Same.new hz _ _ _ eD, rfl⟩)⟩⟩
    have eD' := Same.new hz (.lst []) _ _ eD
    have eDf' := Same.new hz (.lst []) _ _ eDf
    have s3' := s3.new (o := .lst []) hz
    generalize (upd G z (.lst [])) = G1 at s3' eD' eDf'
    refine ⟨_, rfl, by show 0 ≤ sizeLine; decide, fun z hz => ⟨Df, z, _, rfl, rfl, SqL.of (Same.new hz _ _ _ eDf'), SqL.of upd_same, _, rfl, ite2 (fun ne => ?_) (fun _ => ⟨s3'.new hz, Same.new hz _ _ _ eD', rfl⟩)⟩⟩
    have eDf2 := Same.new hz (.lst []) _ _ eDf'
    have s4 := s3'.new (o := .lst []) hz
    exact ⟨_, rfl, _, rfl, a, Df, _, rfl, s4.s, .inl ⟨nDfa, SqL.of eDf2⟩, List.length_pos_iff.mpr (fun z => by rw [z] at ne; cases ne), lmF, fun v F1 hv st1 => ⟨by show 2 ≤ sizeLine; decide, fun p1 hp1 => nam _ _ s4 eDf2 v p1 hv st1 hp1⟩⟩
  clear s3 eDf eD
  rintro σ F ⟨s3, eD, rfl⟩
  -- a constant
  have cst : ∀ F : Hp, Stp a H F → tTup (tCons (tC (.str "flag")) (tCons (tOp (rI0 fun i j => V.bl (decide (j < i))) (tCall spPick [] E0 (tCons (tVar 0) (tCons (tC (.int 3)) tNil))) (tC (.int 0))) tNil)) [some (.ref a), some (.ref p), some (.int d), some (.bl sm), some (.int c), some (.ref Df), some (.ref Dr), none, v8, some (.ref D)] F Q := fun F st =>
    ⟨_, rfl, a, 3, rfl, st.s, by decide, fun r F1 s1 r0 r1 => ⟨_, _, rfl, rfl, by show 2 ≤ sizeLine; decide, fun p1 hp1 => q _ (.flag _) _ ((st.trans s1).new hp1) ⟨⟨p1, rfl, SqT.of upd_same⟩, trivial, rfl⟩⟩⟩
  refine ⟨fun σ F => Stp a H F ∧ σ = [some (.ref a), some (.ref p), some (.int d), some (.bl sm), some (.int c), some (.ref Df), some (.ref Dr), none, v8, some (.ref D)], ?_, ?_⟩
  · refine ⟨_, rfl, by show 0 ≤ sizeLine; decide, fun z hz => ⟨D, z, _, rfl, rfl, SqL.of (Same.new hz _ _ _ eD), SqL.of upd_same, _, rfl, ite2 (fun _ => iteT (cst _ (s3.new hz))) (fun _ => ?_)⟩⟩
    have s3' := s3.new (o := .lst []) hz
    refine ⟨_, rfl, rfl, _, rfl, ite2 (fun _ => ⟨_, rfl, a, 2, rfl, s3'.s, by decide, fun r F1 s1 r0 r1 => ⟨rfl, _, rfl, ite2 (fun _ => cst _ (s3'.trans s1)) (fun _ => ⟨s3'.trans s1, rfl⟩)⟩⟩) (fun _ => iteF ⟨s3', rfl⟩)⟩
  clear s3 eD cst
  rintro σ F ⟨s3, rfl⟩
  refine ⟨_, rfl, _, rfl, _, rfl, a, p, env, sm, rfl, s3.s, hE.stp hS s3, fun v e F1 s1 x => q v e F1 (s3.trans s1) (x.up (by omega))⟩
theorem ok_l_truth (T : Txt w K mg) : ∀ m : Nat, FnOk P w K mg base CX0 (m + 6) T.a_l_truth T.d_l_truth p_l_truth (spTr K m)
  | 0 => fn_vac fun vs H Q E h => by obtain ⟨a, p, env, d, sm, _, _, _, h1, h2, _⟩ := h; omega
  | m + 1 => ok_truth0 T (ok_l_truth T m)
theorem ok_l_expression (T : Txt w K mg) : FnOk P w K mg base CX0 9 T.a_l_expression T.d_l_expression p_l_expression (spXp K) := by
  have g_l_pick := ok_l_pick (P := P) (w := w) (base := base) T
  have g_l_one := ok_l_oneQ (P := P) (w := w) (K := K) (base := base) T
  have g_l_named := ok_l_named (P := P) (w := w) (K := K) (base := base) T
  have g_l_reference := ok_l_reference (P := P) (w := w) (K := K) (base := base) T
  have g_l_number := ok_l_number (P := P) (w := w) (K := K) (base := base) T 2
  have g_l_truth := ok_l_truth (P := P) (w := w) (K := K) (base := base) T 2
  refine T.F_l_expression.ok sc_l_expression (fun vs H Q E h => ?_) (fun cdv A outer s H vs Q E hr h => ?_)
  · obtain ⟨a, p, env, kv, k, sm, rfl, _⟩ := h
    rfl
  obtain ⟨a, p, env, kv, k, sm, rfl, hS, hE, ⟨pk, rfl, hk⟩, hf, q⟩ := h
  refine ⟨_, (C8.pss_cut (ps_if (pt_cmpR op_eq (pe_ix ix_tup (pv 2) pe_int (fun _ _ => rfl)) pe_str (nomark _)) (pss_one (ps_ret (pe_call g_l_truth (hr.mono (by first | decide | omega)) rfl T.m_l_truth T.F_l_truth.kp T.b_l_truth .nil pass0 (pa_cons (pv 0) (pa_cons (pv 1) (pa_cons pe_int (pa_cons (pv 3) pa_nil))))))) pss_nil)
      (C8.pss_cut (ps_if (pt_cmpR op_eq (pe_ix ix_tup (pv 2) pe_int (fun _ _ => rfl)) pe_str (nomark _)) (pss_one (ps_ret (pe_call g_l_reference (hr.mono (by first | decide | omega)) rfl T.m_l_reference T.F_l_reference.kp T.b_l_reference .nil pass0 (pa_cons (pv 0) (pa_cons (pv 1) (pa_cons (pv 2) pa_nil)))))) pss_nil)
      (pss_cons (ps_set (i := 4) sc_l_expression.nd rfl (Or.inl rfl) (pe_call g_l_pick (hr.mono (by first | decide | omega)) rfl T.m_l_pick T.F_l_pick.kp T.b_l_pick .nil pass0 (pa_cons (pv 0) (pa_cons pe_int pa_nil))))
      (pss_cons (ps_set (i := 5) sc_l_expression.nd rfl (Or.inl rfl) (pe_call g_l_named (hr.mono (by first | decide | omega)) rfl T.m_l_named T.F_l_named.kp T.b_l_named .nil pass0 (pa_cons (pv 1) (pa_cons (pv 2) pa_nil))))
      (C8.pss_cut (ps_if (pt_cmpR op_lt (pv 4) pe_int (nomark _)) (pss_one (ps_ret (pe_tup (pa_cons pe_str (pa_cons (pe_op op_add (pe_ix ix_tup (pv 2) pe_int (fun _ _ => rfl)) (pe_call g_l_pick (hr.mono (by first | decide | omega)) rfl T.m_l_pick T.F_l_pick.kp T.b_l_pick .nil pass0 (pa_cons (pv 0) (pa_cons (pe_callB (call_min2 rfl) rfl T.z_min bb_min (pa_cons pe_int (pa_cons (pe_op op_add (pe_op op_sub (pe_ix ix_tup (pv 2) pe_int (fun _ _ => rfl)) (pe_ix ix_tup (pv 2) pe_int (fun _ _ => rfl))) pe_int) pa_nil))) pa_nil)))) pa_nil))))) pss_nil)
      (C8.pss_cut (ps_if (PW.pt (pw_and (pt_cmpR op_lt (pv 4) pe_int (nomark _)) (pw_and1 (pt_cmpR (op_neL0 hr.units0) (pv 5) (pe_lst pa_nil) (nomark _))))) (pss_cons (ps_set (i := 6) sc_l_expression.nd rfl (Or.inl rfl) (pe_tup (pa_cons pe_str (pa_cons (pe_call g_l_one (hr.mono (by first | decide | omega)) rfl T.m_l_one T.F_l_one.kp T.b_l_one .nil pass0 (pa_cons (pv 0) (pa_cons (pv 5) pa_nil))) pa_nil))))
      (pss_one (ps_ret (pe_call g_l_one (hr.mono (by first | decide | omega)) rfl T.m_l_one T.F_l_one.kp T.b_l_one .nil pass0 (pa_cons (pv 0) (pa_cons (pe_lst (pa_cons (pv 6) (pa_cons (pe_tup (pa_cons pe_str (pa_cons (pv 6) (pa_cons (pe_tup (pa_cons pe_str (pa_cons pe_int pa_nil))) pa_nil)))) (pa_cons (pe_tup (pa_cons pe_str (pa_cons (pv 6) (pa_cons (pe_tup (pa_cons pe_str (pa_cons pe_int pa_nil))) pa_nil)))) pa_nil)))) pa_nil)))))) pss_nil)
      (pss_one (ps_ret (pe_call g_l_number (hr.mono (by first | decide | omega)) rfl T.m_l_number T.F_l_number.kp T.b_l_number .nil pass0 (pa_cons (pv 0) (pa_cons (pv 1) (pa_cons pe_int (pa_cons (pv 3) pa_nil))))))))))))), ?_⟩
  have ok := hE.ok
  have ln := hE.ln
  cases k with
  | flag =>
    refine ⟨fun _ _ => False, ⟨_, rfl, pk, _, _, _, rfl, rfl, hk, rfl, rfl, _, rfl, ifT (by decide +kernel) ?_⟩, fun _ _ h => h.elim⟩
    exact ⟨_, rfl, _, rfl, _, rfl, a, p, env, 1, sm, rfl, hS, hE, by decide, by decide, fun v e F s1 x => q v e F s1 x⟩
  | ref sn =>
    refine ⟨fun σ F => H = F ∧ σ = [some (.ref a), some (.ref p), some (.ref pk), some (.bl sm), none, none, none], ⟨_, rfl, pk, _, _, _, rfl, rfl, hk, rfl, rfl, _, rfl, ifF (by decide +kernel) ⟨rfl, rfl⟩⟩, ?_⟩
    rintro σ F ⟨rfl, rfl⟩
    refine ⟨fun _ _ => False, ⟨_, rfl, pk, _, _, _, rfl, rfl, hk, rfl, rfl, _, rfl, ifT (by decide +kernel) ?_⟩, fun _ _ h => h.elim⟩
    exact ⟨_, rfl, _, rfl, _, rfl, a, p, env, .ref pk, sn, rfl, hS, hE, ⟨pk, rfl, hk⟩, hf.1, hf.2, fun v e F s1 x => q v e F s1 (x.up (by decide))⟩
  | num lo hi =>
    have hf : -1000000000 ≤ lo ∧ lo ≤ hi ∧ hi ≤ 1000000000 := hf
    refine ⟨fun σ F => H = F ∧ σ = [some (.ref a), some (.ref p), some (.ref pk), some (.bl sm), none, none, none], ⟨_, rfl, pk, _, _, _, rfl, rfl, hk, rfl, rfl, _, rfl, ifF (by decide +kernel) ⟨rfl, rfl⟩⟩, ?_⟩
    rintro σ F ⟨rfl, rfl⟩
    refine ⟨fun σ F => H = F ∧ σ = [some (.ref a), some (.ref p), some (.ref pk), some (.bl sm), none, none, none], ⟨_, rfl, pk, _, _, _, rfl, rfl, hk, rfl, rfl, _, rfl, ifF (by decide +kernel) ⟨rfl, rfl⟩⟩, ?_⟩
    rintro σ F ⟨rfl, rfl⟩
    refine ⟨_, rfl, a, 8, rfl, hS, by decide, fun c G0 st0 c0 c1 => ?_⟩
    have hk1 := st0.rd hk hS
    refine ⟨_, rfl, _, rfl, p, env, .ref pk, some (.num lo hi), rfl, hE.stp hS st0, ⟨pk, rfl, hk1⟩, hf, fun D G nD sG eD => ?_⟩
    have s1 := st0.same sG
    have hk2 := Same.tup sG hk1
    have nDa : D ≠ a := (st0.s.ne nD).symm
    have lnP := nms_len (p := fun a => decide (some a.2 = some (Kd.num lo hi))) (env := env)
    -- a number
    refine ⟨fun σ G' => G = G' ∧ σ = [some (.ref a), some (.ref p), some (.ref pk), some (.bl sm), some (.int c), some (.ref D), none], ?_, ?_⟩
    · refine ⟨_, rfl, _, _, rfl, rfl, _, rfl, ite2 (fun _ => ?_) (fun _ => ⟨rfl, rfl⟩)⟩
      refine ⟨_, rfl, pk, _, _, _, rfl, rfl, hk2, rfl, _, rfl, _, rfl, pk, _, _, _, rfl, rfl, hk2, rfl, _, rfl, pk, _, _, _, rfl, rfl, hk2, rfl, _, _, rfl, rfl, _, _, rfl, rfl, _, _, rfl, ?_⟩
      have hb : (if hi - lo + 1 < 9 then hi - lo + 1 else 9) ≤ 9 := by split <;> omega
      have hb2 : (if hi - lo + 1 < 9 then hi - lo + 1 else 9) ≤ hi - lo + 1 := by split <;> omega
      generalize (if hi - lo + 1 < 9 then hi - lo + 1 else 9) = hg at hb hb2
      refine ⟨a, hg, rfl, s1.s, by omega, fun r F s2 r0 r1 => ⟨_, _, rfl, rfl, by show 2 ≤ sizeLine; decide, fun p2 hp2 => ?_⟩⟩
      exact q _ (.num (lo + r)) _ ((s1.trans s2).new hp2) ⟨⟨p2, rfl, SqT.of upd_same⟩, by show -1000000000 ≤ lo + r ∧ lo + r ≤ 1000000000; omega, rfl⟩
    rintro σ G' ⟨rfl, rfl⟩
    -- near a name
    refine ⟨fun σ F => Stp a H F ∧ σ = [some (.ref a), some (.ref p), some (.ref pk), some (.bl sm), some (.int c), some (.ref D), none], ?_, ?_⟩
    · refine ⟨_, rfl, _, _, rfl, rfl, _, rfl, ite2 (fun _ => ⟨_, rfl, by show 0 ≤ sizeLine; decide, fun z hz => ⟨D, z, _, rfl, rfl, SqL.of (Same.new hz _ _ _ eD), SqL.of upd_same, _, rfl, ite2 (fun ne => ?_) (fun _ => ⟨s1.new hz, rfl⟩)⟩⟩) (fun _ => iteF ⟨s1, rfl⟩)⟩
      have sZ := s1.new (o := .lst []) hz
      have eZ := Same.new hz (.lst []) _ _ eD
      refine ⟨_, rfl, _, rfl, a, D, _, rfl, sZ.s, .inl ⟨nDa, SqL.of eZ⟩, List.length_pos_iff.mpr (fun z => by rw [z] at ne; cases ne), by rw [List.length_map]; omega, fun v F1 hv st1 => ⟨by show 2 ≤ sizeLine; decide, fun p1 hp1 => ?_⟩⟩
      obtain ⟨zn, hzn, rfl⟩ := str_mem hv
      have tn := name_ty (t := .num) ok hzn fun k hk => by
        have := Option.some.inj (of_decide_eq_true hk)
        subst this
        rfl
      have x1 : ExAt K (upd F1 p1 (.tup [.str "name", .str zn])) (.name zn) (.ref p1) := ⟨p1, rfl, SqT.of upd_same⟩
      have s2 := (sZ.trans st1).new (o := .tup [.str "name", .str zn]) hp1
      generalize (upd F1 p1 (.tup [.str "name", .str zn])) = F2 at x1 s2
      have step : ∀ {op : Str} {F : Hp} {t1 t2 : Addr}, op ∈ arOps → ExAt K F (.name zn) (.ref p1) → F t1 = none → (upd F t1 (.tup [.str "num", .int 1])) t2 = none → ExAt K (upd (upd F t1 (.tup [.str "num", .int 1])) t2 (.tup [.str op, .ref p1, .ref t1])) (.bin op (.name zn) (.num 1)) (.ref t2) := fun {op F t1 t2} ho x n1 n2 => by
        have k1 := Keeps.of_same (K := K) (Same.new n1 (.tup [.str "num", .int 1]))
        have k2 := Keeps.of_same (K := K) (Same.new n2 (.tup [.str op, .ref p1, .ref t1]))
        have y : ExAt K (upd F t1 (.tup [.str "num", .int 1])) (.num 1) (.ref t1) := ⟨t1, rfl, SqT.of upd_same⟩
        exact ⟨t2, _, _, rfl, SqT.of upd_same, (x.keep k1).keep k2, y.keep k2⟩
      refine ⟨_, rfl, _, rfl, _, rfl, by show 2 ≤ sizeLine; decide, fun t1 ht1 => ⟨by show 3 ≤ sizeLine; decide, fun t2 ht2 => ⟨_, rfl, by show 2 ≤ sizeLine; decide, fun t3 ht3 => ⟨by show 3 ≤ sizeLine; decide, fun t4 ht4 => ⟨by show 3 ≤ sizeLine; decide, fun l hl => ?_⟩⟩⟩⟩⟩
      have y1 := step (op := "+") (by decide +kernel) x1 ht1 ht2
      have s3 := (s2.new (o := .tup [.str "num", .int 1]) ht1).new (o := .tup [.str "+", .ref p1, .ref t1]) ht2
      have x2 := (x1.keep (Keeps.of_same (Same.new ht1 (.tup [.str "num", .int 1])))).keep (Keeps.of_same (Same.new ht2 (.tup [.str "+", .ref p1, .ref t1])))
      generalize (upd (upd F2 t1 (.tup [.str "num", .int 1])) t2 (.tup [.str "+", .ref p1, .ref t1])) = F3 at *
      have y2 := step (op := "-") (by decide +kernel) x2 ht3 ht4
      have s4 := (s3.new (o := .tup [.str "num", .int 1]) ht3).new (o := .tup [.str "-", .ref p1, .ref t3]) ht4
      have kk := fun e v (h : ExAt K F3 e v) => (ExAt.keep (Keeps.of_same (Same.new ht3 (.tup [.str "num", .int 1]))) h).keep (Keeps.of_same (Same.new ht4 (.tup [.str "-", .ref p1, .ref t3])))
      have x3 := kk _ _ x2
      have y3 := kk _ _ y1
      generalize (upd (upd F3 t3 (.tup [.str "num", .int 1])) t4 (.tup [.str "-", .ref p1, .ref t3])) = F4 at *
      have s5 := s4.new (o := .lst [.ref p1, .ref t2, .ref t4]) hl
      refine ⟨a, l, _, rfl, s5.s, .inl ⟨(s4.s.ne hl).symm, SqL.of upd_same⟩, by show 0 < 3; decide, by show 3 < 1000; decide, fun v F5 hv st5 => ?_⟩
      have kE : ∀ {e v}, ExAt K F4 e v → ExAt K F5 e v := fun h => (ExAt.keep (Keeps.of_same (Same.new hl (.lst [.ref p1, .ref t2, .ref t4]))) h).keep (Keeps.of_stp st5 s5.s)
      have o1 : (Ex.num 1).ok 3 := by show -1000000000 ≤ (1 : Int) ∧ (1 : Int) ≤ 1000000000; omega
      rcases List.mem_cons.mp hv with rfl | hv
      · exact q _ (.name zn) _ (s5.trans st5) ⟨kE x3, Ex.ok_up (m := 4) (by decide) tn.1, tn.2⟩
      rcases List.mem_cons.mp hv with rfl | hv
      · exact q _ (.bin "+" (.name zn) (.num 1)) _ (s5.trans st5) ⟨kE y3, ⟨by decide +kernel, Ex.ok_up (m := 3) (by decide) tn.1, o1⟩, .inl ⟨rfl, by decide +kernel, tn.2, rfl⟩⟩
      rcases List.mem_cons.mp hv with rfl | hv
      · exact q _ (.bin "-" (.name zn) (.num 1)) _ (s5.trans st5) ⟨kE y2, ⟨by decide +kernel, Ex.ok_up (m := 3) (by decide) tn.1, o1⟩, .inl ⟨rfl, by decide +kernel, tn.2, rfl⟩⟩
      · cases hv
    rintro σ F ⟨s2, rfl⟩
    exact ⟨_, rfl, _, rfl, _, rfl, a, p, env, 1, sm, rfl, s2.s, hE.stp hS s2, by decide, by decide, fun v e F1 s3 x => q v e F1 (s2.trans s3) (x.up (by decide))⟩
end
theorem cut_lo {xs : List V} {r : Int} (h0 : 0 ≤ r) (h : r.toNat ≤ xs.length) : cutV xs (some r) none = xs.drop r.toNat := by
  have e : HT.sIx xs.length 0 (some r) = r.toNat := by
    show (if r < 0 then (r + (xs.length : Int)).toNat else min r.toNat xs.length) = r.toNat
    rw [if_neg (by omega), Nat.min_eq_left h]
  unfold cutV
  rw [e]
  show (xs.drop r.toNat).take (xs.length - r.toNat) = _
  exact List.take_of_length_le (by rw [List.length_drop]; omega)
theorem cut_hi {xs : List V} {r : Int} (h0 : 0 ≤ r) (h : r.toNat ≤ xs.length) : cutV xs none (some r) = xs.take r.toNat := by
  have e : HT.sIx xs.length xs.length (some r) = r.toNat := by
    show (if r < 0 then (r + (xs.length : Int)).toNat else min r.toNat xs.length) = r.toNat
    rw [if_neg (by omega), Nat.min_eq_left h]
  unfold cutV
  rw [e]
  show (xs.drop 0).take (r.toNat - 0) = _
  rw [List.drop_zero, Nat.sub_zero]
/-! ### drawn programs: the world, statements that fit -/
theorem DGet.at {H : Hp} {d : Addr} {kvs : List (Key × V)} {k : Key} {v : V} (h : H d = some (.dK kvs)) (e : valV kvs k = some v) : DGet H d (kV k) (some v) := by
  rw [← e]
  exact DGet.k (k := k) h
abbrev Arr := Str × Int × Int × Int
structure Hd where
  nm : Str
  ps : List Pk
  rs : Option Kd
structure Wm where
  rc : List (Str × List Pk)
  ar : List Arr
  hd : List Hd
  sm : Bool
def ArAt (K : PySem.W.Frag) (H : Hp) (x : Arr) (v : V) : Prop := ∃ p, v = .ref p ∧ SqT K H p [.str x.1, .int x.2.1, .int x.2.2.1, .int x.2.2.2]
def HdAt (K : PySem.W.Frag) (H : Hp) (h : Hd) (v : V) : Prop := ∃ p t xs rv, v = .ref p ∧ SqT K H p [.str h.nm, .ref t, rv] ∧ SqT K H t xs ∧ PksL K H h.ps xs ∧ OkdAt K H rv h.rs
theorem ArAt.keep {K : PySem.W.Frag} {H H' : Hp} (kp : Keeps K H H') {x : Arr} {v : V} (h : ArAt K H x v) : ArAt K H' x v := by
  obtain ⟨p, e, h⟩ := h
  exact ⟨p, e, kp _ _ h⟩
theorem HdAt.keep {K : PySem.W.Frag} {H H' : Hp} (kp : Keeps K H H') {x : Hd} {v : V} (h : HdAt K H x v) : HdAt K H' x v := by
  obtain ⟨p, t, xs, rv, e, h1, h2, h3, h4⟩ := h
  exact ⟨p, t, xs, rv, e, kp _ _ h1, kp _ _ h2, h3.keep kp, h4.keep kp⟩
/-- the fields of the record kinds, by their names -/
def FsAt (K : PySem.W.Frag) (H : Hp) (fd : Addr) (rc : List (Str × List Pk)) : Prop := ∃ kvs, H fd = some (.dK kvs) ∧ ∀ r ∈ rc, ∃ t xs, valV kvs (Sum.inr r.1) = some (.ref t) ∧ SqT K H t xs ∧ PksL K H r.2 xs
structure WmOk (W : Wm) : Prop where
  h0 : W.hd ≠ []
  h1 : W.hd.length ≤ 20
  h2 : ∀ h ∈ W.hd, h.ps.length ≤ 10 ∧ (∀ a ∈ h.ps, PkOk a) ∧ okFine h.rs
  r1 : W.rc.length ≤ 10
  r2 : ∀ r ∈ W.rc, r.2.length ≤ 20 ∧ ∀ f ∈ r.2, PkOk f
  a1 : W.ar.length ≤ 10
  a2 : ∀ x ∈ W.ar, (Kd.num x.2.2.1 x.2.2.2).fine
def EnvW (W : Wm) (env : List Pk) : Prop := ∀ a ∈ env, ∀ s, a.2 = .ref s → ∃ fs, (s, fs) ∈ W.rc
structure WdAt (K : PySem.W.Frag) (H : Hp) (d : Addr) (W : Wm) (n : Int) : Prop where
  ex : ∃ (kvs : List (Key × V)) (fd ta lh : Addr) (xs hs : List V), H d = some (.dK kvs) ∧ valV kvs (Sum.inr "fields") = some (.ref fd) ∧ fd ≠ d ∧ FsAt K H fd W.rc ∧ valV kvs (Sum.inr "arrays") = some (.ref ta) ∧ SqT K H ta xs ∧ A2 (ArAt K H) W.ar xs ∧
    valV kvs (Sum.inr "heads") = some (.ref lh) ∧ H lh = some (.lst hs) ∧ A2 (HdAt K H) W.hd hs ∧ valV kvs (Sum.inr "simple") = some (.bl W.sm) ∧ valV kvs (Sum.inr "left") = some (.int n) ∧ kvs.length ≤ 10
theorem FsAt.mono {K : PySem.W.Frag} {H H' : Hp} {fd : Addr} {rc : List (Str × List Pk)} (kp : Keeps K H H') (k : ∀ o, H fd = some o → H' fd = some o) (h : FsAt K H fd rc) : FsAt K H' fd rc := by
  obtain ⟨kvs, e, h⟩ := h
  exact ⟨kvs, k _ e, fun r hr => by
    obtain ⟨t, xs, h1, h2, h3⟩ := h r hr
    exact ⟨t, xs, h1, kp _ _ h2, h3.keep kp⟩⟩
/-- the source is not the list of heads -/
theorem hs_ne {K : PySem.W.Frag} {H : Hp} {l a : Addr} {hds : List Hd} {hs : List V} (h : H l = some (.lst hs)) (q : A2 (HdAt K H) hds hs) (s : Src H a) : l ≠ a := by
  intro z
  obtain ⟨c, m, k, s⟩ := s
  rw [z, s] at h
  have e2 := HO.lst.inj (Option.some.inj h)
  subst e2
  cases hds with
  | nil => exact q.elim
  | cons x r =>
    obtain ⟨⟨p, t, xs, rv, z, _⟩, _⟩ := q
    cases z
theorem dk_ne {H : Hp} {d a : Addr} {kvs : List (Key × V)} (h : H d = some (.dK kvs)) (s : Src H a) : d ≠ a := by
  obtain ⟨c, m, k, s⟩ := s
  exact ne_of h s (by intro z; cases z)
theorem WdAt.ne {K : PySem.W.Frag} {H : Hp} {d a : Addr} {W : Wm} {n : Int} (h : WdAt K H d W n) (s : Src H a) : d ≠ a := by
  obtain ⟨kvs, fd, ta, lh, xs, hs, h1, _⟩ := h.ex
  exact dk_ne h1 s
theorem WdAt.stp {K : PySem.W.Frag} {H H' : Hp} {d a : Addr} {W : Wm} {n : Int} (h : WdAt K H d W n) (s : Src H a) (st : Stp a H H') : WdAt K H' d W n := by
  obtain ⟨kvs, fd, ta, lh, xs, hs, h1, h2, nf, h3, h4, h5, h6, h7, h8, h9, h10, h11, h12⟩ := h.ex
  have kp := Keeps.of_stp (K := K) st s
  have h3' := h3
  obtain ⟨kv2, e2, _⟩ := h3'
  exact ⟨kvs, fd, ta, lh, xs, hs, st.k _ _ (dk_ne h1 s) h1, h2, nf, h3.mono kp fun o e => st.k _ _ (dk_ne e2 s) e, h4, kp _ _ h5, h6.imp fun _ _ => ArAt.keep kp, h7, st.k _ _ (hs_ne h8 h9 s) h8, h9.imp fun _ _ => HdAt.keep kp, h10, h11, h12⟩
theorem WdAt.same {K : PySem.W.Frag} {H H' : Hp} {d : Addr} {W : Wm} {n : Int} (h : WdAt K H d W n) (st : Same H H') : WdAt K H' d W n := by
  obtain ⟨kvs, fd, ta, lh, xs, hs, h1, h2, nf, h3, h4, h5, h6, h7, h8, h9, h10, h11, h12⟩ := h.ex
  have kp := Keeps.of_same (K := K) st
  exact ⟨kvs, fd, ta, lh, xs, hs, st _ _ h1, h2, nf, h3.mono kp fun o e => st _ _ e, h4, kp _ _ h5, h6.imp fun _ _ => ArAt.keep kp, h7, st _ _ h8, h9.imp fun _ _ => HdAt.keep kp, h10, h11, h12⟩
def ArgsTy (env : List Pk) : List Ex → List Pk → Prop
  | [], [] => True
  | e :: es, a :: l => (e.ok 4 ∧ e.ty env a.2.ty) ∧ ArgsTy env es l
  | _, _ => False
theorem ArgsTy.snoc {env : List Pk} {e : Ex} {a : Pk} (h : e.ok 4 ∧ e.ty env a.2.ty) : ∀ {es : List Ex} {l : List Pk}, ArgsTy env es l → ArgsTy env (es ++ [e]) (l ++ [a])
  | [], [], _ => ⟨h, trivial⟩
  | _ :: _, _ :: _, q => ⟨q.1, ArgsTy.snoc h q.2⟩
  | [], _ :: _, q => q.elim
  | _ :: _, [], q => q.elim
theorem ArgsTy.len {env : List Pk} : ∀ {es : List Ex} {l : List Pk}, ArgsTy env es l → es.length = l.length
  | [], [], _ => rfl
  | _ :: _, _ :: _, q => congrArg (· + 1) (ArgsTy.len q.2)
  | [], _ :: _, q => q.elim
  | _ :: _, [], q => q.elim
theorem ExL.snoc {K : PySem.W.Frag} {H : Hp} {e : Ex} {v : V} (h : ExAt K H e v) : ∀ {es : List Ex} {vs : List V}, ExL K H es vs → ExL K H (es ++ [e]) (vs ++ [v])
  | [], [], _ => ⟨h, trivial⟩
  | _ :: _, _ :: _, q => ⟨q.1, ExL.snoc h q.2⟩
  | [], _ :: _, q => q.elim
  | _ :: _, [], q => q.elim
theorem ExL.len {K : PySem.W.Frag} {H : Hp} : ∀ {es : List Ex} {vs : List V}, ExL K H es vs → vs.length = es.length
  | [], [], _ => rfl
  | _ :: _, _ :: _, q => congrArg (· + 1) (ExL.len q.2)
  | [], _ :: _, q => q.elim
  | _ :: _, [], q => q.elim
mutual
/-- a statement fits: its names, its expressions -/
def Sm.wf (W : Wm) (env : List Pk) (rs : Option Kd) : Bool → Sm → Prop
  | _, .set x e => ∃ k, (x, k) ∈ env ∧ e.ok 4 ∧ e.ty env k.ty
  | _, .input x => ∃ k, (x, k) ∈ env ∧ k.isR = false
  | _, .new x => ∃ s, (x, Kd.ref s) ∈ env
  | _, .free x => ∃ s, (x, Kd.ref s) ∈ env
  | _, .load x y f => ∃ s fs k, (y, Kd.ref s) ∈ env ∧ (s, fs) ∈ W.rc ∧ (f, k) ∈ fs ∧ (x, k) ∈ env
  | _, .store y f e => ∃ s fs k, (y, Kd.ref s) ∈ env ∧ (s, fs) ∈ W.rc ∧ (f, k) ∈ fs ∧ e.ok 4 ∧ e.ty env k.ty
  | _, .get x a e => ∃ n lo hi, (a, n, lo, hi) ∈ W.ar ∧ (x, Kd.num lo hi) ∈ env ∧ e.ok 4 ∧ e.ty env .num
  | _, .put a e1 e2 => ∃ n lo hi, (a, n, lo, hi) ∈ W.ar ∧ (e1.ok 4 ∧ e1.ty env .num) ∧ e2.ok 4 ∧ e2.ty env .num
  | _, .call x g es => ∃ h ∈ W.hd, h.nm = g ∧ ArgsTy env es h.ps ∧ ∀ z, x = some z → ∃ k, (z, k) ∈ env ∧ h.rs = some k
  | _, .ret none => rs = none
  | _, .ret (some e) => ∃ k, rs = some k ∧ e.ok 4 ∧ e.ty env k.ty
  | i, .iff e b c => (e.ok 4 ∧ e.ty env .flag) ∧ b.wf W env rs i ∧ c.wf W env rs i
  | _, .loop e b => (e.ok 4 ∧ e.ty env .flag) ∧ b.wf W env rs true
  | i, .brk => i = true
  | _, .asrt e => e.ok 4 ∧ e.ty env .flag
def Bd.wf (W : Wm) (env : List Pk) (rs : Option Kd) : Bool → Bd → Prop
  | _, .nil => True
  | i, .cons s b => s.wf W env rs i ∧ b.wf W env rs i
end
mutual
/-- how deep bodies stand within one another -/
def Sm.dep : Nat → Sm → Prop
  | 0, .iff _ _ _ => False
  | d + 1, .iff _ b c => b.dep d ∧ c.dep d
  | 0, .loop _ _ => False
  | d + 1, .loop _ b => b.dep d
  | _, _ => True
def Bd.dep : Nat → Bd → Prop
  | _, .nil => True
  | d, .cons s b => s.dep d ∧ b.dep d
end
/-- a statement without bodies -/
structure StOf (K : PySem.W.Frag) (H : Hp) (W : Wm) (env : List Pk) (rs : Option Kd) (i : Bool) (v : V) (s : Sm) : Prop where
  h : SmAt K H s v
  w : s.wf W env rs i
  c : s.cnt = 1
  d : ∀ n, s.dep n
theorem StOf.keep {K : PySem.W.Frag} {H H' : Hp} {W : Wm} {env : List Pk} {rs : Option Kd} {i : Bool} {v : V} {s : Sm} (kp : Keeps K H H') (h : StOf K H W env rs i v s) : StOf K H' W env rs i v s := ⟨h.h.keep kp, h.w, h.c, h.d⟩
def MdOf (K : PySem.W.Frag) (H : Hp) (W : Wm) (env : List Pk) (rs : Option Kd) (i : Bool) (v : V) : Prop := v = .non ∨ ((∃ p, v = .ref p) ∧ ∃ s, StOf K H W env rs i v s)
theorem MdOf.keep {K : PySem.W.Frag} {H H' : Hp} {W : Wm} {env : List Pk} {rs : Option Kd} {i : Bool} {v : V} (kp : Keeps K H H') (h : MdOf K H W env rs i v) : MdOf K H' W env rs i v := by
  rcases h with h | ⟨p, s, h⟩
  · exact .inl h
  · exact .inr ⟨p, s, h.keep kp⟩
theorem SmAt.isRef {K : PySem.W.Frag} {H : Hp} {s : Sm} {v : V} (h : SmAt K H s v) : ∃ p, v = .ref p := by
  cases s with
  | ret e => cases e <;> exact h.imp fun p q => by first | exact q.1 | (obtain ⟨_, q, _⟩ := q; exact q)
  | set => obtain ⟨p, a, e, _⟩ := h; exact ⟨p, e⟩
  | input => obtain ⟨p, e, _⟩ := h; exact ⟨p, e⟩
  | new => obtain ⟨p, e, _⟩ := h; exact ⟨p, e⟩
  | free => obtain ⟨p, e, _⟩ := h; exact ⟨p, e⟩
  | load => obtain ⟨p, e, _⟩ := h; exact ⟨p, e⟩
  | store => obtain ⟨p, a, e, _⟩ := h; exact ⟨p, e⟩
  | get => obtain ⟨p, a, e, _⟩ := h; exact ⟨p, e⟩
  | put => obtain ⟨p, a, b, e, _⟩ := h; exact ⟨p, e⟩
  | call => obtain ⟨p, a, b, e, _⟩ := h; exact ⟨p, e⟩
  | iff => obtain ⟨p, _, _, _, _, _, e, _⟩ := h; exact ⟨p, e⟩
  | loop => obtain ⟨p, _, _, _, e, _⟩ := h; exact ⟨p, e⟩
  | brk => obtain ⟨p, e, _⟩ := h; exact ⟨p, e⟩
  | asrt => obtain ⟨p, a, e, _⟩ := h; exact ⟨p, e⟩
theorem StOf.md {K : PySem.W.Frag} {H : Hp} {W : Wm} {env : List Pk} {rs : Option Kd} {i : Bool} {v : V} {s : Sm} (h : StOf K H W env rs i v s) : MdOf K H W env rs i v := .inr ⟨h.h.isRef, s, h⟩
/-! ### drawn programs: statements without bodies -/
def spCl (K : PySem.W.Frag) : Sp := fun vs H Q _ => ∃ (a d p : Addr) (env : List Pk) (W : Wm) (n : Int) (h : Hd) (hv : V), vs = [.ref a, .ref d, .ref p, hv] ∧ Src H a ∧ WdAt K H d W n ∧ WmOk W ∧ EnvAt K H p env ∧ HdAt K H h hv ∧ h ∈ W.hd ∧
  ∀ v s H', Stp a H H' → (∀ rs i, StOf K H' W env rs i v s) → Q v H'
def spMem (K : PySem.W.Frag) : Sp := fun vs H Q _ => ∃ (a d p : Addr) (env : List Pk) (W : Wm) (n : Int), vs = [.ref a, .ref d, .ref p] ∧ Src H a ∧ WdAt K H d W n ∧ WmOk W ∧ EnvAt K H p env ∧ EnvW W env ∧
  ∀ v H', Stp a H H' → (∀ rs i, MdOf K H' W env rs i v) → Q v H'
theorem spRes_none {k : Option Kd} (h : okFine k) : okFine k := h
theorem nm_env {k : Option Kd} {env : List Pk} {z : Str} (h : z ∈ nmsOf (fun a => decide (some a.2 = k)) env) : ∃ k', (z, k') ∈ env ∧ k = some k' := by
  obtain ⟨k', h1, h2⟩ := mem_nms h
  exact ⟨k', h1, (of_decide_eq_true h2).symm⟩
section
variable {P : Program} {w : World} {K : PySem.W.Frag} {mg : Str → Option Value} {base : Heap}
theorem ok_l_call (T : Txt w K mg) : FnOk P w K mg base CX0 10 T.a_l_call T.d_l_call p_l_call (spCl K) := by
  have g_l_pick := ok_l_pick (P := P) (w := w) (base := base) T
  have g_l_one := ok_l_oneQ (P := P) (w := w) (K := K) (base := base) T
  have g_l_named := ok_l_named (P := P) (w := w) (K := K) (base := base) T
  have g_l_expression := ok_l_expression (P := P) (w := w) (K := K) (base := base) T
  refine T.F_l_call.ok sc_l_call (fun vs H Q E h => ?_) (fun cdv A outer s H vs Q E hr h => ?_)
  · obtain ⟨a, d, p, env, W, n, h, hv, rfl, _⟩ := h
    rfl
  obtain ⟨a, d, p, env, W, n, hd, hv, rfl, hS, hW, oW, hE, hh, mh, q⟩ := h
  refine ⟨_, (pss_cons (ps_set (i := 4) sc_l_call.nd rfl (Or.inl rfl) (pe_lst pa_nil))
      (pss_cons (ps_for PassesOwn.never rfl (pi_tup (pe_ix ix_tup (pv 3) pe_int (fun _ _ => rfl))) (pg_name (i := 5) sc_l_call.nd rfl (Or.inl rfl))
        (pss_one (ps_expr (pe_bm PySem.F.plainAttrs_list PySem.F.slot_list_append PySem.F.type_list_append mt_append (pv 4) (pa_cons (pe_call g_l_expression (hr.mono (by first | decide | omega)) rfl T.m_l_expression T.F_l_expression.kp T.b_l_expression .nil pass0 (pa_cons (pv 0) (pa_cons (pv 2) (pa_cons (pe_ix ix_tup (pv 5) pe_int (fun _ _ => rfl)) (pa_cons (pe_dget (hu_of hr) (pv 1) pe_str (fun _ _ => rfl)) pa_nil))))) pa_nil)))))
      (pss_cons (ps_set (i := 6) sc_l_call.nd rfl (Or.inl rfl) (pe_call g_l_named (hr.mono (by first | decide | omega)) rfl T.m_l_named T.F_l_named.kp T.b_l_named .nil pass0 (pa_cons (pv 2) (pa_cons (pe_ix ix_tup (pv 3) pe_int (fun _ _ => rfl)) pa_nil))))
      (pss_cons (ps_set (i := 7) sc_l_call.nd rfl (Or.inl rfl) pe_non)
      (C8.pss_cut (ps_if (PW.pt (pw_and (pt_cmpR (op_neL0 hr.units0) (pv 6) (pe_lst pa_nil) (nomark _)) (pw_and1 (pt_cmpR op_gt (pe_call g_l_pick (hr.mono (by first | decide | omega)) rfl T.m_l_pick T.F_l_pick.kp T.b_l_pick .nil pass0 (pa_cons (pv 0) (pa_cons pe_int pa_nil))) pe_int (nomark _))))) (pss_one (ps_set (i := 7) sc_l_call.nd rfl (Or.inl rfl) (pe_call g_l_one (hr.mono (by first | decide | omega)) rfl T.m_l_one T.F_l_one.kp T.b_l_one .nil pass0 (pa_cons (pv 0) (pa_cons (pv 6) pa_nil))))) pss_nil)
      (pss_one (ps_ret (pe_tup (pa_cons pe_str (pa_cons (pv 7) (pa_cons (pe_ix ix_tup (pv 3) pe_int (fun _ _ => rfl)) (pa_cons (pe_callTy call_tuple_of rfl T.z_tuple bt_tuple (pa_cons (pv 4) pa_nil)) pa_nil)))))))))))), ?_⟩
  obtain ⟨po, pk1, fr⟩ := oW.h2 _ mh
  obtain ⟨ph, pt, hxs, rv, rfl, g1, g2, g3, g4⟩ := hh
  refine ⟨by show 0 ≤ sizeLine; decide, fun l hl => ?_⟩
  have s0 := (Stp.refl hS).new (o := .lst []) hl
  have nla : l ≠ a := (hS.ne hl).symm
  have g1' := s0.rd g1 hS
  refine ⟨_, rfl, ph, _, _, _, rfl, rfl, g1', rfl, pt, rfl, ⟨_, s0.rd g2 hS⟩, for_tup (K := K) (a := pt) (xs := hxs) (fun i σ G => Stp a H G ∧ (∃ us es, G l = some (.lst us) ∧ ExL K G es us ∧ ArgsTy env es (hd.ps.take i)) ∧ ∃ v5 : Option V, σ = [some (.ref a), some (.ref d), some (.ref p), some (.ref ph), some (.ref l), v5, none, none])
    ⟨s0, ⟨[], [], upd_same, trivial, trivial⟩, none, rfl⟩ (fun i σ G _ ⟨st, _⟩ => st.rd g2 hS) ?_ ?_⟩
  · rintro i x σ G ex ⟨st, ⟨us, es, eu, xu, ty⟩, v5, rfl⟩
    obtain ⟨⟨nm, kd⟩, ea, pk, kv2, rfl, h1, h2⟩ := (g3.keep (Keeps.of_stp st hS)).atv ex
    have hWG := hW.stp hS st
    obtain ⟨kvs, fd, ta, lh, axs, hs, w1, w2, nf, w3, w4, w5, w6, w7, w8, w9, w10, w11, w12⟩ := hWG.ex
    have fine := (pk1 _ (List.mem_of_getElem? ea)).2.2
    have lus : us.length ≤ 10 := by
      have e1 := xu.len
      have e2 := ty.len
      rw [List.length_take] at e2
      omega
    refine ⟨_, rfl, .inl ⟨rfl, _, SqL.of eu⟩, ?_⟩
    refine ⟨_, rfl, _, rfl, _, rfl, pk, _, _, _, rfl, rfl, h1, rfl, _, rfl, d, _, rfl, DGet.at (k := Sum.inr "simple") w1 w10, a, p, env, kv2, kd, W.sm, rfl, st.s, hE.stp hS st, h2, fine, fun v e F st2 x2 => ?_⟩
    have eu2 := st2.k _ _ nla eu
    refine ⟨l, us, v, rfl, rfl, eu2, lt_line (by omega), ?_⟩
    have kp := Keeps.of_stp (K := K) st2 st.s
    have kl := keep_lst (K := K) (o := .lst (us ++ [v])) eu2
    have st3 : Stp a H (upd F l (.lst (us ++ [v]))) := by
      obtain ⟨c, m, k, hc⟩ := st2.s
      refine ⟨⟨c, m, k, by rw [upd_ne nla.symm]; exact hc⟩, fun b o hb e => ?_⟩
      rw [upd_ne (ne_of_none e hl)]
      exact (st.trans st2).k b o hb e
    refine ⟨st3, ⟨_, es ++ [e], upd_same, ((xu.keep kp).keep kl).snoc (x2.h.keep kl), ?_⟩, _, rfl⟩
    rw [List.take_add_one, ea]
    exact ty.snoc ⟨x2.o, x2.t⟩
  rintro σ G ⟨st, ⟨us, es, eu, xu, ty⟩, v5, rfl⟩
  rw [g3.len, List.take_length] at ty
  have h1G := st.rd g1 hS
  have h4G := g4.keep (Keeps.of_stp st hS)
  refine ⟨_, rfl, _, rfl, ph, _, _, _, rfl, rfl, h1G, rfl, p, env, rv, hd.rs, rfl, hE.stp hS st, h4G, fr, fun D G1 nD sG eD => ?_⟩
  have st1 := st.same sG
  have nDa : D ≠ a := (st.s.ne nD).symm
  have eu1 := sG _ _ eu
  have xu1 := xu.keep (Keeps.of_same sG)
  have lnP := nms_len (p := fun a => decide (some a.2 = hd.rs)) (env := env)
  have ln := hE.ln
  clear st eu xu sG nD h1G h4G
  refine ⟨fun σ F => Stp a H F ∧ F l = some (.lst us) ∧ ExL K F es us ∧ ∃ z : Option Str, (∀ y, z = some y → ∃ k, (y, k) ∈ env ∧ hd.rs = some k) ∧ σ = [some (.ref a), some (.ref d), some (.ref p), some (.ref ph), some (.ref l), v5, some (.ref D), some (optV z)], ?_, ?_⟩
  · have nn : ∀ F, Stp a H F → Same G1 F → (Stp a H F ∧ F l = some (.lst us) ∧ ExL K F es us ∧ ∃ z : Option Str, (∀ y, z = some y → ∃ k, (y, k) ∈ env ∧ hd.rs = some k) ∧ [some (V.ref a), some (.ref d), some (.ref p), some (.ref ph), some (.ref l), v5, some (.ref D), some V.non] = [some (.ref a), some (.ref d), some (.ref p), some (.ref ph), some (.ref l), v5, some (.ref D), some (optV z)]) := fun F st s =>
      ⟨st, s _ _ eu1, xu1.keep (Keeps.of_same s), none, fun y h => (by cases h), rfl⟩
    refine ⟨_, rfl, by show 0 ≤ sizeLine; decide, fun z hz => ⟨D, z, _, rfl, rfl, SqL.of (Same.new hz _ _ _ eD), SqL.of upd_same, _, rfl, ite2 (fun ne => ?_) (fun _ => iteF (nn _ (st1.new hz) (Same.new hz _)))⟩⟩
    have sZ := st1.new (o := .lst []) hz
    have eZ := Same.new hz (.lst []) _ _ eD
    have uZ := Same.new hz (.lst []) _ _ eu1
    have xZ := xu1.keep (Keeps.of_same (Same.new hz (.lst [])))
    refine ⟨_, rfl, a, 4, rfl, sZ.s, by decide, fun r F1 s1 r0 r1 => ⟨_, _, rfl, rfl, _, rfl, ite2 (fun _ => ?_) (fun _ => ?_)⟩⟩
    · have sY := sZ.trans s1
      refine ⟨_, rfl, _, rfl, a, D, _, rfl, sY.s, .inl ⟨nDa, SqL.of (s1.k _ _ nDa eZ)⟩, List.length_pos_iff.mpr (fun z => by rw [z] at ne; cases ne), by rw [List.length_map]; omega, fun v F2 hv s2 => ?_⟩
      obtain ⟨zn, hzn, rfl⟩ := str_mem hv
      have s12 := s1.trans s2
      exact ⟨sY.trans s2, s12.k _ _ nla uZ, xZ.keep (Keeps.of_stp s12 sZ.s), some zn, fun y h => by cases h; exact nm_env hzn, rfl⟩
    · exact ⟨sZ.trans s1, s1.k _ _ nla uZ, xZ.keep (Keeps.of_stp s1 sZ.s), none, fun y h => (by cases h), rfl⟩
  clear st1 eu1 xu1 eD
  rintro σ F ⟨st, eu, xu, z, hz, rfl⟩
  refine ⟨_, rfl, _, rfl, ph, _, _, _, rfl, rfl, st.rd g1 hS, rfl, _, rfl, l, _, rfl, .inl ⟨SqL.of eu, fun t ht => ⟨by show 4 ≤ sizeLine; decide, fun r hr2 => ?_⟩⟩⟩
  have k1 := Keeps.of_same (K := K) (Same.new ht (.tup us))
  have k2 := Keeps.of_same (K := K) (Same.new hr2 (.tup [.str "call", optV z, .str hd.nm, .ref t]))
  refine q _ (.call z hd.nm es) _ ((st.new ht).new hr2) fun rs i => ⟨⟨r, t, us, rfl, SqT.of upd_same, k2 _ _ (SqT.of upd_same), (xu.keep k1).keep k2⟩, ⟨hd, mh, rfl, ty, hz⟩, rfl, fun n => by cases n <;> exact trivial⟩
theorem ok_l_memory (T : Txt w K mg) : FnOk P w K mg base CX0 10 T.a_l_memory T.d_l_memory p_l_memory (spMem K) := by
  have g_l_pick := ok_l_pick (P := P) (w := w) (base := base) T
  have g_l_one := ok_l_oneQ (P := P) (w := w) (K := K) (base := base) T
  have g_l_named := ok_l_named (P := P) (w := w) (K := K) (base := base) T
  have g_l_expression := ok_l_expression (P := P) (w := w) (K := K) (base := base) T
  refine T.F_l_memory.ok sc_l_memory (fun vs H Q E h => ?_) (fun cdv A outer s H vs Q E hr h => ?_)
  · obtain ⟨a, d, p, env, W, n, rfl, _⟩ := h
    rfl
  obtain ⟨a, d, p, env, W, n, rfl, hS, hW, oW, hE, eW, q⟩ := h
  refine ⟨_, (pss_cons (ps_set (i := 3) sc_l_memory.nd rfl (Or.inl rfl) (pe_call g_l_pick (hr.mono (by first | decide | omega)) rfl T.m_l_pick T.F_l_pick.kp T.b_l_pick .nil pass0 (pa_cons (pv 0) (pa_cons pe_int pa_nil))))
      (pss_cons (ps_setLc (i := 4) (own := [("_law_pair", 5)]) (g := gName 5) rfl sc_l_memory.nd rfl rfl (sw_true rfl rfl rfl (by decide +kernel)) (pi_list (pv 2)) (blkOk_by (own := [("_law_pair", 5)]) (N := n_l_memory) (sc := defScope s_l_memory) (by decide +kernel)) (fun _ _ _ _ _ => (pg_name (i := 5) sc_l_memory.nd rfl (Or.inl rfl))) (fun _ _ _ _ _ => (pts_one (pt_cmpR op_eq (pe_ix (show IxR _ (rIxT K) from ix_tup) (pe_ix (show IxR _ (rIxT K) from ix_tup) (pv 5) pe_int (fun _ _ => rfl)) pe_int (fun _ _ => rfl)) pe_str (nomark _)))) (fun _ _ _ _ _ => (pv 5)))
      (C8.pss_cut (ps_if (pt_cmpR (op_eqL0 hr.units0) (pv 4) (pe_lst pa_nil) (nomark _)) (pss_one (ps_ret pe_non)) pss_nil)
      (pss_cons (ps_set (i := 5) sc_l_memory.nd rfl (Or.inl rfl) (pe_call g_l_one (hr.mono (by first | decide | omega)) rfl T.m_l_one T.F_l_one.kp T.b_l_one .nil pass0 (pa_cons (pv 0) (pa_cons (pv 4) pa_nil))))
      (C8.pss_cut (ps_if (pt_cmpR op_lt (pv 3) pe_int (nomark _)) (pss_one (ps_ret (pe_tup (pa_cons pe_str (pa_cons (pe_ix ix_tup (pv 5) pe_int (fun _ _ => rfl)) pa_nil))))) pss_nil)
      (C8.pss_cut (ps_if (pt_cmpR op_lt (pv 3) pe_int (nomark _)) (pss_one (ps_ret (pe_tup (pa_cons pe_str (pa_cons (pe_ix ix_tup (pv 5) pe_int (fun _ _ => rfl)) pa_nil))))) pss_nil)
      (pss_cons (ps_set (i := 6) sc_l_memory.nd rfl (Or.inl rfl) (pe_dget (hu_of hr) (pe_dget (hu_of hr) (pv 1) pe_str (fun _ _ => rfl)) (pe_ix ix_tup (pe_ix ix_tup (pv 5) pe_int (fun _ _ => rfl)) pe_int (fun _ _ => rfl)) (fun _ _ => rfl)))
      (C8.pss_cut (ps_if (pt_cmpR (op_eqT0 hr.units0) (pv 6) (pe_tup pa_nil) (nomark _)) (pss_one (ps_ret pe_non)) pss_nil)
      (pss_cons (ps_set (i := 7) sc_l_memory.nd rfl (Or.inl rfl) (pe_call g_l_one (hr.mono (by first | decide | omega)) rfl T.m_l_one T.F_l_one.kp T.b_l_one .nil pass0 (pa_cons (pv 0) (pa_cons (pv 6) pa_nil))))
      (pss_cons (ps_set (i := 8) sc_l_memory.nd rfl (Or.inl rfl) (pe_call g_l_named (hr.mono (by first | decide | omega)) rfl T.m_l_named T.F_l_named.kp T.b_l_named .nil pass0 (pa_cons (pv 2) (pa_cons (pe_ix ix_tup (pv 7) pe_int (fun _ _ => rfl)) pa_nil))))
      (C8.pss_cut (ps_if (PW.pt (pw_and (pt_cmpR op_lt (pv 3) pe_int (nomark _)) (pw_and1 (pt_cmpR (op_neL0 hr.units0) (pv 8) (pe_lst pa_nil) (nomark _))))) (pss_one (ps_ret (pe_tup (pa_cons pe_str (pa_cons (pe_call g_l_one (hr.mono (by first | decide | omega)) rfl T.m_l_one T.F_l_one.kp T.b_l_one .nil pass0 (pa_cons (pv 0) (pa_cons (pv 8) pa_nil))) (pa_cons (pe_ix ix_tup (pv 5) pe_int (fun _ _ => rfl)) (pa_cons (pe_ix ix_tup (pv 7) pe_int (fun _ _ => rfl)) pa_nil))))))) pss_nil)
      (pss_one (ps_ret (pe_tup (pa_cons pe_str (pa_cons (pe_ix ix_tup (pv 5) pe_int (fun _ _ => rfl)) (pa_cons (pe_ix ix_tup (pv 7) pe_int (fun _ _ => rfl)) (pa_cons (pe_call g_l_expression (hr.mono (by first | decide | omega)) rfl T.m_l_expression T.F_l_expression.kp T.b_l_expression .nil pass0 (pa_cons (pv 0) (pa_cons (pv 2) (pa_cons (pe_ix ix_tup (pv 7) pe_int (fun _ _ => rfl)) (pa_cons (pe_dget (hu_of hr) (pv 1) pe_str (fun _ _ => rfl)) pa_nil))))) pa_nil)))))))))))))))))), ?_⟩
  have ok := hE.ok
  have ln := hE.ln
  have lnR := fP_len (f := Kd.isR) (env := env)
  refine ⟨_, rfl, a, 8, rfl, hS, by decide, fun c G0 st0 c0 c1 => ?_⟩
  have hE2 := hE.stp hS st0
  obtain ⟨⟨vs, hp, hP⟩, _, _⟩ := hE2
  have lv := hP.len
  refine ⟨_, rfl, p, rfl, ⟨_, SqL.of hp⟩, fun D hD => ?_⟩
  have nDa : D ≠ a := (st0.s.ne hD).symm
  generalize hH0 : G0 = H0 at *
  clear hH0
  refine lc_it (walk_list (xs := vs)) (fun i G => Same H0 G ∧ PkLst K G D (fP Kd.isR (env.take i))) ⟨Same.new hD _, [], upd_same, trivial⟩ (fun i G _ P => SqL.of (P.1 _ _ hp)) ?_ ?_
  · rintro i x G G' hi ⟨sG, eD⟩ ⟨rfl, ex⟩
    obtain ⟨⟨nm, kd⟩, ea, pk, kv2, rfl, h1, pk2, rfl, h2⟩ := hP.atv ex
    have kp := Keeps.of_same (K := K) sG
    have yes : Kd.isR kd = true → ∃ acc, G' D = some (.lst acc) ∧ acc.length < sizeLine ∧ (Same H0 (upd G' D (.lst (acc ++ [.ref pk]))) ∧ PkLst K (upd G' D (.lst (acc ++ [.ref pk]))) D (fP Kd.isR (env.take (i + 1)))) := fun c => by
      have := fP_len (f := Kd.isR) (env := env.take i)
      rw [List.length_take] at this
      obtain ⟨acc, e1, e2, e3⟩ := eD.push (a := (nm, kd)) (v := .ref pk) ⟨pk, _, rfl, kp _ _ h1, pk2, rfl, kp _ _ h2⟩ (by omega)
      rw [fP_yes ea c]
      exact ⟨acc, e1, e2, fun b o e => by rw [upd_ne (ne_of_none e hD)]; exact sG _ _ e, e3⟩
    have no : Kd.isR kd = false → (Same H0 G' ∧ PkLst K G' D (fP Kd.isR (env.take (i + 1)))) := fun c => by
      rw [fP_no ea c]
      exact ⟨sG, eD⟩
    refine ⟨rfl, ?_⟩
    cases kd with
    | flag => exact ⟨_, rfl, pk, _, _, _, rfl, rfl, kp _ _ h1, rfl, pk2, _, _, _, rfl, rfl, kp _ _ h2, rfl, rfl, _, rfl, ifF (by decide +kernel) (no rfl)⟩
    | ref s => exact ⟨_, rfl, pk, _, _, _, rfl, rfl, kp _ _ h1, rfl, pk2, _, _, _, rfl, rfl, kp _ _ h2, rfl, rfl, _, rfl, ifT (by decide +kernel) ⟨_, rfl, yes rfl⟩⟩
    | num lo hi => exact ⟨_, rfl, pk, _, _, _, rfl, rfl, kp _ _ h1, rfl, pk2, _, _, _, rfl, rfl, kp _ _ h2, rfl, rfl, _, rfl, ifF (by decide +kernel) (no rfl)⟩
  rintro G ⟨sG, eD⟩
  rw [lv, List.take_length] at eD
  have s3 := st0.same sG
  clear st0 sG hp hP hD lv
  refine ⟨fun σ F => Stp a H F ∧ PkLst K F D (fP Kd.isR env) ∧ fP Kd.isR env ≠ [] ∧ σ = [some (.ref a), some (.ref d), some (.ref p), some (.int c), some (.ref D), none, none, none, none], ?_, ?_⟩
  · obtain ⟨us, e1, e2⟩ := id eD
    refine ⟨_, rfl, by show 0 ≤ sizeLine; decide, fun z hz => ⟨D, z, us, rfl, rfl, SqL.of (Same.new hz _ _ _ e1), SqL.of upd_same, _, rfl, ite2 (fun _ => q _ _ (s3.new hz) fun rs i => .inl rfl) (fun ne => ⟨s3.new hz, eD.same (Same.new hz _), fun z => ?_, rfl⟩)⟩⟩
    rw [z] at e2
    cases us with
    | nil => exact ne rfl
    | cons => exact e2.elim
  clear s3 eD
  rintro σ F ⟨s3, ⟨us, e1, e2⟩, neP, rfl⟩
  have lu0 : 0 < us.length := by
    have := List.length_pos_iff.mpr neP
    have := e2.len
    omega
  refine ⟨_, rfl, _, rfl, a, D, us, rfl, s3.s, .inl ⟨nDa, SqL.of e1⟩, lu0, by have := e2.len; omega, fun v F1 hv st1 => ?_⟩
  obtain ⟨⟨nm, kd⟩, ma, pk, kv2, rfl, h1, pk2, rfl, h2⟩ := (e2.keep (Keeps.of_stp st1 s3.s)).mem hv
  obtain ⟨mE, kn⟩ := mem_fP ma
  obtain ⟨sn, rfl⟩ := kd_ref kn
  have s4 := s3.trans st1
  clear s3 st1 e1 e2 lu0 hv
  -- new, free
  refine ⟨fun σ G => F1 = G ∧ σ = [some (.ref a), some (.ref d), some (.ref p), some (.int c), some (.ref D), some (.ref pk), none, none, none], ?_, ?_⟩
  · refine ⟨_, rfl, _, _, rfl, rfl, _, rfl, ite2 (fun _ => ⟨_, rfl, pk, _, _, _, rfl, rfl, h1, rfl, by show 2 ≤ sizeLine; decide, fun t ht => ?_⟩) (fun _ => ⟨rfl, rfl⟩)⟩
    exact q _ _ (s4.new ht) fun rs i => StOf.md (s := .new nm) ⟨⟨t, rfl, SqT.of upd_same⟩, ⟨sn, mE⟩, rfl, fun n => by cases n <;> exact trivial⟩
  rintro σ G ⟨rfl, rfl⟩
  refine ⟨fun σ G => F1 = G ∧ σ = [some (.ref a), some (.ref d), some (.ref p), some (.int c), some (.ref D), some (.ref pk), none, none, none], ?_, ?_⟩
  · refine ⟨_, rfl, _, _, rfl, rfl, _, rfl, ite2 (fun _ => ⟨_, rfl, pk, _, _, _, rfl, rfl, h1, rfl, by show 2 ≤ sizeLine; decide, fun t ht => ?_⟩) (fun _ => ⟨rfl, rfl⟩)⟩
    exact q _ _ (s4.new ht) fun rs i => StOf.md (s := .free nm) ⟨⟨t, rfl, SqT.of upd_same⟩, ⟨sn, mE⟩, rfl, fun n => by cases n <;> exact trivial⟩
  rintro σ G ⟨rfl, rfl⟩
  -- the fields
  obtain ⟨fs, mfs⟩ := eW _ mE sn rfl
  obtain ⟨kvs, fd, ta, lh, axs, hs, w1, w2, nf, ⟨kv2, w3, w3b⟩, w4, w5, w6, w7, w8, w9, w10, w11, w12⟩ := (hW.stp hS s4).ex
  obtain ⟨tf, fxs, f1, f2, f3⟩ := w3b _ mfs
  refine ⟨_, rfl, d, _, rfl, DGet.at (k := Sum.inr "fields") w1 w2, _, rfl, pk, _, _, _, rfl, rfl, h1, rfl, pk2, _, _, _, rfl, rfl, h2, rfl, fd, _, rfl, DGet.at (k := Sum.inr sn) w3 f1, ?_⟩
  clear w1 w2 nf w3 w3b w4 w5 w6 w7 w8 w9 w10 w11 w12
  obtain ⟨lf, okf⟩ := oW.r2 _ mfs
  have lf : fs.length ≤ 20 := lf
  have lfx : fxs.length = fs.length := f3.len
  refine ⟨fun σ G => (Stp a H G ∧ SqT K G tf fxs ∧ PksL K G fs fxs ∧ SqT K G pk [.str nm, .ref pk2]) ∧ fs ≠ [] ∧ σ = [some (.ref a), some (.ref d), some (.ref p), some (.int c), some (.ref D), some (.ref pk), some (.ref tf), none, none], ?_, ?_⟩
  · refine ⟨_, rfl, by show 0 ≤ sizeLine; decide, fun z hz => ⟨tf, z, fxs, rfl, rfl, Same.tup (Same.new hz _) f2, SqT.of upd_same, _, rfl, ite2 (fun _ => q _ _ (s4.new hz) fun rs i => .inl rfl) (fun ne => ⟨⟨s4.new hz, Same.tup (Same.new hz _) f2, f3.keep (Keeps.of_same (Same.new hz _)), Same.tup (Same.new hz _) h1⟩, fun z => ?_, rfl⟩)⟩⟩
    subst z
    cases fxs with
    | nil => exact ne rfl
    | cons => cases lfx
  clear s4 h1 h2 f2 f3
  rintro σ G ⟨⟨s4, f2, f3, h1⟩, ne, rfl⟩
  have lf0 : 0 < fxs.length := by
    have := List.length_pos_iff.mpr ne
    omega
  refine ⟨_, rfl, _, rfl, a, tf, fxs, rfl, s4.s, .inr f2, lf0, by omega, fun v F2 hv st2 => ?_⟩
  have kp2 := Keeps.of_stp (K := K) st2 s4.s
  obtain ⟨⟨fn, fk⟩, mf, pf, kvf, rfl, g1, g2⟩ := (f3.keep kp2).mem hv
  have s5 := s4.trans st2
  have h1' := kp2 _ _ h1
  have fine := (okf _ mf).2.2
  clear s4 st2 kp2 f2 f3 h1 lf0 hv
  refine ⟨_, rfl, _, rfl, pf, _, _, _, rfl, rfl, g1, rfl, p, env, kvf, some fk, rfl, hE.stp hS s5, g2, fine, fun Dt G2 nDt sG eDt => ?_⟩
  have s6 := s5.same sG
  have nDta : Dt ≠ a := (s5.s.ne nDt).symm
  have h1 := Same.tup sG h1'
  have g1 := Same.tup sG g1
  have g2 := KdAt.keep (Keeps.of_same sG) g2
  have lnP := nms_len (p := fun a => decide (some a.2 = some fk)) (env := env)
  clear s5 sG nDt h1'
  refine ⟨fun σ G => (Stp a H G ∧ SqT K G pk [.str nm, .ref pk2] ∧ SqT K G pf [.str fn, kvf] ∧ KdAt K G kvf fk) ∧ σ = [some (.ref a), some (.ref d), some (.ref p), some (.int c), some (.ref D), some (.ref pk), some (.ref tf), some (.ref pf), some (.ref Dt)], ?_, ?_⟩
  · refine ⟨_, rfl, _, _, rfl, rfl, _, rfl, ite2 (fun _ => ⟨_, rfl, by show 0 ≤ sizeLine; decide, fun z hz => ⟨Dt, z, _, rfl, rfl, SqL.of (Same.new hz _ _ _ eDt), SqL.of upd_same, _, rfl, ite2 (fun ne => ?_) (fun _ => ⟨⟨s6.new hz, Same.tup (Same.new hz _) h1, Same.tup (Same.new hz _) g1, KdAt.keep (Keeps.of_same (Same.new hz _)) g2⟩, rfl⟩)⟩⟩) (fun _ => iteF ⟨⟨s6, h1, g1, g2⟩, rfl⟩)⟩
    have sZ := s6.new (o := .lst []) hz
    have eZ := Same.new hz (.lst []) _ _ eDt
    refine ⟨_, rfl, _, rfl, a, Dt, _, rfl, sZ.s, .inl ⟨nDta, SqL.of eZ⟩, List.length_pos_iff.mpr (fun z => by rw [z] at ne; cases ne), by rw [List.length_map]; omega, fun v F3 hv st3 => ?_⟩
    obtain ⟨zn, hzn, rfl⟩ := str_mem hv
    have kp3 := Keeps.of_stp (K := K) st3 sZ.s
    refine ⟨_, rfl, pk, _, _, _, rfl, rfl, kp3 _ _ (Same.tup (Same.new hz _) h1), rfl, _, rfl, pf, _, _, _, rfl, rfl, kp3 _ _ (Same.tup (Same.new hz _) g1), rfl, by show 4 ≤ sizeLine; decide, fun t ht => ?_⟩
    obtain ⟨k', m1, m2⟩ := nm_env hzn
    have m2 := Option.some.inj m2
    subst m2
    exact q _ _ ((sZ.trans st3).new ht) fun rs i => StOf.md (s := .load zn nm fn) ⟨⟨t, rfl, SqT.of upd_same⟩, ⟨sn, fs, _, mE, mfs, mf, m1⟩, rfl, fun n => by cases n <;> exact trivial⟩
  clear s6 h1 g1 g2 eDt
  rintro σ G ⟨⟨s6, h1, g1, g2⟩, rfl⟩
  obtain ⟨kvs, fd, ta, lh, axs, hs, w1, w2, nf, w3, w4, w5, w6, w7, w8, w9, w10, w11, w12⟩ := (hW.stp hS s6).ex
  refine ⟨_, rfl, pk, _, _, _, rfl, rfl, h1, rfl, _, rfl, pf, _, _, _, rfl, rfl, g1, rfl, _, rfl, _, rfl, _, rfl, pf, _, _, _, rfl, rfl, g1, rfl, _, rfl, d, _, rfl, DGet.at (k := Sum.inr "simple") w1 w10, a, p, env, kvf, fk, W.sm, rfl, s6.s, hE.stp hS s6, g2, fine, fun v e F st2 x2 => ⟨by show 4 ≤ sizeLine; decide, fun t ht => ?_⟩⟩
  exact q _ _ ((s6.trans st2).new ht) fun rs i => StOf.md (s := .store nm fn e) ⟨⟨t, v, rfl, SqT.of upd_same, x2.h.keep (Keeps.of_same (Same.new ht _))⟩, ⟨sn, fs, _, mE, mfs, mf, x2.o, x2.t⟩, rfl, fun n => by cases n <;> exact trivial⟩
theorem ok_l_element (T : Txt w K mg) : FnOk P w K mg base CX0 10 T.a_l_element T.d_l_element p_l_element (spMem K) := by
  have g_l_pick := ok_l_pick (P := P) (w := w) (base := base) T
  have g_l_one := ok_l_oneQ (P := P) (w := w) (K := K) (base := base) T
  have g_l_named := ok_l_named (P := P) (w := w) (K := K) (base := base) T
  have g_l_number := ok_l_number (P := P) (w := w) (K := K) (base := base) T 2
  refine T.F_l_element.ok sc_l_element (fun vs H Q E h => ?_) (fun cdv A outer s H vs Q E hr h => ?_)
  · obtain ⟨a, d, p, env, W, n, rfl, _⟩ := h
    rfl
  obtain ⟨a, d, p, env, W, n, rfl, hS, hW, oW, hE, eW, q⟩ := h
  refine ⟨_, (C8.pss_cut (ps_if (pt_cmpR (op_eqT0 hr.units0) (pe_dget (hu_of hr) (pv 1) pe_str (fun _ _ => rfl)) (pe_tup pa_nil) (nomark _)) (pss_one (ps_ret pe_non)) pss_nil)
      (pss_cons (ps_set (i := 3) sc_l_element.nd rfl (Or.inl rfl) (pe_call g_l_one (hr.mono (by first | decide | omega)) rfl T.m_l_one T.F_l_one.kp T.b_l_one .nil pass0 (pa_cons (pv 0) (pa_cons (pe_dget (hu_of hr) (pv 1) pe_str (fun _ _ => rfl)) pa_nil))))
      (pss_cons (ps_set (i := 4) sc_l_element.nd rfl (Or.inl rfl) (pe_call g_l_number (hr.mono (by first | decide | omega)) rfl T.m_l_number T.F_l_number.kp T.b_l_number .nil pass0 (pa_cons (pv 0) (pa_cons (pv 2) (pa_cons pe_int (pa_cons pe_bl pa_nil))))))
      (pss_cons (ps_set (i := 5) sc_l_element.nd rfl (Or.inl rfl) (pe_call g_l_named (hr.mono (by first | decide | omega)) rfl T.m_l_named T.F_l_named.kp T.b_l_named .nil pass0 (pa_cons (pv 2) (pa_cons (pe_tup (pa_cons pe_str (pa_cons (pe_ix ix_tup (pv 3) pe_int (fun _ _ => rfl)) (pa_cons (pe_ix ix_tup (pv 3) pe_int (fun _ _ => rfl)) pa_nil)))) pa_nil))))
      (C8.pss_cut (ps_if (PW.pt (pw_or (pt_cmpR (op_eqL0 hr.units0) (pv 5) (pe_lst pa_nil) (nomark _)) (pw_or1 (pt_cmpR op_eq (pe_call g_l_pick (hr.mono (by first | decide | omega)) rfl T.m_l_pick T.F_l_pick.kp T.b_l_pick .nil pass0 (pa_cons (pv 0) (pa_cons pe_int pa_nil))) pe_int (nomark _))))) (pss_one (ps_ret (pe_tup (pa_cons pe_str (pa_cons (pe_ix ix_tup (pv 3) pe_int (fun _ _ => rfl)) (pa_cons (pv 4) (pa_cons (pe_call g_l_number (hr.mono (by first | decide | omega)) rfl T.m_l_number T.F_l_number.kp T.b_l_number .nil pass0 (pa_cons (pv 0) (pa_cons (pv 2) (pa_cons pe_int (pa_cons pe_bl pa_nil))))) pa_nil))))))) pss_nil)
      (pss_one (ps_ret (pe_tup (pa_cons pe_str (pa_cons (pe_call g_l_one (hr.mono (by first | decide | omega)) rfl T.m_l_one T.F_l_one.kp T.b_l_one .nil pass0 (pa_cons (pv 0) (pa_cons (pv 5) pa_nil))) (pa_cons (pe_ix ix_tup (pv 3) pe_int (fun _ _ => rfl)) (pa_cons (pv 4) pa_nil)))))))))))), ?_⟩
  have ok := hE.ok
  have ln := hE.ln
  obtain ⟨kvs, fd, ta, lh, axs, hs, w1, w2, nf, w3, w4, w5, w6, w7, w8, w9, w10, w11, w12⟩ := hW.ex
  refine ⟨fun σ G => Stp a H G ∧ W.ar ≠ [] ∧ σ = [some (.ref a), some (.ref d), some (.ref p), none, none, none], ?_, ?_⟩
  · refine ⟨_, rfl, d, _, rfl, DGet.at (k := Sum.inr "arrays") w1 w4, by show 0 ≤ sizeLine; decide, fun z hz => ⟨ta, z, axs, rfl, rfl, Same.tup (Same.new hz _) w5, SqT.of upd_same, _, rfl, ite2 (fun _ => q _ _ ((Stp.refl hS).new hz) fun rs i => .inl rfl) (fun ne => ⟨(Stp.refl hS).new hz, fun z => ?_, rfl⟩)⟩⟩
    rw [z] at w6
    cases axs with
    | nil => exact ne rfl
    | cons => exact w6.elim
  clear w1 w2 nf w3 w4 w5 w6 w7 w8 w9 w10 w11 w12
  rintro σ G ⟨s1, neA, rfl⟩
  obtain ⟨kvs, fd, ta, lh, axs, hs, w1, w2, nf, w3, w4, w5, w6, w7, w8, w9, w10, w11, w12⟩ := (hW.stp hS s1).ex
  have la := w6.len
  have la0 : 0 < axs.length := by
    have := List.length_pos_iff.mpr neA
    omega
  refine ⟨_, rfl, _, rfl, d, _, rfl, DGet.at (k := Sum.inr "arrays") w1 w4, a, ta, axs, rfl, s1.s, .inr w5, la0, by have := oW.a1; omega, fun v F2 hv st2 => ?_⟩
  obtain ⟨⟨an, al, lo, hi⟩, mA, pa, rfl, g1⟩ := (w6.imp fun _ _ => ArAt.keep (Keeps.of_stp st2 s1.s)).mem hv
  have fine := oW.a2 _ mA
  have s2 := s1.trans st2
  clear w1 w2 nf w3 w4 w5 w6 w7 w8 w9 w10 w11 w12 st2 s1 hv la0
  refine ⟨_, rfl, _, rfl, a, p, env, 1, false, rfl, s2.s, hE.stp hS s2, by decide, by decide, fun v1 e1 F3 st3 x1 => ?_⟩
  have s3 := s2.trans st3
  have g1 := st3.rd g1 s2.s
  clear s2 st3
  refine ⟨_, rfl, _, rfl, pa, _, _, _, rfl, rfl, g1, rfl, _, rfl, pa, _, _, _, rfl, rfl, g1, rfl, by show 3 ≤ sizeLine; decide, fun t ht => ?_⟩
  have s4 := s3.new (o := .tup [.str "num", .int lo, .int hi]) ht
  refine ⟨p, env, .ref t, some (.num lo hi), rfl, hE.stp hS s4, ⟨t, rfl, SqT.of upd_same⟩, fine, fun D G2 nD sG eD => ?_⟩
  have s5 := s4.same sG
  have nDa : D ≠ a := (s4.s.ne nD).symm
  have g1 := Same.tup sG (Same.tup (Same.new ht _) g1)
  have x1 := (x1.keep (Keeps.of_same (Same.new ht _))).keep (Keeps.of_same sG)
  have lnP := nms_len (p := fun a => decide (some a.2 = some (Kd.num lo hi))) (env := env)
  clear s3 s4 sG nD ht
  have put : ∀ F, Stp a H F → SqT K F pa [.str an, .int al, .int lo, .int hi] → ExOf K F env (Int.toNat 1 + 1) .num v1 e1 → tTup (tCons (tC (.str "put")) (tCons (tOp (rIxT K) (tVar 3) (tC (.int 0))) (tCons (tVar 4) (tCons (tCall (spNb K 2) [] E0 (tCons (tVar 0) (tCons (tVar 2) (tCons (tC (.int 1)) (tCons (tC (.bl false)) tNil))))) tNil)))) [some (.ref a), some (.ref d), some (.ref p), some (.ref pa), some v1, some (.ref D)] F Q := fun F st h x =>
    ⟨_, rfl, pa, _, _, _, rfl, rfl, h, rfl, _, rfl, _, rfl, _, rfl, a, p, env, 1, false, rfl, st.s, hE.stp hS st, by decide, by decide, fun v2 e2 F2 st2 x2 => ⟨by show 4 ≤ sizeLine; decide, fun t ht => q _ _ ((st.trans st2).new ht) fun rs i => StOf.md (s := .put an e1 e2)
      ⟨⟨t, v1, v2, rfl, SqT.of upd_same, ((x.keep (Keeps.of_stp st2 st.s)).keep (Keeps.of_same (Same.new ht _))).h, x2.h.keep (Keeps.of_same (Same.new ht _))⟩, ⟨al, lo, hi, mA, ⟨Ex.ok_up (by decide) x.o, x.t⟩, Ex.ok_up (by decide) x2.o, x2.t⟩, rfl, fun n => by cases n <;> exact trivial⟩⟩⟩
  refine ⟨fun σ G => Stp a H G ∧ G D = some (.lst ((nmsOf (fun a => decide (some a.2 = some (Kd.num lo hi))) env).map V.str)) ∧ SqT K G pa [.str an, .int al, .int lo, .int hi] ∧ ExOf K G env (Int.toNat 1 + 1) .num v1 e1 ∧ nmsOf (fun a => decide (some a.2 = some (Kd.num lo hi))) env ≠ [] ∧ σ = [some (.ref a), some (.ref d), some (.ref p), some (.ref pa), some v1, some (.ref D)], ?_, ?_⟩
  · refine ⟨_, rfl, by show 0 ≤ sizeLine; decide, fun z hz => ⟨D, z, _, rfl, rfl, SqL.of (Same.new hz _ _ _ eD), SqL.of upd_same, _, rfl, ite2 (fun _ => iteT (put _ (s5.new hz) (Same.tup (Same.new hz _) g1) (x1.keep (Keeps.of_same (Same.new hz _))))) (fun ne => ?_)⟩⟩
    have sZ := s5.new (o := .lst []) hz
    have eZ := Same.new hz (.lst []) _ _ eD
    have gZ := Same.tup (Same.new hz (.lst [])) g1
    have xZ := x1.keep (Keeps.of_same (Same.new hz (.lst [])))
    refine ⟨_, rfl, a, 2, rfl, sZ.s, by decide, fun r F1 s1 r0 r1 => ⟨rfl, _, rfl, ite2 (fun _ => put _ (sZ.trans s1) (s1.rd gZ sZ.s) (xZ.keep (Keeps.of_stp s1 sZ.s))) (fun _ => ?_)⟩⟩
    exact ⟨sZ.trans s1, s1.k _ _ nDa eZ, s1.rd gZ sZ.s, xZ.keep (Keeps.of_stp s1 sZ.s), fun z => by rw [z] at ne; exact ne rfl, rfl⟩
  clear s5 g1 x1 eD put
  rintro σ G ⟨s5, eD, g1, x1, ne, rfl⟩
  refine ⟨_, rfl, _, rfl, a, D, _, rfl, s5.s, .inl ⟨nDa, SqL.of eD⟩, by rw [List.length_map]; exact List.length_pos_iff.mpr ne, by rw [List.length_map]; omega, fun v F3 hv st3 => ?_⟩
  obtain ⟨zn, hzn, rfl⟩ := str_mem hv
  obtain ⟨k', m1, m2⟩ := nm_env hzn
  have m2 := Option.some.inj m2
  subst m2
  refine ⟨_, rfl, pa, _, _, _, rfl, rfl, st3.rd g1 s5.s, rfl, _, rfl, by show 4 ≤ sizeLine; decide, fun t ht => ?_⟩
  exact q _ _ ((s5.trans st3).new ht) fun rs i => StOf.md (s := .get zn an e1) ⟨⟨t, v1, rfl, SqT.of upd_same, ((x1.keep (Keeps.of_stp st3 s5.s)).keep (Keeps.of_same (Same.new ht _))).h⟩, ⟨al, lo, hi, mA, m1, Ex.ok_up (by decide) x1.o, x1.t⟩, rfl, fun n => by cases n <;> exact trivial⟩
end
/-! ### drawn programs: leaves -/
def spLeaf (K : PySem.W.Frag) : Sp := fun vs H Q _ => ∃ (a d p : Addr) (env : List Pk) (W : Wm) (n : Int) (lp : Bool) (rv : V) (rs : Option Kd), vs = [.ref a, .ref d, .ref p, .bl lp, rv] ∧ Src H a ∧ WdAt K H d W n ∧ WmOk W ∧ EnvAt K H p env ∧ EnvW W env ∧ OkdAt K H rv rs ∧ okFine rs ∧
  ∀ v s H', Stp a H H' → StOf K H' W env rs lp v s → Q v H'
theorem lead {m : Nat} {s : Sm} (h : ∀ n, s.dep n) : s.dep m := h m
section
variable {P : Program} {w : World} {K : PySem.W.Frag} {mg : Str → Option Value} {base : Heap}
theorem ok_l_leaf (T : Txt w K mg) : FnOk P w K mg base CX0 11 T.a_l_leaf T.d_l_leaf p_l_leaf (spLeaf K) := by
  have g_l_pick := ok_l_pick (P := P) (w := w) (base := base) T
  have g_l_one := ok_l_oneQ (P := P) (w := w) (K := K) (base := base) T
  have g_l_memory := ok_l_memory (P := P) (w := w) (K := K) (base := base) T
  have g_l_element := ok_l_element (P := P) (w := w) (K := K) (base := base) T
  have g_l_call := ok_l_call (P := P) (w := w) (K := K) (base := base) T
  have g_l_expression := ok_l_expression (P := P) (w := w) (K := K) (base := base) T
  have g_l_truth := ok_l_truth (P := P) (w := w) (K := K) (base := base) T 2
  refine T.F_l_leaf.ok sc_l_leaf (fun vs H Q E h => ?_) (fun cdv A outer s H vs Q E hr h => ?_)
  · obtain ⟨a, d, p, env, W, n, lp, rv, rs, rfl, _⟩ := h
    rfl
  obtain ⟨a, d, p, env, W, n, lp, rv, rs, rfl, hS, hW, oW, hE, eW, hrv, frs, q⟩ := h
  refine ⟨_, (pss_cons (ps_set (i := 5) sc_l_leaf.nd rfl (Or.inl rfl) (pe_call g_l_pick (hr.mono (by first | decide | omega)) rfl T.m_l_pick T.F_l_pick.kp T.b_l_pick .nil pass0 (pa_cons (pv 0) (pa_cons pe_int pa_nil))))
      (pss_cons (ps_set (i := 6) sc_l_leaf.nd rfl (Or.inl rfl) pe_non)
      (C8.pss_cut (ps_if (pt_cmpR op_lt (pv 5) pe_int (nomark _)) (pss_one (ps_set (i := 6) sc_l_leaf.nd rfl (Or.inl rfl) (pe_call g_l_memory (hr.mono (by first | decide | omega)) rfl T.m_l_memory T.F_l_memory.kp T.b_l_memory .nil pass0 (pa_cons (pv 0) (pa_cons (pv 1) (pa_cons (pv 2) pa_nil)))))) pss_nil)
      (C8.pss_cut (ps_if (PW.pt (pw_or (pt_cmpR op_eq (pv 5) pe_int (nomark _)) (pw_or1 (pt_cmpR op_eq (pv 5) pe_int (nomark _))))) (pss_one (ps_set (i := 6) sc_l_leaf.nd rfl (Or.inl rfl) (pe_call g_l_call (hr.mono (by first | decide | omega)) rfl T.m_l_call T.F_l_call.kp T.b_l_call .nil pass0 (pa_cons (pv 0) (pa_cons (pv 1) (pa_cons (pv 2) (pa_cons (pe_call g_l_one (hr.mono (by first | decide | omega)) rfl T.m_l_one T.F_l_one.kp T.b_l_one .nil pass0 (pa_cons (pv 0) (pa_cons (pe_op op_cat (pe_dget (hu_of hr) (pv 1) pe_str (fun _ _ => rfl)) (pe_slice sl_list (pe_dget (hu_of hr) (pv 1) pe_str (fun _ _ => rfl)) (po_some pe_int) po_none)) pa_nil))) pa_nil))))))) pss_nil)
      (C8.pss_cut (ps_if (pt_cmpR op_eq (pv 5) pe_int (nomark _)) (pss_one (ps_set (i := 6) sc_l_leaf.nd rfl (Or.inl rfl) (pe_call g_l_element (hr.mono (by first | decide | omega)) rfl T.m_l_element T.F_l_element.kp T.b_l_element .nil pass0 (pa_cons (pv 0) (pa_cons (pv 1) (pa_cons (pv 2) pa_nil)))))) pss_nil)
      (C8.pss_cut (ps_if (PW.pt (pw_and (pt_cmpR op_eq (pv 5) pe_int (nomark _)) (pw_and1 (pt_val (pv 3))))) (pss_one (ps_set (i := 6) sc_l_leaf.nd rfl (Or.inl rfl) (pe_tup (pa_cons pe_str pa_nil)))) pss_nil)
      (C8.pss_cut (ps_if (pt_cmpR op_eq (pv 5) pe_int (nomark _)) (pss_one (ps_set (i := 6) sc_l_leaf.nd rfl (Or.inl rfl) (pe_tup (pa_cons pe_str (pa_cons (pe_call g_l_truth (hr.mono (by first | decide | omega)) rfl T.m_l_truth T.F_l_truth.kp T.b_l_truth .nil pass0 (pa_cons (pv 0) (pa_cons (pv 2) (pa_cons pe_int (pa_cons (pe_dget (hu_of hr) (pv 1) pe_str (fun _ _ => rfl)) pa_nil))))) pa_nil))))) pss_nil)
      (C8.pss_cut (ps_if (PW.pt (pw_and (pt_cmpR op_eq (pv 5) pe_int (nomark _)) (pw_and1 (pt_cmpR op_eq (pe_call g_l_pick (hr.mono (by first | decide | omega)) rfl T.m_l_pick T.F_l_pick.kp T.b_l_pick .nil pass0 (pa_cons (pv 0) (pa_cons pe_int pa_nil))) pe_int (nomark _))))) (pss_cons (ps_set (i := 6) sc_l_leaf.nd rfl (Or.inl rfl) (pe_tup (pa_cons pe_str (pa_cons pe_non pa_nil))))
      (pss_one (ps_if (pt_cmpR op_notN (pv 4) pe_non (nomark _)) (pss_one (ps_set (i := 6) sc_l_leaf.nd rfl (Or.inl rfl) (pe_tup (pa_cons pe_str (pa_cons (pe_call g_l_expression (hr.mono (by first | decide | omega)) rfl T.m_l_expression T.F_l_expression.kp T.b_l_expression .nil pass0 (pa_cons (pv 0) (pa_cons (pv 2) (pa_cons (pv 4) (pa_cons (pe_dget (hu_of hr) (pv 1) pe_str (fun _ _ => rfl)) pa_nil))))) pa_nil))))) pss_nil))) pss_nil)
      (C8.pss_cut (ps_if (PW.pt (pw_and (pt_cmpR op_isN (pv 6) pe_non (nomark _)) (pw_and1 (pt_cmpR (op_neL0 hr.units0) (pv 2) (pe_lst pa_nil) (nomark _))))) (pss_cons (ps_set (i := 7) sc_l_leaf.nd rfl (Or.inl rfl) (pe_call g_l_one (hr.mono (by first | decide | omega)) rfl T.m_l_one T.F_l_one.kp T.b_l_one .nil pass0 (pa_cons (pv 0) (pa_cons (pv 2) pa_nil))))
      (pss_cons (ps_set (i := 6) sc_l_leaf.nd rfl (Or.inl rfl) (pe_tup (pa_cons pe_str (pa_cons (pe_ix ix_tup (pv 7) pe_int (fun _ _ => rfl)) (pa_cons (pe_call g_l_expression (hr.mono (by first | decide | omega)) rfl T.m_l_expression T.F_l_expression.kp T.b_l_expression .nil pass0 (pa_cons (pv 0) (pa_cons (pv 2) (pa_cons (pe_ix ix_tup (pv 7) pe_int (fun _ _ => rfl)) (pa_cons (pe_dget (hu_of hr) (pv 1) pe_str (fun _ _ => rfl)) pa_nil))))) pa_nil)))))
      (C8.pss_cut (ps_if (PW.pt (pw_and (pt_cmpR op_eq (pe_ix ix_tup (pe_ix ix_tup (pv 7) pe_int (fun _ _ => rfl)) pe_int (fun _ _ => rfl)) pe_str (nomark _)) (pw_and1 (pt_cmpR op_eq (pe_call g_l_pick (hr.mono (by first | decide | omega)) rfl T.m_l_pick T.F_l_pick.kp T.b_l_pick .nil pass0 (pa_cons (pv 0) (pa_cons pe_int pa_nil))) pe_int (nomark _))))) (pss_one (ps_set (i := 6) sc_l_leaf.nd rfl (Or.inl rfl) (pe_tup (pa_cons pe_str (pa_cons (pe_ix ix_tup (pv 7) pe_int (fun _ _ => rfl)) pa_nil))))) pss_nil)
      (pss_one (ps_if (PW.pt (pw_and (pt_cmpR op_ne (pe_ix ix_tup (pe_ix ix_tup (pv 7) pe_int (fun _ _ => rfl)) pe_int (fun _ _ => rfl)) pe_str (nomark _)) (pw_and1 (pt_cmpR op_gt (pv 5) pe_int (nomark _))))) (pss_one (ps_set (i := 6) sc_l_leaf.nd rfl (Or.inl rfl) (pe_tup (pa_cons pe_str (pa_cons (pe_ix ix_tup (pv 7) pe_int (fun _ _ => rfl)) pa_nil))))) pss_nil))))) pss_nil)
      (C8.pss_cut (ps_if (pt_cmpR op_isN (pv 6) pe_non (nomark _)) (pss_one (ps_set (i := 6) sc_l_leaf.nd rfl (Or.inl rfl) (pe_call g_l_call (hr.mono (by first | decide | omega)) rfl T.m_l_call T.F_l_call.kp T.b_l_call .nil pass0 (pa_cons (pv 0) (pa_cons (pv 1) (pa_cons (pv 2) (pa_cons (pe_call g_l_one (hr.mono (by first | decide | omega)) rfl T.m_l_one T.F_l_one.kp T.b_l_one .nil pass0 (pa_cons (pv 0) (pa_cons (pe_dget (hu_of hr) (pv 1) pe_str (fun _ _ => rfl)) pa_nil))) pa_nil))))))) pss_nil)
      (pss_one (ps_ret (pv 6))))))))))))), ?_⟩
  have ok := hE.ok
  have ln := hE.ln
  refine ⟨_, rfl, a, 16, rfl, hS, by decide, fun c F0 st0 c0 c1 => ?_⟩
  -- memory
  refine ⟨fun σ F => Stp a H F ∧ ∃ v, MdOf K F W env rs lp v ∧ σ = [some (.ref a), some (.ref d), some (.ref p), some (.bl lp), some rv, some (.int c), some v, none], ?_, ?_⟩
  · refine ⟨_, rfl, _, _, rfl, rfl, _, rfl, ite2 (fun _ => ?_) (fun _ => ⟨st0, _, .inl rfl, rfl⟩)⟩
    exact ⟨_, rfl, _, rfl, _, rfl, a, d, p, env, W, n, rfl, st0.s, hW.stp hS st0, oW, hE.stp hS st0, eW, fun v F st hv => ⟨st0.trans st, v, hv rs lp, rfl⟩⟩
  clear st0
  rintro σ F ⟨st, v, hv, rfl⟩
  -- a call
  refine ⟨fun σ F => Stp a H F ∧ ∃ v, MdOf K F W env rs lp v ∧ σ = [some (.ref a), some (.ref d), some (.ref p), some (.bl lp), some rv, some (.int c), some v, none], ?_, ?_⟩
  · refine ⟨_, rfl, rfl, _, rfl, ite2 (fun _ => iteT ?_) (fun _ => ⟨_, rfl, rfl, _, rfl, ite2 (fun _ => ?_) (fun _ => ⟨st, v, hv, rfl⟩)⟩)⟩
    all_goals
      obtain ⟨kvs, fd, ta, lh, axs, hs, w1, w2, nf, w3, w4, w5, w6, w7, w8, w9, w10, w11, w12⟩ := (hW.stp hS st).ex
      have lhs : hs.length = W.hd.length := w9.len
      have h1 := oW.h1
      have h0 := List.length_pos_iff.mpr oW.h0
      refine ⟨_, rfl, _, rfl, _, rfl, _, rfl, _, rfl, d, _, rfl, DGet.at (k := Sum.inr "heads") w1 w7, _, rfl, d, _, rfl, DGet.at (k := Sum.inr "heads") w1 w7, 1, rfl, lh, _, rfl, SqL.of w8, fun q1 hq1 => ?_⟩
      have w8' := Same.new hq1 (.lst (cutV hs (some 1) none)) _ _ w8
      rw [cut_lo (by decide) (by show 1 ≤ _; omega)] at w8' ⊢
      have s1 := st.new (o := .lst (hs.drop (1 : Int).toNat)) hq1
      have hsd : (hs.drop (1 : Int).toNat).length ≤ 20 := by rw [List.length_drop]; omega
      refine ⟨lh, q1, _, _, rfl, rfl, w8', upd_same, Nat.le_of_lt (lt_line (by omega)), fun q2 hq2 => ?_⟩
      have s2 := s1.new (o := .lst (hs ++ hs.drop (1 : Int).toNat)) hq2
      have w9' := (w9.imp fun _ _ => HdAt.keep (Keeps.of_same (Same.new hq1 (.lst (hs.drop (1 : Int).toNat))))).imp fun _ _ => HdAt.keep (Keeps.of_same (Same.new hq2 (.lst (hs ++ hs.drop (1 : Int).toNat))))
      refine ⟨a, q2, _, rfl, s2.s, .inl ⟨(s1.s.ne hq2).symm, SqL.of upd_same⟩, by rw [List.length_append]; omega, by rw [List.length_append]; omega, fun u F2 hu s3 => ?_⟩
      have hu' : u ∈ hs := by
        rcases List.mem_append.mp hu with hu | hu
        · exact hu
        · exact List.mem_of_mem_drop hu
      obtain ⟨hh, mh, xh⟩ := (w9'.imp fun _ _ => HdAt.keep (Keeps.of_stp s3 s2.s)).mem hu'
      have s4 := s2.trans s3
      exact ⟨a, d, p, env, W, n, hh, u, rfl, s4.s, hW.stp hS s4, oW, hE.stp hS s4, xh, mh, fun v s F3 s5 hv => ⟨s4.trans s5, v, (hv rs lp).md, rfl⟩⟩
  clear st hv
  rintro σ F ⟨st, v, hv, rfl⟩
  -- an element
  refine ⟨fun σ F => Stp a H F ∧ ∃ v, MdOf K F W env rs lp v ∧ σ = [some (.ref a), some (.ref d), some (.ref p), some (.bl lp), some rv, some (.int c), some v, none], ?_, ?_⟩
  · refine ⟨_, rfl, rfl, _, rfl, ite2 (fun _ => ?_) (fun _ => ⟨st, v, hv, rfl⟩)⟩
    exact ⟨_, rfl, _, rfl, _, rfl, a, d, p, env, W, n, rfl, st.s, hW.stp hS st, oW, hE.stp hS st, eW, fun v F s2 hv => ⟨st.trans s2, v, hv rs lp, rfl⟩⟩
  clear st hv
  rintro σ F ⟨st, v, hv, rfl⟩
  -- break
  refine ⟨fun σ F => Stp a H F ∧ ∃ v, MdOf K F W env rs lp v ∧ σ = [some (.ref a), some (.ref d), some (.ref p), some (.bl lp), some rv, some (.int c), some v, none], ?_, ?_⟩
  · refine ⟨_, rfl, rfl, _, rfl, ite2 (fun _ => ⟨_, rfl, _, rfl, ite2 (fun lt => ⟨by show 1 ≤ sizeLine; decide, fun t ht => ?_⟩) (fun _ => ⟨st, v, hv, rfl⟩)⟩) (fun _ => iteF ⟨st, v, hv, rfl⟩)⟩
    exact ⟨st.new ht, _, StOf.md (s := .brk) ⟨⟨t, rfl, SqT.of upd_same⟩, lt, rfl, fun n => by cases n <;> exact trivial⟩, rfl⟩
  clear st hv
  rintro σ F ⟨st, v, hv, rfl⟩
  -- assert
  refine ⟨fun σ F => Stp a H F ∧ ∃ v, MdOf K F W env rs lp v ∧ σ = [some (.ref a), some (.ref d), some (.ref p), some (.bl lp), some rv, some (.int c), some v, none], ?_, ?_⟩
  · refine ⟨_, rfl, rfl, _, rfl, ite2 (fun _ => ?_) (fun _ => ⟨st, v, hv, rfl⟩)⟩
    obtain ⟨kvs, fd, ta, lh, axs, hs, w1, w2, nf, w3, w4, w5, w6, w7, w8, w9, w10, w11, w12⟩ := (hW.stp hS st).ex
    refine ⟨_, rfl, _, rfl, _, rfl, d, _, rfl, DGet.at (k := Sum.inr "simple") w1 w10, a, p, env, 1, W.sm, rfl, st.s, hE.stp hS st, by decide, by decide, fun v e F1 s1 x => ⟨by show 2 ≤ sizeLine; decide, fun t ht => ?_⟩⟩
    exact ⟨(st.trans s1).new ht, _, StOf.md (s := .asrt e) ⟨⟨t, v, rfl, SqT.of upd_same, (x.keep (Keeps.of_same (Same.new ht _))).h⟩, ⟨x.o, x.t⟩, rfl, fun n => by cases n <;> exact trivial⟩, rfl⟩
  clear st hv
  rintro σ F ⟨st, v, hv, rfl⟩
  -- return
  refine ⟨fun σ F => Stp a H F ∧ ∃ v, MdOf K F W env rs lp v ∧ σ = [some (.ref a), some (.ref d), some (.ref p), some (.bl lp), some rv, some (.int c), some v, none], ?_, ?_⟩
  · refine ⟨_, rfl, rfl, _, rfl, ite2 (fun _ => ⟨_, rfl, a, 2, rfl, st.s, by decide, fun r F1 s1 r0 r1 => ⟨rfl, _, rfl, ite2 (fun _ => ?_) (fun _ => ⟨st.trans s1, v, hv.keep (Keeps.of_stp s1 st.s), rfl⟩)⟩⟩) (fun _ => iteF ⟨st, v, hv, rfl⟩)⟩
    have s2 := st.trans s1
    refine ⟨by show 2 ≤ sizeLine; decide, fun t ht => ?_⟩
    have s3 := s2.new (o := .tup [.str "return", .non]) ht
    cases rs with
    | none =>
      obtain rfl : rv = .non := hrv
      refine ⟨_, rfl, rfl, _, rfl, iteF ?_⟩
      exact ⟨s3, _, StOf.md (s := .ret none) ⟨⟨t, rfl, SqT.of upd_same⟩, rfl, rfl, fun n => by cases n <;> exact trivial⟩, rfl⟩
    | some k =>
      obtain ⟨pr, rfl, hk⟩ := hrv
      refine ⟨_, rfl, rfl, _, rfl, iteT ?_⟩
      obtain ⟨kvs, fd, ta, lh, axs, hs, w1, w2, nf, w3, w4, w5, w6, w7, w8, w9, w10, w11, w12⟩ := (hW.stp hS s3).ex
      refine ⟨_, rfl, _, rfl, _, rfl, _, rfl, d, _, rfl, DGet.at (k := Sum.inr "simple") w1 w10, a, p, env, .ref pr, k, W.sm, rfl, s3.s, hE.stp hS s3, ⟨pr, rfl, s3.rd hk hS⟩, frs, fun v e F2 s4 x => ⟨by show 2 ≤ sizeLine; decide, fun t2 ht2 => ?_⟩⟩
      exact ⟨(s3.trans s4).new ht2, _, StOf.md (s := .ret (some e)) ⟨⟨t2, v, rfl, SqT.of upd_same, (x.keep (Keeps.of_same (Same.new ht2 _))).h⟩, ⟨k, rfl, x.o, x.t⟩, rfl, fun n => by cases n <;> exact trivial⟩, rfl⟩
  clear st hv
  rintro σ F ⟨st, v, hv, rfl⟩
  -- nothing yet
  refine ⟨fun σ F => Stp a H F ∧ ∃ v z, MdOf K F W env rs lp v ∧ σ = [some (.ref a), some (.ref d), some (.ref p), some (.bl lp), some rv, some (.int c), some v, z], ?_, ?_⟩
  · refine ⟨_, rfl, rfl, _, rfl, ite2 (fun _ => ?_) (fun _ => iteF ⟨st, v, none, hv, rfl⟩)⟩
    obtain ⟨⟨evs, hp, hP⟩, _, _⟩ := hE.stp hS st
    have lv := hP.len
    have npa := hE.ne hS
    refine ⟨_, rfl, by show 0 ≤ sizeLine; decide, fun z hz => ⟨p, z, evs, rfl, rfl, SqL.of (Same.new hz _ _ _ hp), SqL.of upd_same, _, rfl, ite2 (fun ne => ?_) (fun _ => ⟨st.new hz, v, none, hv.keep (Keeps.of_same (Same.new hz _)), rfl⟩)⟩⟩
    have sZ := st.new (o := .lst []) hz
    have hpZ := Same.new hz (.lst []) _ _ hp
    have hPZ := PksL.keep (Keeps.of_same (Same.new hz (.lst []))) hP
    refine ⟨_, rfl, _, rfl, a, p, evs, rfl, sZ.s, .inl ⟨npa, SqL.of hpZ⟩, List.length_pos_iff.mpr (fun z => by rw [z] at ne; cases ne), by omega, fun u F1 hu s1 => ?_⟩
    obtain ⟨⟨nm, kd⟩, mE, pk, kv2, rfl, h1, pk2, rfl, h2⟩ := (hPZ.keep (Keeps.of_stp s1 sZ.s)).mem hu
    have s2 := sZ.trans s1
    have fine := (ok _ mE).2.2
    obtain ⟨kvs, fd, ta, lh, axs, hs, w1, w2, nf, w3, w4, w5, w6, w7, w8, w9, w10, w11, w12⟩ := (hW.stp hS s2).ex
    refine ⟨_, rfl, pk, _, _, _, rfl, rfl, h1, rfl, _, rfl, _, rfl, _, rfl, pk, _, _, _, rfl, rfl, h1, rfl, _, rfl, d, _, rfl, DGet.at (k := Sum.inr "simple") w1 w10, a, p, env, .ref pk2, kd, W.sm, rfl, s2.s, hE.stp hS s2, ⟨pk2, rfl, h2⟩, fine, fun v e F2 s3 x => ⟨by show 3 ≤ sizeLine; decide, fun t ht => ?_⟩⟩
    have s4 := (s2.trans s3).new (o := .tup [.str "set", .str nm, v]) ht
    have kk : Keeps K F1 (upd F2 t (.tup [.str "set", .str nm, v])) := fun p xs h => Same.tup (Same.new ht _) (s3.rd h s2.s)
    have md : MdOf K (upd F2 t (.tup [.str "set", .str nm, v])) W env rs lp (.ref t) := StOf.md (s := .set nm e) ⟨⟨t, v, rfl, SqT.of upd_same, (x.keep (Keeps.of_same (Same.new ht _))).h⟩, ⟨kd, mE, x.o, x.t⟩, rfl, fun n => by cases n <;> exact trivial⟩
    have h1 := kk _ _ h1
    have h2 := kk _ _ h2
    generalize (upd F2 t (.tup [.str "set", .str nm, v])) = F3 at *
    clear kk x s3 s2 s1 sZ hpZ hPZ hp hP lv npa st hv w1 w2 nf w3 w4 w5 w6 w7 w8 w9 w10 w11 w12
    refine ⟨fun σ F => (Stp a H F ∧ SqT K F pk [.str nm, .ref pk2] ∧ SqT K F pk2 kd.vals) ∧ ∃ v, MdOf K F W env rs lp v ∧ σ = [some (.ref a), some (.ref d), some (.ref p), some (.bl lp), some rv, some (.int c), some v, some (.ref pk)], ?_, ?_⟩
    · have nn : (Stp a H F3 ∧ SqT K F3 pk [.str nm, .ref pk2] ∧ SqT K F3 pk2 kd.vals) ∧ ∃ v, MdOf K F3 W env rs lp v ∧ [some (V.ref a), some (.ref d), some (.ref p), some (.bl lp), some rv, some (.int c), some (V.ref t), some (.ref pk)] = [some (.ref a), some (.ref d), some (.ref p), some (.bl lp), some rv, some (.int c), some v, some (.ref pk)] := ⟨⟨s4, h1, h2⟩, _, md, rfl⟩
      cases kd with
      | flag => exact ⟨_, rfl, pk, _, _, _, rfl, rfl, h1, rfl, pk2, _, _, _, rfl, rfl, h2, rfl, rfl, _, rfl, ifF (by decide +kernel) (iteF nn)⟩
      | num lo hi => exact ⟨_, rfl, pk, _, _, _, rfl, rfl, h1, rfl, pk2, _, _, _, rfl, rfl, h2, rfl, rfl, _, rfl, ifF (by decide +kernel) (iteF nn)⟩
      | ref sn =>
        refine ⟨_, rfl, pk, _, _, _, rfl, rfl, h1, rfl, pk2, _, _, _, rfl, rfl, h2, rfl, rfl, _, rfl, ifT (by decide +kernel) ⟨_, rfl, a, 2, rfl, s4.s, by decide, fun r F4 s5 r0 r1 => ⟨rfl, _, rfl, ite2 (fun _ => ?_) (fun _ => ?_)⟩⟩⟩
        · have g1 := s5.rd h1 s4.s
          refine ⟨_, rfl, pk, _, _, _, rfl, rfl, g1, rfl, by show 2 ≤ sizeLine; decide, fun t2 ht2 => ?_⟩
          exact ⟨⟨(s4.trans s5).new ht2, Same.tup (Same.new ht2 _) g1, Same.tup (Same.new ht2 _) (s5.rd h2 s4.s)⟩, _, StOf.md (s := .new nm) ⟨⟨t2, rfl, SqT.of upd_same⟩, ⟨sn, mE⟩, rfl, fun n => by cases n <;> exact trivial⟩, rfl⟩
        · exact ⟨⟨s4.trans s5, s5.rd h1 s4.s, s5.rd h2 s4.s⟩, _, md.keep (Keeps.of_stp s5 s4.s), rfl⟩
    clear s4 md h1 h2
    rintro σ F4 ⟨⟨s4, j1, j2⟩, v, md, rfl⟩
    have nn : Stp a H F4 ∧ ∃ v' z, MdOf K F4 W env rs lp v' ∧ [some (V.ref a), some (.ref d), some (.ref p), some (.bl lp), some rv, some (.int c), some v, some (.ref pk)] = [some (.ref a), some (.ref d), some (.ref p), some (.bl lp), some rv, some (.int c), some v', z] := ⟨s4, v, _, md, rfl⟩
    have yes : kd.isR = false → ∀ t, F4 t = none → (Stp a H (upd F4 t (.tup [.str "input", .str nm])) ∧ ∃ v' z, MdOf K (upd F4 t (.tup [.str "input", .str nm])) W env rs lp v' ∧ [some (V.ref a), some (.ref d), some (.ref p), some (.bl lp), some rv, some (.int c), some (V.ref t), some (.ref pk)] = [some (.ref a), some (.ref d), some (.ref p), some (.bl lp), some rv, some (.int c), some v', z]) := fun hk t ht =>
      ⟨s4.new ht, _, _, StOf.md (s := .input nm) ⟨⟨t, rfl, SqT.of upd_same⟩, ⟨kd, mE, hk⟩, rfl, fun n => by cases n <;> exact trivial⟩, rfl⟩
    cases kd with
    | flag => exact ⟨_, rfl, pk, _, _, _, rfl, rfl, j1, rfl, pk2, _, _, _, rfl, rfl, j2, rfl, rfl, _, rfl, ifT (by decide +kernel) ⟨_, rfl, _, _, rfl, rfl, _, rfl, ite2 (fun _ => ⟨_, rfl, pk, _, _, _, rfl, rfl, j1, rfl, by show 2 ≤ sizeLine; decide, fun t ht => yes rfl t ht⟩) (fun _ => nn)⟩⟩
    | num lo hi => exact ⟨_, rfl, pk, _, _, _, rfl, rfl, j1, rfl, pk2, _, _, _, rfl, rfl, j2, rfl, rfl, _, rfl, ifT (by decide +kernel) ⟨_, rfl, _, _, rfl, rfl, _, rfl, ite2 (fun _ => ⟨_, rfl, pk, _, _, _, rfl, rfl, j1, rfl, by show 2 ≤ sizeLine; decide, fun t ht => yes rfl t ht⟩) (fun _ => nn)⟩⟩
    | ref sn => exact ⟨_, rfl, pk, _, _, _, rfl, rfl, j1, rfl, pk2, _, _, _, rfl, rfl, j2, rfl, rfl, _, rfl, ifF (by decide +kernel) (iteF nn)⟩
  clear st hv
  rintro σ F ⟨st, v, z, hv, rfl⟩
  -- a call, if there is nothing else
  refine ⟨fun σ F => Stp a H F ∧ ∃ v s, StOf K F W env rs lp v s ∧ σ = [some (.ref a), some (.ref d), some (.ref p), some (.bl lp), some rv, some (.int c), some v, z], ?_, ?_⟩
  · refine ⟨_, rfl, rfl, _, rfl, ite2 (fun _ => ?_) (fun ne => ?_)⟩
    · obtain ⟨kvs, fd, ta, lh, axs, hs, w1, w2, nf, w3, w4, w5, w6, w7, w8, w9, w10, w11, w12⟩ := (hW.stp hS st).ex
      have lhs : hs.length = W.hd.length := w9.len
      have h1 := oW.h1
      have h0 := List.length_pos_iff.mpr oW.h0
      refine ⟨_, rfl, _, rfl, _, rfl, _, rfl, _, rfl, d, _, rfl, DGet.at (k := Sum.inr "heads") w1 w7, a, lh, hs, rfl, st.s, .inl ⟨hs_ne w8 w9 st.s, SqL.of w8⟩, by omega, by omega, fun u F2 hu s3 => ?_⟩
      obtain ⟨hh, mh, xh⟩ := (w9.imp fun _ _ => HdAt.keep (Keeps.of_stp s3 st.s)).mem hu
      have s4 := st.trans s3
      exact ⟨a, d, p, env, W, n, hh, u, rfl, s4.s, hW.stp hS s4, oW, hE.stp hS s4, xh, mh, fun v s F3 s5 hv => ⟨s4.trans s5, v, s, hv rs lp, rfl⟩⟩
    · rcases hv with rfl | ⟨_, s, hv⟩
      · exact absurd (decide_eq_true rfl) ne
      · exact ⟨st, v, s, hv, rfl⟩
  rintro σ F ⟨st, v, s, hv, rfl⟩
  exact ⟨_, rfl, q v s F st hv⟩
end
/-! ### drawn programs: loops, bodies -/
/-- all stands but the source and the world -/
structure Stw (a d : Addr) (H H' : Hp) : Prop where
  s : Src H' a
  k : ∀ b o, b ≠ a → b ≠ d → H b = some o → H' b = some o
theorem Stw.of {a d : Addr} {H H' : Hp} (x : Stp a H H') : Stw a d H H' := ⟨x.s, fun b o h _ e => x.k b o h e⟩
theorem Stw.trans {a d : Addr} {H H1 H2 : Hp} (x : Stw a d H H1) (y : Stw a d H1 H2) : Stw a d H H2 := ⟨y.s, fun b o h h2 e => y.k b o h h2 (x.k b o h h2 e)⟩
theorem Stw.keep {K : PySem.W.Frag} {a d : Addr} {H H' : Hp} {kvs : List (Key × V)} (x : Stw a d H H') (hs : Src H a) (hd : H d = some (.dK kvs)) : Keeps K H H' := by
  obtain ⟨c, m, k, hs⟩ := hs
  intro p xs h
  have n : ∀ {u : HO}, H p = some u → (∀ zs, u ≠ .lst zs) → (∀ zs, u ≠ .dK zs) → H' p = some u := fun e n1 n2 => by
    refine x.k _ _ (fun z => ?_) (fun z => ?_) e
    · rw [z, hs] at e
      exact n1 _ (Option.some.inj e).symm
    · rw [z, hd] at e
      exact n2 _ (Option.some.inj e).symm
  rcases h with (h | ⟨o, h⟩) | h
  · exact .inl (.inl (n h (fun _ z => nomatch z) (fun _ z => nomatch z)))
  · exact .inl (.inr ⟨o, n h (fun _ z => nomatch z) (fun _ z => nomatch z)⟩)
  · exact .inr h
theorem WdAt.dk {K : PySem.W.Frag} {H : Hp} {d : Addr} {W : Wm} {n : Int} (h : WdAt K H d W n) : ∃ kvs, H d = some (.dK kvs) := by
  obtain ⟨kvs, fd, ta, lh, xs, hs, h1, _⟩ := h.ex
  exact ⟨kvs, h1⟩
theorem Stw.keepW {K : PySem.W.Frag} {a d : Addr} {H H' : Hp} {W : Wm} {n : Int} (x : Stw a d H H') (hs : Src H a) (hd : WdAt K H d W n) : Keeps K H H' := by
  obtain ⟨kvs, h⟩ := hd.dk
  exact x.keep hs h
theorem EnvAt.stw {K : PySem.W.Frag} {H H' : Hp} {p a d : Addr} {env : List Pk} {W : Wm} {n : Int} (h : EnvAt K H p env) (hs : Src H a) (hd : WdAt K H d W n) (s : Stw a d H H') : EnvAt K H' p env := by
  have ne := h.ne hs
  have kp := s.keepW hs hd
  obtain ⟨kvs, e2⟩ := hd.dk
  obtain ⟨⟨vs, e, h2⟩, h3, h4⟩ := h
  exact ⟨⟨vs, s.k _ _ ne (ne_of e e2 (by intro z; cases z)) e, h2.keep kp⟩, h3, h4⟩
/-- the number of statements that are left, written anew -/
theorem WdAt.put {K : PySem.W.Frag} {H : Hp} {d : Addr} {W : Wm} {n : Int} {kvs : List (Key × V)} (h : WdAt K H d W n) (e : H d = some (.dK kvs)) (m : Int) : WdAt K (upd H d (.dK (putK kvs (Sum.inr "left") (.int m)))) d W m := by
  obtain ⟨kvs2, fd, ta, lh, xs, hs, h1, h2, nf, h3, h4, h5, h6, h7, h8, h9, h10, h11, h12⟩ := h.ex
  rw [e] at h1
  have := HO.dK.inj (Option.some.inj h1)
  subst this
  have kp : Keeps K H (upd H d (.dK (putK kvs (Sum.inr "left") (.int m)))) := fun p xs q => by
    have ne : ∀ {u : HO}, H p = some u → (∀ kvs, u ≠ .dK kvs) → p ≠ d := fun e2 n z => by
      rw [z, e] at e2
      exact n _ (Option.some.inj e2).symm
    rcases q with (q | ⟨o', q⟩) | q
    · exact .inl (.inl (by rw [upd_ne (ne q (fun _ z => nomatch z))]; exact q))
    · exact .inl (.inr ⟨o', by rw [upd_ne (ne q (fun _ z => nomatch z))]; exact q⟩)
    · exact .inr q
  have hk : ∀ {z : Str} {v : V}, z ≠ "left" → valV kvs (Sum.inr z) = some v → valV (putK kvs (Sum.inr "left") (.int m)) (Sum.inr z) = some v := fun nz e => by
    rw [valV_put, if_neg (fun q => nz (Sum.inr.inj q))]
    exact e
  have lhd : lh ≠ d := ne_of h8 e (by intro z; cases z)
  have len : (putK kvs (Sum.inr "left") (.int m)).length ≤ 10 := by
    unfold putK
    split
    · rw [List.length_map]; exact h12
    · rename_i hh
      exfalso
      rw [valV_any, h11] at hh
      exact hh rfl
  refine ⟨_, fd, ta, lh, xs, hs, upd_same, hk (by decide +kernel) h2, nf, h3.mono kp fun o e2 => by rw [upd_ne nf]; exact e2, hk (by decide +kernel) h4, kp _ _ h5, h6.imp fun _ _ => ArAt.keep kp, hk (by decide +kernel) h7, by rw [upd_ne lhd]; exact h8, h9.imp fun _ _ => HdAt.keep kp, hk (by decide +kernel) h10, ?_, len⟩
  rw [valV_put, if_pos rfl]
/-- the world's dict as it was, but for the number that is left -/
def LeftAt (H : Hp) (d : Addr) (kvs : List (Key × V)) (n : Int) : Prop := ∃ kv2, H d = some (.dK kv2) ∧ (∀ z : Str, z ≠ "left" → valV kv2 (Sum.inr z) = valV kvs (Sum.inr z)) ∧ valV kv2 (Sum.inr "left") = some (.int n) ∧ kv2.length = kvs.length
theorem LeftAt.same {H H' : Hp} {d : Addr} {kvs : List (Key × V)} {n : Int} (h : LeftAt H d kvs n) (s : Same H H') : LeftAt H' d kvs n := by
  obtain ⟨kv2, h1, h2⟩ := h
  exact ⟨kv2, s _ _ h1, h2⟩
theorem LeftAt.stp {H H' : Hp} {a d : Addr} {kvs : List (Key × V)} {n : Int} (h : LeftAt H d kvs n) (s : Src H a) (st : Stp a H H') : LeftAt H' d kvs n := by
  obtain ⟨kv2, h1, h2⟩ := h
  exact ⟨kv2, st.k _ _ (dk_ne h1 s) h1, h2⟩
theorem putK_len {kvs : List (Key × V)} {k : Key} {v : V} (h : (valV kvs k).isSome = true) : (putK kvs k v).length = kvs.length := by
  unfold putK
  rw [← valV_any] at h
  rw [if_pos h, List.length_map]
theorem LeftAt.put {H : Hp} {d : Addr} {kvs kv2 : List (Key × V)} {n m : Int} (h : LeftAt H d kvs n) (e : H d = some (.dK kv2)) : LeftAt (upd H d (.dK (putK kv2 (Sum.inr "left") (.int m)))) d kvs m := by
  obtain ⟨kv3, h1, h2, h3, h4⟩ := h
  rw [e] at h1
  have := HO.dK.inj (Option.some.inj h1)
  subst this
  refine ⟨_, upd_same, fun z hz => ?_, ?_, ?_⟩
  · rw [valV_put, if_neg (fun q => hz (Sum.inr.inj q))]
    exact h2 z hz
  · rw [valV_put, if_pos rfl]
  · rw [putK_len (by rw [h3]; rfl)]
    exact h4
/-- the world again, from where it was -/
theorem WdAt.left {K : PySem.W.Frag} {a d : Addr} {H H' : Hp} {W : Wm} {kvs : List (Key × V)} {n m : Int} (h : WdAt K H d W n) (e : H d = some (.dK kvs)) (hs : Src H a) (sw : Stw a d H H') (l : LeftAt H' d kvs m) : WdAt K H' d W m := by
  obtain ⟨kvs2, fd, ta, lh, xs, hds, h1, h2, nf, h3, h4, h5, h6, h7, h8, h9, h10, h11, h12⟩ := h.ex
  rw [e] at h1
  have := HO.dK.inj (Option.some.inj h1)
  subst this
  have kp := sw.keep (K := K) hs e
  obtain ⟨kv2, l1, l2, l3, l4⟩ := l
  obtain ⟨kf, ef, hf⟩ := id h3
  have lhd : lh ≠ d := ne_of h8 e (by intro z; cases z)
  refine ⟨kv2, fd, ta, lh, xs, hds, l1, (l2 _ (by decide +kernel)).trans h2, nf, h3.mono kp fun o e2 => sw.k _ _ (dk_ne ef hs) nf e2, (l2 _ (by decide +kernel)).trans h4, kp _ _ h5, h6.imp fun _ _ => ArAt.keep kp, (l2 _ (by decide +kernel)).trans h7, sw.k _ _ (hs_ne h8 h9 hs) lhd h8, h9.imp fun _ _ => HdAt.keep kp, (l2 _ (by decide +kernel)).trans h10, l3, by rw [l4]; exact h12⟩
theorem Bd.wf_snoc {W : Wm} {env : List Pk} {rs : Option Kd} {i : Bool} {s : Sm} (h : s.wf W env rs i) : ∀ {b : Bd}, b.wf W env rs i → (b.snoc s).wf W env rs i
  | .nil, _ => ⟨h, trivial⟩
  | .cons _ _, q => ⟨q.1, Bd.wf_snoc h q.2⟩
theorem Bd.dep_snoc {D : Nat} {s : Sm} (h : s.dep D) : ∀ {b : Bd}, b.dep D → (b.snoc s).dep D
  | .nil, _ => ⟨h, trivial⟩
  | .cons _ _, q => ⟨q.1, Bd.dep_snoc h q.2⟩
structure BdOf (K : PySem.W.Frag) (H : Hp) (W : Wm) (env : List Pk) (rs : Option Kd) (i : Bool) (D : Nat) (vs : List V) (b : Bd) : Prop where
  h : BdL K H b vs
  w : b.wf W env rs i
  d : b.dep D
theorem BdOf.keep {K : PySem.W.Frag} {H H' : Hp} {W : Wm} {env : List Pk} {rs : Option Kd} {i : Bool} {D : Nat} {vs : List V} {b : Bd} (kp : Keeps K H H') (h : BdOf K H W env rs i D vs b) : BdOf K H' W env rs i D vs b := ⟨h.h.keep kp, h.w, h.d⟩
theorem BdOf.snoc {K : PySem.W.Frag} {H : Hp} {W : Wm} {env : List Pk} {rs : Option Kd} {i : Bool} {D : Nat} {vs : List V} {b : Bd} {s : Sm} {v : V} (h : BdOf K H W env rs i D vs b) (h1 : SmAt K H s v) (h2 : s.wf W env rs i) (h3 : s.dep D) : BdOf K H W env rs i D (vs ++ [v]) (b.snoc s) := ⟨h.h.snoc h1, Bd.wf_snoc h2 h.w, Bd.dep_snoc h3 h.d⟩
theorem BdL.len {K : PySem.W.Frag} {H : Hp} : ∀ {b : Bd} {vs : List V}, BdL K H b vs → vs.length ≤ b.cnt
  | .nil, _, e => by rw [show _ = [] from e]; exact Nat.zero_le _
  | .cons s b, _, ⟨v, ws, e, _, r⟩ => by
    have ih := BdL.len r
    have c1 : 1 ≤ s.cnt := by cases s <;> simp [Sm.cnt] <;> omega
    rw [e]
    show ws.length + 1 ≤ s.cnt + b.cnt
    omega
theorem PkLst.stw {K : PySem.W.Frag} {a d : Addr} {H H' : Hp} {D : Addr} {l : List Pk} (kp : Keeps K H H') (ne : D ≠ a) (ne2 : D ≠ d) (s : Stw a d H H') (h : PkLst K H D l) : PkLst K H' D l := by
  obtain ⟨us, h1, h2⟩ := h
  exact ⟨us, s.k _ _ ne ne2 h1, h2.keep kp⟩
def spBd (K : PySem.W.Frag) (m : Nat) : Sp := fun vs H Q _ => ∃ (a d p : Addr) (env : List Pk) (W : Wm) (kvs : List (Key × V)) (n up D : Int) (lp : Bool) (rv : V) (rs : Option Kd), vs = [.ref a, .ref d, .ref p, .int up, .int D, .bl lp, rv] ∧ Src H a ∧ H d = some (.dK kvs) ∧ WdAt K H d W n ∧ WmOk W ∧ EnvAt K H p env ∧ EnvW W env ∧ OkdAt K H rv rs ∧ okFine rs ∧ (0 ≤ up ∧ up ≤ 100) ∧ (0 ≤ D ∧ D < (m : Int)) ∧ (0 ≤ n ∧ n ≤ 1000) ∧
  ∀ t xs b n' H', Stw a d H H' → SqT K H' t xs → BdOf K H' W env rs lp D.toNat xs b → LeftAt H' d kvs n' → (0 ≤ n' ∧ n' ≤ n) → (b.cnt : Int) ≤ 2 * (n - n') → Q (.ref t) H'
def spLp (K : PySem.W.Frag) (m : Nat) : Sp := fun vs H Q _ => ∃ (a d p : Addr) (env : List Pk) (W : Wm) (kvs : List (Key × V)) (n D : Int) (rv : V) (rs : Option Kd), vs = [.ref a, .ref d, .ref p, .int D, rv] ∧ Src H a ∧ H d = some (.dK kvs) ∧ WdAt K H d W n ∧ WmOk W ∧ EnvAt K H p env ∧ EnvW W env ∧ OkdAt K H rv rs ∧ okFine rs ∧ (1 ≤ D ∧ D ≤ (m : Int)) ∧ (0 ≤ n ∧ n ≤ 1000) ∧
  ∀ v s n' H', Stw a d H H' → SmAt K H' s v → (∀ i, s.wf W env rs i) → s.dep D.toNat → LeftAt H' d kvs n' → (0 ≤ n' ∧ n' ≤ n) → (s.cnt : Int) ≤ 2 * (n - n') + 2 → Q v H'
section
variable {P : Program} {w : World} {K : PySem.W.Frag} {mg : Str → Option Value} {base : Heap}
theorem ok_loop (T : Txt w K mg) {m : Nat} (g_l_body : FnOk P w K mg base CX0 (2 * m + 11) T.a_l_body T.d_l_body p_l_body (spBd K m)) : FnOk P w K mg base CX0 (2 * m + 12) T.a_l_loop T.d_l_loop p_l_loop (spLp K m) := by
  have g_l_pick := ok_l_pick (P := P) (w := w) (base := base) T
  have g_l_one := ok_l_oneQ (P := P) (w := w) (K := K) (base := base) T
  have g_l_truth := ok_l_truth (P := P) (w := w) (K := K) (base := base) T 2
  refine T.F_l_loop.ok sc_l_loop (fun vs H Q E h => ?_) (fun cdv A outer s H vs Q E hr h => ?_)
  · obtain ⟨a, d, p, env, W, kvs, n, D, rv, rs, rfl, _⟩ := h
    rfl
  obtain ⟨a, d, p, env, W, kvs, n, D, rv, rs, rfl, hS, w1, hW, oW, hE, eW, hrv, frs, ⟨hD1, hD2⟩, ⟨hn0, hn9⟩, q⟩ := h
  refine ⟨_, (pss_cons (ps_set (i := 5) sc_l_loop.nd rfl (Or.inl rfl) (pe_call g_l_truth (hr.mono (by first | decide | omega)) rfl T.m_l_truth T.F_l_truth.kp T.b_l_truth .nil pass0 (pa_cons (pv 0) (pa_cons (pv 2) (pa_cons pe_int (pa_cons (pe_dget (hu_of hr) (pv 1) pe_str (fun _ _ => rfl)) pa_nil))))))
      (pss_cons (ps_setLc (i := 6) (own := [("_law_pair", 7)]) (g := gName 7) rfl sc_l_loop.nd rfl rfl (sw_true rfl rfl rfl (by decide +kernel)) (pi_list (pv 2)) (blkOk_by (own := [("_law_pair", 7)]) (N := n_l_loop) (sc := defScope s_l_loop) (by decide +kernel)) (fun _ _ _ _ _ => (pg_name (i := 7) sc_l_loop.nd rfl (Or.inl rfl))) (fun _ _ _ _ _ => (pts_one (pt_cmpR op_eq (pe_ix (show IxR _ (rIxT K) from ix_tup) (pe_ix (show IxR _ (rIxT K) from ix_tup) (pv 7) pe_int (fun _ _ => rfl)) pe_int (fun _ _ => rfl)) pe_str (nomark _)))) (fun _ _ _ _ _ => (pv 7)))
      (pss_cons (ps_set (i := 8) sc_l_loop.nd rfl (Or.inl rfl) (pe_call g_l_body (hr.mono (by first | decide | omega)) rfl T.m_l_body T.F_l_body.kp T.b_l_body .nil pass0 (pa_cons (pv 0) (pa_cons (pv 1) (pa_cons (pv 2) (pa_cons pe_int (pa_cons (pe_op op_sub (pv 3) pe_int) (pa_cons pe_bl (pa_cons (pv 4) pa_nil)))))))))
      (C8.pss_cut (ps_if (PW.pt (pw_and (pt_cmpR (op_neL0 hr.units0) (pv 6) (pe_lst pa_nil) (nomark _)) (pw_and1 (pt_cmpR op_eq (pe_call g_l_pick (hr.mono (by first | decide | omega)) rfl T.m_l_pick T.F_l_pick.kp T.b_l_pick .nil pass0 (pa_cons (pv 0) (pa_cons pe_int pa_nil))) pe_int (nomark _))))) (pss_cons (ps_set (i := 7) sc_l_loop.nd rfl (Or.inl rfl) (pe_call g_l_one (hr.mono (by first | decide | omega)) rfl T.m_l_one T.F_l_one.kp T.b_l_one .nil pass0 (pa_cons (pv 0) (pa_cons (pv 6) pa_nil))))
      (pss_cons (ps_set (i := 9) sc_l_loop.nd rfl (Or.inl rfl) (pe_callB (call_min2 rfl) rfl T.z_min bb_min (pa_cons (pe_op op_add (pe_op op_sub (pe_ix ix_tup (pe_ix ix_tup (pv 7) pe_int (fun _ _ => rfl)) pe_int (fun _ _ => rfl)) (pe_ix ix_tup (pe_ix ix_tup (pv 7) pe_int (fun _ _ => rfl)) pe_int (fun _ _ => rfl))) pe_int) (pa_cons pe_int pa_nil))))
      (pss_cons (ps_set (i := 5) sc_l_loop.nd rfl (Or.inl rfl) (pe_tup (pa_cons pe_str (pa_cons (pe_tup (pa_cons pe_str (pa_cons (pe_ix ix_tup (pv 7) pe_int (fun _ _ => rfl)) pa_nil))) (pa_cons (pe_tup (pa_cons pe_str (pa_cons (pe_op op_add (pe_ix ix_tup (pe_ix ix_tup (pv 7) pe_int (fun _ _ => rfl)) pe_int (fun _ _ => rfl)) (pe_call g_l_pick (hr.mono (by first | decide | omega)) rfl T.m_l_pick T.F_l_pick.kp T.b_l_pick .nil pass0 (pa_cons (pv 0) (pa_cons (pv 9) pa_nil)))) pa_nil))) pa_nil)))))
      (pss_one (ps_set (i := 8) sc_l_loop.nd rfl (Or.inl rfl) (pe_op op_catA (pv 8) (pe_tup (pa_cons (pe_tup (pa_cons pe_str (pa_cons (pe_ix ix_tup (pv 7) pe_int (fun _ _ => rfl)) (pa_cons (pe_tup (pa_cons pe_str (pa_cons (pe_tup (pa_cons pe_str (pa_cons (pe_ix ix_tup (pv 7) pe_int (fun _ _ => rfl)) pa_nil))) (pa_cons (pe_tup (pa_cons pe_str (pa_cons pe_int pa_nil))) pa_nil)))) pa_nil)))) pa_nil)))))))) pss_nil)
      (pss_one (ps_ret (pe_tup (pa_cons pe_str (pa_cons (pv 5) (pa_cons (pv 8) pa_nil)))))))))), ?_⟩
  have ok := hE.ok
  have ln := hE.ln
  have lnP := fP_len (f := Kd.isN) (env := env)
  obtain ⟨kvs0, fd, ta, lh, axs, hs, w1', w2, nf, w3, w4, w5, w6, w7, w8, w9, w10, w11, w12⟩ := hW.ex
  refine ⟨_, rfl, _, rfl, _, rfl, d, _, rfl, DGet.at (k := Sum.inr "simple") w1' w10, a, p, env, 1, W.sm, rfl, hS, hE, by decide, by decide, fun vt et F0 st0 xt => ?_⟩
  clear w1' w2 nf w3 w4 w5 w6 w7 w8 w9 w10 w11 w12
  have w1' := st0.k _ _ (dk_ne w1 hS) w1
  have hE2 := hE.stp hS st0
  obtain ⟨⟨vs, hp, hP⟩, _, _⟩ := hE2
  have lv := hP.len
  refine ⟨_, rfl, p, rfl, ⟨_, SqL.of hp⟩, fun D1 hD => ?_⟩
  have nDa : D1 ≠ a := (st0.s.ne hD).symm
  have nDd : D1 ≠ d := (ne_of_none w1' hD).symm
  generalize hH0 : F0 = H0 at *
  clear hH0
  refine lc_it (walk_list (xs := vs)) (fun i G => Same H0 G ∧ PkLst K G D1 (fP Kd.isN (env.take i))) ⟨Same.new hD _, [], upd_same, trivial⟩ (fun i G _ P => SqL.of (P.1 _ _ hp)) ?_ ?_
  · rintro i x G G' hi ⟨sG, eD⟩ ⟨rfl, ex⟩
    obtain ⟨⟨nm, kd⟩, ea, pk, kv2, rfl, h1, pk2, rfl, h2⟩ := hP.atv ex
    have kp := Keeps.of_same (K := K) sG
    have yes : Kd.isN kd = true → ∃ acc, G' D1 = some (.lst acc) ∧ acc.length < sizeLine ∧ (Same H0 (upd G' D1 (.lst (acc ++ [.ref pk]))) ∧ PkLst K (upd G' D1 (.lst (acc ++ [.ref pk]))) D1 (fP Kd.isN (env.take (i + 1)))) := fun c => by
      have := fP_len (f := Kd.isN) (env := env.take i)
      rw [List.length_take] at this
      obtain ⟨acc, e1, e2, e3⟩ := eD.push (a := (nm, kd)) (v := .ref pk) ⟨pk, _, rfl, kp _ _ h1, pk2, rfl, kp _ _ h2⟩ (by omega)
      rw [fP_yes ea c]
      exact ⟨acc, e1, e2, fun b o e => by rw [upd_ne (ne_of_none e hD)]; exact sG _ _ e, e3⟩
    have no : Kd.isN kd = false → (Same H0 G' ∧ PkLst K G' D1 (fP Kd.isN (env.take (i + 1)))) := fun c => by
      rw [fP_no ea c]
      exact ⟨sG, eD⟩
    refine ⟨rfl, ?_⟩
    cases kd with
    | flag => exact ⟨_, rfl, pk, _, _, _, rfl, rfl, kp _ _ h1, rfl, pk2, _, _, _, rfl, rfl, kp _ _ h2, rfl, rfl, _, rfl, ifF (by decide +kernel) (no rfl)⟩
    | ref s => exact ⟨_, rfl, pk, _, _, _, rfl, rfl, kp _ _ h1, rfl, pk2, _, _, _, rfl, rfl, kp _ _ h2, rfl, rfl, _, rfl, ifF (by decide +kernel) (no rfl)⟩
    | num lo hi => exact ⟨_, rfl, pk, _, _, _, rfl, rfl, kp _ _ h1, rfl, pk2, _, _, _, rfl, rfl, kp _ _ h2, rfl, rfl, _, rfl, ifT (by decide +kernel) ⟨_, rfl, yes rfl⟩⟩
  rintro G ⟨sG, eD⟩
  rw [lv, List.take_length] at eD
  have s1 := st0.same sG
  have xt := xt.keep (Keeps.of_same sG)
  clear st0 sG hp hP lv w1' hD
  have w1' := s1.k _ _ (dk_ne w1 hS) w1
  refine ⟨_, rfl, _, rfl, _, rfl, _, rfl, _, _, rfl, rfl, _, rfl, a, d, p, env, W, kvs, n, 2, D - 1, true, rv, rs, rfl, s1.s, w1', hW.stp hS s1, oW, hE.stp hS s1, eW, hrv.keep (Keeps.of_stp s1 hS), frs, ⟨by decide, by decide⟩, ⟨by omega, by omega⟩, ⟨hn0, hn9⟩, fun tb xb b n1 F sw hb xB hW1 hn1 cb => ?_⟩
  have kp := sw.keep (K := K) s1.s w1'
  have swH := (Stw.of s1).trans sw
  have eD := eD.stw kp nDa nDd sw
  have xt := xt.keep kp
  have hE1 := hE.stw hS hW swH
  have lb := xB.h.len
  clear sw kp s1 w1'
  refine ⟨fun σ F => Stw a d H F ∧ LeftAt F d kvs n1 ∧ ∃ vt et tb xb b v7 v9, ExOf K F env 4 .flag vt et ∧ SqT K F tb xb ∧ BdOf K F W env rs true (D - 1).toNat xb b ∧ (b.cnt : Int) ≤ 2 * (n - n1) + 1 ∧ σ = [some (.ref a), some (.ref d), some (.ref p), some (.int D), some rv, some vt, some (.ref D1), v7, some (.ref tb), v9], ?_, ?_⟩
  · obtain ⟨us, e1, e2⟩ := eD
    refine ⟨_, rfl, by show 0 ≤ sizeLine; decide, fun z hz => ⟨D1, z, us, rfl, rfl, SqL.of (Same.new hz _ _ _ e1), SqL.of upd_same, _, rfl, ite2 (fun ne => ?_) (fun _ => iteF ?_)⟩⟩
    · have sz := Same.new hz (.lst [])
      have sZ : Stp a F (upd F z (.lst [])) := Stp.of_same swH.s sz
      have e1 := sz _ _ e1
      have e2 := e2.keep (Keeps.of_same sz)
      have hb := Same.tup sz hb
      have xB := xB.keep (Keeps.of_same sz)
      have xt := xt.keep (Keeps.of_same sz)
      have hW1 := hW1.same sz
      have swH := swH.trans (Stw.of sZ)
      generalize (upd F z (.lst [])) = F at *
      refine ⟨_, rfl, a, 2, rfl, swH.s, by decide, fun r F1 s1 r0 r1 => ⟨rfl, _, rfl, ite2 (fun _ => ?_) (fun _ => ?_)⟩⟩
      · have k1 := Keeps.of_stp (K := K) s1 swH.s
        refine ⟨_, rfl, _, rfl, a, D1, us, rfl, s1.s, .inl ⟨nDa, SqL.of (s1.k _ _ nDa e1)⟩, List.length_pos_iff.mpr (fun z => by rw [z] at ne; cases ne), by have := e2.len; omega, fun v F2 hv s2 => ?_⟩
        have k2 := Keeps.of_stp (K := K) s2 s1.s
        obtain ⟨⟨nm, kd⟩, ma, pk, kv2, rfl, h1, pk2, rfl, h2⟩ := ((e2.keep k1).keep k2).mem hv
        obtain ⟨mE, kn⟩ := mem_fP ma
        obtain ⟨lo, hi, rfl⟩ := kd_num kn
        have fine : -1000000000 ≤ lo ∧ lo ≤ hi ∧ hi ≤ 1000000000 := (ok _ mE).2.2
        have nml := (ok _ mE).2.1
        have nmx : ∀ n, (Ex.name nm).ok (n + 1) ∧ (Ex.name nm).ty env .num := fun n => ⟨nml, _, mE, rfl⟩
        have s12 := s1.trans s2
        have hb := k2 _ _ (k1 _ _ hb)
        have xB := (xB.keep k1).keep k2
        have hW2 := hW1.stp swH.s s12
        have swH := swH.trans (Stw.of s12)
        refine ⟨_, rfl, pk, _, _, _, rfl, rfl, h1, rfl, pk2, _, _, _, rfl, rfl, h2, rfl, _, rfl, pk, _, _, _, rfl, rfl, h1, rfl, pk2, _, _, _, rfl, rfl, h2, rfl, _, _, rfl, rfl, _, _, rfl, rfl, _, _, rfl, ?_⟩
        refine ⟨_, rfl, pk, _, _, _, rfl, rfl, h1, rfl, by show 2 ≤ sizeLine; decide, fun p1 hp1 => ?_⟩
        have hbd : (if 12 < hi - lo + 1 then (12 : Int) else hi - lo + 1) ≤ 12 := by split <;> omega
        have hbd2 : (if 12 < hi - lo + 1 then (12 : Int) else hi - lo + 1) ≤ hi - lo + 1 := by split <;> omega
        generalize (if 12 < hi - lo + 1 then (12 : Int) else hi - lo + 1) = hg at hbd hbd2
        have sp1 := Same.new hp1 (.tup [.str "name", .str nm])
        have x1 : ExAt K (upd F2 p1 (.tup [.str "name", .str nm])) (.name nm) (.ref p1) := ⟨p1, rfl, SqT.of upd_same⟩
        have h1 := Same.tup sp1 h1
        have h2 := Same.tup sp1 h2
        have hb := Same.tup sp1 hb
        have xB := xB.keep (Keeps.of_same sp1)
        have hW2 := hW2.same sp1
        have swH := swH.trans (Stw.of (Stp.of_same swH.s sp1))
        generalize (upd F2 p1 (.tup [.str "name", .str nm])) = F3 at *
        refine ⟨_, rfl, pk, _, _, _, rfl, rfl, h1, rfl, pk2, _, _, _, rfl, rfl, h2, rfl, _, rfl, _, rfl, a, _, rfl, swH.s, by omega, fun r2 F4 s4 r20 r21 => ⟨_, _, rfl, rfl, by show 2 ≤ sizeLine; decide, fun p2 hp2 => ⟨by show 3 ≤ sizeLine; decide, fun p3 hp3 => ?_⟩⟩⟩
        have k4 := Keeps.of_stp (K := K) s4 swH.s
        have sp2 := Same.new hp2 (.tup [.str "num", .int (lo + r2)])
        have x2 : ExAt K (upd F4 p2 (.tup [.str "num", .int (lo + r2)])) (.num (lo + r2)) (.ref p2) := ⟨p2, rfl, SqT.of upd_same⟩
        have sp3 := Same.new hp3 (.tup [.str "<", .ref p1, .ref p2])
        have kk : Keeps K F3 (upd (upd F4 p2 (.tup [.str "num", .int (lo + r2)])) p3 (.tup [.str "<", .ref p1, .ref p2])) := fun p xs h => Same.tup sp3 (Same.tup sp2 (k4 _ _ h))
        have x3 : ExOf K (upd (upd F4 p2 (.tup [.str "num", .int (lo + r2)])) p3 (.tup [.str "<", .ref p1, .ref p2])) env 4 .flag (.ref p3) (.bin "<" (.name nm) (.num (lo + r2))) := ⟨⟨p3, _, _, rfl, SqT.of upd_same, x1.keep kk, x2.keep (Keeps.of_same sp3)⟩, ⟨by decide +kernel, (nmx 2).1, by show -1000000000 ≤ lo + r2 ∧ lo + r2 ≤ 1000000000; omega⟩, .inr ⟨rfl, .inl ⟨by decide +kernel, (nmx 0).2, rfl⟩⟩⟩
        have h1 := kk _ _ h1
        have hb := kk _ _ hb
        have xB := xB.keep kk
        have hW2 := ((hW2.stp swH.s s4).same sp2).same sp3
        have swH := swH.trans (Stw.of ((s4.same sp2).same sp3))
        generalize (upd (upd F4 p2 (.tup [.str "num", .int (lo + r2)])) p3 (.tup [.str "<", .ref p1, .ref p2])) = F5 at *
        -- the step behind
        refine ⟨_, rfl, _, rfl, pk, _, _, _, rfl, rfl, h1, rfl, _, rfl, pk, _, _, _, rfl, rfl, h1, rfl, by show 2 ≤ sizeLine; decide, fun q1 hq1 => ⟨by show 2 ≤ sizeLine; decide, fun q2 hq2 => ⟨by show 3 ≤ sizeLine; decide, fun q3 hq3 => ⟨by show 3 ≤ sizeLine; decide, fun q4 hq4 => ⟨by show 1 ≤ sizeLine; decide, fun q5 hq5 => ?_⟩⟩⟩⟩⟩
        have t1 := Same.new hq1 (.tup [.str "name", .str nm])
        have y1 : ExAt K (upd F5 q1 (.tup [.str "name", .str nm])) (.name nm) (.ref q1) := ⟨q1, rfl, SqT.of upd_same⟩
        have t2 := Same.new hq2 (.tup [.str "num", .int 1])
        have y2 : ExAt K (upd (upd F5 q1 (.tup [.str "name", .str nm])) q2 (.tup [.str "num", .int 1])) (.num 1) (.ref q2) := ⟨q2, rfl, SqT.of upd_same⟩
        have y1 := y1.keep (Keeps.of_same t2)
        have t12 := t1.trans t2
        generalize (upd (upd F5 q1 (.tup [.str "name", .str nm])) q2 (.tup [.str "num", .int 1])) = F6 at *
        have t3 := Same.new hq3 (.tup [.str "+", .ref q1, .ref q2])
        have y3 : ExAt K (upd F6 q3 (.tup [.str "+", .ref q1, .ref q2])) (.bin "+" (.name nm) (.num 1)) (.ref q3) := ⟨q3, _, _, rfl, SqT.of upd_same, y1.keep (Keeps.of_same t3), y2.keep (Keeps.of_same t3)⟩
        have t13 := t12.trans t3
        generalize (upd F6 q3 (.tup [.str "+", .ref q1, .ref q2])) = F7 at *
        have t4 := Same.new hq4 (.tup [.str "set", .str nm, .ref q3])
        have y4 : SmAt K (upd F7 q4 (.tup [.str "set", .str nm, .ref q3])) (.set nm (.bin "+" (.name nm) (.num 1))) (.ref q4) := ⟨q4, _, rfl, SqT.of upd_same, y3.keep (Keeps.of_same t4)⟩
        have t14 := t13.trans t4
        generalize (upd F7 q4 (.tup [.str "set", .str nm, .ref q3])) = F8 at *
        have t5 := Same.new hq5 (.tup [.ref q4])
        have y5 := y4.keep (Keeps.of_same t5)
        have t15 := t14.trans t5
        have z5 : SqT K (upd F8 q5 (.tup [.ref q4])) q5 [.ref q4] := SqT.of upd_same
        generalize (upd F8 q5 (.tup [.ref q4])) = F9 at *
        have hb9 := Same.tup t15 hb
        have xB9 := xB.keep (Keeps.of_same t15)
        have sw9 := swH.trans (Stw.of (Stp.of_same swH.s t15))
        have x9 := x3.keep (Keeps.of_same t15)
        have hW9 := hW2.same t15
        have wfS : (Sm.set nm (.bin "+" (.name nm) (.num 1))).wf W env rs true := ⟨_, mE, ⟨by decide +kernel, (nmx 2).1, by show -1000000000 ≤ (1 : Int) ∧ (1 : Int) ≤ 1000000000; omega⟩, .inl ⟨rfl, by decide +kernel, (nmx 0).2, rfl⟩⟩
        have xS := xB9.snoc y5 wfS (by cases (D - 1).toNat <;> exact trivial)
        have cS : ((b.snoc (.set nm (.bin "+" (.name nm) (.num 1)))).cnt : Int) ≤ 2 * (n - n1) + 1 := by
          rw [Bd.cnt_snoc]
          show ((b.cnt + 1 : Nat) : Int) ≤ _
          omega
        refine ⟨tb, q5, xb, [.ref q4], rfl, rfl, hb9, z5, Nat.le_of_lt (lt_line (by show xb.length + 1 ≤ _; omega)), fun e0 => ?_, fun _ e0 => (by cases e0), fun _ _ t ht => ?_⟩
        · subst e0
          exact ⟨sw9, hW9, _, _, q5, [.ref q4], _, _, _, x9, z5, xS, cS, rfl⟩
        · have t6 := Same.new ht (.tup (xb ++ [.ref q4]))
          exact ⟨sw9.trans (Stw.of (Stp.of_same sw9.s t6)), hW9.same t6, _, _, t, _, _, _, _, x9.keep (Keeps.of_same t6), SqT.of upd_same, xS.keep (Keeps.of_same t6), cS, rfl⟩
      · have k1 := Keeps.of_stp (K := K) s1 swH.s
        exact ⟨swH.trans (Stw.of s1), hW1.stp swH.s s1, vt, et, tb, xb, b, none, none, xt.keep k1, k1 _ _ hb, xB.keep k1, by omega, rfl⟩
    · have sz := Same.new hz (.lst [])
      exact ⟨swH.trans (Stw.of (Stp.of_same swH.s sz)), hW1.same sz, vt, et, tb, xb, b, none, none, xt.keep (Keeps.of_same sz), Same.tup sz hb, xB.keep (Keeps.of_same sz), by omega, rfl⟩
  clear swH eD xt hE1 hb xB hW1 cb lb
  rintro σ F ⟨sw, hW1, vt, et, tb, xb, b, v7, v9, xt, hb, xB, cb, rfl⟩
  refine ⟨_, rfl, _, rfl, by show 3 ≤ sizeLine; decide, fun t ht => ?_⟩
  have sz := Same.new ht (.tup [.str "while", vt, .ref tb])
  have kz := Keeps.of_same (K := K) sz
  have eD1 : D.toNat = (D - 1).toNat + 1 := by omega
  refine q _ (.loop et b) n1 _ (sw.trans (Stw.of (Stp.of_same sw.s sz))) ⟨t, vt, tb, xb, rfl, SqT.of upd_same, (xt.keep kz).h, kz _ _ hb, (xB.keep kz).h⟩ (fun i => ⟨⟨xt.o, xt.t⟩, xB.w⟩) (by rw [eD1]; exact xB.d) (hW1.same sz) hn1 ?_
  show ((1 + b.cnt : Nat) : Int) ≤ _
  omega
end
/-! ### drawn programs: bodies -/
theorem Bd.cnt_le {K : PySem.W.Frag} {H : Hp} {b : Bd} {vs : List V} (h : BdL K H b vs) : vs.length ≤ b.cnt := h.len
section
variable {P : Program} {w : World} {K : PySem.W.Frag} {mg : Str → Option Value} {base : Heap}
theorem ok_body0 (T : Txt w K mg) {m : Nat} (g_l_loop : FnOk P w K mg base CX0 (2 * m + 12) T.a_l_loop T.d_l_loop p_l_loop (spLp K m)) (g_l_body : FnOk P w K mg base CX0 (2 * m + 11) T.a_l_body T.d_l_body p_l_body (spBd K m)) : FnOk P w K mg base CX0 (2 * m + 13) T.a_l_body T.d_l_body p_l_body (spBd K (m + 1)) := by
  have g_l_pick := ok_l_pick (P := P) (w := w) (base := base) T
  have g_l_truth := ok_l_truth (P := P) (w := w) (K := K) (base := base) T 2
  have g_l_leaf := ok_l_leaf (P := P) (w := w) (K := K) (base := base) T
  refine T.F_l_body.ok sc_l_body (fun vs H Q E h => ?_) (fun cdv A outer s H vs Q E hr h => ?_)
  · obtain ⟨a, d, p, env, W, kvs, n, up, D, lp, rv, rs, rfl, _⟩ := h
    rfl
  obtain ⟨a, d, p, env, W, kvs, n, up, D, lp, rv, rs, rfl, hS, w1, hW, oW, hE, eW, hrv, frs, ⟨hu0, hu9⟩, ⟨hD0, hD9⟩, ⟨hn0, hn9⟩, q⟩ := h
  refine ⟨_, (pss_cons (ps_set (i := 7) sc_l_body.nd rfl (Or.inl rfl) (pe_lst pa_nil))
      (pss_cons (ps_for PassesOwn.never rfl (pi_range1 rfl T.z_range (pa_cons (pe_op op_add (pe_call g_l_pick (hr.mono (by first | decide | omega)) rfl T.m_l_pick T.F_l_pick.kp T.b_l_pick .nil pass0 (pa_cons (pv 0) (pa_cons (pv 3) pa_nil))) pe_int) pa_nil)) (pg_name (i := 8) sc_l_body.nd rfl (Or.inl rfl))
        (pss_one (ps_if (pt_cmpR op_gt (pe_dget (hu_of hr) (pv 1) pe_str (fun _ _ => rfl)) pe_int (nomark _)) (pss_cons (ps_dput (hu_of hr) (pv 1) pe_str (pe_op op_sub (pe_dget (hu_of hr) (pv 1) pe_str (fun _ _ => rfl)) pe_int) rfl)
      (pss_cons (ps_set (i := 9) sc_l_body.nd rfl (Or.inl rfl) (pe_call g_l_pick (hr.mono (by first | decide | omega)) rfl T.m_l_pick T.F_l_pick.kp T.b_l_pick .nil pass0 (pa_cons (pv 0) (pa_cons pe_int pa_nil))))
      (pss_one (ps_if (PW.pt (pw_and (pt_cmpR op_gt (pv 4) pe_int (nomark _)) (pw_and1 (pt_cmpR op_eq (pv 9) pe_int (nomark _))))) (pss_one (ps_expr (pe_bm PySem.F.plainAttrs_list PySem.F.slot_list_append PySem.F.type_list_append mt_append (pv 7) (pa_cons (pe_call g_l_loop (hr.mono (by first | decide | omega)) rfl T.m_l_loop T.F_l_loop.kp T.b_l_loop .nil pass0 (pa_cons (pv 0) (pa_cons (pv 1) (pa_cons (pv 2) (pa_cons (pv 4) (pa_cons (pv 6) pa_nil)))))) pa_nil)))) (pss_one (ps_if (PW.pt (pw_and (pt_cmpR op_gt (pv 4) pe_int (nomark _)) (pw_and1 (pt_cmpR op_lt (pv 9) pe_int (nomark _))))) (pss_cons (ps_set (i := 10) sc_l_body.nd rfl (Or.inl rfl) (pe_call g_l_truth (hr.mono (by first | decide | omega)) rfl T.m_l_truth T.F_l_truth.kp T.b_l_truth .nil pass0 (pa_cons (pv 0) (pa_cons (pv 2) (pa_cons pe_int (pa_cons (pe_dget (hu_of hr) (pv 1) pe_str (fun _ _ => rfl)) pa_nil))))))
      (pss_cons (ps_set (i := 11) sc_l_body.nd rfl (Or.inl rfl) (pe_call g_l_body (hr.mono (by first | decide | omega)) rfl T.m_l_body T.F_l_body.kp T.b_l_body .nil pass0 (pa_cons (pv 0) (pa_cons (pv 1) (pa_cons (pv 2) (pa_cons pe_int (pa_cons (pe_op op_sub (pv 4) pe_int) (pa_cons (pv 5) (pa_cons (pv 6) pa_nil)))))))))
      (pss_cons (ps_set (i := 12) sc_l_body.nd rfl (Or.inl rfl) (pe_tup pa_nil))
      (C8.pss_cut (ps_if (pt_cmpR op_eq (pe_call g_l_pick (hr.mono (by first | decide | omega)) rfl T.m_l_pick T.F_l_pick.kp T.b_l_pick .nil pass0 (pa_cons (pv 0) (pa_cons pe_int pa_nil))) pe_int (nomark _)) (pss_one (ps_set (i := 12) sc_l_body.nd rfl (Or.inl rfl) (pe_call g_l_body (hr.mono (by first | decide | omega)) rfl T.m_l_body T.F_l_body.kp T.b_l_body .nil pass0 (pa_cons (pv 0) (pa_cons (pv 1) (pa_cons (pv 2) (pa_cons pe_int (pa_cons (pe_op op_sub (pv 4) pe_int) (pa_cons (pv 5) (pa_cons (pv 6) pa_nil)))))))))) pss_nil)
      (pss_one (ps_expr (pe_bm PySem.F.plainAttrs_list PySem.F.slot_list_append PySem.F.type_list_append mt_append (pv 7) (pa_cons (pe_tup (pa_cons pe_str (pa_cons (pv 10) (pa_cons (pv 11) (pa_cons (pv 12) pa_nil))))) pa_nil)))))))) (pss_one (ps_expr (pe_bm PySem.F.plainAttrs_list PySem.F.slot_list_append PySem.F.type_list_append mt_append (pv 7) (pa_cons (pe_call g_l_leaf (hr.mono (by first | decide | omega)) rfl T.m_l_leaf T.F_l_leaf.kp T.b_l_leaf .nil pass0 (pa_cons (pv 0) (pa_cons (pv 1) (pa_cons (pv 2) (pa_cons (pv 5) (pa_cons (pv 6) pa_nil)))))) pa_nil)))))))))) pss_nil)))
      (pss_one (ps_ret (pe_callTy call_tuple_of rfl T.z_tuple bt_tuple (pa_cons (pv 7) pa_nil)))))), ?_⟩
  have nda : d ≠ a := dk_ne w1 hS
  refine ⟨by show 0 ≤ sizeLine; decide, fun l hl => ?_⟩
  have nla : l ≠ a := (hS.ne hl).symm
  have nld : l ≠ d := (ne_of_none w1 hl).symm
  have sl := Same.new hl (.lst [])
  have st0 : Stp a H (upd H l (.lst [])) := Stp.of_same hS sl
  -- the state of things
  let Core : Hp → Prop := fun F => Stw a d H F ∧ ∃ (n1 : Int) (us : List V) (b : Bd), LeftAt F d kvs n1 ∧ (0 ≤ n1 ∧ n1 ≤ n) ∧ F l = some (.lst us) ∧ BdOf K F W env rs lp D.toNat us b ∧ (b.cnt : Int) ≤ 2 * (n - n1)
  have push : ∀ (F : Hp) (n2 : Int) (us : List V) (b : Bd) (v : V) (s : Sm), Stw a d H F → LeftAt F d kvs n2 → (0 ≤ n2 ∧ n2 ≤ n) → F l = some (.lst us) → BdOf K F W env rs lp D.toNat us b → SmAt K F s v → s.wf W env rs lp → s.dep D.toNat → ((b.cnt + s.cnt : Nat) : Int) ≤ 2 * (n - n2) → Core (upd F l (.lst (us ++ [v]))) := fun F n2 us b v s sw lf hn el xB xs ws ds hc => by
    have kl := keep_lst (K := K) (o := .lst (us ++ [v])) el
    refine ⟨⟨?_, fun c o h1 h2 e => ?_⟩, n2, us ++ [v], b.snoc s, ?_, hn, upd_same, (xB.keep kl).snoc (xs.keep kl) ws ds, by rw [Bd.cnt_snoc]; exact hc⟩
    · obtain ⟨c, m, k, hc⟩ := sw.s
      exact ⟨c, m, k, by rw [upd_ne nla.symm]; exact hc⟩
    · rw [upd_ne (ne_of_none e hl)]
      exact sw.k c o h1 h2 e
    · obtain ⟨kv2, e1, e2⟩ := lf
      exact ⟨kv2, by rw [upd_ne nld.symm]; exact e1, e2⟩
  have lenU : ∀ {F : Hp} {us : List V} {b : Bd} {n2 : Int}, BdOf K F W env rs lp D.toNat us b → (b.cnt : Int) ≤ 2 * (n - n2) → 0 ≤ n2 → us.length < sizeLine := fun xB hc h0 => lt_line (by have := xB.h.len; omega)
  refine ⟨_, rfl, _, rfl, a, up, rfl, st0.s, by omega, fun r F0 st1 r0 r1 => ⟨_, _, rfl, rfl, _, rfl, by omega, by omega, for_range (lo := 0) (fun i σ F => Core F ∧ ∃ v8 v9 v10 v11 v12 : Option V, σ = [some (.ref a), some (.ref d), some (.ref p), some (.int up), some (.int D), some (.bl lp), some rv, some (.ref l), v8, v9, v10, v11, v12])
    ⟨⟨Stw.of (st0.trans st1), n, [], .nil, LeftAt.stp (a := a) ⟨kvs, sl _ _ w1, fun _ _ => rfl, by obtain ⟨kv2, fd, ta, lh, axs, hs, e1, _, _, _, _, _, _, _, _, _, _, e11, _⟩ := hW.ex; rw [w1] at e1; cases e1; exact e11, rfl⟩ st0.s st1, ⟨hn0, Int.le_refl _⟩, st1.k _ _ nla upd_same, ⟨rfl, by cases lp <;> exact trivial, by cases D.toNat <;> exact trivial⟩, by show (0 : Int) ≤ _; omega⟩, none, none, none, none, none, rfl⟩ ?_ ?_⟩⟩
  · clear st1 st0 sl
    rintro i σ F hi ⟨⟨sw, n1, us, b, lf, ⟨hn1, hn2⟩, el, xB, hc⟩, v8, v9, v10, v11, v12, rfl⟩
    obtain ⟨kv2, e1, e2, e3, e4⟩ := id lf
    refine ⟨_, rfl, d, _, rfl, DGet.at (k := Sum.inr "left") e1 e3, _, _, rfl, rfl, _, rfl, ite2 (fun c => ?_) (fun _ => ⟨⟨sw, n1, us, b, lf, ⟨hn1, hn2⟩, el, xB, hc⟩, _, _, _, _, _, rfl⟩)⟩
    have c : 0 < n1 := of_decide_eq_true c
    have lk2 : kv2.length ≤ 10 := by
      obtain ⟨kv3, fd, ta, lh, axs, hs, e5, _, _, _, _, _, _, _, _, _, _, _, e12⟩ := hW.ex
      rw [w1] at e5
      cases e5
      rw [e4]
      exact e12
    refine ⟨_, rfl, d, _, rfl, DGet.at (k := Sum.inr "left") e1 e3, _, _, rfl, rfl, _, rfl, d, _, rfl, DPut.k (k := Sum.inr "left") e1 (lt_line (by omega)), ?_⟩
    have lf1 := lf.put (m := n1 - 1) e1
    have swF : Stw a d F (upd F d (.dK (putK kv2 (Sum.inr "left") (.int (n1 - 1))))) := by
      obtain ⟨c, m, k, hc⟩ := sw.s
      exact ⟨⟨c, m, k, by rw [upd_ne nda.symm]; exact hc⟩, fun b o h1 h2 e => by rw [upd_ne h2]; exact e⟩
    have xB := xB.keep (swF.keep sw.s e1)
    have el := swF.k _ _ nla nld el
    have sw := sw.trans swF
    generalize (upd F d (.dK (putK kv2 (Sum.inr "left") (.int (n1 - 1))))) = F1 at *
    clear swF lf e1 e2 e3 e4 lk2
    refine ⟨_, rfl, a, 9, rfl, sw.s, by decide, fun ch F2 s2 c0 c1 => ?_⟩
    have lf1 := lf1.stp sw.s s2
    have xB := xB.keep (Keeps.of_stp s2 sw.s)
    have el := s2.k _ _ nla el
    have sw := sw.trans (Stw.of s2)
    clear s2
    have hWF := hW.left w1 hS sw lf1
    have hEF := hE.stw hS hW sw
    have rvF := hrv.keep (sw.keep hS w1)
    by_cases hD : 0 < D
    · refine ⟨_, rfl, _, _, rfl, rfl, _, rfl, ifT (decide_eq_true hD) ⟨_, rfl, rfl, _, rfl, ite2 (fun _ => ?_) (fun _ => ⟨_, rfl, _, _, rfl, rfl, _, rfl, ifT (decide_eq_true hD) ⟨_, rfl, _, _, rfl, rfl, _, rfl, ite2 (fun _ => ?_) (fun _ => ?leaf)⟩⟩)⟩⟩
      · -- a loop
        obtain ⟨kv3, e1, e2, e3, e4⟩ := id lf1
        refine ⟨_, rfl, .inl ⟨rfl, _, SqL.of el⟩, _, rfl, _, rfl, _, rfl, _, rfl, _, rfl, a, d, p, env, W, kv3, n1 - 1, D, rv, rs, rfl, sw.s, e1, hWF, oW, hEF, eW, rvF, frs, ⟨by omega, by omega⟩, ⟨by omega, by omega⟩, fun v s n3 F3 sw3 xs ws ds lf3 hn3 cs => ?_⟩
        have xB3 := xB.keep (sw3.keep sw.s e1)
        have el3 := sw3.k _ _ nla nld el
        refine ⟨l, us, v, rfl, rfl, el3, lenU xB3 hc hn1, ?_⟩
        refine ⟨push F3 n3 us b v s (sw.trans sw3) ?_ ⟨hn3.1, by omega⟩ el3 xB3 xs (ws lp) ds (by omega), _, _, _, _, _, rfl⟩
        obtain ⟨kv4, f1, f2, f3, f4⟩ := lf3
        exact ⟨kv4, f1, fun z hz => (f2 z hz).trans (e2 z hz), f3, f4.trans e4⟩
      · -- two ways
        obtain ⟨kvs0, fd, ta, lh, axs, hs, w1', w2, nf, w3, w4, w5, w6, w7, w8, w9, w10, w11, w12⟩ := hWF.ex
        refine ⟨_, rfl, _, rfl, _, rfl, d, _, rfl, DGet.at (k := Sum.inr "simple") w1' w10, a, p, env, 1, W.sm, rfl, sw.s, hEF, by decide, by decide, fun vt et F3 st3 xt => ?_⟩
        clear w1' w2 nf w3 w4 w5 w6 w7 w8 w9 w10 w11 w12
        have k3 := Keeps.of_stp (K := K) st3 sw.s
        have lf1 := lf1.stp sw.s st3
        have xB := xB.keep k3
        have el := st3.k _ _ nla el
        have hWF := hWF.stp sw.s st3
        have hEF := hEF.stp sw.s st3
        have rvF := rvF.keep k3
        have sw := sw.trans (Stw.of st3)
        clear st3 k3
        obtain ⟨kv3, e1, e2, e3, e4⟩ := id lf1
        refine ⟨_, rfl, _, rfl, _, rfl, _, rfl, _, _, rfl, rfl, _, rfl, _, rfl, a, d, p, env, W, kv3, n1 - 1, 2, D - 1, lp, rv, rs, rfl, sw.s, e1, hWF, oW, hEF, eW, rvF, frs, ⟨by decide, by decide⟩, ⟨by omega, by omega⟩, ⟨by omega, by omega⟩, fun t1 x1 b1 n3 F4 sw4 ht1 xB1 lf4 hn3 cb1 => ?_⟩
        have k4 := sw4.keep (K := K) sw.s e1
        have xt := xt.keep k4
        have xB := xB.keep k4
        have el := sw4.k _ _ nla nld el
        have rvF := rvF.keep k4
        have lf1 : LeftAt F4 d kvs n3 := by
          obtain ⟨kv4, f1, f2, f3, f4⟩ := lf4
          exact ⟨kv4, f1, fun z hz => (f2 z hz).trans (e2 z hz), f3, f4.trans e4⟩
        have sw := sw.trans sw4
        clear k4 sw4 lf4 e1 e2 e3 e4 hWF hEF
        refine ⟨by show 0 ≤ sizeLine; decide, fun t2 ht2 => ?_⟩
        have s5 := Same.new ht2 (.tup [])
        have k5 := Keeps.of_same (K := K) s5
        have hz2 : SqT K (upd F4 t2 (.tup [])) t2 [] := SqT.of upd_same
        have xt := xt.keep k5
        have xB := xB.keep k5
        have xB1 := xB1.keep k5
        have ht1 := k5 _ _ ht1
        have el := s5 _ _ el
        have rvF := rvF.keep k5
        have lf1 := lf1.same s5
        have sw := sw.trans (Stw.of (Stp.of_same sw.s s5))
        generalize (upd F4 t2 (.tup [])) = F5 at *
        clear s5 k5 ht2
        have xB0 : BdOf K F5 W env rs lp (D - 1).toNat [] .nil := ⟨rfl, by cases lp <;> exact trivial, by cases (D - 1).toNat <;> exact trivial⟩
        refine ⟨fun σ F => Stw a d H F ∧ (∃ (n4 : Int) (x2 : List V) (b2 : Bd) (t2 : Addr), LeftAt F d kvs n4 ∧ (0 ≤ n4 ∧ n4 ≤ n3) ∧ F l = some (.lst us) ∧ BdOf K F W env rs lp D.toNat us b ∧ ExOf K F env 4 .flag vt et ∧ SqT K F t1 x1 ∧ BdOf K F W env rs lp (D - 1).toNat x1 b1 ∧ SqT K F t2 x2 ∧ BdOf K F W env rs lp (D - 1).toNat x2 b2 ∧ (b2.cnt : Int) ≤ 2 * (n3 - n4) ∧ σ = [some (.ref a), some (.ref d), some (.ref p), some (.int up), some (.int D), some (.bl lp), some rv, some (.ref l), some (.int (0 + (i : Int))), some (.int ch), some vt, some (.ref t1), some (.ref t2)]), ?_, ?_⟩
        · refine ⟨_, rfl, a, 2, rfl, sw.s, by decide, fun r2 F6 s6 r20 r21 => ⟨rfl, _, rfl, ite2 (fun _ => ?_) (fun _ => ?_)⟩⟩
          · have k6 := Keeps.of_stp (K := K) s6 sw.s
            have xt := xt.keep k6
            have xB := xB.keep k6
            have xB1 := xB1.keep k6
            have ht1 := k6 _ _ ht1
            have el := s6.k _ _ nla el
            have rvF := rvF.keep k6
            have lf1 := lf1.stp sw.s s6
            have sw := sw.trans (Stw.of s6)
            clear k6 s6 xB0 hz2
            obtain ⟨kv3, e1, e2, e3, e4⟩ := id lf1
            refine ⟨_, rfl, _, rfl, _, rfl, _, rfl, _, _, rfl, rfl, _, rfl, _, rfl, a, d, p, env, W, kv3, n3, 2, D - 1, lp, rv, rs, rfl, sw.s, e1, hW.left w1 hS sw lf1, oW, hE.stw hS hW sw, eW, rvF, frs, ⟨by decide, by decide⟩, ⟨by omega, by omega⟩, ⟨by omega, by omega⟩, fun t3 x3 b3 n5 F7 sw7 ht3 xB3 lf7 hn5 cb3 => ?_⟩
            have k7 := sw7.keep (K := K) sw.s e1
            obtain ⟨kv4, f1, f2, f3, f4⟩ := lf7
            exact ⟨sw.trans sw7, n5, x3, b3, t3, ⟨kv4, f1, fun z hz => (f2 z hz).trans (e2 z hz), f3, f4.trans e4⟩, hn5, sw7.k _ _ nla nld el, xB.keep k7, xt.keep k7, k7 _ _ ht1, xB1.keep k7, ht3, xB3, cb3, rfl⟩
          · have k6 := Keeps.of_stp (K := K) s6 sw.s
            exact ⟨sw.trans (Stw.of s6), n3, [], .nil, t2, lf1.stp sw.s s6, ⟨hn3.1, Int.le_refl _⟩, s6.k _ _ nla el, xB.keep k6, xt.keep k6, k6 _ _ ht1, xB1.keep k6, k6 _ _ hz2, xB0.keep k6, by show (0 : Int) ≤ _; omega, rfl⟩
        clear sw lf1 el xB xt ht1 xB1 hz2 xB0 rvF t2
        rintro σ F6 ⟨sw, n4, x2, b2, t2, lf1, hn4, el, xB, xt, ht1, xB1, ht2, xB2, cb2, rfl⟩
        refine ⟨_, rfl, .inl ⟨rfl, _, SqL.of el⟩, _, rfl, _, rfl, _, rfl, by show 4 ≤ sizeLine; decide, fun t ht => ?_⟩
        have sz := Same.new ht (.tup [.str "if", vt, .ref t1, .ref t2])
        have kz := Keeps.of_same (K := K) sz
        have eD1 : D.toNat = (D - 1).toNat + 1 := by omega
        refine ⟨l, us, .ref t, rfl, rfl, sz _ _ el, lenU xB hc hn1, ?_⟩
        refine ⟨push _ n4 us b (.ref t) (.iff et b1 b2) (sw.trans (Stw.of (Stp.of_same sw.s sz))) (lf1.same sz) ⟨hn4.1, by omega⟩ (sz _ _ el) (xB.keep kz) ⟨t, vt, t1, t2, x1, x2, rfl, SqT.of upd_same, (xt.keep kz).h, kz _ _ ht1, (xB1.keep kz).h, kz _ _ ht2, (xB2.keep kz).h⟩ ⟨⟨xt.o, xt.t⟩, xB1.w, xB2.w⟩ (by rw [eD1]; exact ⟨xB1.d, xB2.d⟩) ?_, _, _, _, _, _, rfl⟩
        show ((b.cnt + (1 + b1.cnt + b2.cnt) : Nat) : Int) ≤ _
        omega
      case leaf =>
        refine ⟨_, rfl, .inl ⟨rfl, _, SqL.of el⟩, _, rfl, _, rfl, _, rfl, _, rfl, _, rfl, a, d, p, env, W, n1 - 1, lp, rv, rs, rfl, sw.s, hWF, oW, hEF, eW, rvF, frs, fun v s F3 s3 xs => ?_⟩
        have k3 := Keeps.of_stp (K := K) s3 sw.s
        have el3 := s3.k _ _ nla el
        refine ⟨l, us, v, rfl, rfl, el3, lenU xB hc hn1, ?_⟩
        exact ⟨push F3 (n1 - 1) us b v s (sw.trans (Stw.of s3)) (lf1.stp sw.s s3) ⟨by omega, by omega⟩ el3 (xB.keep k3) xs.h xs.w (xs.d _) (by rw [xs.c]; omega), _, _, _, _, _, rfl⟩
    · refine ⟨_, rfl, _, _, rfl, rfl, _, rfl, ifF (decide_eq_false hD) (iteF ⟨_, rfl, _, _, rfl, rfl, _, rfl, ifF (decide_eq_false hD) (iteF ?_)⟩)⟩
      refine ⟨_, rfl, .inl ⟨rfl, _, SqL.of el⟩, _, rfl, _, rfl, _, rfl, _, rfl, _, rfl, a, d, p, env, W, n1 - 1, lp, rv, rs, rfl, sw.s, hWF, oW, hEF, eW, rvF, frs, fun v s F3 s3 xs => ?_⟩
      have k3 := Keeps.of_stp (K := K) s3 sw.s
      have el3 := s3.k _ _ nla el
      refine ⟨l, us, v, rfl, rfl, el3, lenU xB hc hn1, ?_⟩
      exact ⟨push F3 (n1 - 1) us b v s (sw.trans (Stw.of s3)) (lf1.stp sw.s s3) ⟨by omega, by omega⟩ el3 (xB.keep k3) xs.h xs.w (xs.d _) (by rw [xs.c]; omega), _, _, _, _, _, rfl⟩
  · rintro σ F ⟨⟨sw, n1, us, b, lf, ⟨hn1, hn2⟩, el, xB, hc⟩, v8, v9, v10, v11, v12, rfl⟩
    refine ⟨_, rfl, l, _, rfl, .inl ⟨SqL.of el, fun t ht => ?_⟩⟩
    have sz := Same.new ht (.tup us)
    exact q t us b n1 _ (sw.trans (Stw.of (Stp.of_same sw.s sz))) (SqT.of upd_same) (xB.keep (Keeps.of_same sz)) (lf.same sz) ⟨hn1, hn2⟩ hc
theorem ok_bodies (T : Txt w K mg) : ∀ m : Nat, FnOk P w K mg base CX0 (2 * m + 11) T.a_l_body T.d_l_body p_l_body (spBd K m)
  | 0 => fn_vac fun vs H Q E h => by obtain ⟨a, d, p, env, W, kvs, n, up, D, lp, rv, rs, _, _, _, _, _, _, _, _, _, _, ⟨h1, h2⟩, _⟩ := h; omega
  | m + 1 => ok_body0 T (ok_loop T (ok_bodies T m)) (ok_bodies T m)
end
/-! ### drawn programs: names and kinds drawn -/
theorem ZT.stp {H H' : Hp} {a p : Addr} {xs : List V} (h : TZ.ZT H p xs) (hs : Src H a) (st : Stp a H H') : TZ.ZT H' p xs := by
  obtain ⟨o, h, d⟩ := h
  obtain ⟨c, m, k, hs⟩ := hs
  exact ⟨o, st.k _ _ (ne_of h hs (by intro z; cases z)) h, d⟩
/-- a told tuple of names and kinds -/
def PksZ (K : PySem.W.Frag) (H : Hp) (t : Addr) (l : List Pk) : Prop := ∃ xs, TZ.ZT H t xs ∧ PksL K H l xs
theorem PksZ.same {K : PySem.W.Frag} {H H' : Hp} {t : Addr} {l : List Pk} (s : Same H H') (h : PksZ K H t l) : PksZ K H' t l := by
  obtain ⟨xs, h1, h2⟩ := h
  exact ⟨xs, h1.same s, h2.keep (Keeps.of_same s)⟩
theorem PksZ.stp {K : PySem.W.Frag} {H H' : Hp} {a t : Addr} {l : List Pk} (h : PksZ K H t l) (hs : Src H a) (s : Stp a H H') : PksZ K H' t l := by
  obtain ⟨xs, h1, h2⟩ := h
  exact ⟨xs, ZT.stp h1 hs s, h2.keep (Keeps.of_stp s hs)⟩
/-- a list of kinds -/
def KdLst (K : PySem.W.Frag) (H : Hp) (p : Addr) (ks : List Kd) : Prop := ∃ xs, H p = some (.lst xs) ∧ A2 (fun k v => KdAt K H v k) ks xs
theorem KdLst.ne {K : PySem.W.Frag} {H : Hp} {p a : Addr} {ks : List Kd} (h : KdLst K H p ks) (hs : Src H a) : p ≠ a := by
  obtain ⟨xs, h1, h2⟩ := h
  obtain ⟨c, m, k, hs⟩ := hs
  intro z
  rw [z, hs] at h1
  have e2 := HO.lst.inj (Option.some.inj h1)
  subst e2
  cases ks with
  | nil => exact h2.elim
  | cons x r =>
    obtain ⟨⟨p, z, _⟩, _⟩ := h2
    cases z
theorem KdLst.same {K : PySem.W.Frag} {H H' : Hp} {p : Addr} {ks : List Kd} (s : Same H H') (h : KdLst K H p ks) : KdLst K H' p ks := by
  obtain ⟨xs, h1, h2⟩ := h
  exact ⟨xs, s _ _ h1, h2.imp fun _ _ => KdAt.keep (Keeps.of_same s)⟩
theorem KdLst.stp {K : PySem.W.Frag} {H H' : Hp} {a p : Addr} {ks : List Kd} (h : KdLst K H p ks) (hs : Src H a) (s : Stp a H H') : KdLst K H' p ks := by
  have ne := h.ne hs
  obtain ⟨xs, h1, h2⟩ := h
  exact ⟨xs, s.k _ _ ne h1, h2.imp fun _ _ => KdAt.keep (Keeps.of_stp s hs)⟩
theorem strs_ne {a p : Addr} {H : Hp} {zs : List Str} (h : Src H a) (e : H p = some (.lst (zs.map V.str))) : p ≠ a := fun z => by
  obtain ⟨c, m, k, hs⟩ := h
  rw [z, hs] at e
  have e2 := HO.lst.inj (Option.some.inj e)
  cases zs with
  | nil => cases e2
  | cons x y => rw [List.map_cons] at e2; cases e2
def spSome (K : PySem.W.Frag) : Sp := fun vs H Q _ => ∃ (a ln lk : Addr) (zs : List Str) (ks : List Kd) (le : Int), vs = [.ref a, .ref ln, .ref lk, .int le] ∧ Src H a ∧ H ln = some (.lst (zs.map V.str)) ∧ zs.length ≤ 20 ∧ KdLst K H lk ks ∧ 0 < ks.length ∧ ks.length ≤ 100 ∧ 0 ≤ le ∧ le ≤ zs.length ∧
  ∀ (t : Addr) (l : List Pk) (H' : Hp), Stp a H H' → PksZ K H' t l → l.map (·.1) = zs.take l.length → l.length ≤ zs.length → le ≤ l.length → (∀ x ∈ l, x.2 ∈ ks) → Q (.ref t) H'
section
variable {P : Program} {w : World} {K : PySem.W.Frag} {mg : Str → Option Value} {base : Heap}
theorem ok_l_some (T : Txt w K mg) : FnOk P w K mg base CX0 3 T.a_l_some T.d_l_some p_l_some (spSome K) := by
  have g_l_pick := ok_l_pick (P := P) (w := w) (base := base) T
  have g_l_one := ok_l_oneQ (P := P) (w := w) (K := K) (base := base) T
  refine T.F_l_some.ok sc_l_some (fun vs H Q E h => ?_) (fun cdv A outer s H vs Q E hr h => ?_)
  · obtain ⟨a, ln, lk, zs, ks, le, rfl, _⟩ := h
    rfl
  obtain ⟨a, ln, lk, zs, ks, le, rfl, hS, hn, lz, hk, lk0, lk9, le0, le9, q⟩ := h
  refine ⟨_, (pss_cons (ps_set (i := 4) sc_l_some.nd rfl (Or.inl rfl) (pe_lst pa_nil))
      (pss_cons (ps_for PassesOwn.never rfl (pi_range1 rfl T.z_range (pa_cons (pe_op op_add (pv 3) (pe_call g_l_pick (hr.mono (by first | decide | omega)) rfl T.m_l_pick T.F_l_pick.kp T.b_l_pick .nil pass0 (pa_cons (pv 0) (pa_cons (pe_op op_sub (pe_op op_add (pe_callB call_len_seq rfl T.z_len PySem.boot_len (pa_cons (pv 1) pa_nil)) pe_int) (pv 3)) pa_nil)))) pa_nil)) (pg_name (i := 5) sc_l_some.nd rfl (Or.inl rfl))
        (pss_one (ps_expr (pe_bm PySem.F.plainAttrs_list PySem.F.slot_list_append PySem.F.type_list_append mt_append (pv 4) (pa_cons (pe_tup (pa_cons (pe_ix ix_list (pv 1) (pv 5) (fun _ _ => rfl)) (pa_cons (pe_call g_l_one (hr.mono (by first | decide | omega)) rfl T.m_l_one T.F_l_one.kp T.b_l_one .nil pass0 (pa_cons (pv 0) (pa_cons (pv 2) pa_nil))) pa_nil))) pa_nil)))))
      (pss_one (ps_ret (pe_callTy TZ.call_tuple_fz rfl T.z_tuple bt_tuple (pa_cons (pv 4) pa_nil)))))), ?_⟩
  refine ⟨by show 0 ≤ sizeLine; decide, fun l hl => ?_⟩
  have sl := Same.new hl (.lst [])
  have st0 : Stp a H (upd H l (.lst [])) := Stp.of_same hS sl
  have nla : l ≠ a := (hS.ne hl).symm
  have nna := strs_ne hS hn
  refine ⟨_, rfl, _, rfl, _, rfl, ln, _, rfl, .inl (SqL.of (sl _ _ hn)), _, _, rfl, rfl, _, rfl, _, _, rfl, rfl, a, _, rfl, st0.s, by rw [List.length_map]; omega, fun r F st1 r0 r1 => ⟨_, _, rfl, rfl, ?_⟩⟩
  rw [List.length_map] at r1
  have el := st1.k _ _ nla (upd_same : (upd H l (.lst [])) l = some (.lst []))
  have st := st0.trans st1
  clear st0 st1 sl
  refine ⟨_, rfl, by omega, by omega, for_range (lo := 0) (fun i σ G => Stp a H G ∧ (∃ (us : List V) (prs : List Pk), G l = some (.lst us) ∧ PksL K G prs us ∧ prs.length = i ∧ prs.map (·.1) = zs.take i ∧ ∀ x ∈ prs, x.2 ∈ ks) ∧ ∃ v5 : Option V, σ = [some (.ref a), some (.ref ln), some (.ref lk), some (.int le), some (.ref l), v5]) ⟨st, ⟨[], [], el, trivial, rfl, by simp, fun x hx => by cases hx⟩, none, rfl⟩ ?_ ?_⟩
  · clear el st F
    rintro i σ G hi ⟨st, ⟨us, prs, el, xs, lp, np, kp⟩, v5, rfl⟩
    have hi2 : i < zs.length := by omega
    have ez : zs[i]? = some zs[i] := List.getElem?_eq_getElem hi2
    have en : atI (zs.map V.str) (0 + (i : Int)) = some (.str zs[i]) := by
      rw [Int.zero_add]
      exact atI_nat (by rw [List.getElem?_map, ez]; rfl)
    have tk : zs.take (i + 1) = zs.take i ++ [zs[i]] := by
      rw [List.take_add_one, ez]
      rfl
    generalize zs[i] = z at ez en tk
    have lu := xs.len
    have hkG := hk.stp hS st
    obtain ⟨kxs, e1, e2⟩ := id hkG
    have lkx : kxs.length = ks.length := A2.len e2
    refine ⟨_, rfl, .inl ⟨rfl, _, SqL.of el⟩, _, rfl, _, rfl, ln, _, _, _, rfl, rfl, SqL.of (st.k _ _ nna hn), en, ?_⟩
    refine ⟨_, rfl, _, rfl, a, lk, kxs, rfl, st.s, .inl ⟨hkG.ne st.s, SqL.of e1⟩, by omega, by omega, fun v F hv s2 => ⟨by show 2 ≤ sizeLine; decide, fun t ht => ?_⟩⟩
    have kp2 := Keeps.of_stp (K := K) s2 st.s
    obtain ⟨k, mk, hkd⟩ := (A2.imp (fun _ _ => KdAt.keep kp2) e2).mem hv
    have s3 := Same.new ht (.tup [.str z, v])
    have el3 := s3 _ _ (s2.k _ _ nla el)
    have x3 : PkAt K (upd F t (.tup [.str z, v])) (z, k) (.ref t) := ⟨t, v, rfl, SqT.of upd_same, hkd.keep (Keeps.of_same s3)⟩
    have xs3 := (xs.keep kp2).keep (Keeps.of_same s3)
    have st3 := (st.trans s2).same s3
    generalize (upd F t (.tup [.str z, v])) = F3 at *
    have kl := keep_lst (K := K) (o := .lst (us ++ [.ref t])) el3
    refine ⟨l, us, .ref t, rfl, rfl, el3, lt_line (by omega), ⟨?_, fun b o hb e => ?_⟩, ⟨_, prs ++ [(z, k)], upd_same, (xs3.keep kl).snoc (x3.keep kl), by rw [List.length_append, lp]; rfl, by rw [List.map_append, np, tk]; rfl, fun x hx => ?_⟩, _, rfl⟩
    · obtain ⟨c, m, k, hc⟩ := st3.s
      exact ⟨c, m, k, by rw [upd_ne nla.symm]; exact hc⟩
    · rw [upd_ne (ne_of_none e hl)]
      exact st3.k b o hb e
    · rcases List.mem_append.mp hx with hx | hx
      · exact kp x hx
      · rw [List.mem_singleton.mp hx]
        exact mk
  · rintro σ G ⟨st, ⟨us, prs, el, xs, lp, np, kp⟩, v5, rfl⟩
    refine ⟨_, rfl, l, _, rfl, SqL.of el, fun t o ht hc hd => ?_⟩
    have s3 := Same.new ht (.frz o (.tup us))
    refine q t prs _ (st.same s3) ⟨us, ⟨o, upd_same, hd⟩, xs.keep (Keeps.of_same s3)⟩ (by rw [np, lp]) (by omega) (by omega) kp
end
/-! ### drawn programs: programs -/
structure Fd where
  nm : Str
  ps : List Pk
  rs : Option Kd
  ow : List Pk
  bd : Bd
structure Pg where
  rc : List (Str × List Pk)
  ar : List Arr
  gl : List Pk
  fn : List Fd
def visP (g : List Pk) (f : Fd) : List Pk := g ++ f.ps ++ f.ow
def Fd.hd (f : Fd) : Hd := ⟨f.nm, f.ps, f.rs⟩
def Pg.wm (p : Pg) : Wm := ⟨p.rc, p.ar, p.fn.map Fd.hd, false⟩
/-- told tuples stand -/
def KeepZ (H H' : Hp) : Prop := ∀ p o xs, H p = some (.frz o (.tup xs)) → H' p = some (.frz o (.tup xs))
theorem KeepZ.of_same {H H' : Hp} (s : Same H H') : KeepZ H H' := fun p _ _ h => s p _ h
theorem KeepZ.of_stp {a : Addr} {H H' : Hp} (s : Stp a H H') (hs : Src H a) : KeepZ H H' := fun p o xs h => by
  obtain ⟨c, m, k, hs⟩ := hs
  exact s.k _ _ (ne_of h hs (by intro z; cases z)) h
theorem KeepZ.of_stw {a d : Addr} {H H' : Hp} {kvs : List (Key × V)} (s : Stw a d H H') (hs : Src H a) (hd : H d = some (.dK kvs)) : KeepZ H H' := fun p o xs h => by
  obtain ⟨c, m, k, hs⟩ := hs
  exact s.k _ _ (ne_of h hs (by intro z; cases z)) (ne_of h hd (by intro z; cases z)) h
theorem KeepZ.lst {H : Hp} {d : Addr} {xs : List V} {o : HO} (h : H d = some (.lst xs)) : KeepZ H (upd H d o) := fun p o' ys e => by
  rw [upd_ne (ne_of e h (by intro z; cases z))]
  exact e
theorem KeepZ.dk {H : Hp} {d : Addr} {kvs : List (Key × V)} {o : HO} (h : H d = some (.dK kvs)) : KeepZ H (upd H d o) := fun p o' ys e => by
  rw [upd_ne (ne_of e h (by intro z; cases z))]
  exact e
theorem ZT.keep {H H' : Hp} {p : Addr} {xs : List V} (k : KeepZ H H') (h : TZ.ZT H p xs) : TZ.ZT H' p xs := by
  obtain ⟨o, h, d⟩ := h
  exact ⟨o, k _ _ _ h, d⟩
theorem PksZ.keep {K : PySem.W.Frag} {H H' : Hp} {t : Addr} {l : List Pk} (kp : Keeps K H H') (k : KeepZ H H') (h : PksZ K H t l) : PksZ K H' t l := by
  obtain ⟨xs, h1, h2⟩ := h
  exact ⟨xs, ZT.keep k h1, h2.keep kp⟩
def RcAt (K : PySem.W.Frag) (H : Hp) (r : Str × List Pk) (v : V) : Prop := ∃ p t, v = .ref p ∧ SqT K H p [.str r.1, .ref t] ∧ PksZ K H t r.2
theorem RcAt.keep {K : PySem.W.Frag} {H H' : Hp} (kp : Keeps K H H') (k : KeepZ H H') {r : Str × List Pk} {v : V} (h : RcAt K H r v) : RcAt K H' r v := by
  obtain ⟨p, t, e, h1, h2⟩ := h
  exact ⟨p, t, e, kp _ _ h1, h2.keep kp k⟩
def FdAt (K : PySem.W.Frag) (H : Hp) (f : Fd) (v : V) : Prop := ∃ p t1 x1 rv t3 x3 t4 x4, v = .ref p ∧ SqT K H p [.str f.nm, .ref t1, rv, .ref t3, .ref t4] ∧ SqT K H t1 x1 ∧ PksL K H f.ps x1 ∧ OkdAt K H rv f.rs ∧ SqT K H t3 x3 ∧ PksL K H f.ow x3 ∧ SqT K H t4 x4 ∧ BdL K H f.bd x4
theorem FdAt.keep {K : PySem.W.Frag} {H H' : Hp} (kp : Keeps K H H') {f : Fd} {v : V} (h : FdAt K H f v) : FdAt K H' f v := by
  obtain ⟨p, t1, x1, rv, t3, x3, t4, x4, e, h1, h2, h3, h4, h5, h6, h7, h8⟩ := h
  exact ⟨p, t1, x1, rv, t3, x3, t4, x4, e, kp _ _ h1, kp _ _ h2, h3.keep kp, h4.keep kp, kp _ _ h5, h6.keep kp, kp _ _ h7, h8.keep kp⟩
/-- a program in the heap -/
def PgAt (K : PySem.W.Frag) (H : Hp) (v : V) (P : Pg) : Prop := ∃ p r rx a ax g f fx, v = .ref p ∧ SqT K H p [.ref r, .ref a, .ref g, .ref f] ∧ SqT K H r rx ∧ A2 (RcAt K H) P.rc rx ∧ SqT K H a ax ∧ A2 (ArAt K H) P.ar ax ∧ PksZ K H g P.gl ∧ SqT K H f fx ∧ A2 (FdAt K H) P.fn fx
theorem PgAt.keep {K : PySem.W.Frag} {H H' : Hp} (kp : Keeps K H H') (k : KeepZ H H') {v : V} {P : Pg} (h : PgAt K H v P) : PgAt K H' v P := by
  obtain ⟨p, r, rx, a, ax, g, f, fx, e, h1, h2, h3, h4, h5, h6, h7, h8⟩ := h
  exact ⟨p, r, rx, a, ax, g, f, fx, e, kp _ _ h1, kp _ _ h2, h3.imp fun _ _ => RcAt.keep kp k, kp _ _ h4, h5.imp fun _ _ => ArAt.keep kp, h6.keep kp k, kp _ _ h7, h8.imp fun _ _ => FdAt.keep kp⟩
/-- a program keeps the rules -/
structure PgOk (P : Pg) : Prop where
  nf : (P.fn.map (·.nm)).Nodup
  nr : (P.rc.map (·.1)).Nodup
  na : (P.ar.map (·.1)).Nodup
  fl : ∀ r ∈ P.rc, (r.2.map (·.1)).Nodup ∧ (∀ a ∈ r.2, PkOk a) ∧ r.2.length ≤ 20 ∧ PyData.strOk r.1 = true ∧ r.1.length ≤ 20
  nv : ∀ f ∈ P.fn, ((visP P.gl f).map (·.1)).Nodup ∧ (∀ a ∈ visP P.gl f, PkOk a) ∧ (visP P.gl f).length ≤ 40 ∧ okFine f.rs ∧ PyData.strOk f.nm = true ∧ f.nm.length ≤ 20
  wf : ∀ f ∈ P.fn, f.bd.wf P.wm (visP P.gl f) f.rs false
  dc : ∀ f ∈ P.fn, f.bd.dep 8 ∧ f.bd.cnt ≤ 100
  ar : ∀ x ∈ P.ar, (Kd.num x.2.2.1 x.2.2.2).fine ∧ 1 ≤ x.2.1 ∧ x.2.1 ≤ 64 ∧ PyData.strOk x.1 = true ∧ x.1.length ≤ 20
  ln : P.rc.length ≤ 10 ∧ P.ar.length ≤ 10 ∧ P.gl.length ≤ 10 ∧ P.fn.length ≤ 10
/-- the names of a program -/
structure PgN (zs : List Str) (P : Pg) : Prop where
  rc : ∀ r ∈ P.rc, r.1 ∈ zs ∧ ∀ a ∈ r.2, a.1 ∈ zs
  ar : ∀ x ∈ P.ar, x.1 ∈ zs
  gl : ∀ a ∈ P.gl, a.1 ∈ zs
  fn : ∀ f ∈ P.fn, (f.nm ∈ zs ∨ f.nm = "main") ∧ ∀ a ∈ f.ps ++ f.ow, a.1 ∈ zs
/-! ### what fits in a world fits in a greater one -/
theorem Ex.ty_mono {env env' : List Pk} (h : ∀ a ∈ env, a ∈ env') : ∀ {e : Ex} {t : Ty}, e.ty env t → e.ty env' t
  | .num _, _, q => q
  | .flag _, _, q => q
  | .name _, _, ⟨k, m, q⟩ => ⟨k, h _ m, q⟩
  | .null, _, q => q
  | .not a, _, q => ⟨q.1, Ex.ty_mono h (e := a) q.2⟩
  | .bin op a b, _, q => by
    rcases q with ⟨q1, q2, q3, q4⟩ | ⟨q1, q2⟩
    · exact .inl ⟨q1, q2, Ex.ty_mono h (e := a) q3, Ex.ty_mono h (e := b) q4⟩
    · refine .inr ⟨q1, ?_⟩
      rcases q2 with ⟨g1, g2, g3⟩ | ⟨g1, g2, g3⟩ | ⟨g1, s, g2, g3⟩
      · exact .inl ⟨g1, Ex.ty_mono h (e := a) g2, Ex.ty_mono h (e := b) g3⟩
      · exact .inr (.inl ⟨g1, Ex.ty_mono h (e := a) g2, Ex.ty_mono h (e := b) g3⟩)
      · exact .inr (.inr ⟨g1, s, Ex.ty_mono h (e := a) g2, Ex.ty_mono h (e := b) g3⟩)
theorem ArgsTy.mono {env env' : List Pk} (h : ∀ a ∈ env, a ∈ env') : ∀ {es : List Ex} {l : List Pk}, ArgsTy env es l → ArgsTy env' es l
  | [], [], _ => trivial
  | _ :: _, _ :: _, q => ⟨⟨q.1.1, Ex.ty_mono h q.1.2⟩, ArgsTy.mono h q.2⟩
  | [], _ :: _, q => q.elim
  | _ :: _, [], q => q.elim
structure WmLe (W W' : Wm) : Prop where
  r : ∀ x ∈ W.rc, x ∈ W'.rc
  a : ∀ x ∈ W.ar, x ∈ W'.ar
  h : ∀ x ∈ W.hd, x ∈ W'.hd
mutual
theorem Sm.wf_mono {W W' : Wm} {env env' : List Pk} {rs : Option Kd} (w : WmLe W W') (h : ∀ a ∈ env, a ∈ env') : ∀ {i : Bool} {s : Sm}, s.wf W env rs i → s.wf W' env' rs i
  | _, .set _ _, ⟨k, m, o, t⟩ => ⟨k, h _ m, o, Ex.ty_mono h t⟩
  | _, .input _, ⟨k, m, q⟩ => ⟨k, h _ m, q⟩
  | _, .new _, ⟨s, m⟩ => ⟨s, h _ m⟩
  | _, .free _, ⟨s, m⟩ => ⟨s, h _ m⟩
  | _, .load _ _ _, ⟨s, fs, k, m, r, f, x⟩ => ⟨s, fs, k, h _ m, w.r _ r, f, h _ x⟩
  | _, .store _ _ _, ⟨s, fs, k, m, r, f, o, t⟩ => ⟨s, fs, k, h _ m, w.r _ r, f, o, Ex.ty_mono h t⟩
  | _, .get _ _ _, ⟨n, lo, hi, m, x, o, t⟩ => ⟨n, lo, hi, w.a _ m, h _ x, o, Ex.ty_mono h t⟩
  | _, .put _ _ _, ⟨n, lo, hi, m, ⟨o, t⟩, o2, t2⟩ => ⟨n, lo, hi, w.a _ m, ⟨o, Ex.ty_mono h t⟩, o2, Ex.ty_mono h t2⟩
  | _, .call _ _ _, ⟨hd, m, e, a, q⟩ => ⟨hd, w.h _ m, e, ArgsTy.mono h a, fun z hz => by
      obtain ⟨k, m, e⟩ := q z hz
      exact ⟨k, h _ m, e⟩⟩
  | _, .ret none, q => q
  | _, .ret (some _), ⟨k, e, o, t⟩ => ⟨k, e, o, Ex.ty_mono h t⟩
  | _, .iff _ _ _, ⟨⟨o, t⟩, b, c⟩ => ⟨⟨o, Ex.ty_mono h t⟩, Bd.wf_mono w h b, Bd.wf_mono w h c⟩
  | _, .loop _ _, ⟨⟨o, t⟩, b⟩ => ⟨⟨o, Ex.ty_mono h t⟩, Bd.wf_mono w h b⟩
  | _, .brk, q => q
  | _, .asrt _, ⟨o, t⟩ => ⟨o, Ex.ty_mono h t⟩
theorem Bd.wf_mono {W W' : Wm} {env env' : List Pk} {rs : Option Kd} (w : WmLe W W') (h : ∀ a ∈ env, a ∈ env') : ∀ {i : Bool} {b : Bd}, b.wf W env rs i → b.wf W' env' rs i
  | _, .nil, _ => trivial
  | _, .cons _ _, q => ⟨Sm.wf_mono w h q.1, Bd.wf_mono w h q.2⟩
end
mutual
theorem Sm.dep_mono : ∀ {n m : Nat} {s : Sm}, n ≤ m → s.dep n → s.dep m
  | 0, m, .iff _ _ _, _, h => h.elim
  | n + 1, 0, .iff _ _ _, l, _ => absurd l (by omega)
  | n + 1, m + 1, .iff _ _ _, l, h => ⟨Bd.dep_mono (Nat.le_of_succ_le_succ l) h.1, Bd.dep_mono (Nat.le_of_succ_le_succ l) h.2⟩
  | 0, m, .loop _ _, _, h => h.elim
  | n + 1, 0, .loop _ _, l, _ => absurd l (by omega)
  | n + 1, m + 1, .loop _ _, l, h => Bd.dep_mono (Nat.le_of_succ_le_succ l) h
  | _, m, .set _ _, _, _ => by cases m <;> exact trivial
  | _, m, .input _, _, _ => by cases m <;> exact trivial
  | _, m, .new _, _, _ => by cases m <;> exact trivial
  | _, m, .free _, _, _ => by cases m <;> exact trivial
  | _, m, .load _ _ _, _, _ => by cases m <;> exact trivial
  | _, m, .store _ _ _, _, _ => by cases m <;> exact trivial
  | _, m, .get _ _ _, _, _ => by cases m <;> exact trivial
  | _, m, .put _ _ _, _, _ => by cases m <;> exact trivial
  | _, m, .call _ _ _, _, _ => by cases m <;> exact trivial
  | _, m, .ret _, _, _ => by cases m <;> exact trivial
  | _, m, .brk, _, _ => by cases m <;> exact trivial
  | _, m, .asrt _, _, _ => by cases m <;> exact trivial
theorem Bd.dep_mono : ∀ {n m : Nat} {b : Bd}, n ≤ m → b.dep n → b.dep m
  | _, m, .nil, _, _ => by cases m <;> exact trivial
  | _, m, .cons _ _, l, h => by
    have h' := h
    exact ⟨Sm.dep_mono l h'.1, Bd.dep_mono l h'.2⟩
end
/-! ### the kinds that a drawn program has -/
def zN (zs : List Str) (i : Nat) : Str := zs.getD i Str.empty
def KsOk (zs : List Str) (pl : Bool) (ks : List Kd) : Prop := ∃ lo wd : Int, -2 ≤ lo ∧ lo ≤ 1 ∧ 0 ≤ wd ∧ wd ≤ 3 ∧
  ((pl = true ∧ ks = [.flag, .flag, .num lo (lo + wd), .num lo (lo + wd), .ref (zN zs 0), .ref (zN zs 0), .ref (zN zs 1)]) ∨
   (pl = false ∧ ∃ a b : Int, -1000 ≤ a ∧ a ≤ 0 ∧ b ≤ 1000 ∧ a + 8 ≤ b ∧ ks = [.flag, .num lo (lo + wd), .ref (zN zs 0), .num a b, .num a b, .num a b]))
theorem zN_at {zs : List Str} {i : Nat} (h : i < zs.length) : atI (zs.map V.str) (i : Int) = some (.str (zN zs i)) := atI_nat (by
  rw [List.getElem?_map, List.getElem?_eq_getElem h]
  unfold zN
  rw [List.getD_eq_getElem?_getD, List.getElem?_eq_getElem h]
  rfl)
def spKinds (K : PySem.W.Frag) : Sp := fun vs H Q _ => ∃ (a ln : Addr) (zs : List Str) (pl wd : Bool), vs = [.ref a, .ref ln, .bl pl, .bl wd] ∧ Src H a ∧ H ln = some (.lst (zs.map V.str)) ∧ zs.length = 20 ∧
  ∀ (p : Addr) (ks : List Kd) (H' : Hp), Stp a H H' → KdLst K H' p ks → KsOk zs pl ks → Q (.ref p) H'
abbrev KdsL (K : PySem.W.Frag) (H : Hp) (ks : List Kd) (vs : List V) : Prop := A2 (fun k v => KdAt K H v k) ks vs
theorem kds_new {K : PySem.W.Frag} {G : Hp} {t : Addr} {k : Kd} {ks : List Kd} {vs : List V} (h : KdsL K G ks vs) (ht : G t = none) : KdsL K (upd G t (.tup k.vals)) (ks ++ [k]) (vs ++ [.ref t]) :=
  (h.imp fun _ _ => KdAt.keep (Keeps.of_same (Same.new ht _))).snoc ⟨t, rfl, SqT.of upd_same⟩
theorem kd_new {K : PySem.W.Frag} {G : Hp} {t t0 : Addr} {k k0 : Kd} (h : KdAt K G (.ref t0) k0) (ht : G t = none) : KdAt K (upd G t (.tup k.vals)) (.ref t0) k0 := h.keep (Keeps.of_same (Same.new ht _))
section
variable {P : Program} {w : World} {K : PySem.W.Frag} {mg : Str → Option Value} {base : Heap}
theorem ok_l_kinds (T : Txt w K mg) : FnOk P w K mg base CX0 3 T.a_l_kinds T.d_l_kinds p_l_kinds (spKinds K) := by
  have g_l_pick := ok_l_pick (P := P) (w := w) (base := base) T
  have g_l_one := ok_l_oneQ (P := P) (w := w) (K := K) (base := base) T
  refine T.F_l_kinds.ok sc_l_kinds (fun vs H Q E h => ?_) (fun cdv A outer s H vs Q E hr h => ?_)
  · obtain ⟨a, ln, zs, pl, wd, rfl, _⟩ := h
    rfl
  obtain ⟨a, ln, zs, pl, wd, rfl, hS, hn, lz, q⟩ := h
  refine ⟨_, (pss_cons (ps_set (i := 4) sc_l_kinds.nd rfl (Or.inl rfl) (pe_op op_sub (pe_call g_l_pick (hr.mono (by first | decide | omega)) rfl T.m_l_pick T.F_l_pick.kp T.b_l_pick .nil pass0 (pa_cons (pv 0) (pa_cons pe_int pa_nil))) pe_int))
      (pss_cons (ps_set (i := 5) sc_l_kinds.nd rfl (Or.inl rfl) (pe_tup (pa_cons pe_str (pa_cons (pv 4) (pa_cons (pe_op op_add (pv 4) (pe_call g_l_one (hr.mono (by first | decide | omega)) rfl T.m_l_one T.F_l_one.kp T.b_l_one .nil pass0 (pa_cons (pv 0) (pa_cons (pe_lst (pa_cons pe_int (pa_cons pe_int (pa_cons pe_int (pa_cons pe_int (pa_cons pe_int (pa_cons pe_int pa_nil))))))) pa_nil)))) pa_nil)))))
      (pss_cons (ps_set (i := 6) sc_l_kinds.nd rfl (Or.inl rfl) (pe_lst (pa_cons (pe_tup (pa_cons pe_str pa_nil)) (pa_cons (pe_tup (pa_cons pe_str pa_nil)) (pa_cons (pv 5) (pa_cons (pv 5) (pa_cons (pe_tup (pa_cons pe_str (pa_cons (pe_ix ix_list (pv 1) pe_int (fun _ _ => rfl)) pa_nil))) (pa_cons (pe_tup (pa_cons pe_str (pa_cons (pe_ix ix_list (pv 1) pe_int (fun _ _ => rfl)) pa_nil))) (pa_cons (pe_tup (pa_cons pe_str (pa_cons (pe_ix ix_list (pv 1) pe_int (fun _ _ => rfl)) pa_nil))) pa_nil)))))))))
      (C8.pss_cut (ps_if (pt_not (pt_val (pv 2))) (pss_cons (ps_set (i := 7) sc_l_kinds.nd rfl (Or.inl rfl) (pe_op op_sub (pe_call g_l_pick (hr.mono (by first | decide | omega)) rfl T.m_l_pick T.F_l_pick.kp T.b_l_pick .nil pass0 (pa_cons (pv 0) (pa_cons pe_int pa_nil))) pe_int))
      (pss_cons (ps_set (i := 8) sc_l_kinds.nd rfl (Or.inl rfl) (pe_tup (pa_cons pe_str (pa_cons (pv 7) (pa_cons (pe_op op_add (pe_op op_add (pv 7) pe_int) (pe_call g_l_pick (hr.mono (by first | decide | omega)) rfl T.m_l_pick T.F_l_pick.kp T.b_l_pick .nil pass0 (pa_cons (pv 0) (pa_cons pe_int pa_nil)))) pa_nil)))))
      (C8.pss_cut (ps_if (pt_val (pv 3)) (pss_one (ps_set (i := 8) sc_l_kinds.nd rfl (Or.inl rfl) (pe_tup (pa_cons pe_str (pa_cons (pe_op op_mul (pe_un un_neg pe_int) (pe_call g_l_pick (hr.mono (by first | decide | omega)) rfl T.m_l_pick T.F_l_pick.kp T.b_l_pick .nil pass0 (pa_cons (pv 0) (pa_cons pe_int pa_nil)))) (pa_cons (pe_op op_add pe_int (pe_call g_l_pick (hr.mono (by first | decide | omega)) rfl T.m_l_pick T.F_l_pick.kp T.b_l_pick .nil pass0 (pa_cons (pv 0) (pa_cons pe_int pa_nil)))) pa_nil)))))) pss_nil)
      (pss_one (ps_set (i := 6) sc_l_kinds.nd rfl (Or.inl rfl) (pe_lst (pa_cons (pe_tup (pa_cons pe_str pa_nil)) (pa_cons (pv 5) (pa_cons (pe_tup (pa_cons pe_str (pa_cons (pe_ix ix_list (pv 1) pe_int (fun _ _ => rfl)) pa_nil))) (pa_cons (pv 8) (pa_cons (pv 8) (pa_cons (pv 8) pa_nil)))))))))))) pss_nil)
      (pss_one (ps_ret (pv 6))))))), ?_⟩
  have nna := strs_ne hS hn
  have z0 := zN_at (zs := zs) (i := 0) (by omega)
  have z1 := zN_at (zs := zs) (i := 1) (by omega)
  refine ⟨_, rfl, a, 4, rfl, hS, by decide, fun r F0 st0 r0 r1 => ⟨_, _, rfl, rfl, ?_⟩⟩
  -- the small kind
  refine ⟨_, rfl, _, rfl, _, rfl, by show 6 ≤ sizeLine; decide, fun l1 hl1 => ?_⟩
  have s1 := st0.new (o := .lst [.int 0, .int 1, .int 1, .int 2, .int 2, .int 3]) hl1
  refine ⟨a, l1, _, rfl, s1.s, .inl ⟨(st0.s.ne hl1).symm, SqL.of upd_same⟩, by show 0 < 6; decide, by show 6 < 1000; decide, fun v F1 hv s2 => ?_⟩
  obtain ⟨w1, rfl, w10, w13⟩ : ∃ w1 : Int, v = .int w1 ∧ 0 ≤ w1 ∧ w1 ≤ 3 := by
    simp only [List.mem_cons, List.not_mem_nil, or_false] at hv
    rcases hv with rfl | rfl | rfl | rfl | rfl | rfl
    all_goals exact ⟨_, rfl, by decide, by decide⟩
  have st1 := s1.trans s2
  refine ⟨_, _, rfl, rfl, by show 3 ≤ sizeLine; decide, fun ts hts => ?_⟩
  have st2 := st1.new (o := .tup (Kd.num (r - 2) (r - 2 + w1)).vals) hts
  have xs : KdAt K (upd F1 ts (.tup (Kd.num (r - 2) (r - 2 + w1)).vals)) (.ref ts) (.num (r - 2) (r - 2 + w1)) := ⟨ts, rfl, SqT.of upd_same⟩
  have xs' : KdAt K (upd F1 ts (.tup [.str "num", .int (r - 2), .int (r - 2 + w1)])) (.ref ts) (.num (r - 2) (r - 2 + w1)) := xs
  have st2' : Stp a H (upd F1 ts (.tup [.str "num", .int (r - 2), .int (r - 2 + w1)])) := st2
  clear st2 xs
  generalize (upd F1 ts (.tup [.str "num", .int (r - 2), .int (r - 2 + w1)])) = G0 at xs' st2'
  clear st0 s1 s2 st1
  have n0 := st2'.k _ _ nna hn
  -- the kinds of a plain program
  refine ⟨by show 1 ≤ sizeLine; decide, fun t1 ht1 => ⟨by show 1 ≤ sizeLine; decide, fun t2 ht2 => ?_⟩⟩
  have m1 := Same.new ht1 (.tup [.str "flag"])
  have m2 := m1.trans (Same.new ht2 (.tup [.str "flag"]))
  have y2 : KdsL K (upd (upd G0 t1 (.tup [.str "flag"])) t2 (.tup [.str "flag"])) [.flag, .flag] [.ref t1, .ref t2] := kds_new (k := .flag) (kds_new (k := .flag) (ks := []) (vs := []) trivial ht1) ht2
  generalize (upd (upd G0 t1 (.tup [.str "flag"])) t2 (.tup [.str "flag"])) = G2 at m2 y2
  clear m1 ht2 ht1
  have sm2 := xs'.keep (Keeps.of_same m2)
  have y4 := (y2.snoc (a := .num (r - 2) (r - 2 + w1)) (v := .ref ts) sm2).snoc (a := .num (r - 2) (r - 2 + w1)) (v := .ref ts) sm2
  refine ⟨_, rfl, _, rfl, _, rfl, ln, _, 0, _, rfl, rfl, SqL.of (m2 _ _ n0), z0, by show 2 ≤ sizeLine; decide, fun t3 ht3 => ?_⟩
  have m3 := m2.trans (Same.new ht3 (.tup [.str "ref", .str (zN zs 0)]))
  have y5 := kds_new (k := .ref (zN zs 0)) y4 ht3
  refine ⟨_, rfl, ln, _, 0, _, rfl, rfl, SqL.of (m3 _ _ n0), z0, by show 2 ≤ sizeLine; decide, fun t4 ht4 => ?_⟩
  have m4 := m3.trans (Same.new ht4 (.tup [.str "ref", .str (zN zs 0)]))
  have y6 := kds_new (k := .ref (zN zs 0)) y5 ht4
  refine ⟨_, rfl, ln, _, 1, _, rfl, rfl, SqL.of (m4 _ _ n0), z1, by show 2 ≤ sizeLine; decide, fun t5 ht5 => ?_⟩
  have m5 := m4.trans (Same.new ht5 (.tup [.str "ref", .str (zN zs 1)]))
  have y7 := kds_new (k := .ref (zN zs 1)) y6 ht5
  refine ⟨by show 7 ≤ sizeLine; decide, fun l2 hl2 => ?_⟩
  have m6 := m5.trans (Same.new hl2 (.lst [.ref t1, .ref t2, .ref ts, .ref ts, .ref t3, .ref t4, .ref t5]))
  have y8 := A2.imp (fun _ _ => KdAt.keep (Keeps.of_same (Same.new hl2 (.lst [.ref t1, .ref t2, .ref ts, .ref ts, .ref t3, .ref t4, .ref t5])))) y7
  have y9 : KdLst K _ l2 [.flag, .flag, .num (r - 2) (r - 2 + w1), .num (r - 2) (r - 2 + w1), .ref (zN zs 0), .ref (zN zs 0), .ref (zN zs 1)] := ⟨_, upd_same, y8⟩
  have st6 := st2'.same m6
  have sm6 := xs'.keep (Keeps.of_same m6)
  generalize hG6 : (upd _ l2 _) = G6 at y9 st6 sm6 m6 ⊢
  clear y8 y7 y6 y5 y4 y2 m5 m4 m3 m2 hG6 hl2 ht5 ht4 ht3 n0 xs' st2' sm2
  refine ⟨fun σ F => Stp a H F ∧ ∃ (p : Addr) (ks : List Kd) (v7 v8 : Option V), KdLst K F p ks ∧ KsOk zs pl ks ∧ σ = [some (.ref a), some (.ref ln), some (.bl pl), some (.bl wd), some (.int (r - 2)), some (.ref ts), some (.ref p), v7, v8], ?_, ?_⟩
  · cases pl with
    | true => exact ⟨_, rfl, _, rfl, iteF ⟨st6, l2, _, none, none, y9, ⟨r - 2, w1, by omega, by omega, w10, w13, .inl ⟨rfl, rfl⟩⟩, rfl⟩⟩
    | false =>
      clear y9 m6
      refine ⟨_, rfl, _, rfl, iteT ?_⟩
      refine ⟨_, rfl, a, 5, rfl, st6.s, by decide, fun b F1 s1 b0 b1 => ⟨_, _, rfl, rfl, ?_⟩⟩
      refine ⟨_, rfl, _, rfl, _, _, rfl, rfl, _, rfl, a, 6, rfl, s1.s, by decide, fun c F2 s2 c0 c1 => ⟨_, _, rfl, rfl, by show 3 ≤ sizeLine; decide, fun tl htl => ?_⟩⟩
      have s12 := s1.trans s2
      have sml := sm6.keep (Keeps.of_stp s12 st6.s)
      have smL := sml.keep (Keeps.of_same (Same.new htl (.tup [.str "num", .int (b - 4), .int (b - 4 + 8 + c)])))
      have lgL : KdAt K (upd F2 tl (.tup [.str "num", .int (b - 4), .int (b - 4 + 8 + c)])) (.ref tl) (.num (b - 4) (b - 4 + 8 + c)) := ⟨tl, rfl, SqT.of upd_same⟩
      have st7 := (st6.trans s12).new (o := .tup [.str "num", .int (b - 4), .int (b - 4 + 8 + c)]) htl
      generalize (upd F2 tl (.tup [.str "num", .int (b - 4), .int (b - 4 + 8 + c)])) = G7 at smL lgL st7
      clear st6 s1 s2 s12 sm6 sml htl
      refine ⟨fun σ F => Stp a H F ∧ KdAt K F (.ref ts) (.num (r - 2) (r - 2 + w1)) ∧ ∃ (tl : Addr) (x y : Int), KdAt K F (.ref tl) (.num x y) ∧ -1000 ≤ x ∧ x ≤ 0 ∧ y ≤ 1000 ∧ x + 8 ≤ y ∧ σ = [some (.ref a), some (.ref ln), some (.bl false), some (.bl wd), some (.int (r - 2)), some (.ref ts), some (.ref l2), some (.int (b - 4)), some (.ref tl)], ?_, ?_⟩
      · refine ⟨_, rfl, _, rfl, ite2 (fun _ => ?_) (fun _ => ⟨st7, smL, tl, _, _, lgL, by omega, by omega, by omega, by omega, rfl⟩)⟩
        refine ⟨_, rfl, _, rfl, a, 10, rfl, st7.s, by decide, fun x F1 s1 x0 x1 => ⟨_, _, rfl, rfl, .inl ⟨by decide, by decide⟩, _, rfl, a, 900, rfl, s1.s, by decide, fun y F2 s2 y0 y1 => ⟨_, _, rfl, rfl, by show 3 ≤ sizeLine; decide, fun t ht => ?_⟩⟩⟩
        have s12 := s1.trans s2
        exact ⟨(st7.trans s12).new ht, (smL.keep (Keeps.of_stp s12 st7.s)).keep (Keeps.of_same (Same.new ht _)), t, -100 * x, 100 + y, ⟨t, rfl, SqT.of upd_same⟩, by omega, by omega, by omega, by omega, rfl⟩
      clear smL lgL st7 tl
      rintro σ F ⟨st7, smL, tl, x, y, lgL, x0, x1, y0, y1, rfl⟩
      have n7 := st7.k _ _ nna hn
      refine ⟨by show 1 ≤ sizeLine; decide, fun t1 ht1 => ?_⟩
      have m1 := Same.new ht1 (.tup [.str "flag"])
      have y1' := kds_new (K := K) (k := .flag) (ks := []) (vs := []) trivial ht1
      have y2 := y1'.snoc (a := .num (r - 2) (r - 2 + w1)) (v := .ref ts) (smL.keep (Keeps.of_same m1))
      refine ⟨_, rfl, _, rfl, ln, _, 0, _, rfl, rfl, SqL.of (m1 _ _ n7), z0, by show 2 ≤ sizeLine; decide, fun t2 ht2 => ?_⟩
      have m2 := m1.trans (Same.new ht2 (.tup [.str "ref", .str (zN zs 0)]))
      have y3 := kds_new (k := .ref (zN zs 0)) y2 ht2
      have lg2 := lgL.keep (Keeps.of_same m2)
      have y4 := ((y3.snoc (a := .num x y) (v := .ref tl) lg2).snoc (a := .num x y) (v := .ref tl) lg2).snoc (a := .num x y) (v := .ref tl) lg2
      refine ⟨_, rfl, _, rfl, _, rfl, by show 6 ≤ sizeLine; decide, fun l3 hl3 => ?_⟩
      have s3 := Same.new hl3 (.lst [.ref t1, .ref ts, .ref t2, .ref tl, .ref tl, .ref tl])
      exact ⟨(st7.same m2).same s3, l3, _, _, _, ⟨_, upd_same, A2.imp (fun _ _ => KdAt.keep (Keeps.of_same s3)) y4⟩, ⟨r - 2, w1, by omega, by omega, w10, w13, .inr ⟨rfl, x, y, x0, x1, y0, by omega, rfl⟩⟩, rfl⟩
  rintro σ F ⟨st, p, ks, v7, v8, hk, ok, rfl⟩
  exact ⟨_, rfl, q p ks F st hk ok⟩
end
/-! ### drawn programs: what the parts are -/
theorem A2.nth {α : Type} {R : α → V → Prop} {l : List α} {vs : List V} {i : Nat} {a : α} (h : A2 R l vs) (e : l[i]? = some a) : ∃ v, vs[i]? = some v ∧ R a v := by
  have hi := (List.getElem?_eq_some_iff.mp e).1
  rw [← h.len] at hi
  exact ⟨vs[i], List.getElem?_eq_getElem hi, h.get e (List.getElem?_eq_getElem hi)⟩
structure Zs (zs : List Str) : Prop where
  l : zs.length = 20
  nd : zs.Nodup
  sk : ∀ z ∈ zs, PyData.strOk z = true
  sh : ∀ z ∈ zs, z.length ≤ 20
  mn : ("main" : Str) ∉ zs
theorem zs_of {st : Int} (h0 : 0 ≤ st) (h4 : st < 4) : Zs (namesOf st) := by
  have h : st = 0 ∨ st = 1 ∨ st = 2 ∨ st = 3 := by omega
  rcases h with rfl | rfl | rfl | rfl <;> exact ⟨by decide +kernel, by decide +kernel, by decide +kernel, by decide +kernel, by decide +kernel⟩
theorem Zs.mem {zs : List Str} (h : Zs zs) {i : Nat} (hi : i < 20) : zN zs i ∈ zs := by
  have hi2 : i < zs.length := by rw [h.l]; exact hi
  unfold zN
  rw [List.getD_eq_getElem?_getD, List.getElem?_eq_getElem hi2]
  exact List.getElem_mem hi2
theorem Zs.inj {zs : List Str} (h : Zs zs) {i j : Nat} (hi : i < 20) (hj : j < 20) (e : zN zs i = zN zs j) : i = j := by
  have hi2 : i < zs.length := by rw [h.l]; exact hi
  have hj2 : j < zs.length := by rw [h.l]; exact hj
  unfold zN at e
  rw [List.getD_eq_getElem?_getD, List.getElem?_eq_getElem hi2, List.getD_eq_getElem?_getD, List.getElem?_eq_getElem hj2] at e
  have e : zs[i] = zs[j] := e
  have p := List.pairwise_iff_getElem.mp h.nd
  rcases Nat.lt_trichotomy i j with c | c | c
  · exact absurd e (p i j hi2 hj2 c)
  · exact c
  · exact absurd e.symm (p j i hj2 hi2 c)
/-- kinds of a drawn program -/
def KdF (zs : List Str) (k : Kd) : Prop := k.fine ∧ ∀ s, k = .ref s → s = zN zs 0 ∨ s = zN zs 1
theorem KsOk.all {zs : List Str} {pl : Bool} {ks : List Kd} (z : Zs zs) (h : KsOk zs pl ks) : 0 < ks.length ∧ ks.length ≤ 7 ∧ ∀ k ∈ ks, KdF zs k := by
  have r0 : KdF zs (.ref (zN zs 0)) := ⟨⟨z.sk _ (z.mem (by decide)), z.sh _ (z.mem (by decide))⟩, fun s e => .inl (Kd.ref.inj e).symm⟩
  have r1 : KdF zs (.ref (zN zs 1)) := ⟨⟨z.sk _ (z.mem (by decide)), z.sh _ (z.mem (by decide))⟩, fun s e => .inr (Kd.ref.inj e).symm⟩
  have fl : KdF zs .flag := ⟨trivial, fun s e => by cases e⟩
  have nu : ∀ a b : Int, -1000 ≤ a → b ≤ 1000 → a ≤ b → KdF zs (.num a b) := fun a b h1 h2 h3 => ⟨⟨by omega, h3, by omega⟩, fun s e => by cases e⟩
  obtain ⟨lo, wd, l1, l2, w1, w2, h⟩ := h
  have sm := nu lo (lo + wd) (by omega) (by omega) (by omega)
  rcases h with ⟨_, rfl⟩ | ⟨_, a, b, a1, a2, b1, b2, rfl⟩
  · refine ⟨by show 0 < 7; decide, by show 7 ≤ 7; decide, fun k hk => ?_⟩
    simp only [List.mem_cons, List.not_mem_nil, or_false] at hk
    rcases hk with rfl | rfl | rfl | rfl | rfl | rfl | rfl
    · exact fl
    · exact fl
    · exact sm
    · exact sm
    · exact r0
    · exact r0
    · exact r1
  · have lg := nu a b a1 b1 (by omega)
    refine ⟨by show 0 < 6; decide, by show 6 ≤ 7; decide, fun k hk => ?_⟩
    simp only [List.mem_cons, List.not_mem_nil, or_false] at hk
    rcases hk with rfl | rfl | rfl | rfl | rfl | rfl
    · exact fl
    · exact sm
    · exact r0
    · exact lg
    · exact lg
    · exact lg
/-- names and kinds that were drawn: the first names of a row, kinds of the program -/
structure PkD (zs : List Str) (row : List Str) (l : List Pk) : Prop where
  n : l.map (·.1) = row.take l.length
  ll : l.length ≤ row.length
  k : ∀ a ∈ l, KdF zs a.2
theorem PkD.names {zs row : List Str} {l : List Pk} (h : PkD zs row l) : ∀ a ∈ l, a.1 ∈ row := fun a ha => by
  have : a.1 ∈ l.map (·.1) := List.mem_map.mpr ⟨a, ha, rfl⟩
  rw [h.n] at this
  exact List.mem_of_mem_take this
theorem PkD.ok {zs row : List Str} {l : List Pk} (z : Zs zs) (hr : ∀ x ∈ row, x ∈ zs) (h : PkD zs row l) : ∀ a ∈ l, PkOk a := fun a ha => ⟨z.sk _ (hr _ (h.names a ha)), z.sh _ (hr _ (h.names a ha)), (h.k a ha).1⟩
theorem PkD.sub {zs row : List Str} {l : List Pk} (h : PkD zs row l) : (l.map (·.1)).Sublist row := by
  rw [h.n]
  exact List.take_sublist _ _
/-- the parts of a program that stand before its functions -/
structure Gr (zs : List Str) (pl : Bool) (ks : List Kd) (rc : List (Str × List Pk)) (ar : List Arr) : Prop where
  k : KsOk zs pl ks
  r : ∃ f0 f1, rc = [(zN zs 0, f0), (zN zs 1, f1)] ∧ PkD zs [zN zs 2, zN zs 3] f0 ∧ PkD zs [zN zs 3, zN zs 2] f1
  a : ar = [] ∨ ∃ n lo hi, ar = [(zN zs 4, n, lo, hi)] ∧ 1 ≤ n ∧ n ≤ 4 ∧ (Kd.num lo hi).fine
structure GrAt (K : PySem.W.Frag) (F : Hp) (ln lk lr ta : Addr) (zs : List Str) (ks : List Kd) (rc : List (Str × List Pk)) (ar : List Arr) : Prop where
  n : F ln = some (.lst (zs.map V.str))
  k : KdLst K F lk ks
  r : ∃ us, F lr = some (.lst us) ∧ A2 (RcAt K F) rc us
  a : ∃ ax, SqT K F ta ax ∧ A2 (ArAt K F) ar ax
theorem GrAt.mono {K : PySem.W.Frag} {F F' : Hp} {ln lk lr ta : Addr} {zs : List Str} {ks : List Kd} {rc : List (Str × List Pk)} {ar : List Arr} (kp : Keeps K F F') (kz : KeepZ F F') (m : ∀ p o, (p = ln ∨ p = lk ∨ p = lr) → F p = some o → F' p = some o) (h : GrAt K F ln lk lr ta zs ks rc ar) : GrAt K F' ln lk lr ta zs ks rc ar := by
  obtain ⟨n, ⟨kx, k1, k2⟩, ⟨us, r1, r2⟩, ax, a1, a2⟩ := h
  exact ⟨m _ _ (.inl rfl) n, ⟨kx, m _ _ (.inr (.inl rfl)) k1, k2.imp fun _ _ => KdAt.keep kp⟩, ⟨us, m _ _ (.inr (.inr rfl)) r1, r2.imp fun _ _ => RcAt.keep kp kz⟩, ax, kp _ _ a1, a2.imp fun _ _ => ArAt.keep kp⟩
theorem GrAt.same {K : PySem.W.Frag} {F F' : Hp} {ln lk lr ta : Addr} {zs : List Str} {ks : List Kd} {rc : List (Str × List Pk)} {ar : List Arr} (h : GrAt K F ln lk lr ta zs ks rc ar) (s : Same F F') : GrAt K F' ln lk lr ta zs ks rc ar :=
  h.mono (Keeps.of_same s) (KeepZ.of_same s) fun p o _ e => s p o e
/-- its lists are not the source -/
theorem GrAt.ne {K : PySem.W.Frag} {F : Hp} {a ln lk lr ta : Addr} {zs : List Str} {ks : List Kd} {rc : List (Str × List Pk)} {ar : List Arr} (h : GrAt K F ln lk lr ta zs ks rc ar) (hs : Src F a) : ln ≠ a ∧ lk ≠ a ∧ lr ≠ a := by
  refine ⟨strs_ne hs h.n, h.k.ne hs, fun z => ?_⟩
  obtain ⟨us, r1, r2⟩ := h.r
  obtain ⟨c, m, k, hs⟩ := hs
  rw [z, hs] at r1
  have e2 := HO.lst.inj (Option.some.inj r1)
  subst e2
  cases rc with
  | nil => exact r2.elim
  | cons x r =>
    obtain ⟨⟨p, t, z, _⟩, _⟩ := r2
    cases z
theorem GrAt.stp {K : PySem.W.Frag} {F F' : Hp} {a ln lk lr ta : Addr} {zs : List Str} {ks : List Kd} {rc : List (Str × List Pk)} {ar : List Arr} (h : GrAt K F ln lk lr ta zs ks rc ar) (hs : Src F a) (s : Stp a F F') : GrAt K F' ln lk lr ta zs ks rc ar := by
  obtain ⟨n1, n2, n3⟩ := h.ne hs
  refine h.mono (Keeps.of_stp s hs) (KeepZ.of_stp s hs) fun p o hp e => s.k p o ?_ e
  rcases hp with rfl | rfl | rfl
  · exact n1
  · exact n2
  · exact n3
/-- all stands but the source, the world, one list -/
structure Stv (a d l : Addr) (H H' : Hp) : Prop where
  s : Src H' a
  k : ∀ b o, b ≠ a → b ≠ d → b ≠ l → H b = some o → H' b = some o
theorem Stv.of {a d l : Addr} {H H' : Hp} (x : Stw a d H H') : Stv a d l H H' := ⟨x.s, fun b o h1 h2 _ e => x.k b o h1 h2 e⟩
theorem Stv.trans {a d l : Addr} {H H1 H2 : Hp} (x : Stv a d l H H1) (y : Stv a d l H1 H2) : Stv a d l H H2 := ⟨y.s, fun b o h1 h2 h3 e => y.k b o h1 h2 h3 (x.k b o h1 h2 h3 e)⟩
theorem Stv.keep {K : PySem.W.Frag} {a d l : Addr} {H H' : Hp} {kvs : List (Key × V)} {us : List V} (x : Stv a d l H H') (hs : Src H a) (hd : H d = some (.dK kvs)) (hl : H l = some (.lst us)) : Keeps K H H' ∧ KeepZ H H' := by
  obtain ⟨c, m, k, hs⟩ := hs
  have n : ∀ {p : Addr} {u : HO}, H p = some u → (∀ zs, u ≠ .lst zs) → (∀ zs, u ≠ .dK zs) → H' p = some u := fun e n1 n2 => by
    refine x.k _ _ (fun z => ?_) (fun z => ?_) (fun z => ?_) e
    · rw [z, hs] at e
      exact n1 _ (Option.some.inj e).symm
    · rw [z, hd] at e
      exact n2 _ (Option.some.inj e).symm
    · rw [z, hl] at e
      exact n1 _ (Option.some.inj e).symm
  refine ⟨fun p xs h => ?_, fun p o xs h => n h (fun _ z => nomatch z) (fun _ z => nomatch z)⟩
  rcases h with (h | ⟨o, h⟩) | h
  · exact .inl (.inl (n h (fun _ z => nomatch z) (fun _ z => nomatch z)))
  · exact .inl (.inr ⟨o, n h (fun _ z => nomatch z) (fun _ z => nomatch z)⟩)
  · exact .inr h
/-- the world before the number that is left is written -/
structure WB (K : PySem.W.Frag) (F : Hp) (d : Addr) (W : Wm) (kvs : List (Key × V)) (lh : Addr) (hs : List V) : Prop where
  e : F d = some (.dK kvs)
  x : ∃ fd ta xs, valV kvs (Sum.inr "fields") = some (.ref fd) ∧ fd ≠ d ∧ FsAt K F fd W.rc ∧ valV kvs (Sum.inr "arrays") = some (.ref ta) ∧ SqT K F ta xs ∧ A2 (ArAt K F) W.ar xs
  h1 : valV kvs (Sum.inr "heads") = some (.ref lh)
  h2 : F lh = some (.lst hs)
  h3 : A2 (HdAt K F) W.hd hs
  s : valV kvs (Sum.inr "simple") = some (.bl W.sm)
  l : kvs.length ≤ 9
/-- the world's dict, whatever is left -/
def AgAt (G : Hp) (d : Addr) (kvs : List (Key × V)) : Prop := ∃ kv2, G d = some (.dK kv2) ∧ (∀ z : Str, z ≠ "left" → valV kv2 (Sum.inr z) = valV kvs (Sum.inr z)) ∧ kv2.length ≤ 10 ∧ (kv2.length ≤ 9 ∨ (valV kv2 (Sum.inr "left")).isSome = true)
theorem WB.wd {K : PySem.W.Frag} {F G : Hp} {a d l lh : Addr} {W : Wm} {kvs kv2 : List (Key × V)} {hs us : List V} {n : Int} (h : WB K F d W kvs lh hs) (sa : Src F a) (hl : F l = some (.lst us)) (nl : lh ≠ l) (sv : Stv a d l F G) (e : G d = some (.dK kv2)) (ag : ∀ z : Str, z ≠ "left" → valV kv2 (Sum.inr z) = valV kvs (Sum.inr z)) (le : valV kv2 (Sum.inr "left") = some (.int n)) (len : kv2.length ≤ 10) : WdAt K G d W n := by
  obtain ⟨e0, ⟨fd, ta, xs, x1, nf, x2, x3, x4, x5⟩, h1, h2, h3, s, ll⟩ := h
  obtain ⟨kp, kz⟩ := sv.keep (K := K) sa e0 hl
  obtain ⟨kf, ef, hf⟩ := id x2
  exact ⟨kv2, fd, ta, lh, xs, hs, e, (ag _ (by decide +kernel)).trans x1, nf, x2.mono kp fun o e2 => sv.k _ _ (dk_ne ef sa) nf (ne_of ef hl (by intro z; cases z)) e2, (ag _ (by decide +kernel)).trans x3, kp _ _ x4, x5.imp fun _ _ => ArAt.keep kp, (ag _ (by decide +kernel)).trans h1, sv.k _ _ (hs_ne h2 h3 sa) (ne_of h2 e0 (by intro z; cases z)) nl h2, h3.imp fun _ _ => HdAt.keep kp, (ag _ (by decide +kernel)).trans s, le, len⟩
theorem putK_le {kvs : List (Key × V)} {k : Key} {v : V} : (putK kvs k v).length ≤ kvs.length + 1 := by
  unfold putK
  split
  · rw [List.length_map]; omega
  · rw [List.length_append]; exact Nat.le_refl _
theorem AgAt.put {G : Hp} {d : Addr} {kvs kv2 : List (Key × V)} {n : Int} (h : AgAt G d kvs) (e : G d = some (.dK kv2)) : (∀ z : Str, z ≠ "left" → valV (putK kv2 (Sum.inr "left") (.int n)) (Sum.inr z) = valV kvs (Sum.inr z)) ∧ valV (putK kv2 (Sum.inr "left") (.int n)) (Sum.inr "left") = some (.int n) ∧ (putK kv2 (Sum.inr "left") (.int n)).length ≤ 10 := by
  obtain ⟨kv3, h1, h2, h3, h4⟩ := h
  rw [e] at h1
  have := HO.dK.inj (Option.some.inj h1)
  subst this
  refine ⟨fun z hz => ?_, by rw [valV_put, if_pos rfl], ?_⟩
  · rw [valV_put, if_neg (fun q => hz (Sum.inr.inj q))]
    exact h2 z hz
  · rcases h4 with h4 | h4
    · have := putK_le (kvs := kv2) (k := Sum.inr "left") (v := .int n)
      omega
    · rw [putK_len h4]
      exact h3
/-! ### bodies, one behind the other -/
def Bd.app : Bd → Bd → Bd
  | .nil, c => c
  | .cons s b, c => .cons s (b.app c)
theorem BdL.app {K : PySem.W.Frag} {H : Hp} {c : Bd} {us : List V} (h : BdL K H c us) : ∀ {b : Bd} {vs : List V}, BdL K H b vs → BdL K H (b.app c) (vs ++ us)
  | .nil, _, e => by rw [show _ = [] from e]; exact h
  | .cons _ _, _, ⟨v, ws, e, q, r⟩ => by rw [e]; exact ⟨v, ws ++ us, rfl, q, BdL.app h r⟩
theorem Bd.wf_app {W : Wm} {env : List Pk} {rs : Option Kd} {i : Bool} {c : Bd} (h : c.wf W env rs i) : ∀ {b : Bd}, b.wf W env rs i → (b.app c).wf W env rs i
  | .nil, _ => h
  | .cons _ _, q => ⟨q.1, Bd.wf_app h q.2⟩
theorem Bd.dep_app {n : Nat} {c : Bd} (h : c.dep n) : ∀ {b : Bd}, b.dep n → (b.app c).dep n
  | .nil, _ => h
  | .cons _ _, q => ⟨q.1, Bd.dep_app h q.2⟩
theorem Bd.cnt_app (c : Bd) : ∀ b : Bd, (b.app c).cnt = b.cnt + c.cnt
  | .nil => by show c.cnt = 0 + c.cnt; omega
  | .cons s b => by
    have ih := Bd.cnt_app c b
    show s.cnt + (b.app c).cnt = s.cnt + b.cnt + c.cnt
    omega
theorem BdOf.app {K : PySem.W.Frag} {H : Hp} {W : Wm} {env : List Pk} {rs : Option Kd} {i : Bool} {D : Nat} {vs us : List V} {b c : Bd} (h : BdOf K H W env rs i D vs b) (q : BdOf K H W env rs i D us c) : BdOf K H W env rs i D (vs ++ us) (b.app c) := ⟨BdL.app q.h h.h, Bd.wf_app q.w h.w, Bd.dep_app q.d h.d⟩
/-- a body, cut in two -/
theorem BdOf.cut {K : PySem.W.Frag} {H : Hp} {W : Wm} {env : List Pk} {rs : Option Kd} {i : Bool} {D : Nat} : ∀ {vs : List V} {b : Bd} (n : Nat), BdOf K H W env rs i D vs b → ∃ b1 b2, BdOf K H W env rs i D (vs.take n) b1 ∧ BdOf K H W env rs i D (vs.drop n) b2 ∧ b.cnt = b1.cnt + b2.cnt
  | vs, b, 0, h => ⟨.nil, b, ⟨by simp [BdL], by simp [Bd.wf], by simp [Bd.dep]⟩, by simpa using h, by show b.cnt = 0 + b.cnt; omega⟩
  | vs, .nil, n + 1, h => by
    have e : vs = [] := h.h
    subst e
    exact ⟨.nil, .nil, ⟨by simp [BdL], by simp [Bd.wf], by simp [Bd.dep]⟩, ⟨by simp [BdL], by simp [Bd.wf], by simp [Bd.dep]⟩, rfl⟩
  | vs, .cons s b, n + 1, h => by
    obtain ⟨v, ws, e, q, r⟩ := h.h
    subst e
    obtain ⟨b1, b2, h1, h2, h3⟩ := BdOf.cut (vs := ws) (b := b) n ⟨r, h.w.2, h.d.2⟩
    refine ⟨.cons s b1, b2, ⟨⟨v, _, rfl, q, h1.h⟩, ⟨h.w.1, h1.w⟩, ⟨h.d.1, h1.d⟩⟩, h2, ?_⟩
    show s.cnt + b.cnt = s.cnt + b1.cnt + b2.cnt
    omega
theorem BdOf.cons {K : PySem.W.Frag} {H : Hp} {W : Wm} {env : List Pk} {rs : Option Kd} {i : Bool} {D : Nat} {vs : List V} {b : Bd} {s : Sm} {v : V} (h : BdOf K H W env rs i D vs b) (h1 : SmAt K H s v) (h2 : s.wf W env rs i) (h3 : s.dep D) : BdOf K H W env rs i D (v :: vs) (.cons s b) := ⟨⟨v, vs, rfl, h1, h.h⟩, ⟨h2, h.w⟩, ⟨h3, h.d⟩⟩
/-! ### drawn programs: the whole keeps the rules -/
/-- the heads that are drawn -/
structure HdD (zs : List Str) (i : Nat) (hds : List Hd) : Prop where
  n : hds.map (·.nm) = ("main" : Str) :: [zN zs 7, zN zs 8].take i
  p : ∀ h ∈ hds, PkD zs [zN zs 9, zN zs 10] h.ps
  r : ∀ h ∈ hds, ∀ k, h.rs = some k → KdF zs k
theorem HdD.len {zs : List Str} {i : Nat} {hds : List Hd} (h : HdD zs i hds) : hds.length ≤ 3 ∧ hds ≠ [] := by
  have e := congrArg List.length h.n
  rw [List.length_map, List.length_cons, List.length_take] at e
  have e2 : [zN zs 7, zN zs 8].length = 2 := rfl
  refine ⟨by omega, fun z => ?_⟩
  rw [z] at e
  cases e
theorem take_two {x y : Str} {u : Int} (h1 : 1 ≤ u) (h2 : u ≤ 2) : cutV [V.str x, .str y] none (some u) = ([x, y].take u.toNat).map V.str ∧ ([x, y].take u.toNat).length ≤ 2 := by
  have : u = 1 ∨ u = 2 := by omega
  rcases this with rfl | rfl
  · exact ⟨rfl, by show 1 ≤ 2; decide⟩
  · exact ⟨rfl, by show 2 ≤ 2; decide⟩
theorem PkD.of_take {zs row : List Str} {n : Nat} {l : List Pk} (h : PkD zs (row.take n) l) : PkD zs row l := by
  obtain ⟨h1, h2, h3⟩ := h
  rw [List.length_take] at h2
  refine ⟨by rw [h1, List.take_take, Nat.min_eq_left (by omega)], by omega, h3⟩
theorem at_neg1 {xs : List V} {n : Nat} {v : V} (h : xs.length = n + 1) (e : xs[n]? = some v) : atI xs (-1) = some v := by
  unfold atI
  have e2 : ixN xs.length (-1) = some n := by
    unfold ixN
    rw [h]
    have h1 : ¬ (0 ≤ (-1 : Int)) := by decide
    rw [if_neg h1]
    simp
    omega
  rw [e2]
  exact e
theorem lst_len_ne {H : Hp} {p q : Addr} {xs ys : List V} (h1 : H p = some (.lst xs)) (h2 : H q = some (.lst ys)) (h : xs.length ≠ ys.length) : p ≠ q := fun z => by
  rw [z, h2] at h1
  exact h (congrArg List.length (HO.lst.inj (Option.some.inj h1))).symm
theorem Gr.wm {zs : List Str} {pl : Bool} {ks : List Kd} {rc : List (Str × List Pk)} {ar : List Arr} {i : Nat} {hds : List Hd} {sm : Bool} (z : Zs zs) (g : Gr zs pl ks rc ar) (h : HdD zs i hds) : WmOk ⟨rc, ar, hds, sm⟩ := by
  obtain ⟨f0, f1, rfl, d0, d1⟩ := g.r
  have l2 : ∀ {x y : Str}, [x, y].length = 2 := rfl
  refine ⟨h.len.2, Nat.le_trans h.len.1 (by decide), fun x hx => ⟨?_, ?_, ?_⟩, by show 2 ≤ 10; decide, fun r hr => ?_, ?_, fun x hx => ?_⟩
  · have := (h.p x hx).ll
    rw [l2] at this
    omega
  · refine (h.p x hx).ok z fun y hy => ?_
    simp only [List.mem_cons, List.not_mem_nil, or_false] at hy
    rcases hy with rfl | rfl <;> exact z.mem (by decide)
  · cases e : x.rs with
    | none => exact trivial
    | some k => exact (h.r x hx k e).1
  · have hr : r = (zN zs 0, f0) ∨ r = (zN zs 1, f1) := by simpa using hr
    rcases hr with rfl | rfl
    · refine ⟨Nat.le_trans d0.ll (by rw [l2]; decide), d0.ok z fun y hy => ?_⟩
      simp only [List.mem_cons, List.not_mem_nil, or_false] at hy
      rcases hy with rfl | rfl <;> exact z.mem (by decide)
    · refine ⟨Nat.le_trans d1.ll (by rw [l2]; decide), d1.ok z fun y hy => ?_⟩
      simp only [List.mem_cons, List.not_mem_nil, or_false] at hy
      rcases hy with rfl | rfl <;> exact z.mem (by decide)
  · rcases g.a with e | ⟨n, lo, hi, e, _⟩ <;> rw [e] <;> simp
  · rcases g.a with e | ⟨n, lo, hi, e, _, _, f⟩
    · rw [show ar = [] from e] at hx
      cases hx
    · rw [show ar = _ from e] at hx
      rw [List.mem_singleton.mp hx]
      exact f
theorem Gr.ew {zs : List Str} {pl : Bool} {ks : List Kd} {rc : List (Str × List Pk)} {ar : List Arr} {hds : List Hd} {sm : Bool} {env : List Pk} (g : Gr zs pl ks rc ar) (h : ∀ a ∈ env, KdF zs a.2) : EnvW ⟨rc, ar, hds, sm⟩ env := fun a ha s e => by
  obtain ⟨f0, f1, er, d0, d1⟩ := g.r
  rcases (h a ha).2 s e with rfl | rfl
  · exact ⟨f0, by rw [er]; simp⟩
  · exact ⟨f1, by rw [er]; simp⟩
/-- a function that was drawn -/
structure FdD (zs : List Str) (W : Wm) (gl : List Pk) (f : Fd) : Prop where
  o : PkD zs [zN zs 11, zN zs 12] f.ow
  w : f.bd.wf W (visP gl f) f.rs false
  d : f.bd.dep 2
  c : f.bd.cnt ≤ 40
/-- how small a drawn program is -/
structure PgSm (P : Pg) : Prop where
  rc : P.rc.length ≤ 2
  ar : P.ar.length ≤ 1
  gl : P.gl.length ≤ 2
  fn : P.fn.length ≤ 3
  vs : ∀ f ∈ P.fn, (visP P.gl f).length ≤ 6
theorem pg_mk {zs : List Str} {pl sm : Bool} {ks : List Kd} {rc : List (Str × List Pk)} {ar : List Arr} {i : Nat} {hds : List Hd} {gl : List Pk} {fds fs : List Fd} (z : Zs zs) (g : Gr zs pl ks rc ar) (h : HdD zs i hds) (hg : PkD zs [zN zs 5, zN zs 6] gl) (hf : fds.map Fd.hd = hds) (hd : ∀ f ∈ fds, FdD zs ⟨rc, ar, hds, sm⟩ gl f) (pm : fs.Perm fds) :
    PgOk ⟨rc, ar, gl, fs⟩ ∧ PgN zs ⟨rc, ar, gl, fs⟩ ∧ fs ≠ [] ∧ (∀ f ∈ fs, f.bd.cnt ≤ 40) ∧ PgSm ⟨rc, ar, gl, fs⟩ := by
  have l2 : ∀ {x y : Str}, [x, y].length = 2 := rfl
  have hdm : ∀ f ∈ fs, f.hd ∈ hds := fun f hf2 => by rw [← hf]; exact List.mem_map.mpr ⟨f, pm.mem_iff.mp hf2, rfl⟩
  have fdd : ∀ f ∈ fs, FdD zs ⟨rc, ar, hds, sm⟩ gl f := fun f hf2 => hd f (pm.mem_iff.mp hf2)
  have lf : fs.length ≤ 3 := by
    rw [pm.length_eq, ← List.length_map (f := Fd.hd), hf]
    exact h.len.1
  have r56 : ∀ x ∈ [zN zs 5, zN zs 6], x ∈ zs := fun y hy => by
    simp only [List.mem_cons, List.not_mem_nil, or_false] at hy
    rcases hy with rfl | rfl <;> exact z.mem (by decide)
  have r9 : ∀ x ∈ [zN zs 9, zN zs 10], x ∈ zs := fun y hy => by
    simp only [List.mem_cons, List.not_mem_nil, or_false] at hy
    rcases hy with rfl | rfl <;> exact z.mem (by decide)
  have r11 : ∀ x ∈ [zN zs 11, zN zs 12], x ∈ zs := fun y hy => by
    simp only [List.mem_cons, List.not_mem_nil, or_false] at hy
    rcases hy with rfl | rfl <;> exact z.mem (by decide)
  have r23 : ∀ x ∈ [zN zs 2, zN zs 3], x ∈ zs := fun y hy => by
    simp only [List.mem_cons, List.not_mem_nil, or_false] at hy
    rcases hy with rfl | rfl <;> exact z.mem (by decide)
  have r32 : ∀ x ∈ [zN zs 3, zN zs 2], x ∈ zs := fun y hy => by
    simp only [List.mem_cons, List.not_mem_nil, or_false] at hy
    rcases hy with rfl | rfl <;> exact z.mem (by decide)
  have nn : ∀ {i j : Nat}, i < 20 → j < 20 → i ≠ j → zN zs i ≠ zN zs j := fun h1 h2 h3 e => h3 (z.inj h1 h2 e)
  have fnm : ∀ f ∈ fs, f.nm = "main" ∨ f.nm ∈ zs := fun f hf2 => by
    have : f.nm ∈ hds.map (·.nm) := List.mem_map.mpr ⟨f.hd, hdm f hf2, rfl⟩
    rw [h.n] at this
    rcases List.mem_cons.mp this with e | e
    · exact .inl e
    · have := List.mem_of_mem_take e
      simp only [List.mem_cons, List.not_mem_nil, or_false] at this
      rcases this with e | e <;> rw [e] <;> exact .inr (z.mem (by decide))
  obtain ⟨f0, f1, erc, d0, d1⟩ := g.r
  have kp : ∀ f ∈ fs, PkD zs [zN zs 9, zN zs 10] f.ps := fun f hf2 => h.p f.hd (hdm f hf2)
  have nd6 : [zN zs 5, zN zs 6, zN zs 9, zN zs 10, zN zs 11, zN zs 12].Nodup := by
    have : ∀ l : List Nat, l.Nodup → (∀ i ∈ l, i < 20) → (l.map (zN zs)).Nodup := fun l => by
      induction l with
      | nil => intro _ _; exact List.nodup_nil
      | cons a l ih =>
        intro nd hl
        rw [List.map_cons, List.nodup_cons]
        refine ⟨fun hm => ?_, ih (List.nodup_cons.mp nd).2 fun i hi => hl i (List.mem_cons_of_mem _ hi)⟩
        obtain ⟨b, hb, e⟩ := List.mem_map.mp hm
        have := z.inj (hl b (List.mem_cons_of_mem _ hb)) (hl a List.mem_cons_self) e
        exact (List.nodup_cons.mp nd).1 (this ▸ hb)
    exact this [5, 6, 9, 10, 11, 12] (by decide) (by decide)
  refine ⟨⟨?_, ?_, ?_, fun r hr => ?_, fun f hf2 => ?_, fun f hf2 => ?_, fun f hf2 => ?_, fun x hx => ?_, ?_⟩, ⟨fun r hr => ?_, fun x hx => ?_, fun a ha => r56 _ (hg.names a ha), fun f hf2 => ⟨(fnm f hf2).symm, fun a ha => ?_⟩⟩, ?_, fun f hf2 => (fdd f hf2).c, ⟨by rw [erc]; exact Nat.le_refl 2, by rcases g.a with e | ⟨n, lo, hi, e, _⟩ <;> rw [e] <;> simp, by have := hg.ll; rw [l2] at this; exact this, lf, fun f hf2 => ?_⟩⟩
  · have e1 : fds.map (·.nm) = hds.map (·.nm) := by rw [← hf, List.map_map]; rfl
    refine (pm.map (·.nm)).nodup_iff.mpr ?_
    rw [e1, h.n, List.nodup_cons]
    refine ⟨fun hm => ?_, List.Nodup.sublist (List.take_sublist _ _) ?_⟩
    · have := List.mem_of_mem_take hm
      simp only [List.mem_cons, List.not_mem_nil, or_false] at this
      rcases this with e | e
      · exact z.mn (by rw [e]; exact z.mem (by decide))
      · exact z.mn (by rw [e]; exact z.mem (by decide))
    · rw [List.nodup_cons]
      exact ⟨by simpa using nn (by decide) (by decide) (by decide), by simp⟩
  · show (rc.map (·.1)).Nodup
    rw [erc]
    show [zN zs 0, zN zs 1].Nodup
    rw [List.nodup_cons]
    exact ⟨by simpa using nn (by decide) (by decide) (by decide), by simp⟩
  · show (ar.map (·.1)).Nodup
    rcases g.a with e | ⟨n, lo, hi, e, _⟩ <;> rw [e] <;> simp
  · have hr : r = (zN zs 0, f0) ∨ r = (zN zs 1, f1) := by
      have : r ∈ rc := hr
      rw [erc] at this
      simpa using this
    have two : ∀ {x y : Nat}, x < 20 → y < 20 → x ≠ y → [zN zs x, zN zs y].Nodup := fun h1 h2 h3 => by
      rw [List.nodup_cons]
      exact ⟨by simpa using nn h1 h2 h3, by simp⟩
    rcases hr with rfl | rfl
    · exact ⟨List.Nodup.sublist d0.sub (two (by decide) (by decide) (by decide)), d0.ok z r23, Nat.le_trans d0.ll (by rw [l2]; decide), z.sk _ (z.mem (by decide)), z.sh _ (z.mem (by decide))⟩
    · exact ⟨List.Nodup.sublist d1.sub (two (by decide) (by decide) (by decide)), d1.ok z r32, Nat.le_trans d1.ll (by rw [l2]; decide), z.sk _ (z.mem (by decide)), z.sh _ (z.mem (by decide))⟩
  · have fo := (fdd f hf2).o
    have fp := kp f hf2
    refine ⟨?_, fun a ha => ?_, ?_, ?_, ?_, ?_⟩
    · refine List.Nodup.sublist ?_ nd6
      show ((visP gl f).map (·.1)).Sublist ([zN zs 5, zN zs 6] ++ [zN zs 9, zN zs 10] ++ [zN zs 11, zN zs 12])
      unfold visP
      rw [List.map_append, List.map_append]
      exact (hg.sub.append fp.sub).append fo.sub
    · unfold visP at ha
      rcases List.mem_append.mp ha with ha | ha
      · rcases List.mem_append.mp ha with ha | ha
        · exact hg.ok z r56 a ha
        · exact fp.ok z r9 a ha
      · exact fo.ok z r11 a ha
    · unfold visP
      have h1 := hg.ll
      have h2 := fp.ll
      have h3 := fo.ll
      rw [l2] at h1 h2 h3
      show (gl ++ f.ps ++ f.ow).length ≤ 40
      rw [List.length_append, List.length_append]
      omega
    · cases e : f.rs with
      | none => exact trivial
      | some k => exact (h.r f.hd (hdm f hf2) k e).1
    · rcases fnm f hf2 with e | e
      · rw [e]; decide +kernel
      · exact z.sk _ e
    · rcases fnm f hf2 with e | e
      · rw [e]; decide +kernel
      · exact z.sh _ e
  · refine Bd.wf_mono (W := ⟨rc, ar, hds, sm⟩) (W' := (⟨rc, ar, gl, fs⟩ : Pg).wm) (env' := visP gl f) ⟨fun x hx => hx, fun x hx => hx, fun x hx => ?_⟩ (fun a ha => ha) (fdd f hf2).w
    have hx : x ∈ hds := hx
    rw [← hf] at hx
    obtain ⟨f', h1, h2⟩ := List.mem_map.mp hx
    exact List.mem_map.mpr ⟨f', pm.mem_iff.mpr h1, h2⟩
  · exact ⟨Bd.dep_mono (by decide) (fdd f hf2).d, Nat.le_trans (fdd f hf2).c (by decide)⟩
  · rcases g.a with e | ⟨n, lo, hi, e, n1, n2, fi⟩
    · rw [show ar = [] from e] at hx
      cases hx
    · have hx : x ∈ ar := hx
      rw [e] at hx
      rw [List.mem_singleton.mp hx]
      exact ⟨fi, n1, by show n ≤ 64; omega, z.sk _ (z.mem (by decide)), z.sh _ (z.mem (by decide))⟩
  · refine ⟨?_, ?_, ?_, Nat.le_trans lf (by decide)⟩
    · show rc.length ≤ 10
      rw [erc]
      show 2 ≤ 10
      decide
    · show ar.length ≤ 10
      rcases g.a with e | ⟨n, lo, hi, e, _⟩ <;> rw [e] <;> simp
    · exact Nat.le_trans hg.ll (by rw [l2]; decide)
  · have hr : r = (zN zs 0, f0) ∨ r = (zN zs 1, f1) := by
      have : r ∈ rc := hr
      rw [erc] at this
      simpa using this
    rcases hr with rfl | rfl
    · exact ⟨z.mem (by decide), fun a ha => r23 _ (d0.names a ha)⟩
    · exact ⟨z.mem (by decide), fun a ha => r32 _ (d1.names a ha)⟩
  · rcases g.a with e | ⟨n, lo, hi, e, _⟩
    · rw [show ar = [] from e] at hx
      cases hx
    · have hx : x ∈ ar := hx
      rw [e] at hx
      rw [List.mem_singleton.mp hx]
      exact z.mem (by decide)
  · rcases List.mem_append.mp ha with ha | ha
    · exact r9 _ ((kp f hf2).names a ha)
    · exact r11 _ ((fdd f hf2).o.names a ha)
  · intro e
    subst e
    have := pm.length_eq
    rw [← List.length_map (f := Fd.hd) (as := fds), hf] at this
    exact h.len.2 (List.length_eq_zero_iff.mp this.symm)
  · unfold visP
    have h1 := hg.ll
    have h2 := (kp f hf2).ll
    have h3 := (fdd f hf2).o.ll
    rw [l2] at h1 h2 h3
    show (gl ++ f.ps ++ f.ow).length ≤ 6
    rw [List.length_append, List.length_append]
    omega
/-- the dict of the world, as it is laid -/
def kvW (fd ta lh : Addr) (sm : Bool) : List (Key × V) := [(Sum.inr "fields", .ref fd), (Sum.inr "arrays", .ref ta), (Sum.inr "heads", .ref lh), (Sum.inr "simple", .bl sm)]
theorem kvW_mk {fd ta lh : Addr} {sm : Bool} : putK (putK (mergeK [] [(Sum.inr "fields", .ref fd), (Sum.inr "arrays", .ref ta)]) (Sum.inr "heads") (.ref lh)) (Sum.inr "simple") (.bl sm) = kvW fd ta lh sm := by kernel_rfl
theorem kvW_1 {fd ta lh : Addr} {sm : Bool} : valV (kvW fd ta lh sm) (Sum.inr "fields") = some (.ref fd) := by kernel_rfl
theorem kvW_2 {fd ta lh : Addr} {sm : Bool} : valV (kvW fd ta lh sm) (Sum.inr "arrays") = some (.ref ta) := by kernel_rfl
theorem kvW_3 {fd ta lh : Addr} {sm : Bool} : valV (kvW fd ta lh sm) (Sum.inr "heads") = some (.ref lh) := by kernel_rfl
theorem kvW_4 {fd ta lh : Addr} {sm : Bool} : valV (kvW fd ta lh sm) (Sum.inr "simple") = some (.bl sm) := by kernel_rfl
theorem merge2 {x y : Str} {u v : V} (h : x ≠ y) : valV (mergeK [] [(Sum.inr x, u), (Sum.inr y, v)] : List (Key × V)) (Sum.inr x) = some u ∧ valV (mergeK [] [(Sum.inr x, u), (Sum.inr y, v)] : List (Key × V)) (Sum.inr y) = some v := by
  have e : (mergeK [] [(Sum.inr x, u), (Sum.inr y, v)] : List (Key × V)) = putK (putK [] (Sum.inr x) u) (Sum.inr y) v := rfl
  rw [e]
  refine ⟨?_, by rw [valV_put, if_pos rfl]⟩
  rw [valV_put, if_neg (fun q => h (Sum.inr.inj q)), valV_put, if_pos rfl]
/-! ### drawn programs, whole -/
def spProg (K : PySem.W.Frag) : Sp := fun vs H Q _ => ∃ (a : Addr) (pl sm wd : Bool), vs = [.ref a, .bl pl, .bl sm, .bl wd] ∧ Src H a ∧ ∀ (v : V) (Pm : Pg) (st : Int) (H' : Hp), Stp a H H' → PgAt K H' v Pm → PgOk Pm → 0 ≤ st → st < 4 → PgN (namesOf st) Pm → Pm.fn ≠ [] → (∀ f ∈ Pm.fn, f.bd.cnt ≤ 40) → PgSm Pm → Q v H'
section
variable {P : Program} {w : World} {K : PySem.W.Frag} {mg : Str → Option Value} {base : Heap}
theorem ok_l_program (T : Txt w K mg) : FnOk P w K mg base CX0 18 T.a_l_program T.d_l_program p_l_program (spProg K) := by
  have g_l_pick := ok_l_pick (P := P) (w := w) (base := base) T
  have g_l_one := ok_l_oneQ (P := P) (w := w) (K := K) (base := base) T
  have g_l_names := ok_l_names (P := P) (w := w) (base := base) T
  have g_l_kinds := ok_l_kinds (P := P) (w := w) (K := K) (base := base) T
  have g_l_some := ok_l_some (P := P) (w := w) (K := K) (base := base) T
  have g_l_body := ok_bodies (P := P) (w := w) (K := K) (base := base) T 3
  have g_l_call := ok_l_call (P := P) (w := w) (K := K) (base := base) T
  refine T.F_l_program.ok sc_l_program (fun vs H Q E h => ?_) (fun cdv A outer s H vs Q E hr h => ?_)
  · obtain ⟨a, pl, sm, wd, rfl, _⟩ := h
    rfl
  obtain ⟨a, pl, sm, wd, rfl, hS, q⟩ := h
  refine ⟨_, (pss_cons (ps_set (i := 4) sc_l_program.nd rfl (Or.inl rfl) (pe_call g_l_names (hr.mono (by first | decide | omega)) rfl T.m_l_names T.F_l_names.kp T.b_l_names .nil pass0 (pa_cons (pv 0) pa_nil)))
      (pss_cons (ps_set (i := 5) sc_l_program.nd rfl (Or.inl rfl) (pe_call g_l_kinds (hr.mono (by first | decide | omega)) rfl T.m_l_kinds T.F_l_kinds.kp T.b_l_kinds .nil pass0 (pa_cons (pv 0) (pa_cons (pv 4) (pa_cons (pv 1) (pa_cons (pv 3) pa_nil))))))
      (C8.pss_cut (ps_set (i := 6) sc_l_program.nd rfl (Or.inl rfl) (pe_lst (pa_cons (pe_tup (pa_cons pe_str pa_nil)) (pa_cons (pe_ix ix_list (pv 5) (pe_op op_sub pe_int (pe_callTy call_int1 rfl T.z_int bt_int (pa_cons (pe_not (pv 1)) pa_nil))) (fun _ _ => rfl)) pa_nil))))
      (pss_cons (ps_set (i := 7) sc_l_program.nd rfl (Or.inl rfl) (pe_lst (pa_cons (pe_tup (pa_cons (pe_ix ix_list (pv 4) pe_int (fun _ _ => rfl)) (pa_cons (pe_call g_l_some (hr.mono (by first | decide | omega)) rfl T.m_l_some T.F_l_some.kp T.b_l_some .nil pass0 (pa_cons (pv 0) (pa_cons (pe_lst (pa_cons (pe_ix ix_list (pv 4) pe_int (fun _ _ => rfl)) (pa_cons (pe_ix ix_list (pv 4) pe_int (fun _ _ => rfl)) pa_nil))) (pa_cons (pv 6) (pa_cons pe_int pa_nil))))) pa_nil))) pa_nil)))
      (pss_cons (ps_expr (pe_bm PySem.F.plainAttrs_list PySem.F.slot_list_append PySem.F.type_list_append mt_append (pv 7) (pa_cons (pe_tup (pa_cons (pe_ix ix_list (pv 4) pe_int (fun _ _ => rfl)) (pa_cons (pe_call g_l_some (hr.mono (by first | decide | omega)) rfl T.m_l_some T.F_l_some.kp T.b_l_some .nil pass0 (pa_cons (pv 0) (pa_cons (pe_lst (pa_cons (pe_ix ix_list (pv 4) pe_int (fun _ _ => rfl)) (pa_cons (pe_ix ix_list (pv 4) pe_int (fun _ _ => rfl)) pa_nil))) (pa_cons (pe_op op_cat (pv 6) (pe_op op_rep (pe_lst (pa_cons (pe_tup (pa_cons pe_str (pa_cons (pe_ix ix_list (pv 4) pe_int (fun _ _ => rfl)) pa_nil))) pa_nil)) pe_int)) (pa_cons pe_int pa_nil))))) pa_nil))) pa_nil)))
      (pss_cons (ps_set (i := 8) sc_l_program.nd rfl (Or.inl rfl) (pe_tup pa_nil))
      (C8.pss_cut (ps_if (PW.pt (pw_and (pt_not (pt_val (pv 1))) (pw_and (pt_not (pt_val (pv 2))) (pw_and1 (pt_cmpR op_eq (pe_call g_l_pick (hr.mono (by first | decide | omega)) rfl T.m_l_pick T.F_l_pick.kp T.b_l_pick .nil pass0 (pa_cons (pv 0) (pa_cons pe_int pa_nil))) pe_int (nomark _)))))) (pss_one (ps_set (i := 8) sc_l_program.nd rfl (Or.inl rfl) (pe_tup (pa_cons (pe_tup (pa_cons (pe_ix ix_list (pv 4) pe_int (fun _ _ => rfl)) (pa_cons (pe_op op_add pe_int (pe_call g_l_pick (hr.mono (by first | decide | omega)) rfl T.m_l_pick T.F_l_pick.kp T.b_l_pick .nil pass0 (pa_cons (pv 0) (pa_cons pe_int pa_nil)))) (pa_cons (pe_ix ix_tup (pe_ix ix_list (pv 5) (pe_un un_neg pe_int) (fun _ _ => rfl)) pe_int (fun _ _ => rfl)) (pa_cons (pe_ix ix_tup (pe_ix ix_list (pv 5) (pe_un un_neg pe_int) (fun _ _ => rfl)) pe_int (fun _ _ => rfl)) pa_nil))))) pa_nil)))) pss_nil)
      (pss_cons (ps_set (i := 9) sc_l_program.nd rfl (Or.inl rfl) (pe_op op_sub pe_int (pe_callTy call_int1 rfl T.z_int bt_int (pa_cons (pe_not (pv 1)) pa_nil))))
      (C8.pss_cut (ps_set (i := 10) sc_l_program.nd rfl (Or.inl rfl) (pe_call g_l_some (hr.mono (by first | decide | omega)) rfl T.m_l_some T.F_l_some.kp T.b_l_some .nil pass0 (pa_cons (pv 0) (pa_cons (pe_slice sl_list (pe_lst (pa_cons (pe_ix ix_list (pv 4) pe_int (fun _ _ => rfl)) (pa_cons (pe_ix ix_list (pv 4) pe_int (fun _ _ => rfl)) pa_nil))) po_none (po_some (pv 9))) (pa_cons (pv 5) (pa_cons pe_int pa_nil))))))
      (pss_cons (ps_set (i := 11) sc_l_program.nd rfl (Or.inl rfl) (pe_lst (pa_cons (pe_tup (pa_cons pe_str (pa_cons (pe_tup pa_nil) (pa_cons pe_non pa_nil)))) pa_nil)))
      (pss_cons (ps_for PassesOwn.never rfl (pi_range1 rfl T.z_range (pa_cons (pe_call g_l_pick (hr.mono (by first | decide | omega)) rfl T.m_l_pick T.F_l_pick.kp T.b_l_pick .nil pass0 (pa_cons (pv 0) (pa_cons pe_int pa_nil))) pa_nil)) (pg_name (i := 12) sc_l_program.nd rfl (Or.inl rfl))
        (pss_cons (ps_set (i := 13) sc_l_program.nd rfl (Or.inl rfl) (pe_call g_l_one (hr.mono (by first | decide | omega)) rfl T.m_l_one T.F_l_one.kp T.b_l_one .nil pass0 (pa_cons (pv 0) (pa_cons (pe_op op_cat (pv 5) (pe_lst (pa_cons pe_non (pa_cons pe_non pa_nil)))) pa_nil))))
      (pss_one (ps_expr (pe_bm PySem.F.plainAttrs_list PySem.F.slot_list_append PySem.F.type_list_append mt_append (pv 11) (pa_cons (pe_tup (pa_cons (pe_ix ix_list (pv 4) (pe_op op_add pe_int (pv 12)) (fun _ _ => rfl)) (pa_cons (pe_call g_l_some (hr.mono (by first | decide | omega)) rfl T.m_l_some T.F_l_some.kp T.b_l_some .nil pass0 (pa_cons (pv 0) (pa_cons (pe_slice sl_list (pe_lst (pa_cons (pe_ix ix_list (pv 4) pe_int (fun _ _ => rfl)) (pa_cons (pe_ix ix_list (pv 4) pe_int (fun _ _ => rfl)) pa_nil))) po_none (po_some (pv 9))) (pa_cons (pv 5) (pa_cons pe_int pa_nil))))) (pa_cons (pv 13) pa_nil)))) pa_nil))))))
      (pss_cons (ps_set (i := 14) sc_l_program.nd rfl (Or.inl rfl) (pe_disp (pps_cons pe_str (pe_disp (pps_cons (pe_ix ix_tup (pe_ix ix_list (pv 7) pe_int (fun _ _ => rfl)) pe_int (fun _ _ => rfl)) (pe_ix ix_tup (pe_ix ix_list (pv 7) pe_int (fun _ _ => rfl)) pe_int (fun _ _ => rfl)) (pps_cons (pe_ix ix_tup (pe_ix ix_list (pv 7) pe_int (fun _ _ => rfl)) pe_int (fun _ _ => rfl)) (pe_ix ix_tup (pe_ix ix_list (pv 7) pe_int (fun _ _ => rfl)) pe_int (fun _ _ => rfl)) pps_nil)) (by rfl) (by rfl) (fun z => by cases z) (by decide)) (pps_cons pe_str (pv 8) pps_nil)) (by rfl) (by rfl) (fun z => by cases z) (by decide)))
      (pss_cons (ps_dput (hu_of hr) (pv 14) pe_str (pv 11) rfl)
      (pss_cons (ps_dput (hu_of hr) (pv 14) pe_str (pv 2) rfl)
      (C8.pss_cut (ps_set (i := 15) sc_l_program.nd rfl (Or.inl rfl) (pe_lst pa_nil))
      (pss_cons (ps_for PassesOwn.never rfl (pi_list (pv 11)) (pg_name (i := 16) sc_l_program.nd rfl (Or.inl rfl))
        (pss_cons (ps_set (i := 17) sc_l_program.nd rfl (Or.inl rfl) (pe_call g_l_some (hr.mono (by first | decide | omega)) rfl T.m_l_some T.F_l_some.kp T.b_l_some .nil pass0 (pa_cons (pv 0) (pa_cons (pe_lst (pa_cons (pe_ix ix_list (pv 4) pe_int (fun _ _ => rfl)) (pa_cons (pe_ix ix_list (pv 4) pe_int (fun _ _ => rfl)) pa_nil))) (pa_cons (pv 5) (pa_cons (pe_callTy call_int1 rfl T.z_int bt_int (pa_cons (pe_cmpR op_eq (pe_ix ix_tup (pv 16) pe_int (fun _ _ => rfl)) pe_str (nomark _)) pa_nil)) pa_nil))))))
      (pss_cons (ps_dput (hu_of hr) (pv 14) pe_str pe_int rfl)
      (pss_cons (ps_set (i := 18) sc_l_program.nd rfl (Or.inl rfl) (pe_callTy call_list_of rfl T.z_list bt_list (pa_cons (pe_op TZ.op_catU (pe_op TZ.op_catU (pv 10) (pe_ix ix_tup (pv 16) pe_int (fun _ _ => rfl))) (pv 17)) pa_nil)))
      (pss_cons (ps_set (i := 19) sc_l_program.nd rfl (Or.inl rfl) (pe_call g_l_body (hr.mono (by first | decide | omega)) rfl T.m_l_body T.F_l_body.kp T.b_l_body .nil pass0 (pa_cons (pv 0) (pa_cons (pv 14) (pa_cons (pv 18) (pa_cons pe_int (pa_cons pe_int (pa_cons pe_bl (pa_cons (pe_ix ix_tup (pv 16) pe_int (fun _ _ => rfl)) pa_nil)))))))))
      (pss_cons (ps_for PassesOwn.never rfl (pi_list (pv 18)) (pg_name (i := 20) sc_l_program.nd rfl (Or.inl rfl))
        (pss_one (ps_if (PW.pt (pw_and (pt_cmpR op_eq (pe_ix ix_tup (pe_ix ix_tup (pv 20) pe_int (fun _ _ => rfl)) pe_int (fun _ _ => rfl)) pe_str (nomark _)) (pw_and1 (pt_cmpR op_gt (pe_call g_l_pick (hr.mono (by first | decide | omega)) rfl T.m_l_pick T.F_l_pick.kp T.b_l_pick .nil pass0 (pa_cons (pv 0) (pa_cons pe_int pa_nil))) pe_int (nomark _))))) (pss_one (ps_set (i := 19) sc_l_program.nd rfl (Or.inl rfl) (pe_op TZ.op_catU (pe_tup (pa_cons (pe_tup (pa_cons pe_str (pa_cons (pe_ix ix_tup (pv 20) pe_int (fun _ _ => rfl)) pa_nil))) pa_nil)) (pv 19)))) (pss_one (ps_if (PW.pt (pw_and (pt_cmpR op_ne (pe_ix ix_tup (pe_ix ix_tup (pv 20) pe_int (fun _ _ => rfl)) pe_int (fun _ _ => rfl)) pe_str (nomark _)) (pw_and1 (pt_cmpR op_eq (pe_call g_l_pick (hr.mono (by first | decide | omega)) rfl T.m_l_pick T.F_l_pick.kp T.b_l_pick .nil pass0 (pa_cons (pv 0) (pa_cons pe_int pa_nil))) pe_int (nomark _))))) (pss_one (ps_set (i := 19) sc_l_program.nd rfl (Or.inl rfl) (pe_op TZ.op_catU (pe_tup (pa_cons (pe_tup (pa_cons pe_str (pa_cons (pe_ix ix_tup (pv 20) pe_int (fun _ _ => rfl)) pa_nil))) pa_nil)) (pv 19)))) pss_nil)))))
      (C8.pss_cut (ps_if (pt_cmpR op_eq (pe_ix ix_tup (pv 16) pe_int (fun _ _ => rfl)) pe_str (nomark _)) (pss_one (ps_for PassesOwn.never rfl (pi_list (pe_slice sl_list (pv 11) (po_some pe_int) po_none)) (pg_name (i := 21) sc_l_program.nd rfl (Or.inl rfl))
        (pss_one (ps_if (pt_cmpR op_gt (pe_call g_l_pick (hr.mono (by first | decide | omega)) rfl T.m_l_pick T.F_l_pick.kp T.b_l_pick .nil pass0 (pa_cons (pv 0) (pa_cons pe_int pa_nil))) pe_int (nomark _)) (pss_cons (ps_set (i := 22) sc_l_program.nd rfl (Or.inl rfl) (pe_call g_l_pick (hr.mono (by first | decide | omega)) rfl T.m_l_pick T.F_l_pick.kp T.b_l_pick .nil pass0 (pa_cons (pv 0) (pa_cons (pe_op op_add (pe_callB call_len_seq rfl T.z_len PySem.boot_len (pa_cons (pv 19) pa_nil)) pe_int) pa_nil))))
      (pss_one (ps_set (i := 19) sc_l_program.nd rfl (Or.inl rfl) (pe_op TZ.op_catU (pe_op TZ.op_catU (pe_slice TZ.sl_tupU (pv 19) po_none (po_some (pv 22))) (pe_tup (pa_cons (pe_call g_l_call (hr.mono (by first | decide | omega)) rfl T.m_l_call T.F_l_call.kp T.b_l_call .nil pass0 (pa_cons (pv 0) (pa_cons (pv 14) (pa_cons (pv 18) (pa_cons (pv 21) pa_nil))))) pa_nil))) (pe_slice TZ.sl_tupU (pv 19) (po_some (pv 22)) po_none))))) pss_nil)))) pss_nil)
      (pss_one (ps_expr (pe_bm PySem.F.plainAttrs_list PySem.F.slot_list_append PySem.F.type_list_append mt_append (pv 15) (pa_cons (pe_tup (pa_cons (pe_ix ix_tup (pv 16) pe_int (fun _ _ => rfl)) (pa_cons (pe_ix ix_tup (pv 16) pe_int (fun _ _ => rfl)) (pa_cons (pe_ix ix_tup (pv 16) pe_int (fun _ _ => rfl)) (pa_cons (pv 17) (pa_cons (pv 19) pa_nil)))))) pa_nil)))))))))))
      (pss_cons (ps_set (i := 23) sc_l_program.nd rfl (Or.inl rfl) (pe_call g_l_pick (hr.mono (by first | decide | omega)) rfl T.m_l_pick T.F_l_pick.kp T.b_l_pick .nil pass0 (pa_cons (pv 0) (pa_cons (pe_callB call_len_seq rfl T.z_len PySem.boot_len (pa_cons (pv 15) pa_nil)) pa_nil))))
      (C8.pss_cut (ps_set (i := 15) sc_l_program.nd rfl (Or.inl rfl) (pe_op op_cat (pe_slice sl_list (pv 15) (po_some (pv 23)) po_none) (pe_slice sl_list (pv 15) po_none (po_some (pv 23)))))
      (pss_one (ps_ret (pe_tup (pa_cons (pe_callTy call_tuple_of rfl T.z_tuple bt_tuple (pa_cons (pv 7) pa_nil)) (pa_cons (pv 8) (pa_cons (pv 10) (pa_cons (pe_callTy call_tuple_of rfl T.z_tuple bt_tuple (pa_cons (pv 15) pa_nil)) pa_nil))))))))))))))))))))))))), ?_⟩
  refine ⟨_, rfl, a, rfl, hS, fun st ln F0 s0 nln st0 st4 hn => ?_⟩
  have zz := zs_of st0 st4
  refine ⟨_, rfl, _, rfl, _, rfl, _, rfl, a, ln, namesOf st, pl, wd, rfl, s0.s, hn, zz.l, fun lk ks F1 s1 hk kok => ?_⟩
  have st1 := s0.trans s1
  have hn1 := s1.k _ _ (strs_ne s0.s hn) hn
  clear s0 s1 nln hn
  -- the kinds of fields
  refine ⟨fun σ F => Stp a H F ∧ F ln = some (.lst ((namesOf st).map V.str)) ∧ KdLst K F lk ks ∧ ∃ (lf : Addr) (sk : Kd), KdLst K F lf [.flag, sk] ∧ KdF (namesOf st) sk ∧ σ = [some (V.ref a), some (.bl pl), some (.bl sm), some (.bl wd), some (.ref ln), some (.ref lk), some (.ref lf), none, none, none, none, none, none, none, none, none, none, none, none, none, none, none, none, none], ?_, ?_⟩
  · refine ⟨by show 1 ≤ sizeLine; decide, fun t1 ht1 => ?_⟩
    have m1 := Same.new ht1 (.tup [.str "flag"])
    have xf : KdAt K (upd F1 t1 (.tup [.str "flag"])) (.ref t1) .flag := ⟨t1, rfl, SqT.of upd_same⟩
    have hk1 := hk.same m1
    have st2 := st1.same m1
    have hn2 := m1 _ _ hn1
    generalize (upd F1 t1 (.tup [.str "flag"])) = F2 at *
    obtain ⟨kx, e1, e2⟩ := id hk1
    obtain ⟨sk, v, i, ei, ev, hv, fsk⟩ : ∃ (sk : Kd) (v : V) (i : Nat), (2 - (if (!pl) = true then (1 : Int) else 0)) = (i : Int) ∧ kx[i]? = some v ∧ KdAt K F2 v sk ∧ KdF (namesOf st) sk := by
      have al := (kok.all zz).2.2
      obtain ⟨lo, wi, l1, l2, w1, w2, h⟩ := id kok
      rcases h with ⟨rfl, rfl⟩ | ⟨rfl, x, y, a1, a2, b1, b2, rfl⟩
      · obtain ⟨v, ev, hv⟩ := A2.nth (i := 2) e2 rfl
        exact ⟨_, v, 2, rfl, ev, hv, al _ (by simp)⟩
      · obtain ⟨v, ev, hv⟩ := A2.nth (i := 1) e2 rfl
        exact ⟨_, v, 1, rfl, ev, hv, al _ (by simp)⟩
    refine ⟨_, rfl, _, rfl, _, rfl, .inr ⟨_, rfl, _, _, rfl, rfl, lk, kx, _, v, rfl, rfl, SqL.of e1, ?_, by show 2 ≤ sizeLine; decide, fun lf hlf => ?_⟩⟩
    · have := atI_nat ev
      rw [← ei] at this
      exact this
    have m2 := Same.new hlf (.lst [.ref t1, v])
    exact ⟨st2.same m2, m2 _ _ hn2, hk1.same m2, lf, sk, ⟨_, upd_same, xf.keep (Keeps.of_same m2), hv.keep (Keeps.of_same m2), trivial⟩, fsk, rfl⟩
  clear hk hn1 st1
  rintro σ F ⟨st1, hn, hk, lf, sk, hkf, fsk, rfl⟩
  have kd2 : ∀ k ∈ [Kd.flag, sk], KdF (namesOf st) k := fun k hk => by
    simp only [List.mem_cons, List.not_mem_nil, or_false] at hk
    rcases hk with rfl | rfl
    · exact ⟨trivial, fun s e => by cases e⟩
    · exact fsk
  -- the first record kind
  refine ⟨_, rfl, ln, _, 0, _, rfl, rfl, SqL.of (hn), zN_at (zs := namesOf st) (i := 0) (by rw [zz.l]; decide), ?_⟩
  refine ⟨_, rfl, _, rfl, ln, _, 2, _, rfl, rfl, SqL.of (hn), zN_at (zs := namesOf st) (i := 2) (by rw [zz.l]; decide), _, rfl, ln, _, 3, _, rfl, rfl, SqL.of (hn), zN_at (zs := namesOf st) (i := 3) (by rw [zz.l]; decide), by show 2 ≤ sizeLine; decide, fun l2 hl2 => ?_⟩
  have m1 := Same.new hl2 (.lst ([zN (namesOf st) 2, zN (namesOf st) 3].map V.str))
  have s1 := st1.same m1
  refine ⟨_, rfl, a, l2, lf, [zN (namesOf st) 2, zN (namesOf st) 3], [.flag, sk], 0, rfl, s1.s, upd_same, by show 2 ≤ 20; decide, hkf.same m1, by show 0 < 2; decide, by show 2 ≤ 100; decide, Int.le_refl 0, by show (0 : Int) ≤ 2; decide, fun t0 f0 F2 s2 x0 n0 l0 _ k0 => ?_⟩
  have d0 : PkD (namesOf st) [zN (namesOf st) 2, zN (namesOf st) 3] f0 := ⟨n0, l0, fun x hx => kd2 _ (k0 x hx)⟩
  have hn2 := s2.k _ _ (strs_ne s1.s (m1 _ _ hn)) (m1 _ _ hn)
  have hk2 := (hk.same m1).stp s1.s s2
  have hkf2 := (hkf.same m1).stp s1.s s2
  have st2 := s1.trans s2
  clear st1 hn hk hkf m1 s1 s2 hl2 n0 l0 k0 l2
  refine ⟨by show 2 ≤ sizeLine; decide, fun r0 hr0 => ⟨by show 1 ≤ sizeLine; decide, fun lr hlr => ?_⟩⟩
  have m1 := Same.new hr0 (.tup [.str (zN (namesOf st) 0), .ref t0])
  have c0 : RcAt K (upd F2 r0 (.tup [.str (zN (namesOf st) 0), .ref t0])) (zN (namesOf st) 0, f0) (.ref r0) := ⟨r0, t0, rfl, SqT.of upd_same, x0.same m1⟩
  have m2 := Same.new hlr (.lst [.ref r0])
  have c0 := c0.keep (Keeps.of_same m2) (KeepZ.of_same m2)
  have er : (upd (upd F2 r0 (.tup [.str (zN (namesOf st) 0), .ref t0])) lr (.lst [.ref r0])) lr = some (.lst [.ref r0]) := upd_same
  have m12 := m1.trans m2
  have nlr : F2 lr = none := m1.free hlr
  have nlra : lr ≠ a := (st2.s.ne nlr).symm
  have nlrH : H lr = none := st2.free nlr
  have nln : ln ≠ lr := ne_of_none hn2 nlr
  have nlk : lk ≠ lr := by
    obtain ⟨kx, e1, _⟩ := id hk2
    exact ne_of_none e1 nlr
  have hn := m12 _ _ hn2
  have hk := hk2.same m12
  have hkf := hkf2.same m12
  have st1 := st2.same m12
  generalize (upd (upd F2 r0 (.tup [.str (zN (namesOf st) 0), .ref t0])) lr (.lst [.ref r0])) = F3 at *
  clear m1 m2 hn2 hk2 hkf2 x0 hr0 hlr
  -- the second one
  refine ⟨_, rfl, .inl ⟨rfl, _, SqL.of er⟩, _, rfl, ln, _, 1, _, rfl, rfl, SqL.of (hn), zN_at (zs := namesOf st) (i := 1) (by rw [zz.l]; decide), ?_⟩
  refine ⟨_, rfl, _, rfl, ln, _, 3, _, rfl, rfl, SqL.of (hn), zN_at (zs := namesOf st) (i := 3) (by rw [zz.l]; decide), _, rfl, ln, _, 2, _, rfl, rfl, SqL.of (hn), zN_at (zs := namesOf st) (i := 2) (by rw [zz.l]; decide), by show 2 ≤ sizeLine; decide, fun l2 hl2 => ?_⟩
  have m1 := Same.new hl2 (.lst ([zN (namesOf st) 3, zN (namesOf st) 2].map V.str))
  have el2 : (upd F3 l2 (.lst ([zN (namesOf st) 3, zN (namesOf st) 2].map V.str))) l2 = some (.lst ([zN (namesOf st) 3, zN (namesOf st) 2].map V.str)) := upd_same
  refine ⟨_, rfl, _, rfl, ln, _, 0, _, rfl, rfl, SqL.of (m1 _ _ hn), zN_at (zs := namesOf st) (i := 0) (by rw [zz.l]; decide), by show 2 ≤ sizeLine; decide, fun t1 ht1 => ⟨by show 1 ≤ sizeLine; decide, fun l3 hl3 => ?_⟩⟩
  have m2 := Same.new ht1 (.tup [.str "ref", .str (zN (namesOf st) 0)])
  have xr : KdAt K (upd (upd F3 l2 (.lst ([zN (namesOf st) 3, zN (namesOf st) 2].map V.str))) t1 (.tup [.str "ref", .str (zN (namesOf st) 0)])) (.ref t1) (.ref (zN (namesOf st) 0)) := ⟨t1, rfl, SqT.of upd_same⟩
  have m3 := Same.new hl3 (.lst [.ref t1])
  refine ⟨l3, 2, _, rfl, rfl, upd_same, by decide, by decide, by show 1 * 2 ≤ sizeLine; decide, fun l4 hl4 => ?_⟩
  have m4 := Same.new hl4 (.lst (List.replicate (Int.toNat 2) [V.ref t1]).flatten)
  have m14 := ((m1.trans m2).trans m3).trans m4
  obtain ⟨fx, f1e, f2e⟩ := hkf.same m14
  refine ⟨lf, l4, fx, _, rfl, rfl, f1e, upd_same, ?_, fun l5 hl5 => ?_⟩
  · have e1 : fx.length = 2 := f2e.len
    have e2 : (List.replicate (Int.toNat 2) [V.ref t1]).flatten.length = 2 := rfl
    rw [e1, e2]
    decide
  have m5 := Same.new hl5 (.lst (fx ++ (List.replicate (Int.toNat 2) [V.ref t1]).flatten))
  have xr5 := xr.keep (Keeps.of_same ((m3.trans m4).trans m5))
  have f5 : KdsL K _ [Kd.flag, sk, .ref (zN (namesOf st) 0), .ref (zN (namesOf st) 0)] (fx ++ (List.replicate (Int.toNat 2) [V.ref t1]).flatten) := A2.app (l := [Kd.flag, sk]) (show KdsL K _ [Kd.ref (zN (namesOf st) 0), .ref (zN (namesOf st) 0)] [V.ref t1, V.ref t1] from ⟨xr5, xr5, trivial⟩) (A2.imp (fun _ _ => KdAt.keep (Keeps.of_same m5)) f2e)
  have g5 : KdLst K _ l5 [Kd.flag, sk, .ref (zN (namesOf st) 0), .ref (zN (namesOf st) 0)] := ⟨_, upd_same, f5⟩
  have m15 := m14.trans m5
  have el5 := (((m2.trans m3).trans m4).trans m5) _ _ el2
  have st5 := st1.same m15
  have er5 := m15 _ _ er
  have c5 := c0.keep (Keeps.of_same m15) (KeepZ.of_same m15)
  have hn5 := m15 _ _ hn
  have hk5 := hk.same m15
  refine ⟨a, l2, l5, [zN (namesOf st) 3, zN (namesOf st) 2], _, 0, rfl, st5.s, el5, by show 2 ≤ 20; decide, g5, by show 0 < 4; decide, by show 4 ≤ 100; decide, Int.le_refl 0, by show (0 : Int) ≤ 2; decide, fun tb f1 F6 s6 x1 n1 lb1 _ k1 => ?_⟩
  have d1 : PkD (namesOf st) [zN (namesOf st) 3, zN (namesOf st) 2] f1 := ⟨n1, lb1, fun x hx => by
    have := k1 x hx
    simp only [List.mem_cons, List.not_mem_nil, or_false] at this
    rcases this with e | e | e | e
    · exact kd2 _ (by rw [e]; simp)
    · exact kd2 _ (by rw [e]; simp)
    all_goals
      rw [e]
      exact ⟨⟨zz.sk _ (zz.mem (by decide)), zz.sh _ (zz.mem (by decide))⟩, fun s e => .inl (Kd.ref.inj e).symm⟩⟩
  have er6 := s6.k _ _ nlra er5
  have c6 := c5.keep (Keeps.of_stp s6 st5.s) (KeepZ.of_stp s6 st5.s)
  have hn6 := s6.k _ _ (strs_ne st5.s hn5) hn5
  have hk6 := hk5.stp st5.s s6
  have st6 := st5.trans s6
  clear m1 m2 m3 m4 m5 m14 m15 el2 el5 xr xr5 f1e f2e f5 g5 er5 c5 hn5 hk5 st5 s6 n1 lb1 k1 hl2 ht1 hl3 hl4 hl5 er c0 hn hk hkf st1 fx m12 nlr st2
  refine ⟨by show 2 ≤ sizeLine; decide, fun r1 hr1 => ?_⟩
  have m1 := Same.new hr1 (.tup [.str (zN (namesOf st) 1), .ref tb])
  have c1 : RcAt K (upd F6 r1 (.tup [.str (zN (namesOf st) 1), .ref tb])) (zN (namesOf st) 1, f1) (.ref r1) := ⟨r1, tb, rfl, SqT.of upd_same, x1.same m1⟩
  have er7 := m1 _ _ er6
  have c0 := c6.keep (Keeps.of_same m1) (KeepZ.of_same m1)
  have hn7 := m1 _ _ hn6
  have hk7 := hk6.same m1
  have st7 := st6.same m1
  generalize (upd F6 r1 (.tup [.str (zN (namesOf st) 1), .ref tb])) = F7 at *
  clear er6 c6 hn6 hk6 st6 m1 hr1 x1
  refine ⟨lr, [.ref r0], .ref r1, rfl, rfl, er7, by show 1 < sizeLine; decide, ?_⟩
  have kl := keep_lst (K := K) (o := .lst ([.ref r0] ++ [.ref r1])) er7
  have kz := KeepZ.lst (o := .lst ([.ref r0] ++ [.ref r1])) er7
  have st8 : Stp a H (upd F7 lr (.lst ([.ref r0] ++ [.ref r1]))) := by
    obtain ⟨c, m, k, hc⟩ := st7.s
    refine ⟨⟨c, m, k, by rw [upd_ne nlra.symm]; exact hc⟩, fun b o hb e => ?_⟩
    rw [upd_ne (ne_of_none e nlrH)]
    exact st7.k b o hb e
  have hn8 : (upd F7 lr (.lst ([.ref r0] ++ [.ref r1]))) ln = some (.lst ((namesOf st).map V.str)) := by rw [upd_ne nln]; exact hn7
  have hk8 : KdLst K (upd F7 lr (.lst ([.ref r0] ++ [.ref r1]))) lk ks := by
    obtain ⟨kx, e1, e2⟩ := hk7
    exact ⟨kx, by rw [upd_ne nlk]; exact e1, A2.imp (fun _ _ => KdAt.keep kl) e2⟩
  have hr8 : ∃ us, (upd F7 lr (.lst ([.ref r0] ++ [.ref r1]))) lr = some (.lst us) ∧ A2 (RcAt K (upd F7 lr (.lst ([.ref r0] ++ [.ref r1])))) [(zN (namesOf st) 0, f0), (zN (namesOf st) 1, f1)] us := ⟨_, upd_same, c0.keep kl kz, c1.keep kl kz, trivial⟩
  generalize (upd F7 lr (.lst ([.ref r0] ++ [.ref r1]))) = F8 at *
  clear er7 c0 c1 hn7 hk7 st7 kl kz
  -- the arrays
  refine ⟨by show 0 ≤ sizeLine; decide, fun ta0 hta0 => ?_⟩
  have m1 := Same.new hta0 (.tup [])
  have G0 : GrAt K (upd F8 ta0 (.tup [])) ln lk lr ta0 (namesOf st) ks [(zN (namesOf st) 0, f0), (zN (namesOf st) 1, f1)] [] := by
    obtain ⟨us, e1, e2⟩ := hr8
    exact ⟨m1 _ _ hn8, hk8.same m1, ⟨us, m1 _ _ e1, e2.imp fun _ _ => RcAt.keep (Keeps.of_same m1) (KeepZ.of_same m1)⟩, [], SqT.of upd_same, trivial⟩
  have st9 := st8.same m1
  have fct : ∀ ar, (ar = [] ∨ ∃ n lo hi, ar = [(zN (namesOf st) 4, n, lo, hi)] ∧ 1 ≤ n ∧ n ≤ 4 ∧ (Kd.num lo hi).fine) → Gr (namesOf st) pl ks [(zN (namesOf st) 0, f0), (zN (namesOf st) 1, f1)] ar := fun ar h => ⟨kok, ⟨f0, f1, rfl, d0, d1⟩, h⟩
  generalize hrc : [(zN (namesOf st) 0, f0), (zN (namesOf st) 1, f1)] = rc at *
  generalize (upd F8 ta0 (.tup [])) = F9 at *
  clear m1 hn8 hk8 hr8 st8 hta0
  refine ⟨fun σ F => Stp a H F ∧ ∃ (ta : Addr) (ar : List Arr), GrAt K F ln lk lr ta (namesOf st) ks rc ar ∧ Gr (namesOf st) pl ks rc ar ∧ σ = [some (V.ref a), some (.bl pl), some (.bl sm), some (.bl wd), some (.ref ln), some (.ref lk), some (.ref lf), some (.ref lr), some (.ref ta), none, none, none, none, none, none, none, none, none, none, none, none, none, none, none], ?_, ?_⟩
  · have nn : ∀ F, Stp a F9 F → (Stp a H F ∧ ∃ (ta : Addr) (ar : List Arr), GrAt K F ln lk lr ta (namesOf st) ks rc ar ∧ Gr (namesOf st) pl ks rc ar ∧ [some (V.ref a), some (.bl pl), some (.bl sm), some (.bl wd), some (.ref ln), some (.ref lk), some (.ref lf), some (.ref lr), some (.ref ta0), none, none, none, none, none, none, none, none, none, none, none, none, none, none, none] = [some (V.ref a), some (.bl pl), some (.bl sm), some (.bl wd), some (.ref ln), some (.ref lk), some (.ref lf), some (.ref lr), some (.ref ta), none, none, none, none, none, none, none, none, none, none, none, none, none, none, none]) := fun F s => ⟨st9.trans s, ta0, [], G0.stp st9.s s, fct [] (.inl rfl), rfl⟩
    refine ⟨_, rfl, _, rfl, ite2 (fun np => ⟨_, rfl, _, rfl, ite2 (fun _ => ⟨_, rfl, a, 3, rfl, st9.s, by decide, fun r F s1 r0 r1 => ⟨rfl, _, rfl, ite2 (fun _ => ?_) (fun _ => nn F s1)⟩⟩) (fun _ => iteF (nn F9 (Stp.refl st9.s)))⟩) (fun _ => iteF (nn F9 (Stp.refl st9.s)))⟩
    have G1 := G0.stp st9.s s1
    have st10 := st9.trans s1
    obtain ⟨lo, wi, l1, l2, w1, w2, kk⟩ := kok
    have kk : ∃ x y : Int, -1000 ≤ x ∧ x ≤ 0 ∧ y ≤ 1000 ∧ x + 8 ≤ y ∧ ks = [.flag, .num lo (lo + wi), .ref (zN (namesOf st) 0), .num x y, .num x y, .num x y] := by
      rcases kk with ⟨e, _⟩ | ⟨_, k⟩
      · rw [e] at np
        cases np
      · exact k
    obtain ⟨x, y, x0, x1, y0, y1, ek⟩ := kk
    refine ⟨_, rfl, ln, _, 4, _, rfl, rfl, SqL.of (G1.n), zN_at (zs := namesOf st) (i := 4) (by rw [zz.l]; decide), ?_⟩
    refine ⟨_, rfl, a, 4, rfl, st10.s, by decide, fun r2 F2 s2 r20 r21 => ⟨_, _, rfl, rfl, ?_⟩⟩
    have G2 := G1.stp st10.s s2
    have st11 := st10.trans s2
    obtain ⟨kx, e1, e2⟩ := id G2.k
    rw [ek] at e2
    obtain ⟨v5, ev5, t5, rfl, h5⟩ := A2.nth (i := 5) e2 rfl
    have h5 : SqT K F2 t5 [.str "num", .int x, .int y] := h5
    have at5 := at_neg1 (n := 5) (by rw [e2.len]; rfl) ev5
    refine ⟨_, rfl, _, rfl, lk, kx, _, _, rfl, rfl, SqL.of e1, at5, t5, _, _, _, rfl, rfl, h5, rfl, _, rfl, _, rfl, lk, kx, _, _, rfl, rfl, SqL.of e1, at5, t5, _, _, _, rfl, rfl, h5, rfl, by show 4 ≤ sizeLine; decide, fun t ht => ⟨by show 1 ≤ sizeLine; decide, fun ta hta => ?_⟩⟩
    have n1 := Same.new ht (.tup [.str (zN (namesOf st) 4), .int (1 + r2), .int x, .int y])
    have n2 := Same.new hta (.tup [.ref t])
    have G3 := (G2.same n1).same n2
    exact ⟨(st11.same n1).same n2, ta, [(zN (namesOf st) 4, 1 + r2, x, y)], ⟨G3.n, G3.k, G3.r, [.ref t], SqT.of upd_same, ⟨t, rfl, Same.tup n2 (SqT.of upd_same)⟩, trivial⟩, fct _ (.inr ⟨_, _, _, rfl, by omega, by omega, by show -1000000000 ≤ x ∧ x ≤ y ∧ y ≤ 1000000000; omega⟩), rfl⟩
  clear G0 st9 fct kok hrc d0 d1
  rintro σ F ⟨st1, ta, ar, G, gr, rfl⟩
  -- the globals
  refine ⟨_, rfl, _, rfl, .inr ⟨_, rfl, _, _, rfl, rfl, ?_⟩⟩
  have up1 : 1 ≤ (2 - (if (!pl) = true then (1 : Int) else 0)) ∧ (2 - (if (!pl) = true then (1 : Int) else 0)) ≤ 2 := by split <;> omega
  have lka := gr.k.all zz
  refine ⟨fun σ F => Stp a H F ∧ GrAt K F ln lk lr ta (namesOf st) ks rc ar ∧ ∃ (tg : Addr) (gl : List Pk), PksZ K F tg gl ∧ PkD (namesOf st) [zN (namesOf st) 5, zN (namesOf st) 6] gl ∧ σ = [some (V.ref a), some (.bl pl), some (.bl sm), some (.bl wd), some (.ref ln), some (.ref lk), some (.ref lf), some (.ref lr), some (.ref ta), some (.int (2 - if (!pl) = true then 1 else 0)), some (.ref tg), none, none, none, none, none, none, none, none, none, none, none, none, none], ?_, ?_⟩
  · refine ⟨_, rfl, _, rfl, ln, _, 5, _, rfl, rfl, SqL.of (G.n), zN_at (zs := namesOf st) (i := 5) (by rw [zz.l]; decide), _, rfl, ln, _, 6, _, rfl, rfl, SqL.of (G.n), zN_at (zs := namesOf st) (i := 6) (by rw [zz.l]; decide), by show 2 ≤ sizeLine; decide, fun l2 hl2 => ?_⟩
    have m1 := Same.new hl2 (.lst ([zN (namesOf st) 5, zN (namesOf st) 6].map V.str))
    obtain ⟨tk1, tk2⟩ := take_two (x := zN (namesOf st) 5) (y := zN (namesOf st) 6) up1.1 up1.2
    refine ⟨_, rfl, _, rfl, l2, _, rfl, SqL.of upd_same, fun l3 hl3 => ?_⟩
    rw [tk1]
    have m2 := Same.new hl3 (.lst (([zN (namesOf st) 5, zN (namesOf st) 6].take (2 - (if (!pl) = true then (1 : Int) else 0)).toNat).map V.str))
    have m12 := m1.trans m2
    have st2 := st1.same m12
    refine ⟨_, rfl, a, l3, lk, _, ks, 0, rfl, st2.s, upd_same, by omega, (G.same m12).k, lka.1, by omega, Int.le_refl 0, by omega, fun tg gl F2 s2 x0 n0 l0 _ k0 => ?_⟩
    exact ⟨st2.trans s2, (G.same m12).stp st2.s s2, tg, gl, x0, PkD.of_take ⟨n0, l0, fun x hx => lka.2.2 _ (k0 x hx)⟩, rfl⟩
  clear G st1
  rintro σ F ⟨st1, G, tg, gl, zg, dg, rfl⟩
  -- the heads
  refine ⟨by show 0 ≤ sizeLine; decide, fun th1 hth1 => ⟨by show 3 ≤ sizeLine; decide, fun th2 hth2 => ⟨by show 1 ≤ sizeLine; decide, fun lh hlh => ?_⟩⟩⟩
  have m1 := Same.new hth1 (.tup [])
  have m2 := Same.new hth2 (.tup [.str "main", .ref th1, .non])
  have m3 := Same.new hlh (.lst [.ref th2])
  have h0 : HdAt K (upd (upd (upd F th1 (.tup [])) th2 (.tup [.str "main", .ref th1, .non])) lh (.lst [.ref th2])) ⟨"main", [], none⟩ (.ref th2) := ⟨th2, th1, [], .non, rfl, Same.tup m3 (SqT.of upd_same), Same.tup m3 (Same.tup m2 (SqT.of upd_same)), trivial, rfl⟩
  have eh : (upd (upd (upd F th1 (.tup [])) th2 (.tup [.str "main", .ref th1, .non])) lh (.lst [.ref th2])) lh = some (.lst [.ref th2]) := upd_same
  have m13 := (m1.trans m2).trans m3
  have nlh : F lh = none := (m1.trans m2).free hlh
  have nlhH : H lh = none := st1.free nlh
  have nlha : lh ≠ a := (st1.s.ne nlh).symm
  have dlh : ln ≠ lh ∧ lk ≠ lh ∧ lr ≠ lh := by
    obtain ⟨kx, e1, _⟩ := id G.k
    obtain ⟨us, e2, _⟩ := id G.r
    exact ⟨ne_of_none G.n nlh, ne_of_none e1 nlh, ne_of_none e2 nlh⟩
  have st2 := st1.same m13
  have G2 := G.same m13
  have zg2 := zg.same m13
  generalize (upd (upd (upd F th1 (.tup [])) th2 (.tup [.str "main", .ref th1, .non])) lh (.lst [.ref th2])) = F1 at *
  clear m1 m2 m3 m13 hth1 hth2 hlh G zg st1 nlh
  refine ⟨_, rfl, a, 3, rfl, st2.s, by decide, fun cnt F2 s2 cnt0 cnt1 => ⟨_, rfl, by omega, by omega, for_range (lo := 0) (fun i σ G => (Stp a H G ∧ GrAt K G ln lk lr ta (namesOf st) ks rc ar ∧ PksZ K G tg gl) ∧ (∃ (hs : List V) (hds : List Hd), G lh = some (.lst hs) ∧ A2 (HdAt K G) hds hs ∧ HdD (namesOf st) i hds) ∧ ∃ v12 v13 : Option V, σ = [some (V.ref a), some (.bl pl), some (.bl sm), some (.bl wd), some (.ref ln), some (.ref lk), some (.ref lf), some (.ref lr), some (.ref ta), some (.int (2 - if (!pl) = true then 1 else 0)), some (.ref tg), some (.ref lh), v12, v13, none, none, none, none, none, none, none, none, none, none])
    ⟨⟨st2.trans s2, G2.stp st2.s s2, zg2.stp st2.s s2⟩, ⟨[.ref th2], [⟨"main", [], none⟩], s2.k _ _ nlha eh, ⟨h0.keep (Keeps.of_stp s2 st2.s), trivial⟩, ⟨rfl, fun h hh => by rw [List.mem_singleton.mp hh]; exact ⟨rfl, Nat.zero_le _, fun a ha => by cases ha⟩, fun h hh k e => by rw [List.mem_singleton.mp hh] at e; cases e⟩⟩, none, none, rfl⟩ ?_ ?_⟩⟩
  · clear eh h0 G2 zg2 st2 s2
    rintro i σ F hi1 ⟨⟨st1, G, zg⟩, ⟨hs, hds, eh, xh, dh⟩, v12, v13, rfl⟩
    have hi2 : i < 2 := by omega
    have lhs : hs.length = hds.length := xh.len
    have ldh := dh.len.1
    -- its result
    obtain ⟨kx, e1, e2⟩ := id G.k
    have lkx : kx.length = ks.length := A2.len e2
    refine ⟨_, rfl, _, rfl, by show 2 ≤ sizeLine; decide, fun l1 hl1 => ?_⟩
    have m1 := Same.new hl1 (.lst [.non, .non])
    refine ⟨lk, l1, kx, _, rfl, rfl, m1 _ _ e1, upd_same, Nat.le_of_lt (lt_line (by show kx.length + 2 ≤ _; omega)), fun l2 hl2 => ?_⟩
    have m2 := Same.new hl2 (.lst (kx ++ [.non, .non]))
    have m12 := m1.trans m2
    have st2 := st1.same m12
    have e2' := A2.imp (fun _ _ => KdAt.keep (Keeps.of_same m12)) e2
    have nl2a : l2 ≠ a := by
      have := m1.free hl2
      exact (st1.s.ne this).symm
    refine ⟨a, l2, _, rfl, st2.s, .inl ⟨nl2a, SqL.of upd_same⟩, by rw [List.length_append]; show 0 < kx.length + 2; omega, by rw [List.length_append]; show kx.length + 2 < 1000; omega, fun v F3 hv s3 => ?_⟩
    obtain ⟨rs, xv, fv⟩ : ∃ rs : Option Kd, OkdAt K F3 v rs ∧ ∀ k, rs = some k → KdF (namesOf st) k := by
      rcases List.mem_append.mp hv with hv | hv
      · obtain ⟨k, mk, hk⟩ := A2.mem (A2.imp (fun _ _ => KdAt.keep (Keeps.of_stp s3 st2.s)) e2') hv
        exact ⟨some k, hk, fun k' e => by cases e; exact lka.2.2 _ mk⟩
      · simp only [List.mem_cons, List.not_mem_nil, or_false, or_self] at hv
        exact ⟨none, hv, fun k' e => by cases e⟩
    have G3 := (G.same m12).stp st2.s s3
    have zg3 := (zg.same m12).stp st2.s s3
    have xh3 := (xh.imp fun _ _ => HdAt.keep (Keeps.of_same m12)).imp fun _ _ => HdAt.keep (Keeps.of_stp s3 st2.s)
    have eh3 := s3.k _ _ nlha (m12 _ _ eh)
    have st3 := st2.trans s3
    clear m1 m2 m12 st2 e2' nl2a hv e1 e2 s3 hl1 hl2 G zg eh xh st1
    -- its name
    have e7 : 7 + (0 + (i : Int)) = ((7 + i : Nat) : Int) := by omega
    have at7 : atI ((namesOf st).map V.str) (7 + (0 + (i : Int))) = some (.str (zN (namesOf st) (7 + i))) := by
      rw [e7]
      exact zN_at (by rw [zz.l]; omega)
    refine ⟨_, rfl, .inl ⟨rfl, _, SqL.of eh3⟩, _, rfl, _, rfl, _, _, rfl, rfl, ln, _, _, _, rfl, rfl, SqL.of G3.n, at7, ?_⟩
    -- its parameters
    refine ⟨_, rfl, _, rfl, ln, _, 9, _, rfl, rfl, SqL.of (G3.n), zN_at (zs := namesOf st) (i := 9) (by rw [zz.l]; decide), _, rfl, ln, _, 10, _, rfl, rfl, SqL.of (G3.n), zN_at (zs := namesOf st) (i := 10) (by rw [zz.l]; decide), by show 2 ≤ sizeLine; decide, fun l2 hl2 => ?_⟩
    have m1 := Same.new hl2 (.lst ([zN (namesOf st) 9, zN (namesOf st) 10].map V.str))
    obtain ⟨tk1, tk2⟩ := take_two (x := zN (namesOf st) 9) (y := zN (namesOf st) 10) up1.1 up1.2
    refine ⟨_, rfl, _, rfl, l2, _, rfl, SqL.of upd_same, fun l3 hl3 => ?_⟩
    rw [tk1]
    have m2 := Same.new hl3 (.lst (([zN (namesOf st) 9, zN (namesOf st) 10].take (2 - (if (!pl) = true then (1 : Int) else 0)).toNat).map V.str))
    have m12 := m1.trans m2
    have st4 := st3.same m12
    refine ⟨_, rfl, a, l3, lk, _, ks, 0, rfl, st4.s, upd_same, by omega, (G3.same m12).k, lka.1, by omega, Int.le_refl 0, by omega, fun tp ps F5 s5 x0 n0 l0 _ k0 => ?_⟩
    have dp : PkD (namesOf st) [zN (namesOf st) 9, zN (namesOf st) 10] ps := PkD.of_take ⟨n0, l0, fun x hx => lka.2.2 _ (k0 x hx)⟩
    have G5 := (G3.same m12).stp st4.s s5
    have zg5 := (zg3.same m12).stp st4.s s5
    have kk : Keeps K F3 F5 := fun p xs h => s5.rd (Same.tup m12 h) st4.s
    have xh5 := xh3.imp fun _ _ => HdAt.keep kk
    have xv5 := xv.keep kk
    have eh5 := s5.k _ _ nlha (m12 _ _ eh3)
    have st5 := st4.trans s5
    clear m1 m2 m12 st4 hl2 hl3 s5 n0 l0 k0 G3 zg3 eh3 xh3 xv st3 kk
    refine ⟨_, rfl, by show 3 ≤ sizeLine; decide, fun t ht => ?_⟩
    have m1 := Same.new ht (.tup [.str (zN (namesOf st) (7 + i)), .ref tp, v])
    obtain ⟨pxs, z1, z2⟩ := x0
    have xn : HdAt K (upd F5 t (.tup [.str (zN (namesOf st) (7 + i)), .ref tp, v])) ⟨zN (namesOf st) (7 + i), ps, rs⟩ (.ref t) := ⟨t, tp, pxs, v, rfl, SqT.of upd_same, Same.tup m1 z1.sq, z2.keep (Keeps.of_same m1), xv5.keep (Keeps.of_same m1)⟩
    have G6 := G5.same m1
    have zg6 := zg5.same m1
    have xh6 := xh5.imp fun _ _ => HdAt.keep (Keeps.of_same m1)
    have eh6 := m1 _ _ eh5
    have st6 := st5.same m1
    generalize (upd F5 t (.tup [.str (zN (namesOf st) (7 + i)), .ref tp, v])) = F6 at *
    clear m1 ht z1 z2 G5 zg5 xh5 xv5 eh5 st5
    refine ⟨lh, hs, .ref t, rfl, rfl, eh6, lt_line (by omega), ?_⟩
    have kl := keep_lst (K := K) (o := .lst (hs ++ [.ref t])) eh6
    have kz := KeepZ.lst (o := .lst (hs ++ [.ref t])) eh6
    refine ⟨⟨⟨?_, fun b o hb e => ?_⟩, G6.mono kl kz fun p o hp e => ?_, zg6.keep kl kz⟩, ⟨_, hds ++ [⟨zN (namesOf st) (7 + i), ps, rs⟩], upd_same, (xh6.imp fun _ _ => HdAt.keep kl).snoc (xn.keep kl), ⟨?_, fun h hh => ?_, fun h hh k e => ?_⟩⟩, _, _, rfl⟩
    · obtain ⟨c, m, k, hc⟩ := st6.s
      exact ⟨c, m, k, by rw [upd_ne nlha.symm]; exact hc⟩
    · rw [upd_ne (ne_of_none e nlhH)]
      exact st6.k b o hb e
    · have : p ≠ lh := by
        rcases hp with rfl | rfl | rfl
        · exact dlh.1
        · exact dlh.2.1
        · exact dlh.2.2
      rw [upd_ne this]
      exact e
    · rw [List.map_append, dh.n]
      have : i = 0 ∨ i = 1 := by omega
      rcases this with rfl | rfl <;> rfl
    · rcases List.mem_append.mp hh with hh | hh
      · exact dh.p h hh
      · rw [List.mem_singleton.mp hh]; exact dp
    · rcases List.mem_append.mp hh with hh | hh
      · exact dh.r h hh k e
      · rw [List.mem_singleton.mp hh] at e
        exact fv k e
  clear eh h0 G2 zg2 st2 s2
  rintro σ F ⟨⟨st1, G, zg⟩, ⟨hs, hds, eh, xh, dh⟩, v12, v13, rfl⟩
  obtain ⟨f0, f1, erc, d0, d1⟩ := id gr.r
  have n01 : zN (namesOf st) 0 ≠ zN (namesOf st) 1 := fun e => absurd (zz.inj (by decide) (by decide) e) (by decide)
  -- the world
  refine fun d hd fd hfd => ?_
  obtain ⟨us, eu, xu⟩ := id G.r
  rw [erc] at xu
  obtain ⟨v0, v1, rfl, c0, c1⟩ : ∃ v0 v1, us = [v0, v1] ∧ RcAt K F (zN (namesOf st) 0, f0) v0 ∧ RcAt K F (zN (namesOf st) 1, f1) v1 := by
    match us, xu with
    | [v0, v1], ⟨c0, c1, _⟩ => exact ⟨v0, v1, rfl, c0, c1⟩
    | [], h => exact h.elim
    | [_], h => exact h.2.elim
    | _ :: _ :: _ :: _, h => exact h.2.2.elim
  obtain ⟨r0, t0, rfl, g0, y0⟩ := c0
  obtain ⟨r1, t1, rfl, g1, y1⟩ := c1
  have ndfd : d ≠ fd := ne_of_none (upd_same : (upd F d (.dK [])) d = some (.dK [])) hfd
  have nfdF : F fd = none := by
    rw [upd_ne ndfd.symm] at hfd
    exact hfd
  have m1 : Same F (upd (upd F d (.dK [])) fd (.dK [])) := fun b o e => by rw [upd_ne (ne_of_none e nfdF), upd_ne (ne_of_none e hd)]; exact e
  refine ⟨_, rfl, lr, _, 0, _, rfl, rfl, SqL.of (m1 _ _ eu), rfl, r0, _, 0, _, rfl, rfl, Same.tup m1 g0, rfl, _, rfl, lr, _, 0, _, rfl, rfl, SqL.of (m1 _ _ eu), rfl, r0, _, 1, _, rfl, rfl, Same.tup m1 g0, rfl, _, rfl, lr, _, 1, _, rfl, rfl, SqL.of (m1 _ _ eu), rfl, r1, _, 0, _, rfl, rfl, Same.tup m1 g1, rfl, _, rfl, lr, _, 1, _, rfl, rfl, SqL.of (m1 _ _ eu), rfl, r1, _, 1, _, rfl, rfl, Same.tup m1 g1, rfl, upd_same, [(Sum.inr (zN (namesOf st) 0), .ref t0), (Sum.inr (zN (namesOf st) 1), .ref t1)], rfl, by show 2 ≤ 15; decide, ?_⟩
  generalize hmk : mergeK [] [((Sum.inr (zN (namesOf st) 0) : Key), V.ref t0), (Sum.inr (zN (namesOf st) 1), V.ref t1)] = mk1
  have mk := merge2 (u := V.ref t0) (v := V.ref t1) n01
  rw [hmk] at mk
  refine ⟨_, rfl, by rw [upd_ne ndfd, upd_ne ndfd, upd_same], [(Sum.inr "fields", .ref fd), (Sum.inr "arrays", .ref ta)], rfl, by show 2 ≤ 15; decide, ?_⟩
  have lm : (mergeK [] [((Sum.inr "fields" : Key), V.ref fd), (Sum.inr "arrays", V.ref ta)]).length = 2 := by kernel_rfl
  refine ⟨_, rfl, _, rfl, d, _, rfl, DPut.k (k := Sum.inr "heads") upd_same (lt_line (by rw [lm]; decide)), ?_⟩
  refine ⟨_, rfl, _, rfl, d, _, rfl, DPut.k (k := Sum.inr "simple") upd_same (lt_line (by have := putK_le (kvs := mergeK [] [((Sum.inr "fields" : Key), V.ref fd), (Sum.inr "arrays", V.ref ta)]) (k := Sum.inr "heads") (v := .ref lh); rw [lm] at this; omega)), ?_⟩
  rw [kvW_mk]
  generalize hFw : upd (upd (upd (upd (upd (upd F d (.dK [])) fd (.dK [])) fd (.dK mk1)) d _) d _) d (.dK (kvW fd ta lh sm)) = Fw
  have mw : Same F Fw := fun b o e => by
    rw [← hFw, upd_ne (ne_of_none e hd), upd_ne (ne_of_none e hd), upd_ne (ne_of_none e hd), upd_ne (ne_of_none e nfdF)]
    exact m1 _ _ e
  have ed : Fw d = some (.dK (kvW fd ta lh sm)) := by rw [← hFw]; exact upd_same
  have efd : Fw fd = some (.dK mk1) := by rw [← hFw, upd_ne ndfd.symm, upd_ne ndfd.symm, upd_ne ndfd.symm]; exact upd_same
  clear hFw m1 hmk
  have stw := st1.same mw
  have Gw := G.same mw
  have zgw := zg.same mw
  have g0w := y0.same mw
  have g1w := y1.same mw
  have wb : WB K Fw d ⟨rc, ar, hds, sm⟩ (kvW fd ta lh sm) lh hs := by
    obtain ⟨ax, a1, a2⟩ := id Gw.a
    refine ⟨ed, ⟨fd, ta, ax, kvW_1, ndfd.symm, ⟨mk1, efd, fun r hr => ?_⟩, kvW_2, a1, a2⟩, kvW_3, mw _ _ eh, xh.imp fun _ _ => HdAt.keep (Keeps.of_same mw), kvW_4, by show 4 ≤ 9; decide⟩
    have hr : r = (zN (namesOf st) 0, f0) ∨ r = (zN (namesOf st) 1, f1) := by
      have : r ∈ rc := hr
      rw [erc] at this
      simpa using this
    obtain ⟨xs0, q0, q1⟩ := g0w
    obtain ⟨xs1, q2, q3⟩ := g1w
    rcases hr with rfl | rfl
    · exact ⟨t0, xs0, mk.1, q0.sq, q1⟩
    · exact ⟨t1, xs1, mk.2, q2.sq, q3⟩
  have hdH : H d = none := st1.free hd
  clear efd ndfd nfdF hfd mk lm g0w g1w y0 y1 g0 g1 eu xu G zg eh xh st1 hd mw
  -- the functions
  refine ⟨fun σ F => (Stp a H F ∧ GrAt K F ln lk lr ta (namesOf st) ks rc ar ∧ PksZ K F tg gl) ∧ ∃ (l : Addr), WB K F d ⟨rc, ar, hds, sm⟩ (kvW fd ta lh sm) lh hs ∧ F l = some (.lst []) ∧ H l = none ∧ σ = [some (V.ref a), some (.bl pl), some (.bl sm), some (.bl wd), some (.ref ln), some (.ref lk), some (.ref lf), some (.ref lr), some (.ref ta), some (.int (2 - if (!pl) = true then 1 else 0)), some (.ref tg), some (.ref lh), v12, v13, some (.ref d), some (.ref l), none, none, none, none, none, none, none, none], ?_, ?_⟩
  · refine ⟨by show 0 ≤ sizeLine; decide, fun l hl => ?_⟩
    have m1 := Same.new hl (.lst [])
    refine ⟨⟨stw.same m1, Gw.same m1, zgw.same m1⟩, l, ?_, upd_same, stw.free hl, rfl⟩
    obtain ⟨e0, ⟨fd2, ta2, xs, x1, nf, x2, x3, x4, x5⟩, h1, h2, h3, s, ll⟩ := wb
    exact ⟨m1 _ _ e0, ⟨fd2, ta2, xs, x1, nf, x2.mono (Keeps.of_same m1) (fun o e => m1 _ _ e), x3, Same.tup m1 x4, x5.imp fun _ _ => ArAt.keep (Keeps.of_same m1)⟩, h1, m1 _ _ h2, h3.imp fun _ _ => HdAt.keep (Keeps.of_same m1), s, ll⟩
  clear stw Gw zgw wb ed
  rintro σ F ⟨⟨st1, G, zg⟩, l, wb, el, hlH, rfl⟩
  have nlh : lh ≠ l := lst_len_ne wb.h2 el (by have e1 : hs.length = hds.length := A2.len wb.h3; have e2 := dh.len.2; intro z; have z : hs.length = 0 := z; exact e2 (List.length_eq_zero_iff.mp (by omega)))
  have nn1 : ln ≠ l := lst_len_ne G.n el (by rw [List.length_map, zz.l]; decide)
  have nn2 : lk ≠ l := by
    obtain ⟨kx, e1, e2⟩ := id G.k
    exact lst_len_ne e1 el (by have : kx.length = ks.length := A2.len e2; have := lka.1; show kx.length ≠ 0; omega)
  have nn3 : lr ≠ l := by
    obtain ⟨us, e1, e2⟩ := id G.r
    exact lst_len_ne e1 el (by have : us.length = rc.length := A2.len e2; rw [erc] at this; show us.length ≠ 0; rw [this]; show 2 ≠ 0; decide)
  have nla : l ≠ a := by
    obtain ⟨c, m, k, hc⟩ := hS
    exact (ne_of_none hc hlH).symm
  have nda : d ≠ a := dk_ne wb.e st1.s
  have nld : l ≠ d := ne_of el wb.e (by intro z; cases z)
  have oW : WmOk ⟨rc, ar, hds, sm⟩ := gr.wm zz dh
  have ldh := dh.len
  have sF := st1.s
  have kpG : ∀ {G2 : Hp}, Stv a d l F G2 → Keeps K F G2 ∧ KeepZ F G2 := fun sv => sv.keep sF wb.e el
  have GG : ∀ {G2 : Hp}, Stv a d l F G2 → GrAt K G2 ln lk lr ta (namesOf st) ks rc ar := fun sv => by
    obtain ⟨kp, kz⟩ := kpG sv
    obtain ⟨q1, q2, q3⟩ := G.ne sF
    obtain ⟨kx, e1, _⟩ := id G.k
    obtain ⟨u3, e2, _⟩ := id G.r
    refine G.mono kp kz fun p o hp e => ?_
    rcases hp with rfl | rfl | rfl
    · exact sv.k _ _ q1 (ne_of G.n wb.e (by intro z; cases z)) nn1 e
    · exact sv.k _ _ q2 (ne_of e1 wb.e (by intro z; cases z)) nn2 e
    · exact sv.k _ _ q3 (ne_of e2 wb.e (by intro z; cases z)) nn3 e
  refine ⟨_, rfl, lh, rfl, ⟨_, SqL.of wb.h2⟩, for_list (K := K) (a := lh) (xs := hs) (fun i σ G => (Stv a d l F G ∧ AgAt G d (kvW fd ta lh sm)) ∧ (∃ (us : List V) (fds : List Fd), G l = some (.lst us) ∧ A2 (FdAt K G) fds us ∧ fds.map Fd.hd = hds.take i ∧ ∀ f ∈ fds, FdD (namesOf st) ⟨rc, ar, hds, sm⟩ gl f) ∧ ∃ v12 v13 v16 v17 v18 v19 v20 v21 v22 : Option V, σ = [some (V.ref a), some (.bl pl), some (.bl sm), some (.bl wd), some (.ref ln), some (.ref lk), some (.ref lf), some (.ref lr), some (.ref ta), some (.int (2 - if (!pl) = true then 1 else 0)), some (.ref tg), some (.ref lh), v12, v13, some (.ref d), some (.ref l), v16, v17, v18, v19, v20, v21, v22, none])
    ⟨⟨⟨sF, fun b o _ _ _ e => e⟩, kvW fd ta lh sm, wb.e, fun _ _ => rfl, by show 4 ≤ 10; decide, .inl (by show 4 ≤ 9; decide)⟩, ⟨[], [], el, trivial, by simp, fun f hf => by cases hf⟩, v12, v13, none, none, none, none, none, none, none, rfl⟩ (fun i σ G _ ⟨⟨sv, _⟩, _⟩ => SqL.of (sv.k _ _ (hs_ne wb.h2 wb.h3 sF) (ne_of wb.h2 wb.e (by intro z; cases z)) nlh wb.h2)) ?_ ?_⟩
  · rintro i x σ G2 ex ⟨⟨sv, ag⟩, ⟨us, fds, eu, xu, fh, fd2⟩, v12, v13, v16, v17, v18, v19, v20, v21, v22, rfl⟩
    have sG2 := sv.s
    have GA := GG sv
    obtain ⟨h, eh, ph, pt, hxs, rv, rfl, g1, g2, g3, g4⟩ := (wb.h3.imp fun _ _ => HdAt.keep (kpG sv).1).atv ex
    have mh : h ∈ hds := List.mem_of_getElem? eh
    have dp := dh.p h mh
    have dr := dh.r h mh
    -- own names
    refine ⟨_, rfl, _, rfl, ln, _, 11, _, rfl, rfl, SqL.of (GA.n), zN_at (zs := namesOf st) (i := 11) (by rw [zz.l]; decide), _, rfl, ln, _, 12, _, rfl, rfl, SqL.of (GA.n), zN_at (zs := namesOf st) (i := 12) (by rw [zz.l]; decide), by show 2 ≤ sizeLine; decide, fun l2 hl2 => ?_⟩
    have m1 := Same.new hl2 (.lst ([zN (namesOf st) 11, zN (namesOf st) 12].map V.str))
    have t1 : Stp a G2 (upd G2 l2 (.lst ([zN (namesOf st) 11, zN (namesOf st) 12].map V.str))) := Stp.of_same sG2 m1
    refine ⟨_, rfl, _, rfl, ph, _, _, _, rfl, rfl, Same.tup m1 g1, rfl, rfl, .inr ⟨_, rfl, a, l2, lk, [zN (namesOf st) 11, zN (namesOf st) 12], ks, _, rfl, t1.s, upd_same, by show 2 ≤ 20; decide, (GA.same m1).k, lka.1, by omega, by split <;> omega, by show _ ≤ (2 : Int); split <;> omega, fun to ow F3 s3 zo n0 l0 _ k0 => ?_⟩⟩
    have dow : PkD (namesOf st) [zN (namesOf st) 11, zN (namesOf st) 12] ow := ⟨n0, l0, fun x hx => lka.2.2 _ (k0 x hx)⟩
    have t3 := t1.trans s3
    have sv3 := sv.trans (Stv.of (l := l) (Stw.of (d := d) t3))
    have k3 := Keeps.of_stp (K := K) t3 sG2
    obtain ⟨kv2, e2, ag1, ag2, ag3⟩ := ag
    have e3 := t3.k _ _ nda e2
    have ag' : AgAt F3 d (kvW fd ta lh sm) := ⟨kv2, e3, ag1, ag2, ag3⟩
    have eu3 := t3.k _ _ nla eu
    have xu3 := xu.imp fun _ _ => FdAt.keep k3
    have g1 := k3 _ _ g1
    have g2 := k3 _ _ g2
    have g3 := g3.keep k3
    have g4 := g4.keep k3
    clear m1 t1 s3 t3 k3 hl2 n0 l0 k0 sv e2 GA xu eu sG2
    -- what is left
    refine ⟨_, rfl, d, _, rfl, DPut.k (k := Sum.inr "left") e3 (lt_line (by omega)), ?_⟩
    obtain ⟨a1, a2, a3⟩ := ag'.put (n := 8) e3
    have svd : Stv a d l F3 (upd F3 d (.dK (putK kv2 (Sum.inr "left") (.int 8)))) := by
      obtain ⟨c, m, k, hc⟩ := sv3.s
      exact ⟨⟨c, m, k, by rw [upd_ne nda.symm]; exact hc⟩, fun b o h1 h2 h3 e => by rw [upd_ne h2]; exact e⟩
    have e4 : (upd F3 d (.dK (putK kv2 (Sum.inr "left") (.int 8)))) d = some (.dK (putK kv2 (Sum.inr "left") (.int 8))) := upd_same
    obtain ⟨k4, kz4⟩ := svd.keep (K := K) sv3.s e3 eu3
    have eu4 : (upd F3 d (.dK (putK kv2 (Sum.inr "left") (.int 8)))) l = some (.lst us) := by rw [upd_ne nld]; exact eu3
    have sv4 := sv3.trans svd
    have hW4 := wb.wd sF el nlh sv4 e4 a1 a2 a3
    have xu4 := xu3.imp fun _ _ => FdAt.keep k4
    have g1 := k4 _ _ g1
    have g2 := k4 _ _ g2
    have g3 := g3.keep k4
    have g4 := g4.keep k4
    have zo4 := zo.keep k4 kz4
    have zg4 := zg.keep (kpG sv4).1 (kpG sv4).2
    generalize (upd F3 d (.dK (putK kv2 (Sum.inr "left") (.int 8)))) = F4 at *
    generalize (putK kv2 (Sum.inr "left") (.int 8)) = kv4 at *
    clear svd e3 eu3 xu3 ag' ag1 ag2 ag3 k4 kz4 zo sv3 a2
    -- the names in sight
    obtain ⟨gx, zt, px⟩ := zg4
    obtain ⟨ox, zt2, po⟩ := zo4
    have lg := dg.ll
    have lp := dp.ll
    have lo := dow.ll
    have l2' : ∀ {x y : Str}, [x, y].length = 2 := rfl
    rw [l2'] at lg lp lo
    have lgx := A2.len px
    have lhx := A2.len g3
    have lox := A2.len po
    refine ⟨_, rfl, _, rfl, ph, _, _, _, rfl, rfl, g1, rfl, tg, pt, _, _, rfl, rfl, zt.sq, g2, Nat.le_of_lt (lt_line (by omega)), fun p1 F5 n1 hp1 => ⟨_, rfl, p1, to, _, _, rfl, rfl, hp1, (zt2.same n1).sq, Nat.le_of_lt (lt_line (by rw [List.length_append]; omega)), fun p2 F6 n2 hp2 => ⟨p2, _, rfl, .inr hp2, fun le hle => ?_⟩⟩⟩
    have n3 := Same.new hle (.lst (gx ++ hxs ++ ox))
    have n13 := (n1.trans n2).trans n3
    have ele : (upd F6 le (.lst (gx ++ hxs ++ ox))) le = some (.lst (gx ++ hxs ++ ox)) := upd_same
    have pe : PksL K (upd F6 le (.lst (gx ++ hxs ++ ox))) (gl ++ h.ps ++ ow) (gx ++ hxs ++ ox) := PksL.keep (Keeps.of_same n13) (A2.app po (A2.app g3 px))
    generalize (upd F6 le (.lst (gx ++ hxs ++ ox))) = F7 at *
    generalize gx ++ hxs ++ ox = exs at *
    generalize henv : gl ++ h.ps ++ ow = env at *
    have lenv : env.length ≤ 6 := by rw [← henv, List.length_append, List.length_append]; omega
    have kenv : ∀ x ∈ env, KdF (namesOf st) x.2 := fun x hx => by
      rw [← henv] at hx
      rcases List.mem_append.mp hx with hx | hx
      · rcases List.mem_append.mp hx with hx | hx
        · exact dg.k x hx
        · exact dp.k x hx
      · exact dow.k x hx
    have oenv : ∀ x ∈ env, PkOk x := fun x hx => by
      rw [← henv] at hx
      have row : ∀ {i j : Nat}, i < 20 → j < 20 → ∀ y ∈ [zN (namesOf st) i, zN (namesOf st) j], y ∈ namesOf st := fun h1 h2 y hy => by
        simp only [List.mem_cons, List.not_mem_nil, or_false] at hy
        rcases hy with rfl | rfl
        · exact zz.mem h1
        · exact zz.mem h2
      rcases List.mem_append.mp hx with hx | hx
      · rcases List.mem_append.mp hx with hx | hx
        · exact dg.ok zz (row (by decide) (by decide)) x hx
        · exact dp.ok zz (row (by decide) (by decide)) x hx
      · exact dow.ok zz (row (by decide) (by decide)) x hx
    have eW : EnvW ⟨rc, ar, hds, sm⟩ env := gr.ew kenv
    have hE : EnvAt K F7 le env := ⟨⟨exs, ele, pe⟩, oenv, by omega⟩
    have frs : okFine h.rs := by
      cases e : h.rs with
      | none => exact trivial
      | some k => exact (dr k e).1
    have s7 := Stp.of_same sv4.s n13
    have e7 := n13 _ _ e4
    have hW7 := hW4.same n13
    have eu7 := n13 _ _ eu4
    have xu7 := xu4.imp fun _ _ => FdAt.keep (Keeps.of_same n13)
    have g1 := Same.tup n13 g1
    have g2 := Same.tup n13 g2
    have g3 := g3.keep (Keeps.of_same n13)
    have g4 := g4.keep (Keeps.of_same n13)
    have zt2 := zt2.same n13
    have po := po.keep (Keeps.of_same n13)
    have sv7 := sv4.trans (Stv.of (l := l) (Stw.of (d := d) s7))
    have nlel : le ≠ l := fun z => by
      have := (n1.trans n2) _ _ eu4
      rw [← z, hle] at this
      cases this
    clear n1 n2 n3 n13 hp1 hp2 hle zt px e4 hW4 eu4 xu4 kenv sv4 lgx
    -- the body
    refine ⟨_, rfl, _, rfl, _, rfl, _, rfl, ph, _, _, _, rfl, rfl, g1, rfl, a, d, le, env, ⟨rc, ar, hds, sm⟩, kv4, 8, 6, 2, false, rv, h.rs, rfl, s7.s, e7, hW7, oW, hE, eW, g4, frs, ⟨by decide, by decide⟩, ⟨by decide, by decide⟩, ⟨by decide, by decide⟩, fun tb xb b n1 F8 sw8 hb xB lf8 hn8 cb8 => ?_⟩
    have k8 := sw8.keep (K := K) s7.s e7
    have hE8 := hE.stw s7.s hW7 sw8
    have hW8 := hW7.left e7 s7.s sw8 lf8
    have sv8 := sv7.trans (Stv.of (l := l) sw8)
    have ele8 := sw8.k _ _ (hE.ne s7.s) (ne_of ele e7 (by intro z; cases z)) ele
    have pe8 := pe.keep k8
    have eu8 := sw8.k _ _ nla nld eu7
    have xu8 := xu7.imp fun _ _ => FdAt.keep k8
    have g1 := k8 _ _ g1
    have g2 := k8 _ _ g2
    have g3 := g3.keep k8
    have g4 := g4.keep k8
    have ho8 := k8 _ _ (zt2.sq (K := K))
    have po := po.keep k8
    have ag8 : AgAt F8 d (kvW fd ta lh sm) := by
      obtain ⟨kv8, q1, q2, q3, q4⟩ := lf8
      exact ⟨kv8, q1, fun z hz => (q2 z hz).trans (a1 z hz), by rw [q4]; exact a3, .inr (by rw [q3]; rfl)⟩
    have cb8 : b.cnt ≤ 16 := by
      have := hn8.1
      omega
    have lex : exs.length = env.length := A2.len pe8
    have xB : BdOf K F8 ⟨rc, ar, hds, sm⟩ env h.rs false 2 xb b := xB
    have s8 := sw8.s
    have nlea := hE8.ne s8
    have wh8 := (wb.h3.imp fun _ _ => HdAt.keep (kpG sv8).1)
    have eh8 := sv8.k _ _ (hs_ne wb.h2 wb.h3 sF) (ne_of wb.h2 wb.e (by intro z; cases z)) nlh wb.h2
    have nlha := hs_ne eh8 wh8 s8
    clear k8 hE hW7 lf8 hn8 ele pe eu7 xu7 sw8 zt2 sv7 s7 e7 a1 a3
    -- what comes ahead of it
    refine ⟨_, rfl, le, rfl, ⟨_, SqL.of ele8⟩, for_list (K := K) (a := le) (xs := exs) (fun j σ G => Stp a F8 G ∧ (∃ (tb : Addr) (xb : List V) (b : Bd), SqT K G tb xb ∧ BdOf K G ⟨rc, ar, hds, sm⟩ env h.rs false 2 xb b ∧ b.cnt ≤ 16 + j ∧ ∃ v20 v21 v22 : Option V, σ = [some (V.ref a), some (.bl pl), some (.bl sm), some (.bl wd), some (.ref ln), some (.ref lk), some (.ref lf), some (.ref lr), some (.ref ta), some (.int (2 - if (!pl) = true then 1 else 0)), some (.ref tg), some (.ref lh), v12, v13, some (.ref d), some (.ref l), some (.ref ph), some (.ref to), some (.ref le), some (.ref tb), v20, v21, v22, none]))
      ⟨Stp.refl s8, tb, xb, b, hb, xB, by omega, v20, v21, v22, rfl⟩ (fun j σ G _ ⟨s, _⟩ => SqL.of (s.k _ _ nlea ele8)) ?_ ?_⟩
    · clear hb xB cb8
      rintro j y σ G ey ⟨s1, tb, xb, b, hb, xB, cb, v20, v21, v22, rfl⟩
      obtain ⟨⟨nm, kd⟩, ea, pk, kv, rfl, j1, pk2, rfl, j2⟩ := (pe8.keep (Keeps.of_stp s1 s8)).atv ey
      have mE : (nm, kd) ∈ env := List.mem_of_getElem? ea
      have hj : j < 6 := by
        have := (List.getElem?_eq_some_iff.mp ea).1
        omega
      have lxb : xb.length ≤ 22 := by have := xB.h.len; omega
      cases kd with
      | ref sn =>
        refine ⟨_, rfl, pk, _, _, _, rfl, rfl, j1, rfl, pk2, _, _, _, rfl, rfl, j2, rfl, rfl, _, rfl, ifT (by decide +kernel) ⟨_, rfl, a, 3, rfl, s1.s, by decide, fun r G2 s2 r0 r1 => ⟨_, _, rfl, rfl, _, rfl, ite2 (fun _ => ?_) (fun _ => ?_)⟩⟩⟩
        · have q1' := s2.rd j1 s1.s
          refine ⟨_, rfl, pk, _, _, _, rfl, rfl, q1', rfl, by show 2 ≤ sizeLine; decide, fun t1 ht1 => ⟨by show 1 ≤ sizeLine; decide, fun t2 ht2 => ?_⟩⟩
          have n1 := Same.new ht1 (.tup [.str "new", .str nm])
          have n2 := Same.new ht2 (.tup [.ref t1])
          have hb2 := Same.tup n2 (Same.tup n1 (s2.rd hb s1.s))
          have xB2 := ((xB.keep (Keeps.of_stp s2 s1.s)).keep (Keeps.of_same n1)).keep (Keeps.of_same n2)
          have xn : SmAt K (upd (upd G2 t1 (.tup [.str "new", .str nm])) t2 (.tup [.ref t1])) (.new nm) (.ref t1) := ⟨t1, rfl, Same.tup n2 (SqT.of upd_same)⟩
          refine ⟨_, rfl, t2, tb, _, _, rfl, rfl, SqT.of upd_same, hb2, Nat.le_of_lt (lt_line (by show 1 + xb.length ≤ _; omega)), fun p4 G4 n4 hp4 => ?_⟩
          have kk := Keeps.of_same (K := K) n4
          exact ⟨((s1.trans s2).same (n1.trans n2)).same n4, p4, _, .cons (.new nm) b, hp4, (xB2.keep kk).cons (xn.keep kk) ⟨sn, mE⟩ trivial, by show 1 + b.cnt ≤ _; omega, _, _, _, rfl⟩
        · have j1 := s2.rd j1 s1.s
          have j2 := s2.rd j2 s1.s
          exact ⟨_, rfl, pk, _, _, _, rfl, rfl, j1, rfl, pk2, _, _, _, rfl, rfl, j2, rfl, rfl, _, rfl, ifF (by decide +kernel) (iteF ⟨s1.trans s2, tb, xb, b, s2.rd hb s1.s, xB.keep (Keeps.of_stp s2 s1.s), by omega, _, _, _, rfl⟩)⟩
      | flag =>
        refine ⟨_, rfl, pk, _, _, _, rfl, rfl, j1, rfl, pk2, _, _, _, rfl, rfl, j2, rfl, rfl, _, rfl, ifF (by decide +kernel) (iteF ⟨_, rfl, pk, _, _, _, rfl, rfl, j1, rfl, pk2, _, _, _, rfl, rfl, j2, rfl, rfl, _, rfl, ifT (by decide +kernel) ⟨_, rfl, a, 3, rfl, s1.s, by decide, fun r G2 s2 r0 r1 => ⟨rfl, _, rfl, ite2 (fun _ => ?_) (fun _ => ⟨s1.trans s2, tb, xb, b, s2.rd hb s1.s, xB.keep (Keeps.of_stp s2 s1.s), by omega, _, _, _, rfl⟩)⟩⟩⟩)⟩
        have q1' := s2.rd j1 s1.s
        refine ⟨_, rfl, pk, _, _, _, rfl, rfl, q1', rfl, by show 2 ≤ sizeLine; decide, fun t1 ht1 => ⟨by show 1 ≤ sizeLine; decide, fun t2 ht2 => ?_⟩⟩
        have n1 := Same.new ht1 (.tup [.str "input", .str nm])
        have n2 := Same.new ht2 (.tup [.ref t1])
        have hb2 := Same.tup n2 (Same.tup n1 (s2.rd hb s1.s))
        have xB2 := ((xB.keep (Keeps.of_stp s2 s1.s)).keep (Keeps.of_same n1)).keep (Keeps.of_same n2)
        have xn : SmAt K (upd (upd G2 t1 (.tup [.str "input", .str nm])) t2 (.tup [.ref t1])) (.input nm) (.ref t1) := ⟨t1, rfl, Same.tup n2 (SqT.of upd_same)⟩
        refine ⟨_, rfl, t2, tb, _, _, rfl, rfl, SqT.of upd_same, hb2, Nat.le_of_lt (lt_line (by show 1 + xb.length ≤ _; omega)), fun p4 G4 n4 hp4 => ?_⟩
        have kk := Keeps.of_same (K := K) n4
        exact ⟨((s1.trans s2).same (n1.trans n2)).same n4, p4, _, .cons (.input nm) b, hp4, (xB2.keep kk).cons (xn.keep kk) ⟨_, mE, rfl⟩ trivial, by show 1 + b.cnt ≤ _; omega, _, _, _, rfl⟩
      | num lo hi =>
        refine ⟨_, rfl, pk, _, _, _, rfl, rfl, j1, rfl, pk2, _, _, _, rfl, rfl, j2, rfl, rfl, _, rfl, ifF (by decide +kernel) (iteF ⟨_, rfl, pk, _, _, _, rfl, rfl, j1, rfl, pk2, _, _, _, rfl, rfl, j2, rfl, rfl, _, rfl, ifT (by decide +kernel) ⟨_, rfl, a, 3, rfl, s1.s, by decide, fun r G2 s2 r0 r1 => ⟨rfl, _, rfl, ite2 (fun _ => ?_) (fun _ => ⟨s1.trans s2, tb, xb, b, s2.rd hb s1.s, xB.keep (Keeps.of_stp s2 s1.s), by omega, _, _, _, rfl⟩)⟩⟩⟩)⟩
        have q1' := s2.rd j1 s1.s
        refine ⟨_, rfl, pk, _, _, _, rfl, rfl, q1', rfl, by show 2 ≤ sizeLine; decide, fun t1 ht1 => ⟨by show 1 ≤ sizeLine; decide, fun t2 ht2 => ?_⟩⟩
        have n1 := Same.new ht1 (.tup [.str "input", .str nm])
        have n2 := Same.new ht2 (.tup [.ref t1])
        have hb2 := Same.tup n2 (Same.tup n1 (s2.rd hb s1.s))
        have xB2 := ((xB.keep (Keeps.of_stp s2 s1.s)).keep (Keeps.of_same n1)).keep (Keeps.of_same n2)
        have xn : SmAt K (upd (upd G2 t1 (.tup [.str "input", .str nm])) t2 (.tup [.ref t1])) (.input nm) (.ref t1) := ⟨t1, rfl, Same.tup n2 (SqT.of upd_same)⟩
        refine ⟨_, rfl, t2, tb, _, _, rfl, rfl, SqT.of upd_same, hb2, Nat.le_of_lt (lt_line (by show 1 + xb.length ≤ _; omega)), fun p4 G4 n4 hp4 => ?_⟩
        have kk := Keeps.of_same (K := K) n4
        exact ⟨((s1.trans s2).same (n1.trans n2)).same n4, p4, _, .cons (.input nm) b, hp4, (xB2.keep kk).cons (xn.keep kk) ⟨_, mE, rfl⟩ trivial, by show 1 + b.cnt ≤ _; omega, _, _, _, rfl⟩
    clear hb xB cb8
    rintro σ G ⟨s1, tb, xb, b, hb, xB, cb, v20, v21, v22, rfl⟩
    have cb : b.cnt ≤ 22 := by rw [lex] at cb; omega
    -- calls in main
    refine ⟨fun σ G => Stp a F8 G ∧ (∃ (tb : Addr) (xb : List V) (b : Bd), SqT K G tb xb ∧ BdOf K G ⟨rc, ar, hds, sm⟩ env h.rs false 2 xb b ∧ b.cnt ≤ 26 ∧ ∃ v20 v21 v22 : Option V, σ = [some (V.ref a), some (.bl pl), some (.bl sm), some (.bl wd), some (.ref ln), some (.ref lk), some (.ref lf), some (.ref lr), some (.ref ta), some (.int (2 - if (!pl) = true then 1 else 0)), some (.ref tg), some (.ref lh), v12, v13, some (.ref d), some (.ref l), some (.ref ph), some (.ref to), some (.ref le), some (.ref tb), v20, v21, v22, none]), ?_, ?_⟩
    · refine ⟨_, rfl, ph, _, _, _, rfl, rfl, s1.rd g1 s8, rfl, rfl, _, rfl, ite2 (fun _ => ?_) (fun _ => ⟨s1, tb, xb, b, hb, xB, by omega, _, _, _, rfl⟩)⟩
      have lhs : hs.length = hds.length := A2.len wb.h3
      have lh1 : 1 ≤ hs.length := by
        have := List.length_pos_iff.mpr ldh.2
        omega
      refine ⟨_, rfl, 1, rfl, lh, _, rfl, SqL.of (s1.k _ _ nlha eh8), fun l5 hl5 => ?_⟩
      rw [cut_lo (by decide) (by show 1 ≤ _; omega)]
      have m5 := Same.new hl5 (.lst (hs.drop (1 : Int).toNat))
      have e5 : (upd G l5 (.lst (hs.drop (1 : Int).toNat))) l5 = some (.lst (hs.drop (1 : Int).toNat)) := upd_same
      have nl5 : l5 ≠ a := (s1.s.ne hl5).symm
      have hb := Same.tup m5 hb
      have xB := xB.keep (Keeps.of_same m5)
      have s5 := s1.same m5
      have xd : A2 (HdAt K (upd G l5 (.lst (hs.drop (1 : Int).toNat)))) (hds.drop (1 : Int).toNat) (hs.drop (1 : Int).toNat) := (wh8.imp fun _ _ => HdAt.keep (Keeps.of_stp s5 s8)).drop _
      have hE5 := hE8.stp s8 s5
      have hW5 := hW8.stp s8 s5
      generalize (upd G l5 (.lst (hs.drop (1 : Int).toNat))) = G5 at *
      refine ⟨l5, rfl, ⟨_, SqL.of e5⟩, for_list (K := K) (a := l5) (xs := hs.drop (1 : Int).toNat) (fun j σ G => Stp a G5 G ∧ (∃ (tb : Addr) (xb : List V) (b : Bd), SqT K G tb xb ∧ BdOf K G ⟨rc, ar, hds, sm⟩ env h.rs false 2 xb b ∧ b.cnt ≤ 22 + j ∧ ∃ v20 v21 v22 : Option V, σ = [some (V.ref a), some (.bl pl), some (.bl sm), some (.bl wd), some (.ref ln), some (.ref lk), some (.ref lf), some (.ref lr), some (.ref ta), some (.int (2 - if (!pl) = true then 1 else 0)), some (.ref tg), some (.ref lh), v12, v13, some (.ref d), some (.ref l), some (.ref ph), some (.ref to), some (.ref le), some (.ref tb), v20, v21, v22, none]))
        ⟨Stp.refl s5.s, tb, xb, b, hb, xB, by omega, _, _, _, rfl⟩ (fun j σ G _ ⟨s, _⟩ => SqL.of (s.k _ _ nl5 e5)) ?_ ?_⟩
      · clear hb xB cb
        rintro j y σ G ey ⟨s1, tb, xb, b, hb, xB, cb, v20, v21, v22, rfl⟩
        obtain ⟨oh, eo, xo⟩ := (xd.imp fun _ _ => HdAt.keep (Keeps.of_stp s1 s5.s)).atv ey
        have mo : oh ∈ hds := List.mem_of_mem_drop (List.mem_of_getElem? eo)
        have hj : j < 3 := by
          have := (List.getElem?_eq_some_iff.mp ey).1
          rw [List.length_drop] at this
          omega
        have lxb : xb.length ≤ 30 := by have := xB.h.len; omega
        refine ⟨_, rfl, a, 4, rfl, s1.s, by decide, fun r G2 s2 r0 r1 => ⟨_, _, rfl, rfl, _, rfl, ite2 (fun _ => ?_) (fun _ => ⟨s1.trans s2, tb, xb, b, s2.rd hb s1.s, xB.keep (Keeps.of_stp s2 s1.s), by omega, _, _, _, rfl⟩)⟩⟩
        have hb2 := s2.rd hb s1.s
        have xB2 := xB.keep (Keeps.of_stp s2 s1.s)
        refine ⟨_, rfl, _, rfl, tb, _, rfl, .inr hb2, _, _, rfl, rfl, a, _, rfl, s2.s, by omega, fun at' G3 s3 a0 a1 => ?_⟩
        have al : at'.toNat ≤ xb.length := by omega
        have hb3 := s3.rd hb2 s2.s
        have xB3 := xB2.keep (Keeps.of_stp s3 s2.s)
        have s13 := (s1.trans s2).trans s3
        have xo3 := (xo.keep (Keeps.of_stp s2 s1.s)).keep (Keeps.of_stp s3 s2.s)
        refine ⟨_, rfl, _, rfl, at', rfl, tb, xb, rfl, hb3, fun p1 G4 n4 hp1 => ?_⟩
        rw [cut_hi a0 al] at hp1
        have hb4 := Same.tup n4 hb3
        have xB4 := xB3.keep (Keeps.of_same n4)
        have s14 := s13.same n4
        refine ⟨_, rfl, _, rfl, _, rfl, _, rfl, a, d, le, env, ⟨rc, ar, hds, sm⟩, n1, oh, y, rfl, s14.s, hW5.stp s5.s s14, oW, hE5.stp s5.s s14, xo3.keep (Keeps.of_same n4), mo, fun cv cs G6 s6 xc => ⟨by show 1 ≤ sizeLine; decide, fun t6 ht6 => ?_⟩⟩
        have n6 := Same.new ht6 (.tup [cv])
        have k6 : Keeps K G4 (upd G6 t6 (.tup [cv])) := fun p xs h => Same.tup n6 (s6.rd h s14.s)
        have hp6 := k6 _ _ hp1
        have hb6 := k6 _ _ hb4
        have xB6 := xB4.keep k6
        have xc6 := (xc h.rs false).keep (Keeps.of_same n6)
        have s16 := (s14.trans s6).same n6
        refine ⟨p1, t6, _, _, rfl, rfl, hp6, SqT.of upd_same, Nat.le_of_lt (lt_line (by rw [List.length_take]; show _ + 1 ≤ _; omega)), fun p2 G7 n7 hp2 => ?_⟩
        refine ⟨_, rfl, _, rfl, at', rfl, tb, xb, rfl, Same.tup n7 hb6, fun p3 G8 n8 hp3 => ?_⟩
        rw [cut_lo a0 al] at hp3
        refine ⟨p2, p3, _, _, rfl, rfl, Same.tup n8 hp2, hp3, Nat.le_of_lt (lt_line (by rw [List.length_append, List.length_take, List.length_drop]; show _ + 1 + _ ≤ _; omega)), fun p4 G9 n9 hp4 => ?_⟩
        have n79 := (n7.trans n8).trans n9
        have xB9 := xB6.keep (Keeps.of_same n79)
        have xc9 := xc6.keep (Keeps.of_same n79)
        obtain ⟨b1, b2, w1, w2, w3⟩ := xB9.cut at'.toNat
        refine ⟨s16.same n79, p4, _, _, hp4, (w1.snoc xc9.h xc9.w (xc9.d _)).app w2, ?_, _, _, _, rfl⟩
        rw [Bd.cnt_app, Bd.cnt_snoc, xc9.c]
        omega
      · rintro σ G ⟨s2, tb, xb, b, hb, xB, cb, v20, v21, v22, rfl⟩
        rw [List.length_drop, lhs] at cb
        have := ldh.1
        exact ⟨s5.trans s2, tb, xb, b, hb, xB, by omega, _, _, _, rfl⟩
    clear hb xB cb s1
    rintro σ G ⟨s1, tb, xb, b, hb, xB, cb, v20, v21, v22, rfl⟩
    -- the function
    have k1 := Keeps.of_stp (K := K) s1 s8
    have eu9 := s1.k _ _ nla eu8
    have g1 := k1 _ _ g1
    refine ⟨_, rfl, .inl ⟨rfl, _, SqL.of eu9⟩, _, rfl, ph, _, _, _, rfl, rfl, g1, rfl, _, rfl, ph, _, _, _, rfl, rfl, g1, rfl, _, rfl, ph, _, _, _, rfl, rfl, g1, rfl, _, rfl, _, rfl, by show 5 ≤ sizeLine; decide, fun tf htf => ?_⟩
    have m1 := Same.new htf (.tup [.str h.nm, .ref pt, rv, .ref to, .ref tb])
    have kk : Keeps K F8 (upd G tf (.tup [.str h.nm, .ref pt, rv, .ref to, .ref tb])) := fun p xs hx => Same.tup m1 (k1 _ _ hx)
    have xf : FdAt K (upd G tf (.tup [.str h.nm, .ref pt, rv, .ref to, .ref tb])) ⟨h.nm, h.ps, h.rs, ow, b⟩ (.ref tf) := ⟨tf, pt, hxs, rv, to, ox, tb, xb, rfl, SqT.of upd_same, kk _ _ g2, g3.keep kk, g4.keep kk, kk _ _ ho8, po.keep kk, Same.tup m1 hb, (xB.keep (Keeps.of_same m1)).h⟩
    have xu9 := xu8.imp fun _ _ => FdAt.keep kk
    have eu9 := m1 _ _ eu9
    have s9 := s1.same m1
    have ag9 : AgAt (upd G tf (.tup [.str h.nm, .ref pt, rv, .ref to, .ref tb])) d (kvW fd ta lh sm) := by
      obtain ⟨kv8, q1, q2⟩ := ag8
      exact ⟨kv8, s9.k _ _ nda q1, q2⟩
    have sv9 := sv8.trans (Stv.of (l := l) (Stw.of (d := d) s9))
    generalize (upd G tf (.tup [.str h.nm, .ref pt, rv, .ref to, .ref tb])) = G9 at *
    have lus : us.length ≤ 3 := by
      have e1 := A2.len xu9
      have e2 : fds.length = (hds.take i).length := by
        have := congrArg List.length fh
        rwa [List.length_map] at this
      rw [List.length_take] at e2
      have := ldh.1
      omega
    refine ⟨l, us, .ref tf, rfl, rfl, eu9, lt_line (by omega), ?_⟩
    have kl := keep_lst (K := K) (o := .lst (us ++ [.ref tf])) eu9
    refine ⟨⟨⟨?_, fun c o q1 q2 q3 e => ?_⟩, ?_⟩, ⟨_, fds ++ [⟨h.nm, h.ps, h.rs, ow, b⟩], upd_same, (xu9.imp fun _ _ => FdAt.keep kl).snoc (xf.keep kl), ?_, fun f hf => ?_⟩, _, _, _, _, _, _, _, _, _, rfl⟩
    · obtain ⟨c, m, k, hc⟩ := sv9.s
      exact ⟨c, m, k, by rw [upd_ne nla.symm]; exact hc⟩
    · rw [upd_ne q3]
      exact sv9.k c o q1 q2 q3 e
    · obtain ⟨kv8, q1, q2⟩ := ag9
      exact ⟨kv8, by rw [upd_ne nld.symm]; exact q1, q2⟩
    · have eh : hds[i]? = some h := eh
      rw [List.map_append, fh, List.take_add_one, eh]
      rfl
    · rcases List.mem_append.mp hf with hf | hf
      · exact fd2 f hf
      · rw [List.mem_singleton.mp hf]
        refine ⟨dow, ?_, xB.d, by show b.cnt ≤ 40; omega⟩
        show b.wf _ (visP gl ⟨h.nm, h.ps, h.rs, ow, b⟩) h.rs false
        unfold visP
        rw [henv]
        exact xB.w
  rintro σ G2 ⟨⟨sv, ag⟩, ⟨us, fds, eu, xu, fh, fdd⟩, v12, v13, v16, v17, v18, v19, v20, v21, v22, rfl⟩
  rw [A2.len wb.h3, List.take_length] at fh
  obtain ⟨kp, kz⟩ := sv.keep (K := K) sF wb.e el
  have G3 := GG sv
  have zg3 := zg.keep kp kz
  have st2 : Stp a H G2 := ⟨sv.s, fun b o hb e => sv.k b o hb (ne_of_none e hdH) (ne_of_none e hlH) (st1.k b o hb e)⟩
  clear kp kz sv ag GG kpG G zg wb
  have lus : us.length ≤ 3 := by
    have e1 := A2.len xu
    have e2 : fds.length = hds.length := by
      have := congrArg List.length fh
      rwa [List.length_map] at this
    have := ldh.1
    omega
  -- turned
  refine ⟨_, rfl, _, rfl, l, us, rfl, .inl (SqL.of eu), a, _, rfl, st2.s, by omega, fun r F1 s1 r00 r01 => ?_⟩
  have rl : r.toNat ≤ us.length := by omega
  have eu1 := s1.k _ _ nla eu
  refine ⟨fun σ F4 => ∃ q3 : Addr, (Stp a H F4 ∧ GrAt K F4 ln lk lr ta (namesOf st) ks rc ar ∧ PksZ K F4 tg gl ∧ F4 q3 = some (.lst (us.drop r.toNat ++ us.take r.toNat)) ∧ A2 (FdAt K F4) fds us) ∧ σ = [some (V.ref a), some (.bl pl), some (.bl sm), some (.bl wd), some (.ref ln), some (.ref lk), some (.ref lf), some (.ref lr), some (.ref ta), some (.int (2 - if (!pl) = true then 1 else 0)), some (.ref tg), some (.ref lh), v12, v13, some (.ref d), some (.ref q3), v16, v17, v18, v19, v20, v21, v22, some (.int r)], ?_, ?_⟩
  · refine ⟨_, rfl, _, rfl, r, rfl, l, us, rfl, SqL.of eu1, fun q1 hq1 => ?_⟩
    have m1 := Same.new hq1 (.lst (cutV us (some r) none))
    refine ⟨_, rfl, _, rfl, r, rfl, l, us, rfl, SqL.of (m1 _ _ eu1), fun q2 hq2 => ?_⟩
    have m2 := Same.new hq2 (.lst (cutV us none (some r)))
    have eq1 := m2 _ _ (upd_same : (upd F1 q1 (.lst (cutV us (some r) none))) q1 = some (.lst (cutV us (some r) none)))
    refine ⟨q1, q2, _, _, rfl, rfl, eq1, upd_same, ?_, fun q3 hq3 => ?_⟩
    · have c1 := cutV_length us (some r) none
      have c2 := cutV_length us none (some r)
      have c4 : (10 : Nat) ≤ sizeLine := by decide
      omega
    have m3 := Same.new hq3 (.lst (cutV us (some r) none ++ cutV us none (some r)))
    have m13 := (m1.trans m2).trans m3
    have st3 := (st2.trans s1).same m13
    have G4 := (G3.stp st2.s s1).same m13
    have zg4 := (zg3.stp st2.s s1).same m13
    have xu4 := (xu.imp fun _ _ => FdAt.keep (Keeps.of_stp s1 st2.s)).imp fun _ _ => FdAt.keep (Keeps.of_same m13)
    have eq3 : (upd (upd (upd F1 q1 (.lst (cutV us (some r) none))) q2 (.lst (cutV us none (some r)))) q3 (.lst (cutV us (some r) none ++ cutV us none (some r)))) q3 = some (.lst (cutV us (some r) none ++ cutV us none (some r))) := upd_same
    generalize (upd (upd (upd F1 q1 (.lst (cutV us (some r) none))) q2 (.lst (cutV us none (some r)))) q3 (.lst (cutV us (some r) none ++ cutV us none (some r)))) = F4 at *
    rw [cut_lo r00 rl, cut_hi r00 rl] at eq3
    exact ⟨q3, ⟨st3, G4, zg4, eq3, xu4⟩, rfl⟩
  clear eu1 zg3 G3 st2 s1 xu
  rintro σ F4 ⟨q3, ⟨st3, G4, zg4, eq3, xu4⟩, rfl⟩
  have xs4 : A2 (FdAt K F4) (fds.drop r.toNat ++ fds.take r.toNat) (us.drop r.toNat ++ us.take r.toNat) := (xu4.take r.toNat).app (xu4.drop r.toNat)
  obtain ⟨ru, e1, e2⟩ := id G4.r
  obtain ⟨ax, e3, e4⟩ := id G4.a
  have lru : ru.length = 2 := by rw [A2.len e2, erc]; rfl
  refine ⟨_, rfl, lr, _, rfl, .inl ⟨SqL.of e1, fun tr htr => ⟨_, rfl, _, rfl, _, rfl, q3, _, rfl, .inl ⟨SqL.of ((Same.new htr (.tup ru)) _ _ eq3), fun tf htf => ⟨by show 4 ≤ sizeLine; decide, fun p hp => ?_⟩⟩⟩⟩⟩
  have n1 := Same.new htr (.tup ru)
  have n2 := Same.new htf (.tup (us.drop r.toNat ++ us.take r.toNat))
  have n3 := Same.new hp (.tup [.ref tr, .ref ta, .ref tg, .ref tf])
  have n13 := (n1.trans n2).trans n3
  have pm : (fds.drop r.toNat ++ fds.take r.toNat).Perm fds := by
    have := @List.perm_append_comm _ (fds.drop r.toNat) (fds.take r.toNat)
    rw [List.take_append_drop] at this
    exact this
  obtain ⟨p1, p2, p3, p4, p5⟩ := pg_mk zz gr dh dg fh fdd pm
  refine q (.ref p) _ st _ (st3.same n13) ⟨p, tr, ru, ta, ax, tg, tf, _, rfl, SqT.of upd_same, Same.tup (n2.trans n3) (SqT.of upd_same), e2.imp fun _ _ => RcAt.keep (Keeps.of_same n13) (KeepZ.of_same n13), Same.tup n13 e3, e4.imp fun _ _ => ArAt.keep (Keeps.of_same n13), zg4.same n13, Same.tup n3 (SqT.of upd_same), xs4.imp fun _ _ => FdAt.keep (Keeps.of_same n13)⟩ p1 st0 st4 p2 p3 p4 p5
end
/-! ### a zip of two tuples in a comprehension -/
theorem lc_zipT {K : PySem.W.Frag} {a b : Addr} {xs ys : List V} {g : TG} {tt : TT} {te : TE} {vs : List Nat} {σ : L2.St} {H1 : Hp} {D : Addr} {Qd : Hp → Prop} (hl : xs.length = ys.length) (Pv : Nat → Hp → Prop) (h0 : Pv 0 (upd H1 D (.lst []))) (hq : ∀ i H, Pv i H → SqT K H a xs ∧ SqT K H b ys)
    (hs : ∀ (i : Nat) (x y : V) (t : Addr) (H : Hp), xs[i]? = some x → ys[i]? = some y → Pv i H → H t = none → g (.ref t) (wipe σ vs) (upd H t (.tup [x, y])) fun σ2 H2 => wipe σ2 vs = wipe σ vs ∧ tt σ2 H2 fun k H3 =>
      if k = true then te σ2 H3 fun z H4 => ∃ acc, H4 D = some (.lst acc) ∧ acc.length < sizeLine ∧ Pv (i + 1) (upd H4 D (.lst (acc ++ [z]))) else Pv (i + 1) H3) (hd : ∀ H, Pv xs.length H → Qd H) :
    ∃ W : Nat → Nat → Hp → Prop, (∃ m, W 0 m (upd H1 D (.lst []))) ∧ ∀ i m H, W i m H →
      ((RZ.ItzT K a b).stop i H ∧ Qd H) ∨ ((RZ.ItzT K a b).go i H ∧ ∃ Nx : Hp → Prop, (∀ H', Nx H' → ∃ m', m' < m ∧ W (i + 1) m' H') ∧ ∀ x H', (RZ.ItzT K a b).yld i H x H' → g x (wipe σ vs) H' fun σ2 H2 => wipe σ2 vs = wipe σ vs ∧ tt σ2 H2 fun k H3 =>
        if k = true then te σ2 H3 fun y H4 => ∃ acc, H4 D = some (.lst acc) ∧ acc.length < sizeLine ∧ Nx (upd H4 D (.lst (acc ++ [y]))) else Nx H3) := by
  refine ⟨fun i m H => m = xs.length - i ∧ i ≤ xs.length ∧ Pv i H, ⟨xs.length, rfl, Nat.zero_le _, h0⟩, ?_⟩
  rintro i m H ⟨rfl, hi, p⟩
  have q := hq i H p
  rcases Nat.lt_or_ge i xs.length with hlt | hge
  · have h2 : i < ys.length := hl ▸ hlt
    have ex := List.getElem?_eq_getElem hlt
    have ey := List.getElem?_eq_getElem h2
    refine .inr ⟨⟨xs, ys, _, _, q.1, q.2, ex, ey⟩, Pv (i + 1), fun H' p' => ⟨xs.length - (i + 1), by omega, rfl, hlt, p'⟩, ?_⟩
    rintro v H' ⟨t, x, y, rfl, ht, rfl, f1, f2⟩
    exact hs i x y t H (f1 xs q.1) (f2 ys q.2) p ht
  · have e : i = xs.length := by omega
    subst e
    exact .inl ⟨⟨xs, ys, q.1, q.2, .inl hge⟩, hd H p⟩
/-! ### the parts of a statement: the roles of its word, and the values that are there -/
def partsL : List Str → List V → List (Str × V)
  | r :: rs, v :: vs => if v = .non then partsL rs vs else (r, v) :: partsL rs vs
  | _, _ => []
/-- pairs, as tuples in the heap -/
inductive Prs (H : Hp) : List Addr → List (Str × V) → Prop where
  | nil : Prs H [] []
  | cons {p : Addr} {ps : List Addr} {r : Str} {v : V} {l : List (Str × V)} : H p = some (.tup [.str r, v]) → Prs H ps l → Prs H (p :: ps) ((r, v) :: l)
theorem Prs.same {H H' : Hp} (s : Same H H') : ∀ {ps : List Addr} {l : List (Str × V)}, Prs H ps l → Prs H' ps l
  | _, _, .nil => .nil
  | _, _, .cons h r => .cons (s _ _ h) (Prs.same s r)
theorem Prs.snoc {H : Hp} {p : Addr} {r : Str} {v : V} (h : H p = some (.tup [.str r, v])) : ∀ {ps : List Addr} {l : List (Str × V)}, Prs H ps l → Prs H (ps ++ [p]) (l ++ [(r, v)])
  | _, _, .nil => .cons h .nil
  | _, _, .cons q t => .cons q (Prs.snoc h t)
theorem Prs.upd {H : Hp} {D : Addr} {acc : List V} {o : HO} (hD : H D = some (.lst acc)) : ∀ {ps : List Addr} {l : List (Str × V)}, Prs H ps l → Prs (upd H D o) ps l
  | _, _, .nil => .nil
  | _, _, .cons h r => .cons (by rw [upd_ne (ne_of h hD (by intro z; cases z))]; exact h) (Prs.upd hD r)
theorem Prs.len {H : Hp} : ∀ {ps : List Addr} {l : List (Str × V)}, Prs H ps l → ps.length = l.length
  | _, _, .nil => rfl
  | _, _, .cons _ r => congrArg (· + 1) (Prs.len r)
theorem Prs.get {H : Hp} : ∀ {ps : List Addr} {l : List (Str × V)} {i : Nat} {v : V}, Prs H ps l → (ps.map V.ref)[i]? = some v → ∃ p r x, v = .ref p ∧ l[i]? = some (r, x) ∧ H p = some (.tup [.str r, x])
  | _, _, _, _, .nil, e => by simp at e
  | _, _, 0, v, .cons h _, e => by
    simp at e
    exact ⟨_, _, _, e.symm, rfl, h⟩
  | _, _, i + 1, v, .cons _ t, e => by
    obtain ⟨p, r, x, h1, h2, h3⟩ := Prs.get (i := i) t (by simpa using e)
    exact ⟨p, r, x, h1, by simpa using h2, h3⟩
theorem partsL_len : ∀ (rs : List Str) (vs : List V), (partsL rs vs).length ≤ rs.length
  | [], _ => by simp [partsL]
  | _ :: _, [] => by simp [partsL]
  | r :: rs, v :: vs => by
    have ih := partsL_len rs vs
    unfold partsL
    split
    · exact Nat.le_succ_of_le ih
    · exact Nat.succ_le_succ ih
/-- the same from the left: what the first i places give -/
theorem parts_take {rs : List Str} {vs : List V} (hl : rs.length = vs.length) : ∀ {i : Nat} {r : Str} {v : V}, rs[i]? = some r → vs[i]? = some v → partsL (rs.take (i + 1)) (vs.take (i + 1)) = if v = .non then partsL (rs.take i) (vs.take i) else partsL (rs.take i) (vs.take i) ++ [(r, v)] := by
  induction rs generalizing vs with
  | nil => intro i r v h; simp at h
  | cons x xs ih =>
    cases vs with
    | nil => cases hl
    | cons y ys =>
      intro i r v h1 h2
      cases i with
      | zero =>
        simp at h1 h2
        subst h1 h2
        show (if y = .non then partsL (List.take 0 xs) (List.take 0 ys) else (x, y) :: partsL (List.take 0 xs) (List.take 0 ys)) = _
        rw [List.take_zero, List.take_zero, List.take_zero, List.take_zero]
        split <;> rfl
      | succ i =>
        have e := ih (Nat.succ.inj hl) (i := i) (r := r) (v := v) (by simpa using h1) (by simpa using h2)
        show (if y = .non then partsL (xs.take (i + 1)) (ys.take (i + 1)) else (x, y) :: partsL (xs.take (i + 1)) (ys.take (i + 1))) = if v = .non then (if y = .non then partsL (xs.take i) (ys.take i) else (x, y) :: partsL (xs.take i) (ys.take i)) else (if y = .non then partsL (xs.take i) (ys.take i) else (x, y) :: partsL (xs.take i) (ys.take i)) ++ [(r, v)]
        rw [e]
        by_cases hv : v = .non <;> by_cases hy : y = .non <;> simp [hv, hy]
/-- the bodies among the values of a statement -/
def bodL : List Str → List V → List V
  | r :: rs, v :: vs => if r = ("body" : Str) then v :: bodL rs vs else bodL rs vs
  | _, _ => []
theorem bodL_nil {vs : List V} : bodL [] vs = [] := by simp [bodL]
theorem bodL_end {rs : List Str} : bodL rs [] = [] := by cases rs <;> simp [bodL]
theorem bodL_cons {r : Str} {v : V} {rs : List Str} {vs : List V} (h : r ≠ ("body" : Str)) : bodL (r :: rs) (v :: vs) = bodL rs vs := if_neg h
theorem bodL_body {v : V} {rs : List Str} {vs : List V} : bodL (("body" : Str) :: rs) (v :: vs) = v :: bodL rs vs := if_pos rfl
theorem bodL_no : ∀ {rs : List Str} {vs : List V}, ("body" : Str) ∉ rs → bodL rs vs = []
  | [], _, _ => bodL_nil
  | _ :: _, [], _ => bodL_end
  | r :: rs, v :: vs, h => by
    rw [bodL_cons fun z => h (by rw [z]; exact List.mem_cons_self)]
    exact bodL_no fun z => h (List.mem_cons_of_mem _ z)
theorem bodL_len : ∀ (rs : List Str) (vs : List V), (bodL rs vs).length ≤ rs.length
  | [], _ => by rw [bodL_nil]; exact Nat.zero_le _
  | _ :: _, [] => by rw [bodL_end]; exact Nat.zero_le _
  | r :: rs, v :: vs => by
    have ih := bodL_len rs vs
    unfold bodL
    split
    · exact Nat.succ_le_succ ih
    · exact Nat.le_succ_of_le ih
theorem bodL_take {rs : List Str} {vs : List V} (hl : rs.length = vs.length) : ∀ {i : Nat} {r : Str} {v : V}, rs[i]? = some r → vs[i]? = some v → bodL (rs.take (i + 1)) (vs.take (i + 1)) = bodL (rs.take i) (vs.take i) ++ (if r = ("body" : Str) then [v] else []) := by
  induction rs generalizing vs with
  | nil => intro i r v h; simp at h
  | cons x xs ih =>
    cases vs with
    | nil => cases hl
    | cons y ys =>
      intro i r v h1 h2
      cases i with
      | zero =>
        simp at h1 h2
        subst h1 h2
        show (if x = ("body" : Str) then y :: bodL (List.take 0 xs) (List.take 0 ys) else bodL (List.take 0 xs) (List.take 0 ys)) = bodL [] [] ++ _
        rw [List.take_zero, bodL_nil, bodL_nil, List.nil_append]
      | succ i =>
        have e := ih (Nat.succ.inj hl) (i := i) (r := r) (v := v) (by simpa using h1) (by simpa using h2)
        show (if x = ("body" : Str) then y :: bodL (xs.take (i + 1)) (ys.take (i + 1)) else bodL (xs.take (i + 1)) (ys.take (i + 1))) = (if x = ("body" : Str) then y :: bodL (xs.take i) (ys.take i) else bodL (xs.take i) (ys.take i)) ++ _
        rw [e]
        by_cases hy : x = ("body" : Str) <;> simp [hy]
theorem flat_roles (l : List Str) : (l.map V.str).all flatV = true := by
  rw [List.all_eq_true]
  intro x hx
  obtain ⟨z, _, rfl⟩ := List.mem_map.mp hx
  rfl
theorem body_in (l : List Str) : inV (.str ("body" : Str)) (l.map V.str) = decide (("body" : Str) ∈ l) := by
  induction l with
  | nil => rfl
  | cons a l ih =>
    have e : inV (.str ("body" : Str)) (V.str a :: l.map V.str) = (eqV (V.str a) (.str ("body" : Str)) || inV (.str ("body" : Str)) (l.map V.str)) := rfl
    rw [List.map_cons, e, ih, Bool.eq_iff_iff, Bool.or_eq_true, decide_eq_true_eq, decide_eq_true_eq, List.mem_cons]
    have f : eqV (V.str a) (.str ("body" : Str)) = true ↔ ("body" : Str) = a := by
      show (a == ("body" : Str)) = true ↔ _
      rw [beq_iff_eq]
      exact ⟨fun z => z.symm, fun z => z.symm⟩
    rw [f]
def spParts (K : PySem.W.Frag) : Sp := fun vs H Q _ => ∃ (p : Addr) (wd : Str) (rest : List V) (roles : List Str), vs = [.ref p] ∧ SqT K H p (.str wd :: rest) ∧ (wd, roles) ∈ tb_PARTS ∧ roles.length = rest.length ∧ roles.length ≤ 10 ∧
  ∀ (D : Addr) (ps : List Addr) (H' : Hp), Same H H' → H D = none → H' D = some (.lst (ps.map V.ref)) → Prs H' ps (partsL roles rest) → Q (.ref D) H'
def spBodies (K : PySem.W.Frag) : Sp := fun vs H Q _ => ∃ (p : Addr) (wd : Str) (rest : List V) (roles : List Str), vs = [.ref p] ∧ SqT K H p (.str wd :: rest) ∧ (wd, roles) ∈ tb_PARTS ∧ roles.length = rest.length ∧ roles.length ≤ 10 ∧
  ∀ (D : Addr) (H' : Hp), Same H H' → H D = none → H' D = some (.lst (bodL roles rest)) → Q (.ref D) H'
theorem at0 {x : V} {xs : List V} : atI (x :: xs) 0 = some x := atI_nat (j := 0) rfl
theorem cut_tail (x : V) (xs : List V) : cutV (x :: xs) (some 1) none = xs := by
  show ((x :: xs).drop (HT.sIx (xs.length + 1) 0 (some 1))).take (xs.length + 1 - HT.sIx (xs.length + 1) 0 (some 1)) = xs
  have e : HT.sIx (xs.length + 1) 0 (some 1) = 1 := by
    show min (1 : Int).toNat (xs.length + 1) = 1
    show min 1 (xs.length + 1) = 1
    omega
  rw [e]
  show xs.take (xs.length + 1 - 1) = xs
  rw [Nat.add_sub_cancel, List.take_length]
theorem no_whole (x : V) (xs : List V) : ¬ (HT.sIx (x :: xs).length 0 (some 1) = 0 ∧ HT.sIx (x :: xs).length (x :: xs).length none = (x :: xs).length) := by
  rintro ⟨h, _⟩
  have e : HT.sIx (x :: xs).length 0 (some 1) = 1 := by
    show min (1 : Int).toNat (xs.length + 1) = 1
    show min 1 (xs.length + 1) = 1
    omega
  rw [e] at h
  cases h
/-- the list at D grows, all else stands -/
theorem Same.grow {H H1 : Hp} {D : Addr} {o : HO} (hD : H D = none) (s : Same H H1) : Same H (upd H1 D o) := fun b u e => by
  rw [upd_ne (ne_of_none e hD)]
  exact s b u e
section
variable {P : Program} {w : World} {K : PySem.W.Frag} {mg : Str → Option Value} {base : Heap}
theorem ok_bodies_of (T : Txt w K mg) : FnOk P w K mg base CX0 2 T.a_bodies_of T.d_bodies_of p_bodies_of (spBodies K) := by
  obtain ⟨d_PARTS, c_PARTS_h, tab⟩ := T.c_PARTS
  refine T.F_bodies_of.ok sc_bodies_of (fun vs H Q E h => ?_) (fun cdv A outer s H vs Q E hr h => ?_)
  · obtain ⟨p, wd, rest, roles, rfl, _⟩ := h
    rfl
  obtain ⟨p, wd, rest, roles, rfl, hp, htb, hl, h10, q⟩ := h
  obtain ⟨r, hk, hrl⟩ := tab _ htb
  refine ⟨_, (pss_cons (ps_set (i := 1) sc_bodies_of.nd rfl (Or.inl rfl) (pe_ix ix_kdict (pe_glob (v := .ref d_PARTS) rfl c_PARTS_h rfl) (pe_ix ix_tup (pv 0) pe_int (fun _ _ => rfl)) (fun _ _ => rfl)))
      (pss_cons (ps_if (pt_cmpR op_notIn_seq pe_str (pv 1) (by rfl)) (pss_one (ps_ret (pe_lst pa_nil))) pss_nil)
      (pss_one (ps_ret (pe_lc (own := [("role", 2), ("part", 3)]) (g := gTup K 2 (gCons (gName 2) (gCons (gName 3) gNil))) rfl sc_bodies_of.nd (RZ.pi_zipA (by rfl) T.z_zip (pa_cons (pv 1) (pa_cons (pe_slice sl_tup (pv 0) (po_some pe_int) po_none) pa_nil))) (blkOk_by (own := [("role", 2), ("part", 3)]) (N := n_bodies_of) (sc := defScope s_bodies_of) (by decide +kernel)) (fun _ _ _ _ _ => (pg_tup rfl (pgs_cons (pg_name (i := 2) sc_bodies_of.nd rfl (Or.inl rfl)) (pgs_cons (pg_name (i := 3) sc_bodies_of.nd rfl (Or.inl rfl)) pgs_nil)))) (fun _ _ _ _ _ => (pts_one (pt_cmpR op_eq (pv 2) pe_str (nomark _)))) (fun _ _ _ _ _ => (pv 3))))))), ?_⟩
  refine ⟨_, rfl, p, _, 0, _, rfl, rfl, hp, at0, d_PARTS, wd, _, rfl, rfl, hk, ?_⟩
  refine ⟨_, rfl, r, _, rfl, .inr (hrl _), rfl, flat_roles roles, ?_⟩
  have eb := body_in roles
  by_cases hb : ("body" : Str) ∈ roles
  · refine ⟨_, rfl, ifF (show (!inV (V.str ("body" : Str)) (roles.map V.str)) = false by rw [eb, decide_eq_true hb]; rfl) ?_⟩
    refine ⟨_, rfl, _, rfl, 1, rfl, p, _, rfl, hp, no_whole _ _, fun t ht => ?_⟩
    rw [cut_tail]
    have s1 := Same.new ht (.tup rest)
    refine ⟨r, t, _, _, rfl, .inr ⟨hrl _, SqT.of upd_same, fun D hD => ?_⟩⟩
    have hDH : H D = none := s1.free hD
    refine lc_zipT (K := K) (xs := roles.map V.str) (ys := rest) (by rw [List.length_map]; exact hl)
      (fun i H' => Same H H' ∧ H' t = some (.tup rest) ∧ H' D = some (.lst (bodL (roles.take i) (rest.take i)))) ?_ ?_ ?_ ?_
    · refine ⟨Same.grow hDH s1, ?_, ?_⟩
      · rw [upd_ne (ne_of_none upd_same hD)]
        exact upd_same
      · rw [List.take_zero, bodL_nil]
        exact upd_same
    · rintro i H' ⟨sm, ht', _⟩
      exact ⟨hrl _, SqT.of ht'⟩
    · rintro i x y z H' hx hy ⟨sm, ht', hD'⟩ hz
      obtain ⟨ro, hro, rfl⟩ : ∃ ro, roles[i]? = some ro ∧ x = .str ro := by
        rw [List.getElem?_map] at hx
        cases e : roles[i]? with
        | none => rw [e] at hx; cases hx
        | some ro => rw [e] at hx; exact ⟨ro, rfl, (Option.some.inj hx).symm⟩
      have step := bodL_take (rs := roles) (vs := rest) hl hro hy
      have s2 := Same.new hz (.tup [.str ro, y])
      refine ⟨z, _, rfl, SqT.of upd_same, rfl, _, _, rfl, _, _, rfl, rfl, rfl, _, rfl, rfl, _, rfl, ?_⟩
      by_cases h : ro = ("body" : Str)
      · rw [if_pos h] at step
        refine ifT (decide_eq_true (congrArg V.str h)) ⟨_, rfl, _, s2 _ _ hD', ?_, Same.grow hDH (sm.trans s2), ?_, ?_⟩
        · have a1 := bodL_len (roles.take i) (rest.take i)
          have a2 : (roles.take i).length ≤ roles.length := List.length_take_le' _ _
          exact small1000 (by omega)
        · rw [upd_ne (ne_of ht' hD' (by intro z; cases z))]
          exact s2 _ _ ht'
        · rw [upd_same, step]
      · rw [if_neg h, List.append_nil] at step
        refine ifF (decide_eq_false fun z => h (V.str.inj z)) ⟨sm.trans s2, s2 _ _ ht', ?_⟩
        rw [step]
        exact s2 _ _ hD'
    · rintro H' ⟨sm, ht', hD'⟩
      rw [List.length_map, List.take_length, hl, List.take_length] at hD'
      exact q D H' sm hDH hD'
  · refine ⟨_, rfl, ifT (show (!inV (V.str ("body" : Str)) (roles.map V.str)) = true by rw [eb, decide_eq_false hb]; rfl) ⟨by show 0 ≤ sizeLine; decide, fun D hD => ?_⟩⟩
    refine q D _ (Same.new hD _) hD ?_
    rw [bodL_no hb]
    exact upd_same
end
/-! ### statements of bodies -/
mutual
def Sm.pre : Sm → List Sm
  | .iff e b c => .iff e b c :: (b.pre ++ c.pre)
  | .loop e b => .loop e b :: b.pre
  | s => [s]
def Bd.pre : Bd → List Sm
  | .nil => []
  | .cons s b => s.pre ++ b.pre
end
def Sm.bods : Sm → List Bd
  | .iff _ b c => [b, c]
  | .loop _ b => [b]
  | _ => []
theorem Sm.pre_eq (s : Sm) : s.pre = s :: (s.bods.flatMap Bd.pre) := by
  cases s <;> simp [Sm.pre, Sm.bods]
mutual
theorem Sm.pre_len : ∀ s : Sm, s.pre.length = s.cnt
  | .iff e b c => by
    have h1 := Bd.pre_len b
    have h2 := Bd.pre_len c
    simp only [Sm.pre, Sm.cnt, List.length_cons, List.length_append]
    omega
  | .loop e b => by
    have h1 := Bd.pre_len b
    simp only [Sm.pre, Sm.cnt, List.length_cons]
    omega
  | .set _ _ => rfl
  | .input _ => rfl
  | .new _ => rfl
  | .free _ => rfl
  | .load _ _ _ => rfl
  | .store _ _ _ => rfl
  | .get _ _ _ => rfl
  | .put _ _ _ => rfl
  | .call _ _ _ => rfl
  | .ret _ => rfl
  | .brk => rfl
  | .asrt _ => rfl
theorem Bd.pre_len : ∀ b : Bd, b.pre.length = b.cnt
  | .nil => rfl
  | .cons s b => by
    have h1 := Sm.pre_len s
    have h2 := Bd.pre_len b
    simp only [Bd.pre, Bd.cnt, List.length_append]
    omega
end
theorem Bd.pre_app (c : Bd) : ∀ b : Bd, (b.app c).pre = b.pre ++ c.pre
  | .nil => rfl
  | .cons s b => by
    have ih := Bd.pre_app c b
    show s.pre ++ (b.app c).pre = s.pre ++ b.pre ++ c.pre
    rw [ih, List.append_assoc]
def BodV (K : PySem.W.Frag) (H : Hp) (b : Bd) (v : V) : Prop := ∃ q us, v = .ref q ∧ SqT K H q us ∧ BdL K H b us
theorem BodV.keep {K : PySem.W.Frag} {H H' : Hp} (kp : Keeps K H H') {b : Bd} {v : V} (h : BodV K H b v) : BodV K H' b v := by
  obtain ⟨q, us, e, h1, h2⟩ := h
  exact ⟨q, us, e, kp _ _ h1, h2.keep kp⟩
def Sm.word : Sm → Str
  | .set _ _ => "set" | .input _ => "input" | .new _ => "new" | .free _ => "free" | .load _ _ _ => "load" | .store _ _ _ => "store" | .get _ _ _ => "get" | .put _ _ _ => "put" | .call _ _ _ => "call" | .ret _ => "return"
  | .iff _ _ _ => "if" | .loop _ _ => "while" | .brk => "break" | .asrt _ => "assert"
theorem SmAt.bodI {K : PySem.W.Frag} {H : Hp} {s : Sm} {v : V} (h : SmAt K H s v) : ∃ (p : Addr) (rest : List V) (roles : List Str), v = .ref p ∧ SqT K H p (.str s.word :: rest) ∧ (s.word, roles) ∈ tb_PARTS ∧ roles.length = rest.length ∧ roles.length ≤ 10 ∧
    A2 (BodV K H) s.bods (bodL roles rest) := by
  cases s with
  | set x e => obtain ⟨p, a, rfl, hp, hx⟩ := h; exact ⟨p, _, ["variable", "expression"], rfl, hp, (by show (("set" : Str), (["variable", "expression"] : List Str)) ∈ tb_PARTS; decide +kernel), rfl, by decide, by rw [bodL_no (by decide +kernel)]; trivial⟩
  | input x => obtain ⟨p, rfl, hp⟩ := h; exact ⟨p, _, ["variable"], rfl, hp, (by show (("input" : Str), (["variable"] : List Str)) ∈ tb_PARTS; decide +kernel), rfl, by decide, by rw [bodL_no (by decide +kernel)]; trivial⟩
  | new x => obtain ⟨p, rfl, hp⟩ := h; exact ⟨p, _, ["variable"], rfl, hp, (by show (("new" : Str), (["variable"] : List Str)) ∈ tb_PARTS; decide +kernel), rfl, by decide, by rw [bodL_no (by decide +kernel)]; trivial⟩
  | free x => obtain ⟨p, rfl, hp⟩ := h; exact ⟨p, _, ["variable"], rfl, hp, (by show (("free" : Str), (["variable"] : List Str)) ∈ tb_PARTS; decide +kernel), rfl, by decide, by rw [bodL_no (by decide +kernel)]; trivial⟩
  | load x y f => obtain ⟨p, rfl, hp⟩ := h; exact ⟨p, _, ["variable", "variable", "field"], rfl, hp, (by show (("load" : Str), (["variable", "variable", "field"] : List Str)) ∈ tb_PARTS; decide +kernel), rfl, by decide, by rw [bodL_no (by decide +kernel)]; trivial⟩
  | store y f e => obtain ⟨p, a, rfl, hp, hx⟩ := h; exact ⟨p, _, ["variable", "field", "expression"], rfl, hp, (by show (("store" : Str), (["variable", "field", "expression"] : List Str)) ∈ tb_PARTS; decide +kernel), rfl, by decide, by rw [bodL_no (by decide +kernel)]; trivial⟩
  | get x y e => obtain ⟨p, a, rfl, hp, hx⟩ := h; exact ⟨p, _, ["variable", "array", "expression"], rfl, hp, (by show (("get" : Str), (["variable", "array", "expression"] : List Str)) ∈ tb_PARTS; decide +kernel), rfl, by decide, by rw [bodL_no (by decide +kernel)]; trivial⟩
  | put y e1 e2 => obtain ⟨p, a, b, rfl, hp, hx, hy⟩ := h; exact ⟨p, _, ["array", "expression", "expression"], rfl, hp, (by show (("put" : Str), (["array", "expression", "expression"] : List Str)) ∈ tb_PARTS; decide +kernel), rfl, by decide, by rw [bodL_no (by decide +kernel)]; trivial⟩
  | call x g es => obtain ⟨p, q, vs, rfl, hp, hq, hx⟩ := h; exact ⟨p, _, ["variable", "function", "arguments"], rfl, hp, (by show (("call" : Str), (["variable", "function", "arguments"] : List Str)) ∈ tb_PARTS; decide +kernel), rfl, by decide, by rw [bodL_no (by decide +kernel)]; trivial⟩
  | ret e =>
    cases e with
    | none => obtain ⟨p, rfl, hp⟩ := h; exact ⟨p, _, ["expression"], rfl, hp, (by show (("return" : Str), (["expression"] : List Str)) ∈ tb_PARTS; decide +kernel), rfl, by decide, by rw [bodL_no (by decide +kernel)]; trivial⟩
    | some e => obtain ⟨p, a, rfl, hp, hx⟩ := h; exact ⟨p, _, ["expression"], rfl, hp, (by show (("return" : Str), (["expression"] : List Str)) ∈ tb_PARTS; decide +kernel), rfl, by decide, by rw [bodL_no (by decide +kernel)]; trivial⟩
  | iff e b c =>
    obtain ⟨p, a, q, r, vs, ws, rfl, hp, hx, h1, h2, h3, h4⟩ := h
    refine ⟨p, _, ["expression", "body", "body"], rfl, hp, (by show (("if" : Str), (["expression", "body", "body"] : List Str)) ∈ tb_PARTS; decide +kernel), rfl, by decide, ?_⟩
    rw [bodL_cons (by decide +kernel), bodL_body, bodL_body, bodL_nil]
    exact ⟨⟨q, vs, rfl, h1, h2⟩, ⟨r, ws, rfl, h3, h4⟩, trivial⟩
  | loop e b =>
    obtain ⟨p, a, q, vs, rfl, hp, hx, h1, h2⟩ := h
    refine ⟨p, _, ["expression", "body"], rfl, hp, (by show (("while" : Str), (["expression", "body"] : List Str)) ∈ tb_PARTS; decide +kernel), rfl, by decide, ?_⟩
    rw [bodL_cons (by decide +kernel), bodL_body, bodL_nil]
    exact ⟨⟨q, vs, rfl, h1, h2⟩, trivial⟩
  | brk => obtain ⟨p, rfl, hp⟩ := h; exact ⟨p, _, [], rfl, hp, (by show (("break" : Str), ([] : List Str)) ∈ tb_PARTS; decide +kernel), rfl, by decide, by rw [bodL_nil]; trivial⟩
  | asrt e => obtain ⟨p, a, rfl, hp, hx⟩ := h; exact ⟨p, _, ["expression"], rfl, hp, (by show (("assert" : Str), (["expression"] : List Str)) ∈ tb_PARTS; decide +kernel), rfl, by decide, by rw [bodL_no (by decide +kernel)]; trivial⟩
theorem Sm.dep_bods {m : Nat} {s : Sm} (h : s.dep m) : s.bods ≠ [] → ∃ k, m = k + 1 ∧ ∀ b ∈ s.bods, b.dep k := by
  intro ne
  cases s with
  | iff e b c =>
    cases m with
    | zero => exact h.elim
    | succ k => exact ⟨k, rfl, fun x hx => by
        have : x = b ∨ x = c := by simpa [Sm.bods] using hx
        rcases this with rfl | rfl
        · exact h.1
        · exact h.2⟩
  | loop e b =>
    cases m with
    | zero => exact h.elim
    | succ k => exact ⟨k, rfl, fun x hx => by
        have : x = b := by simpa [Sm.bods] using hx
        subst this
        exact h⟩
  | _ => exact absurd rfl ne
/-- a listed statement: itself, and a flag -/
def LsV (K : PySem.W.Frag) (H : Hp) (s : Sm) (v : V) : Prop := ∃ p u fl, v = .ref p ∧ SqT K H p [u, .bl fl] ∧ SmAt K H s u
theorem LsV.keep {K : PySem.W.Frag} {H H' : Hp} (kp : Keeps K H H') {s : Sm} {v : V} (h : LsV K H s v) : LsV K H' s v := by
  obtain ⟨p, u, fl, e, h1, h2⟩ := h
  exact ⟨p, u, fl, e, kp _ _ h1, h2.keep kp⟩
def spLsB (K : PySem.W.Frag) (m : Nat) : Sp := fun vs H Q _ => ∃ (q : Addr) (us : List V) (b : Bd) (fl : Bool), vs = [.ref q, .bl fl] ∧ SqT K H q us ∧ BdL K H b us ∧ b.dep m ∧ b.cnt ≤ 400 ∧
  ∀ (D : Addr) (ps : List V) (H' : Hp), Same H H' → H D = none → H' D = some (.lst ps) → A2 (LsV K H') b.pre ps → Q (.ref D) H'
theorem pre_flatB {bs : List Bd} {j : Nat} {b : Bd} (h : bs[j]? = some b) : (bs.take (j + 1)).flatMap Bd.pre = (bs.take j).flatMap Bd.pre ++ b.pre := by
  rw [List.take_add_one, h, List.flatMap_append]
  simp
theorem pre_partB {bs : List Bd} {j : Nat} {b : Bd} (h : bs[j]? = some b) : ((bs.take j).flatMap Bd.pre).length + b.pre.length ≤ (bs.flatMap Bd.pre).length := by
  have e : bs.flatMap Bd.pre = (bs.take (j + 1)).flatMap Bd.pre ++ (bs.drop (j + 1)).flatMap Bd.pre := by rw [← List.flatMap_append, List.take_append_drop]
  rw [e, List.length_append, pre_flatB h, List.length_append]
  omega
section
variable {P : Program} {w : World} {K : PySem.W.Frag} {mg : Str → Option Value} {base : Heap}
theorem ok_lsB0 (T : Txt w K mg) {m : Nat} (g_list_statements : FnOk P w K mg base CX0 (m + 3) T.a_list_statements T.d_list_statements p_list_statements (match m with | 0 => fun _ _ _ _ => False | k + 1 => spLsB K k)) :
    FnOk P w K mg base CX0 (m + 4) T.a_list_statements T.d_list_statements p_list_statements (spLsB K m) := by
  have g_bodies_of := ok_bodies_of (P := P) (base := base) T
  obtain ⟨ds_e, e_list_statements⟩ := T.e_list_statements
  obtain ⟨ds_b, b_list_statements⟩ := T.b_list_statements
  refine fund_ok T.F_list_statements sc_list_statements (fun vs H Q E h => ?_) (fun cdv A outer s H vs Q E hr h => ?_)
  · obtain ⟨q, us, t, fl, rfl, _⟩ := h
    rfl
  obtain ⟨qa, us, t, fl, rfl, hq, ht, hd, hc, q⟩ := h
  refine ⟨_, (pss_cons (ps_set (i := 2) sc_list_statements.nd rfl (Or.inl rfl) (pe_lst pa_nil))
      (pss_cons (ps_for PassesOwn.never rfl (pi_tup (pv 0)) (pg_name (i := 3) sc_list_statements.nd rfl (Or.inl rfl))
        (pss_cons (ps_expr (pe_bm PySem.F.plainAttrs_list PySem.F.slot_list_append PySem.F.type_list_append mt_append (pv 2) (pa_cons (pe_tup (pa_cons (pv 3) (pa_cons (pv 1) pa_nil))) pa_nil)))
      (pss_one (ps_for PassesOwn.never rfl (pi_list (pe_call g_bodies_of (hr.mono (by first | decide | omega)) rfl T.m_bodies_of T.F_bodies_of.kp T.b_bodies_of .nil pass0 (pa_cons (pv 3) pa_nil))) (pg_name (i := 4) sc_list_statements.nd rfl (Or.inl rfl))
        (pss_one (ps_expr (pe_bm PySem.F.plainAttrs_list PySem.F.slot_list_extend PySem.F.type_list_extend mt_extend (pv 2) (pa_cons (pe_call g_list_statements (hr.mono (by first | decide | omega)) rfl T.m_list_statements T.F_list_statements.kp b_list_statements.2 b_list_statements.1 pass0 (pa_cons (pv 4) (pa_cons (pe_or (pv 1) (pe_one (pe_cmpR op_eq (pe_ix ix_tup (pv 3) pe_int (fun _ _ => rfl)) pe_str (nomark _)))) pa_nil))) pa_nil))))))))
      (pss_one (ps_ret (pv 2))))), ?_⟩
  refine ⟨by show 0 ≤ sizeLine; decide, fun l hl0 => ?_⟩
  have s0 := Same.new hl0 (.lst [])
  refine ⟨_, rfl, qa, rfl, ⟨_, Same.tup s0 hq⟩, for_tup (K := K) (a := qa) (xs := us) (fun i σ H' => Same H H' ∧ ∃ (ps : List V) (dn : List Sm) (r : Bd) (v3 v4 : Option V), σ = [some (.ref qa), some (.bl fl), some (.ref l), v3, v4] ∧ H' l = some (.lst ps) ∧ A2 (LsV K H') dn ps ∧ BdL K H' r (us.drop i) ∧ r.dep m ∧ t.pre = dn ++ r.pre)
    ⟨s0, [], [], t, none, none, rfl, upd_same, trivial, ht.keep (Keeps.of_same s0), hd, rfl⟩ (fun i σ H' _ ⟨h, _⟩ => Same.tup h hq) ?_ ?_⟩
  · rintro i v σ H' hi ⟨sm, ps, dn, r, v3, v4, rfl, hl, hp, htr, hdr, epre⟩
    have hil : i < us.length := (List.getElem?_eq_some_iff.mp hi).1
    have dr : us.drop i = v :: us.drop (i + 1) := by
      rw [List.drop_eq_getElem_cons hil]
      congr 1
      exact (List.getElem?_eq_some_iff.mp hi).2
    rw [dr] at htr
    have plen := hp.len
    have tlen := Bd.pre_len t
    have dlen : dn.length + r.pre.length ≤ 400 := by
      rw [← List.length_append, ← epre, tlen]
      exact hc
    cases r with
    | nil => cases (show v :: us.drop (i + 1) = [] from htr)
    | cons st r2 =>
    obtain ⟨v', ws, ev, xst, ht2⟩ := htr
    obtain ⟨rfl, rfl⟩ := List.cons.inj ev
    have hdr : st.dep m ∧ r2.dep m := hdr
    obtain ⟨hds, hd2⟩ := hdr
    have er : (Bd.cons st r2).pre = st :: (st.bods.flatMap Bd.pre ++ r2.pre) := by
      show st.pre ++ r2.pre = _
      rw [Sm.pre_eq]
      rfl
    have dep' := Sm.dep_bods hds
    obtain ⟨p, rest, roles, rfl, hpt, htb, hlen, h10, hbo⟩ := xst.bodI
    refine ⟨_, rfl, .inl ⟨rfl, _, SqL.of hl⟩, _, rfl, _, rfl, by show 2 ≤ sizeLine; decide, fun e he => ?_⟩
    have se := Same.new he (.tup [.ref p, .bl fl])
    refine ⟨l, _, _, rfl, rfl, se _ _ hl, lt_line (by omega), ?_⟩
    have smA : Same H (upd (upd H' e (.tup [.ref p, .bl fl])) l (.lst (ps ++ [.ref e]))) := Same.grow hl0 (sm.trans se)
    have hlA : (upd (upd H' e (.tup [.ref p, .bl fl])) l (.lst (ps ++ [.ref e]))) l = some (.lst (ps ++ [.ref e])) := upd_same
    have kA : Keeps K H' (upd (upd H' e (.tup [.ref p, .bl fl])) l (.lst (ps ++ [.ref e]))) := fun z ys h => keep_lst (se _ _ hl) _ _ (Keeps.of_same se _ _ h)
    have pA : A2 (LsV K (upd (upd H' e (.tup [.ref p, .bl fl])) l (.lst (ps ++ [.ref e])))) (dn ++ [st]) (ps ++ [.ref e]) :=
      (hp.imp fun _ _ => LsV.keep kA).snoc ⟨e, .ref p, fl, rfl, keep_lst (se _ _ hl) _ _ (SqT.of upd_same), xst.keep kA⟩
    have ht2 := ht2.keep kA
    have hbo := hbo.imp fun _ _ => BodV.keep kA
    have hptA := kA _ _ hpt
    generalize (upd (upd H' e (.tup [.ref p, .bl fl])) l (.lst (ps ++ [.ref e]))) = HA at smA hlA kA pA ht2 hbo hptA ⊢
    refine ⟨_, rfl, p, st.word, rest, roles, rfl, hptA, htb, hlen, h10, fun B HB smB hB0 hB => ?_⟩
    have nBl : l ≠ B := ne_of_none hlA hB0
    generalize hbl : bodL roles rest = bl at hbo hB
    have bll := hbo.len
    refine ⟨B, rfl, ⟨_, SqL.of hB⟩, for_list (K := K) (a := B) (xs := bl) (fun j σ H5 => (Same H H5 ∧ Keeps K HA H5) ∧ H5 B = some (.lst bl) ∧ ∃ (ps : List V) (v4 : Option V), σ = [some (.ref qa), some (.bl fl), some (.ref l), some (.ref p), v4] ∧ H5 l = some (.lst ps) ∧ A2 (LsV K H5) (dn ++ [st] ++ (st.bods.take j).flatMap Bd.pre) ps)
      ⟨⟨smA.trans smB, Keeps.of_same smB⟩, hB, ps ++ [.ref e], v4, rfl, smB _ _ hlA, by simpa using (pA.imp fun _ _ => LsV.keep (Keeps.of_same smB))⟩ (fun j σ H5 _ ⟨_, h, _⟩ => SqL.of h) ?_ ?_⟩
    · rintro j y σ H5 hj ⟨⟨sm5, kp5⟩, hB5, ps5, v4, rfl, hl5, hp5⟩
      obtain ⟨b, hb, qb, ub, rfl, hqb, hub⟩ := (hbo.imp fun _ _ => BodV.keep kp5).atv hj
      obtain ⟨k, rfl, hdb⟩ := dep' (fun z => by rw [z] at hb; simp at hb)
      have hdb := hdb b (List.mem_of_getElem? hb)
      have pp := pre_partB hb
      have bl2 := Bd.pre_len b
      have p5 := hp5.len
      have epl := congrArg List.length epre
      rw [er] at epl
      simp only [List.length_append, List.length_cons, List.length_singleton, List.length_nil] at epl p5
      have bc : b.cnt ≤ 400 := by omega
      refine ⟨_, rfl, .inl ⟨rfl, _, SqL.of hl5⟩, _, rfl, ?_⟩
      have call : ∀ (f2 : Bool), spLsB K k [.ref qb, .bl f2] H5 (fun z H6 => ∃ (lz bz : Addr) (xs ys : List V), V.ref l = .ref lz ∧ [z] = [.ref bz] ∧ H6 lz = some (.lst xs) ∧ H6 bz = some (.lst ys) ∧ xs.length + ys.length ≤ sizeLine ∧
          (fun σ H' => (Same H H' ∧ Keeps K HA H') ∧ H' B = some (.lst bl) ∧ ∃ (ps : List V) (v4 : Option V), σ = [some (.ref qa), some (.bl fl), some (.ref l), some (.ref p), v4] ∧ H' l = some (.lst ps) ∧ A2 (LsV K H') (dn ++ [st] ++ (st.bods.take (j + 1)).flatMap Bd.pre) ps) [some (.ref qa), some (.bl fl), some (.ref l), some (.ref p), some (.ref qb)] (upd H6 lz (.lst (xs ++ ys)))) E0 := by
        intro f2
        refine ⟨qb, ub, b, f2, rfl, hqb, hub, hdb, bc, fun D pD H6 sm6 hD0 hD hpD => ?_⟩
        have pdl := hpD.len
        have hl6 := sm6 _ _ hl5
        have k6 := Keeps.of_same (K := K) sm6
        have kl := keep_lst (K := K) (o := .lst (ps5 ++ pD)) hl6
        refine ⟨l, D, _, _, rfl, rfl, hl6, hD, ?_, ⟨Same.grow hl0 (sm5.trans sm6), fun z ys h => kl _ _ (k6 _ _ (kp5 _ _ h))⟩, ?_, ps5 ++ pD, _, rfl, upd_same, ?_⟩
        · rw [sizeLine_eq]
          omega
        · rw [upd_ne nBl.symm]
          exact sm6 _ _ hB5
        · rw [pre_flatB hb, ← List.append_assoc]
          exact A2.app (hpD.imp fun _ _ => LsV.keep kl) ((hp5.imp fun _ _ => LsV.keep k6).imp fun _ _ => LsV.keep kl)
      have hp5' : SqT K H5 p (.str st.word :: rest) := kp5 _ _ hptA
      refine ⟨_, rfl, fl, rfl, ite2 (fun _ => call true) (fun _ => ?_)⟩
      refine ⟨_, rfl, p, _, 0, _, rfl, rfl, hp5', at0, rfl, call _⟩
    · rintro σ H5 ⟨⟨sm5, kp5⟩, hB5, ps5, v4', rfl, hl5, hp5⟩
      rw [bll, List.take_length] at hp5
      refine ⟨sm5, ps5, _, r2, _, _, rfl, hl5, hp5, ht2.keep kp5, hd2, ?_⟩
      rw [epre, er]
      simp
  · rintro σ H' ⟨sm, ps, dn, r, v3, v4, rfl, hl, hp, htr, hdr, epre⟩
    rw [List.drop_length] at htr
    have er : r = .nil := by
      cases r with
      | nil => rfl
      | cons _ _ => obtain ⟨_, _, e, _⟩ := htr; cases e
    subst er
    have epre : t.pre = dn ++ [] := epre
    rw [List.append_nil] at epre
    refine ⟨_, rfl, q l ps H' sm hl0 hl ?_⟩
    rw [epre]
    exact hp
theorem ok_lsB (T : Txt w K mg) : ∀ m : Nat, FnOk P w K mg base CX0 (m + 4) T.a_list_statements T.d_list_statements p_list_statements (spLsB K m)
  | 0 => ok_lsB0 T (fn_vac fun _ _ _ _ h => h)
  | m + 1 => ok_lsB0 T (ok_lsB T m)
end
open DcS (dc_it)
/-! ### names and kinds in a dict -/
def KvAt (K : PySem.W.Frag) (H : Hp) : List Pk → List (Key × V) → Prop
  | [], [] => True
  | a :: l, kv :: r => kv.1 = Sum.inr a.1 ∧ KdAt K H kv.2 a.2 ∧ KvAt K H l r
  | _, _ => False
theorem KvAt.len {K : PySem.W.Frag} {H : Hp} : ∀ {l : List Pk} {r : List (Key × V)}, KvAt K H l r → r.length = l.length
  | [], [], _ => rfl
  | _ :: _, _ :: _, h => congrArg (· + 1) (KvAt.len h.2.2)
  | [], _ :: _, h => h.elim
  | _ :: _, [], h => h.elim
theorem KvAt.keep {K : PySem.W.Frag} {H H' : Hp} (kp : Keeps K H H') : ∀ {l : List Pk} {r : List (Key × V)}, KvAt K H l r → KvAt K H' l r
  | [], [], _ => trivial
  | _ :: _, _ :: _, h => ⟨h.1, h.2.1.keep kp, KvAt.keep kp h.2.2⟩
  | [], _ :: _, h => h.elim
  | _ :: _, [], h => h.elim
theorem KvAt.mem {K : PySem.W.Frag} {H : Hp} : ∀ {l : List Pk} {r : List (Key × V)} {a : Pk}, KvAt K H l r → a ∈ l → ∃ kv ∈ r, kv.1 = Sum.inr a.1 ∧ KdAt K H kv.2 a.2
  | [], [], _, _, e => by cases e
  | b :: _, kv :: _, a, h, e => by
    rcases List.mem_cons.mp e with rfl | e
    · exact ⟨kv, List.mem_cons_self, h.1, h.2.1⟩
    · obtain ⟨kv, m, q⟩ := KvAt.mem h.2.2 e
      exact ⟨kv, List.mem_cons_of_mem _ m, q⟩
  | [], _ :: _, _, h, _ => h.elim
  | _ :: _, [], _, h, _ => h.elim
theorem KvAt.keys {K : PySem.W.Frag} {H : Hp} : ∀ {l : List Pk} {r : List (Key × V)}, KvAt K H l r → r.map (·.1) = l.map fun a => (Sum.inr a.1 : Key)
  | [], [], _ => rfl
  | _ :: _, _ :: _, h => by rw [List.map_cons, List.map_cons, h.1, KvAt.keys h.2.2]
  | [], _ :: _, h => h.elim
  | _ :: _, [], h => h.elim
theorem KvAt.nd {K : PySem.W.Frag} {H : Hp} {l : List Pk} {r : List (Key × V)} (h : KvAt K H l r) (n : (l.map (·.1)).Nodup) : (r.map (·.1)).Nodup := by
  rw [h.keys]
  have e : (l.map fun a => (Sum.inr a.1 : Key)) = (l.map (·.1)).map Sum.inr := by rw [List.map_map]; rfl
  rw [e]
  exact List.Pairwise.map _ (fun a b z w => z (Sum.inr.inj w)) n
theorem val_self : ∀ {kvs : List (Key × V)}, (kvs.map (·.1)).Nodup → ∀ p ∈ kvs, valV kvs p.1 = some p.2
  | [], _, _, h => nomatch h
  | q :: r, nd, p, h => by
    have nd' := List.nodup_cons.mp nd
    rcases List.mem_cons.mp h with rfl | h
    · exact valV_pos rfl
    · rw [valV_neg (fun z => nd'.1 (List.mem_map.mpr ⟨p, h, z.symm⟩))]
      exact val_self nd'.2 p h
theorem valV_out {kvs : List (Key × V)} {k : Key} (h : k ∉ kvs.map (·.1)) : valV kvs k = none := by
  cases e : valV kvs k with
  | none => rfl
  | some v => exact absurd (valV_in e) (by
      intro z
      exact h (by first | exact z | exact List.mem_map.mpr ⟨_, z, rfl⟩))
theorem merge_app : ∀ (kvs acc : List (Key × V)), ((acc ++ kvs).map (·.1)).Nodup → mergeK acc kvs = acc ++ kvs
  | [], acc, _ => (List.append_nil _).symm
  | p :: r, acc, h => by
    have hn : p.1 ∉ acc.map (·.1) := by
      rw [List.map_append, List.map_cons] at h
      intro z
      exact (List.nodup_append.mp h).2.2 _ z _ List.mem_cons_self rfl
    show mergeK (putK acc p.1 p.2) r = _
    rw [putK_new _ (valV_out hn), merge_app r (acc ++ [(p.1, p.2)]) (by rw [List.append_assoc]; exact h), List.append_assoc]
    rfl
theorem merge_nil {kvs : List (Key × V)} (h : (kvs.map (·.1)).Nodup) : mergeK [] kvs = kvs := merge_app kvs [] h
theorem PksL.pr {K : PySem.W.Frag} {H : Hp} : ∀ {l : List Pk} {vs : List V}, PksL K H l vs → ∃ (ps : List Addr) (kvs : List (Key × V)), vs = ps.map V.ref ∧ Paired (fun p kv => SqT K H p [kV kv.1, kv.2]) ps kvs ∧ KvAt K H l kvs
  | [], [], _ => ⟨[], [], rfl, .nil, trivial⟩
  | a :: l, v :: vs, ⟨⟨p, kv, e, h1, h2⟩, r⟩ => by
    obtain ⟨ps, kvs, e2, h3, h4⟩ := PksL.pr r
    exact ⟨p :: ps, (Sum.inr a.1, kv) :: kvs, by rw [e, e2]; rfl, .cons h1 h3, rfl, h2, h4⟩
  | [], _ :: _, h => h.elim
  | _ :: _, [], h => h.elim
def DctAt (K : PySem.W.Frag) (H : Hp) (d : Addr) (l : List Pk) : Prop := ∃ kvs, H d = some (.dK kvs) ∧ KvAt K H l kvs ∧ (kvs.map (·.1)).Nodup
theorem DctAt.mono {K : PySem.W.Frag} {H H' : Hp} {d : Addr} {l : List Pk} (kp : Keeps K H H') (m : ∀ o, H d = some o → H' d = some o) (h : DctAt K H d l) : DctAt K H' d l := by
  obtain ⟨kvs, h1, h2, h3⟩ := h
  exact ⟨kvs, m _ h1, h2.keep kp, h3⟩
theorem DctAt.get {K : PySem.W.Frag} {H : Hp} {d : Addr} {l : List Pk} {x : Str} {k : Kd} (h : DctAt K H d l) (m : (x, k) ∈ l) : ∃ kvs kv, H d = some (.dK kvs) ∧ valV kvs (Sum.inr x) = some kv ∧ KdAt K H kv k := by
  obtain ⟨kvs, h1, h2, h3⟩ := h
  obtain ⟨kv, m2, e, q⟩ := h2.mem m
  have := val_self h3 kv m2
  rw [e] at this
  exact ⟨kvs, kv.2, h1, this, q⟩
def spVkP (K : PySem.W.Frag) : Sp := fun vs H Q _ => ∃ (v u : V) (p : Pg) (f : Fd), vs = [v, u] ∧ PgAt K H v p ∧ FdAt K H f u ∧ ((visP p.gl f).map (·.1)).Nodup ∧ (visP p.gl f).length ≤ 100 ∧
  ∀ (d : Addr) (H' : Hp), Same H H' → DctAt K H' d (visP p.gl f) → Q (.ref d) H'
/-- dict(t) of a tuple of pairs, told by its frame: a name for what it asks -/
def rDictPT (K : PySem.W.Frag) (xs : List V) (H : Hp) (Q : V → Hp → Prop) : Prop := ∃ (a : Addr) (o : Obj) (ps : List Addr) (kvs : List (Key × V)), xs = [.ref a] ∧ H a = some (.frz o (.tup (ps.map V.ref))) ∧ o.dict = none ∧ Paired (fun p kv => SqT K H p [kV kv.1, kv.2]) ps kvs ∧
    ∀ p, H p = none → Q (.ref p) (upd H p (.dK (mergeK [] kvs)))
theorem call_dictPK {X : Cx} (hcalm : X.calm = true) : CallR X (.type "dict") (rDictPT X.K) := DTL.call_dictPT hcalm
section
variable {P : Program} {w : World} {K : PySem.W.Frag} {mg : Str → Option Value} {base : Heap}
theorem ok_visible_kinds (T : Txt w K mg) : FnOk P w K mg base CX0 1 T.a_visible_kinds T.d_visible_kinds p_visible_kinds (spVkP K) := by
  refine T.F_visible_kinds.ok sc_visible_kinds (fun vs H Q E h => ?_) (fun cdv A outer s H vs Q E hr h => ?_)
  · obtain ⟨v, u, p, f, rfl, _⟩ := h
    rfl
  obtain ⟨v, u, Pm, f, rfl, hp, hf, nd, lv, q⟩ := h
  refine ⟨_, (pss_one (ps_ret (pe_callTy (call_dictP rfl) rfl T.z_dict bt_dict (pa_cons (pe_lst (StX.pa_star (pe_ix ix_tup (pv 0) pe_int (fun _ _ => rfl)) (StX.pa_star (pe_ix ix_tup (pv 1) pe_int (fun _ _ => rfl)) (StX.pa_star (pe_ix ix_tup (pv 1) pe_int (fun _ _ => rfl)) pa_nil)))) pa_nil)))), ?_⟩
  obtain ⟨p, r, rx, a, ax, g, fa, fx, rfl, h1, h2, h3, h4, h5, ⟨gx, zt, px⟩, h7, h8⟩ := hp
  obtain ⟨F, t1, x1, rv, t3, x3, t4, x4, rfl, f1, f2, f3, f4, f5, f6, f7, f8⟩ := hf
  have pe : PksL K H (visP Pm.gl f) (gx ++ x1 ++ x3) := A2.app f6 (A2.app f3 px)
  have le := pe.len
  refine ⟨_, rfl, p, _, _, _, rfl, rfl, h1, rfl, g, _, rfl, .inl zt.sq, _, rfl, F, _, _, _, rfl, rfl, f1, rfl, t1, _, rfl, .inl f2, _, rfl, F, _, _, _, rfl, rfl, f1, rfl, t3, _, rfl, .inl f5, ?_, fun L hL => ?_⟩
  · simp only [List.length_append, List.length_nil] at le ⊢
    exact Nat.le_of_lt (small1000 (by omega))
  have sL := Same.new hL (.lst (gx ++ (x1 ++ (x3 ++ []))))
  obtain ⟨ps, kvs, e, pr, kv⟩ := (pe.keep (Keeps.of_same sL)).pr
  refine ⟨L, ps, kvs, rfl, SqL.of (by rw [upd_same, ← e]; simp [List.append_assoc]), pr, fun d hd => ?_⟩
  have ndk := kv.nd nd
  rw [merge_nil ndk]
  have s2 := Same.new hd (.dK kvs)
  exact q d _ (sL.trans s2) ⟨kvs, upd_same, kv.keep (Keeps.of_same s2), ndk⟩
end
/-! ### scopes -/
def SmX (x : Addr) (H H' : Hp) : Prop := ∀ b o, b ≠ x → H b = some o → H' b = some o
/-- records by their names, functions by theirs -/
def RcsAt (K : PySem.W.Frag) (H : Hp) (d : Addr) (rc : List (Str × List Pk)) : Prop := ∃ kvs, H d = some (.dK kvs) ∧ ∀ r ∈ rc, ∃ d2, valV kvs (Sum.inr r.1) = some (.ref d2) ∧ d2 ≠ d ∧ DctAt K H d2 r.2
def FnsAt (K : PySem.W.Frag) (H : Hp) (d : Addr) (fn : List Fd) : Prop := ∃ kvs, H d = some (.dK kvs) ∧ ∀ f ∈ fn, ∃ v, valV kvs (Sum.inr f.nm) = some v ∧ FdAt K H f v
/-- no field has the name of a method -/
def NoM (fs : List (Str × V)) : Prop := fs.lookup ("field_kind" : Str) = none ∧ fs.lookup ("declares" : Str) = none
theorem NoM.put {fs : List (Str × V)} {n : Str} {v : V} (h : NoM fs) (e : n ≠ "field_kind" ∧ n ≠ "declares") : NoM (putF n v fs) := ⟨by rw [lookup_putF, if_neg e.1.symm]; exact h.1, by rw [lookup_putF, if_neg e.2.symm]; exact h.2⟩
structure ScAt (K : PySem.W.Frag) (C : Addr) (H : Hp) (x : Addr) (Pm : Pg) (f : Fd) : Prop where
  ex : ∃ dx fs rv dk dr df, H x = some (.ins C dx fs) ∧ fs.lookup ("result" : Str) = some rv ∧ OkdAt K H rv f.rs ∧ fs.lookup ("kinds" : Str) = some (.ref dk) ∧ DctAt K H dk (visP Pm.gl f) ∧ fs.lookup ("records" : Str) = some (.ref dr) ∧ RcsAt K H dr Pm.rc ∧ fs.lookup ("functions" : Str) = some (.ref df) ∧ FnsAt K H df Pm.fn ∧ NoM fs
theorem RcsAt.mono {K : PySem.W.Frag} {H H' : Hp} {d : Addr} {rc : List (Str × List Pk)} (kp : Keeps K H H') (m : ∀ b kvs, H b = some (.dK kvs) → H' b = some (.dK kvs)) (h : RcsAt K H d rc) : RcsAt K H' d rc := by
  obtain ⟨kvs, e, h⟩ := h
  refine ⟨kvs, m _ _ e, fun r hr => ?_⟩
  obtain ⟨d2, h1, h2, ⟨kv2, h3, h4, h5⟩⟩ := h r hr
  exact ⟨d2, h1, h2, kv2, m _ _ h3, h4.keep kp, h5⟩
theorem FnsAt.mono {K : PySem.W.Frag} {H H' : Hp} {d : Addr} {fn : List Fd} (kp : Keeps K H H') (m : ∀ b kvs, H b = some (.dK kvs) → H' b = some (.dK kvs)) (h : FnsAt K H d fn) : FnsAt K H' d fn := by
  obtain ⟨kvs, e, h⟩ := h
  refine ⟨kvs, m _ _ e, fun r hr => ?_⟩
  obtain ⟨v, h1, h2⟩ := h r hr
  exact ⟨v, h1, h2.keep kp⟩
theorem ScAt.mono {K : PySem.W.Frag} {C : Addr} {H H' : Hp} {x : Addr} {Pm : Pg} {f : Fd} (kp : Keeps K H H') (m : ∀ b kvs, H b = some (.dK kvs) → H' b = some (.dK kvs)) (mx : ∀ o, H x = some o → H' x = some o) (h : ScAt K C H x Pm f) : ScAt K C H' x Pm f := by
  obtain ⟨dx, fs, rv, dk, dr, df, h1, h2, h3, h4, ⟨kv, h5, h5b⟩, h6, h7, h8, h9, h10⟩ := h.ex
  exact ⟨dx, fs, rv, dk, dr, df, mx _ h1, h2, h3.keep kp, h4, ⟨kv, m _ _ h5, h5b.1.keep kp, h5b.2⟩, h6, h7.mono kp m, h8, h9.mono kp m, h10⟩
theorem ScAt.same {K : PySem.W.Frag} {C : Addr} {H H' : Hp} {x : Addr} {Pm : Pg} {f : Fd} (s : Same H H') (h : ScAt K C H x Pm f) : ScAt K C H' x Pm f := h.mono (Keeps.of_same s) (fun b _ e => s b _ e) fun o e => s x o e
def spScope (K : PySem.W.Frag) (C : Addr) : Sp := fun vs H Q _ => ∃ (x dx : Addr) (v u : V) (Pm : Pg) (f : Fd), vs = [.ref x, v, u] ∧ H x = some (.ins C dx []) ∧ PgAt K H v Pm ∧ FdAt K H f u ∧ f ∈ Pm.fn ∧ PgOk Pm ∧ ∀ H', SmX x H H' → ScAt K C H' x Pm f → Q .non H'
theorem lk_put {n g : Str} {v u : V} {fs : List (Str × V)} (h : fs.lookup g = some u) (e : g ≠ n) : (putF n v fs).lookup g = some u := by rw [lookup_putF, if_neg e]; exact h
theorem lk_new {n : Str} {v : V} {fs : List (Str × V)} : (putF n v fs).lookup n = some v := by rw [lookup_putF, if_pos rfl]
theorem ln_put {n : Str} {v : V} {fs : List (Str × V)} {k : Nat} (h : fs.length ≤ k) : (putF n v fs).length ≤ k + 1 := by have := length_putF n v fs; omega
theorem keep_ins {K : PySem.W.Frag} {H : Hp} {x C dx : Addr} {fs : List (Str × V)} {o : HO} (h : H x = some (.ins C dx fs)) : Keeps K H (upd H x o) ∧ KeepZ H (upd H x o) := by
  refine ⟨fun p xs q => ?_, fun p o' ys e => by rw [upd_ne (ne_of e h (by intro z; cases z))]; exact e⟩
  rcases q with (q | ⟨o', q⟩) | q
  · exact .inl (.inl (by rw [upd_ne (ne_of q h (by intro z; cases z))]; exact q))
  · exact .inl (.inr ⟨o', by rw [upd_ne (ne_of q h (by intro z; cases z))]; exact q⟩)
  · exact .inr q
theorem nd_take {α : Type} {l : List (Str × α)} (nd : (l.map (·.1)).Nodup) {i : Nat} {a : Str × α} (h : l[i]? = some a) : ∀ b ∈ l.take i, b.1 ≠ a.1 := fun b hb e => by
  have e2 : l.take (i + 1) = l.take i ++ [a] := by
    rw [List.take_add_one, h]
    rfl
  have s : ((l.take (i + 1)).map (·.1)).Nodup := List.Nodup.sublist ((List.take_sublist _ _).map _) nd
  rw [e2, List.map_append] at s
  exact (List.nodup_append.mp s).2.2 _ (List.mem_map.mpr ⟨b, hb, rfl⟩) a.1 (by simp) e
section
variable {P : Program} {w : World} {K : PySem.W.Frag} {mg : Str → Option Value} {base : Heap}
theorem ok_Scope_init (T : Txt w K mg) : FnOk P w K mg base CX0 2 T.a_Scope_init T.d_Scope_init p_Scope_init (spScope K T.C_Scope) := by
  have g_visible_kinds := ok_visible_kinds (P := P) (w := w) (K := K) (base := base) T
  refine T.F_Scope_init.ok sc_Scope_init (fun vs H Q E h => ?_) (fun cdv A outer s H vs Q E hr h => ?_)
  · obtain ⟨x, dx, v, u, Pm, f, rfl, _⟩ := h
    rfl
  obtain ⟨x, dx, v, u, Pm, f, rfl, hx, hp, hf, mf, ok, q⟩ := h
  refine ⟨_, (pss_cons (ps_fld (pv 0) (pe_ix ix_tup (pv 2) pe_int (fun _ _ => rfl)) rfl)
      (pss_cons (ps_fld (pv 0) (pe_ix ix_tup (pv 2) pe_int (fun _ _ => rfl)) rfl)
      (pss_cons (ps_fld (pv 0) (pe_call g_visible_kinds (hr.mono (by first | decide | omega)) rfl T.m_visible_kinds T.F_visible_kinds.kp T.b_visible_kinds .nil pass0 (pa_cons (pv 1) (pa_cons (pv 2) pa_nil))) rfl)
      (pss_cons (ps_fld (pv 0) (pe_dc (own := [("record", 3)]) (g := gName 3) (tt := tYes) rfl sc_Scope_init.nd (pi_tup (pe_ix ix_tup (pv 1) pe_int (fun _ _ => rfl))) (blkOk_by (own := [("record", 3)]) (N := n_Scope_init) (sc := defScope s_Scope_init) (by decide +kernel)) (fun _ _ _ _ _ => (pg_name (i := 3) sc_Scope_init.nd rfl (Or.inl rfl))) (fun _ _ _ _ _ => pts_nil) (fun _ _ _ _ _ => (pe_ix (show IxR _ (rIxT K) from ix_tup) (pv 3) pe_int (fun _ _ => rfl))) (fun _ _ _ _ _ => (pe_callTy (show CallR _ _ (rDictPT K) from (call_dictPK rfl)) rfl T.z_dict bt_dict (pa_cons (pe_ix (show IxR _ (rIxT K) from ix_tup) (pv 3) pe_int (fun _ _ => rfl)) pa_nil)))) rfl)
      (pss_cons (ps_fld (pv 0) (pe_dc (own := [("array", 4)]) (g := gName 4) (tt := tYes) rfl sc_Scope_init.nd (pi_tup (pe_ix ix_tup (pv 1) pe_int (fun _ _ => rfl))) (blkOk_by (own := [("array", 4)]) (N := n_Scope_init) (sc := defScope s_Scope_init) (by decide +kernel)) (fun _ _ _ _ _ => (pg_name (i := 4) sc_Scope_init.nd rfl (Or.inl rfl))) (fun _ _ _ _ _ => pts_nil) (fun _ _ _ _ _ => (pe_ix (show IxR _ (rIxT K) from ix_tup) (pv 4) pe_int (fun _ _ => rfl))) (fun _ _ _ _ _ => (pv 4))) rfl)
      (pss_one (ps_fld (pv 0) (pe_dc (own := [("other", 5)]) (g := gName 5) (tt := tYes) rfl sc_Scope_init.nd (pi_tup (pe_ix ix_tup (pv 1) pe_int (fun _ _ => rfl))) (blkOk_by (own := [("other", 5)]) (N := n_Scope_init) (sc := defScope s_Scope_init) (by decide +kernel)) (fun _ _ _ _ _ => (pg_name (i := 5) sc_Scope_init.nd rfl (Or.inl rfl))) (fun _ _ _ _ _ => pts_nil) (fun _ _ _ _ _ => (pe_ix (show IxR _ (rIxT K) from ix_tup) (pv 5) pe_int (fun _ _ => rfl))) (fun _ _ _ _ _ => (pv 5))) rfl))))))), ?_⟩
  have hp0 := hp
  have hf0 := hf
  obtain ⟨p, r, rx, a, ax, g, fa, fx, rfl, h1, h2, h3, h4, h5, h6, h7, h8⟩ := hp
  obtain ⟨F, t1, x1, rv, t3, x3, t4, x4, rfl, f1, f2, f3, f4, f5, f6, f7, f8⟩ := hf
  -- name, result
  refine ⟨_, rfl, F, _, _, _, rfl, rfl, f1, rfl, _, rfl, x, T.C_Scope, dx, _, rfl, hx, T.cl_Scope, T.no_Scope_name, by decide, ?_⟩
  obtain ⟨k1, z1⟩ := keep_ins (K := K) (o := .ins T.C_Scope dx (putF "name" (.str f.nm) [])) hx
  have S1 : SmX x H (upd H x (.ins T.C_Scope dx (putF "name" (.str f.nm) []))) := fun b o hb e => by rw [upd_ne hb]; exact e
  have e1 : (upd H x (.ins T.C_Scope dx (putF "name" (.str f.nm) []))) x = some (.ins T.C_Scope dx (putF "name" (.str f.nm) [])) := upd_same
  generalize (upd H x (.ins T.C_Scope dx (putF "name" (.str f.nm) []))) = H1 at *
  have l1 : (putF "name" (.str f.nm) ([] : List (Str × V))).length ≤ 1 := ln_put (Nat.le_refl _)
  have mm1 : NoM (putF "name" (.str f.nm) ([] : List (Str × V))) := NoM.put ⟨rfl, rfl⟩ (by decide +kernel)
  generalize (putF "name" (.str f.nm) ([] : List (Str × V))) = fs1 at *
  refine ⟨_, rfl, F, _, _, _, rfl, rfl, k1 _ _ f1, rfl, _, rfl, x, T.C_Scope, dx, _, rfl, e1, T.cl_Scope, T.no_Scope_result, by omega, ?_⟩
  obtain ⟨k2, z2⟩ := keep_ins (K := K) (o := .ins T.C_Scope dx (putF "result" rv fs1)) e1
  have S2 : SmX x H (upd H1 x (.ins T.C_Scope dx (putF "result" rv fs1))) := fun b o hb e => by rw [upd_ne hb]; exact S1 b o hb e
  have e2 : (upd H1 x (.ins T.C_Scope dx (putF "result" rv fs1))) x = some (.ins T.C_Scope dx (putF "result" rv fs1)) := upd_same
  have K2 : Keeps K H (upd H1 x (.ins T.C_Scope dx (putF "result" rv fs1))) := fun p xs h => k2 _ _ (k1 _ _ h)
  have Z2 : KeepZ H (upd H1 x (.ins T.C_Scope dx (putF "result" rv fs1))) := fun p o xs h => z2 _ _ _ (z1 _ _ _ h)
  generalize (upd H1 x (.ins T.C_Scope dx (putF "result" rv fs1))) = H2 at *
  have l2 : (putF "result" rv fs1).length ≤ 2 := ln_put l1
  have mm2 : NoM (putF "result" rv fs1) := mm1.put (by decide +kernel)
  have r2 : (putF "result" rv fs1).lookup ("result" : Str) = some rv := lk_new
  generalize (putF "result" rv fs1) = fs2 at *
  clear k1 z1 S1 e1 k2 z2 l1
  -- the kinds
  obtain ⟨v1, v2, v3, v4, v5, v6⟩ := ok.nv f mf
  refine ⟨_, rfl, _, rfl, _, _, Pm, f, rfl, hp0.keep K2 Z2, hf0.keep K2, v1, by omega, fun dk H3 s3 dct => ⟨_, rfl, x, T.C_Scope, dx, _, rfl, s3 _ _ e2, T.cl_Scope, T.no_Scope_kinds, by omega, ?_⟩⟩
  obtain ⟨k3, z3⟩ := keep_ins (K := K) (o := .ins T.C_Scope dx (putF "kinds" (.ref dk) fs2)) (s3 _ _ e2)
  have S3 : SmX x H (upd H3 x (.ins T.C_Scope dx (putF "kinds" (.ref dk) fs2))) := fun b o hb e => by rw [upd_ne hb]; exact s3 _ _ (S2 b o hb e)
  have e3 : (upd H3 x (.ins T.C_Scope dx (putF "kinds" (.ref dk) fs2))) x = some (.ins T.C_Scope dx (putF "kinds" (.ref dk) fs2)) := upd_same
  have K3 : Keeps K H (upd H3 x (.ins T.C_Scope dx (putF "kinds" (.ref dk) fs2))) := fun p xs h => k3 _ _ (Same.tup s3 (K2 _ _ h))
  have Z3 : KeepZ H (upd H3 x (.ins T.C_Scope dx (putF "kinds" (.ref dk) fs2))) := fun p o xs h => z3 _ _ _ (s3 _ _ (Z2 _ _ _ h))
  have dct3 : DctAt K (upd H3 x (.ins T.C_Scope dx (putF "kinds" (.ref dk) fs2))) dk (visP Pm.gl f) := by
    obtain ⟨kvs, d1, d2, d3⟩ := dct
    exact ⟨kvs, by rw [upd_ne (ne_of d1 (s3 _ _ e2) (by intro z; cases z))]; exact d1, d2.keep k3, d3⟩
  generalize (upd H3 x (.ins T.C_Scope dx (putF "kinds" (.ref dk) fs2))) = H4 at *
  have l3 : (putF "kinds" (.ref dk) fs2).length ≤ 3 := ln_put l2
  have mm3 : NoM (putF "kinds" (.ref dk) fs2) := mm2.put (by decide +kernel)
  have r3 : (putF "kinds" (.ref dk) fs2).lookup ("result" : Str) = some rv := lk_put r2 (by decide +kernel)
  have kk3 : (putF "kinds" (.ref dk) fs2).lookup ("kinds" : Str) = some (.ref dk) := lk_new
  generalize (putF "kinds" (.ref dk) fs2) = fs3 at *
  clear K2 Z2 S2 s3 dct k3 z3 e2 r2 l2
  -- the records
  have rxl := A2.len h3
  refine ⟨_, rfl, p, _, _, _, rfl, rfl, K3 _ _ h1, rfl, r, rfl, ⟨_, K3 _ _ h2⟩, fun D hD => ?_⟩
  have ndkD : dk ≠ D := by
    obtain ⟨kvs, d1, _⟩ := dct3
    exact ne_of_none d1 hD
  refine dc_it (walk_tup (xs := rx)) (fun i G => Same H4 G ∧ ∃ kvs, G D = some (.dK kvs) ∧ kvs.length ≤ i ∧ ∀ b ∈ Pm.rc.take i, ∃ d2, valV kvs (Sum.inr b.1) = some (.ref d2) ∧ d2 ≠ D ∧ DctAt K G d2 b.2) ⟨Same.new hD _, [], upd_same, Nat.le_refl _, fun b hb => by simp at hb⟩ (fun i G _ P => Same.tup P.1 (K3 _ _ h2)) ?_ ?_
  · rintro i y G G' hi ⟨sG, kvs, eD, lk, hk⟩ ⟨rfl, ey⟩
    obtain ⟨rc1, er, pr, tr, rfl, c1, c2⟩ := (h3.imp fun _ _ => RcAt.keep (fun p xs h => Same.tup sG (K3 _ _ h)) (fun p o xs h => sG _ _ (Z3 _ _ _ h))).atv ey
    have hi10 : i < 10 := by
      have := (List.getElem?_eq_some_iff.mp er).1
      have := ok.ln.1
      omega
    obtain ⟨n1, n2, n3, _⟩ := ok.fl rc1 (List.mem_of_getElem? er)
    obtain ⟨xs, ⟨o, zt, zd⟩, px⟩ := c2
    obtain ⟨ps, kv2, e, prr, kva⟩ := px.pr
    subst e
    have nda := kva.nd n1
    refine ⟨rfl, tyes ?_⟩
    refine ⟨_, rfl, pr, _, _, _, rfl, rfl, c1, rfl, _, rfl, pr, _, _, _, rfl, rfl, c1, rfl, tr, o, ps, kv2, rfl, zt, zd, prr, fun d2 hd2 => ?_⟩
    rw [merge_nil nda]
    have s2 := Same.new hd2 (.dK kv2)
    have eD2 := s2 _ _ eD
    have nd2 : d2 ≠ D := (ne_of_none eD hd2).symm
    refine ⟨kvs, Sum.inr rc1.1, rfl, eD2, lt_line (by omega), fun b o e => ?_, _, upd_same, ?_, fun b hb => ?_⟩
    · rw [upd_ne (ne_of_none e hD)]
      exact s2 _ _ (sG _ _ e)
    · have := putK_le (kvs := kvs) (k := Sum.inr rc1.1) (v := .ref d2)
      omega
    · have kd : Keeps K G' (upd (upd G' d2 (.dK kv2)) D (.dK (putK kvs (Sum.inr rc1.1) (.ref d2)))) := fun p xs h => by
        have h := Same.tup s2 h
        rcases h with (h | ⟨o, h⟩) | h
        · exact .inl (.inl (by rw [upd_ne (ne_of h eD2 (by intro z; cases z))]; exact h))
        · exact .inl (.inr ⟨o, by rw [upd_ne (ne_of h eD2 (by intro z; cases z))]; exact h⟩)
        · exact .inr h
      rw [List.take_add_one, er] at hb
      rcases List.mem_append.mp hb with hb | hb
      · obtain ⟨d3, q1, q2, ⟨kv3, q3, q4, q5⟩⟩ := hk b hb
        refine ⟨d3, ?_, q2, kv3, by rw [upd_ne q2]; exact s2 _ _ q3, q4.keep kd, q5⟩
        rw [valV_put, if_neg (fun z => nd_take ok.nr er b hb (Sum.inr.inj z))]
        exact q1
      · have : b = rc1 := by simpa using hb
        subst this
        refine ⟨d2, by rw [valV_put, if_pos rfl], nd2, kv2, by rw [upd_ne nd2]; exact upd_same, kva.keep kd, nda⟩
  rintro H5 ⟨s5, kvr, eD, le5, hkr⟩
  rw [rxl, List.take_length] at hkr
  refine ⟨_, rfl, x, T.C_Scope, dx, _, rfl, s5 _ _ e3, T.cl_Scope, T.no_Scope_records, by omega, ?_⟩
  obtain ⟨k5, z5⟩ := keep_ins (K := K) (o := .ins T.C_Scope dx (putF "records" (.ref D) fs3)) (s5 _ _ e3)
  have dn5 : ∀ b kvs, H5 b = some (.dK kvs) → (upd H5 x (.ins T.C_Scope dx (putF "records" (.ref D) fs3))) b = some (.dK kvs) := fun b kvs e => by rw [upd_ne (ne_of e (s5 _ _ e3) (by intro z; cases z))]; exact e
  have S5 : SmX x H (upd H5 x (.ins T.C_Scope dx (putF "records" (.ref D) fs3))) := fun b o hb e => by rw [upd_ne hb]; exact s5 _ _ (S3 b o hb e)
  have e5 : (upd H5 x (.ins T.C_Scope dx (putF "records" (.ref D) fs3))) x = some (.ins T.C_Scope dx (putF "records" (.ref D) fs3)) := upd_same
  have K5 : Keeps K H (upd H5 x (.ins T.C_Scope dx (putF "records" (.ref D) fs3))) := fun p xs h => k5 _ _ (Same.tup s5 (K3 _ _ h))
  have dct5 : DctAt K (upd H5 x (.ins T.C_Scope dx (putF "records" (.ref D) fs3))) dk (visP Pm.gl f) := by
    obtain ⟨kvs, d1, d2, d3⟩ := dct3
    exact ⟨kvs, dn5 _ _ (s5 _ _ d1), (d2.keep (Keeps.of_same s5)).keep k5, d3⟩
  have rcs5 : RcsAt K (upd H5 x (.ins T.C_Scope dx (putF "records" (.ref D) fs3))) D Pm.rc := RcsAt.mono k5 dn5 ⟨kvr, eD, hkr⟩
  generalize (upd H5 x (.ins T.C_Scope dx (putF "records" (.ref D) fs3))) = H6 at *
  have l5 : (putF "records" (.ref D) fs3).length ≤ 4 := ln_put l3
  have mm5 : NoM (putF "records" (.ref D) fs3) := mm3.put (by decide +kernel)
  have r5 : (putF "records" (.ref D) fs3).lookup ("result" : Str) = some rv := lk_put r3 (by decide +kernel)
  have kk5 : (putF "records" (.ref D) fs3).lookup ("kinds" : Str) = some (.ref dk) := lk_put kk3 (by decide +kernel)
  have rr5 : (putF "records" (.ref D) fs3).lookup ("records" : Str) = some (.ref D) := lk_new
  generalize (putF "records" (.ref D) fs3) = fs5 at *
  clear K3 Z3 S3 s5 dct3 k5 z5 e3 r3 l3 kk3 dn5 eD hkr hD le5 kvr ndkD
  -- the arrays
  have axl := A2.len h5
  refine ⟨_, rfl, p, _, _, _, rfl, rfl, K5 _ _ h1, rfl, a, rfl, ⟨_, K5 _ _ h4⟩, fun D2 hD2 => ?_⟩
  refine dc_it (walk_tup (xs := ax)) (fun i G => Same H6 G ∧ ∃ kvs, G D2 = some (.dK kvs) ∧ kvs.length ≤ i) ⟨Same.new hD2 _, [], upd_same, Nat.le_refl _⟩ (fun i G _ P => Same.tup P.1 (K5 _ _ h4)) ?_ ?_
  · rintro i y G G' hi ⟨sG, kvs, eD, lk⟩ ⟨rfl, ey⟩
    obtain ⟨ar1, er, pa, rfl, c1⟩ := (h5.imp fun _ _ => ArAt.keep (fun p xs h => Same.tup sG (K5 _ _ h))).atv ey
    have hi10 : i < 10 := by
      have := (List.getElem?_eq_some_iff.mp er).1
      have := ok.ln.2.1
      omega
    refine ⟨rfl, tyes ?_⟩
    refine ⟨_, rfl, pa, _, _, _, rfl, rfl, c1, rfl, _, rfl, ?_⟩
    refine ⟨kvs, Sum.inr ar1.1, rfl, eD, lt_line (by omega), fun b o e => ?_, _, upd_same, ?_⟩
    · rw [upd_ne (ne_of_none e hD2)]
      exact sG _ _ e
    · have := putK_le (kvs := kvs) (k := Sum.inr ar1.1) (v := .ref pa)
      omega
  rintro H7 ⟨s7, kva, eD2, _⟩
  refine ⟨_, rfl, x, T.C_Scope, dx, _, rfl, s7 _ _ e5, T.cl_Scope, T.no_Scope_arrays, by omega, ?_⟩
  obtain ⟨k7, z7⟩ := keep_ins (K := K) (o := .ins T.C_Scope dx (putF "arrays" (.ref D2) fs5)) (s7 _ _ e5)
  have dn7 : ∀ b kvs, H7 b = some (.dK kvs) → (upd H7 x (.ins T.C_Scope dx (putF "arrays" (.ref D2) fs5))) b = some (.dK kvs) := fun b kvs e => by rw [upd_ne (ne_of e (s7 _ _ e5) (by intro z; cases z))]; exact e
  have S7 : SmX x H (upd H7 x (.ins T.C_Scope dx (putF "arrays" (.ref D2) fs5))) := fun b o hb e => by rw [upd_ne hb]; exact s7 _ _ (S5 b o hb e)
  have e7 : (upd H7 x (.ins T.C_Scope dx (putF "arrays" (.ref D2) fs5))) x = some (.ins T.C_Scope dx (putF "arrays" (.ref D2) fs5)) := upd_same
  have K67 : Keeps K H6 (upd H7 x (.ins T.C_Scope dx (putF "arrays" (.ref D2) fs5))) := fun p xs h => k7 _ _ (Same.tup s7 h)
  have D67 : ∀ b kvs, H6 b = some (.dK kvs) → (upd H7 x (.ins T.C_Scope dx (putF "arrays" (.ref D2) fs5))) b = some (.dK kvs) := fun b kvs e => dn7 _ _ (s7 _ _ e)
  have K7 : Keeps K H (upd H7 x (.ins T.C_Scope dx (putF "arrays" (.ref D2) fs5))) := fun p xs h => K67 _ _ (K5 _ _ h)
  generalize (upd H7 x (.ins T.C_Scope dx (putF "arrays" (.ref D2) fs5))) = H8 at *
  have l7 : (putF "arrays" (.ref D2) fs5).length ≤ 5 := ln_put l5
  have mm7 : NoM (putF "arrays" (.ref D2) fs5) := mm5.put (by decide +kernel)
  have r7 : (putF "arrays" (.ref D2) fs5).lookup ("result" : Str) = some rv := lk_put r5 (by decide +kernel)
  have kk7 : (putF "arrays" (.ref D2) fs5).lookup ("kinds" : Str) = some (.ref dk) := lk_put kk5 (by decide +kernel)
  have rr7 : (putF "arrays" (.ref D2) fs5).lookup ("records" : Str) = some (.ref D) := lk_put rr5 (by decide +kernel)
  generalize (putF "arrays" (.ref D2) fs5) = fs7 at *
  have dct7 : DctAt K H8 dk (visP Pm.gl f) := by
    obtain ⟨kvs, d1, d2, d3⟩ := dct5
    exact ⟨kvs, D67 _ _ d1, d2.keep K67, d3⟩
  have rcs7 := rcs5.mono K67 D67
  clear K5 S5 s7 dct5 k7 z7 e5 r5 l5 kk5 rr5 dn7 eD2 hD2 K67 D67 rcs5
  -- the functions
  have fxl := A2.len h8
  refine ⟨_, rfl, p, _, _, _, rfl, rfl, K7 _ _ h1, rfl, fa, rfl, ⟨_, K7 _ _ h7⟩, fun D3 hD3 => ?_⟩
  refine dc_it (walk_tup (xs := fx)) (fun i G => Same H8 G ∧ ∃ kvs, G D3 = some (.dK kvs) ∧ kvs.length ≤ i ∧ ∀ b ∈ Pm.fn.take i, ∃ v, valV kvs (Sum.inr b.nm) = some v ∧ FdAt K G b v) ⟨Same.new hD3 _, [], upd_same, Nat.le_refl _, fun b hb => by simp at hb⟩ (fun i G _ P => Same.tup P.1 (K7 _ _ h7)) ?_ ?_
  · rintro i y G G' hi ⟨sG, kvs, eD, lk, hk⟩ ⟨rfl, ey⟩
    obtain ⟨fd1, er, xf⟩ := (h8.imp fun _ _ => FdAt.keep (fun p xs h => Same.tup sG (K7 _ _ h))).atv ey
    have hi10 : i < 10 := by
      have := (List.getElem?_eq_some_iff.mp er).1
      have := ok.ln.2.2.2
      omega
    have xf0 := xf
    obtain ⟨pF, w1, w2, w3, w4, w5, w6, w7, rfl, c1, _⟩ := xf
    refine ⟨rfl, tyes ?_⟩
    refine ⟨_, rfl, pF, _, _, _, rfl, rfl, c1, rfl, _, rfl, ?_⟩
    have kd : Keeps K G' (upd G' D3 (.dK (putK kvs (Sum.inr fd1.nm) (.ref pF)))) := fun p xs h => by
      rcases h with (h | ⟨o, h⟩) | h
      · exact .inl (.inl (by rw [upd_ne (ne_of h eD (by intro z; cases z))]; exact h))
      · exact .inl (.inr ⟨o, by rw [upd_ne (ne_of h eD (by intro z; cases z))]; exact h⟩)
      · exact .inr h
    refine ⟨kvs, Sum.inr fd1.nm, rfl, eD, lt_line (by omega), fun b o e => ?_, _, upd_same, ?_, fun b hb => ?_⟩
    · rw [upd_ne (ne_of_none e hD3)]
      exact sG _ _ e
    · have := putK_le (kvs := kvs) (k := Sum.inr fd1.nm) (v := .ref pF)
      omega
    · rw [List.take_add_one, er] at hb
      rcases List.mem_append.mp hb with hb | hb
      · obtain ⟨v3, q1, q2⟩ := hk b hb
        refine ⟨v3, ?_, q2.keep kd⟩
        have nb : b.nm ≠ fd1.nm := by
          have e := nd_take (l := Pm.fn.map fun f => (f.nm, f)) (by rw [List.map_map]; exact ok.nf) (i := i) (a := (fd1.nm, fd1)) (by rw [List.getElem?_map, er]; rfl) (b.nm, b) (by rw [← List.map_take]; exact List.mem_map.mpr ⟨b, hb, rfl⟩)
          exact e
        rw [valV_put, if_neg (fun z => nb (Sum.inr.inj z))]
        exact q1
      · have : b = fd1 := by simpa using hb
        subst this
        exact ⟨.ref pF, by rw [valV_put, if_pos rfl], xf0.keep kd⟩
  rintro H9 ⟨s9, kvf, eD3, _, hkf⟩
  rw [fxl, List.take_length] at hkf
  refine ⟨_, rfl, x, T.C_Scope, dx, _, rfl, s9 _ _ e7, T.cl_Scope, T.no_Scope_functions, by omega, ?_⟩
  obtain ⟨k9, z9⟩ := keep_ins (K := K) (o := .ins T.C_Scope dx (putF "functions" (.ref D3) fs7)) (s9 _ _ e7)
  have dn9 : ∀ b kvs, H9 b = some (.dK kvs) → (upd H9 x (.ins T.C_Scope dx (putF "functions" (.ref D3) fs7))) b = some (.dK kvs) := fun b kvs e => by rw [upd_ne (ne_of e (s9 _ _ e7) (by intro z; cases z))]; exact e
  have K89 : Keeps K H8 (upd H9 x (.ins T.C_Scope dx (putF "functions" (.ref D3) fs7))) := fun p xs h => k9 _ _ (Same.tup s9 h)
  have D89 : ∀ b kvs, H8 b = some (.dK kvs) → (upd H9 x (.ins T.C_Scope dx (putF "functions" (.ref D3) fs7))) b = some (.dK kvs) := fun b kvs e => dn9 _ _ (s9 _ _ e)
  refine q _ (fun b o hb e => by rw [upd_ne hb]; exact s9 _ _ (S7 b o hb e)) ⟨dx, _, rv, dk, D, D3, upd_same, lk_put r7 (by decide +kernel), f4.keep (fun p xs h => K89 _ _ (K7 _ _ h)), lk_put kk7 (by decide +kernel), ?_, lk_put rr7 (by decide +kernel), rcs7.mono K89 D89, lk_new, FnsAt.mono k9 dn9 ⟨kvf, eD3, hkf⟩, mm7.put (by decide +kernel)⟩
  obtain ⟨kvs, d1, d2, d3⟩ := dct7
  exact ⟨kvs, D89 _ _ d1, d2.keep K89, d3⟩
end
/-! ### faults of statements -/
theorem lk_nd {α : Type} : ∀ {l : List (Str × α)} {x : Str} {k : α}, (l.map (·.1)).Nodup → (x, k) ∈ l → l.lookup x = some k
  | [], _, _, _, h => nomatch h
  | a :: l, x, k, nd, h => by
    have nd' := List.nodup_cons.mp nd
    rcases List.mem_cons.mp h with rfl | h
    · rw [List.lookup_cons, beq_self_eq_true]
    · have ne : (x == a.1) = false := by
        rw [beq_eq_false_iff_ne]
        intro z
        exact nd'.1 (List.mem_map.mpr ⟨_, h, z⟩)
      rw [List.lookup_cons, ne]
      exact lk_nd nd'.2 h
def Sm.own : Sm → List Str
  | .free _ => ["null", "gone"]
  | .load _ _ _ => ["null", "gone"]
  | .store _ _ _ => ["null", "gone"]
  | .get _ _ _ => ["index"]
  | .put _ _ _ => ["index", "range"]
  | .asrt _ => ["assert"]
  | _ => []
/-- the kinds of what a statement gives values to -/
def Pg.taken (P : Pg) (f : Fd) : Sm → List Kd
  | .set x _ => ((visP P.gl f).lookup x).toList
  | .store y g _ => match (visP P.gl f).lookup y with
    | some (.ref s) => ((P.rc.lookup s).bind fun fs => fs.lookup g).toList
    | _ => []
  | .call _ g _ => (((P.fn.map fun o => (o.nm, o.ps)).lookup g).getD []).map (·.2)
  | .ret _ => f.rs.toList
  | _ => []
def Pg.faults (P : Pg) (f : Fd) (s : Sm) : List Str := s.own ++ if (P.taken f s).any Kd.isN then [("range" : Str)] else []
def oN : Option Kd → Bool
  | none => false
  | some k => k.isN
def spNk (K : PySem.W.Frag) : Sp := fun vs H Q _ => ∃ v k, vs = [v] ∧ OkdAt K H v k ∧ Q (.bl (oN k)) H
section
variable {P : Program} {w : World} {K : PySem.W.Frag} {mg : Str → Option Value} {base : Heap}
theorem ok_is_number_kind (T : Txt w K mg) : FnOk P w K mg base CX0 1 T.a_is_number_kind T.d_is_number_kind p_is_number_kind (spNk K) := by
  refine T.F_is_number_kind.ok sc_is_number_kind (fun vs H Q E h => ?_) (fun cdv A outer s H vs Q E hr h => ?_)
  · obtain ⟨v, k, rfl, _⟩ := h
    rfl
  obtain ⟨v, k, rfl, hv, q⟩ := h
  refine ⟨_, (pss_one (ps_ret (pe_and (pe_cmpR op_notN (pv 0) pe_non (nomark _)) (pe_one (pe_cmpR op_eq (pe_ix ix_tup (pv 0) pe_int (fun _ _ => rfl)) pe_str (nomark _)))))), ?_⟩
  cases k with
  | none =>
    obtain rfl : v = .non := hv
    exact ⟨_, rfl, rfl, _, rfl, ifF rfl q⟩
  | some k =>
    obtain ⟨p, rfl, hp⟩ := hv
    cases k with
    | flag => exact ⟨_, rfl, rfl, _, rfl, ifT rfl ⟨_, rfl, p, _, 0, _, rfl, rfl, hp, at0, rfl, q⟩⟩
    | ref s => exact ⟨_, rfl, rfl, _, rfl, ifT rfl ⟨_, rfl, p, _, 0, _, rfl, rfl, hp, at0, rfl, q⟩⟩
    | num lo hi => exact ⟨_, rfl, rfl, _, rfl, ifT rfl ⟨_, rfl, p, _, 0, _, rfl, rfl, hp, at0, rfl, q⟩⟩
/-- the kind of a field -/
def spFk (K : PySem.W.Frag) (C : Addr) : Sp := fun vs H Q _ => ∃ (x : Addr) (Pm : Pg) (f : Fd) (y g s : Str) (fs : List Pk) (k : Kd), vs = [.ref x, .str y, .str g] ∧ ScAt K C H x Pm f ∧ (y, Kd.ref s) ∈ visP Pm.gl f ∧ (s, fs) ∈ Pm.rc ∧ (g, k) ∈ fs ∧ ∀ v, KdAt K H v k → Q v H
theorem ok_Scope_field_kind (T : Txt w K mg) : FnOk P w K mg base CX0 1 T.a_Scope_field_kind T.d_Scope_field_kind p_Scope_field_kind (spFk K T.C_Scope) := by
  refine T.F_Scope_field_kind.ok sc_Scope_field_kind (fun vs H Q E h => ?_) (fun cdv A outer s H vs Q E hr h => ?_)
  · obtain ⟨x, Pm, f, y, g, s, fs, k, rfl, _⟩ := h
    rfl
  obtain ⟨x, Pm, f, y, g, sn, fs, k, rfl, hs, my, ms, mg2, q⟩ := h
  refine ⟨_, (pss_cons (ps_set (i := 3) sc_Scope_field_kind.nd rfl (Or.inl rfl) (pe_dget (hu_of hr) (pe_fld (pv 0) rfl) (pv 1) (fun _ _ => rfl)))
      (pss_one (ps_ret (pe_ifExp (pt_cmpR op_eq (pe_ix ix_tup (pv 3) pe_int (fun _ _ => rfl)) pe_str (nomark _)) (pe_dget1 (hu_of hr) (pe_dget (hu_of hr) (pe_fld (pv 0) rfl) (pe_ix ix_tup (pv 3) pe_int (fun _ _ => rfl)) (fun _ _ => rfl)) (pv 2) ⟨rfl, rfl, rfl, rfl⟩) pe_non)))), ?_⟩
  obtain ⟨dx, fls, rv, dk, dr, df, h1, h2, h3, h4, h5, h6, h7, h8, h9, hM⟩ := hs.ex
  obtain ⟨kvs, kv, e1, e2, p, rfl, hp⟩ := h5.get my
  obtain ⟨kvr, e3, hr2⟩ := h7
  obtain ⟨d2, e4, nd2, hd2⟩ := hr2 _ ms
  obtain ⟨kvf, kv2, e5, e6, hk2⟩ := hd2.get mg2
  refine ⟨_, rfl, x, T.C_Scope, dx, fls, _, rfl, h1, T.cl_Scope, T.no_Scope_kinds, h4, _, rfl, dk, _, rfl, DGet.at e1 e2, ?_⟩
  refine ⟨_, rfl, p, _, 0, _, rfl, rfl, hp, at0, rfl, _, rfl, ifT rfl ?_⟩
  refine ⟨_, rfl, x, T.C_Scope, dx, fls, _, rfl, h1, T.cl_Scope, T.no_Scope_records, h6, _, rfl, p, _, 1, _, rfl, rfl, hp, rfl, dr, _, rfl, DGet.at e3 e4, d2, rfl, .inl ⟨_, .inl e5⟩, _, rfl, _, DGet.at e5 e6, ?_⟩
  exact q _ hk2
theorem bb_any : bootBuiltins "any" = some (.builtin "any") := by decide +kernel
/-- whether a statement gives a number -/
def spGn (K : PySem.W.Frag) (C : Addr) : Sp := fun vs H Q _ => ∃ (x : Addr) (Pm : Pg) (f : Fd) (s : Sm) (v : V) (i : Bool), vs = [.ref x, v] ∧ ScAt K C H x Pm f ∧ SmAt K H s v ∧ s.wf Pm.wm (visP Pm.gl f) f.rs i ∧ PgOk Pm ∧ f ∈ Pm.fn ∧ ∀ H', Same H H' → Q (.bl ((Pm.taken f s).any Kd.isN)) H'
theorem ok_gives_number (T : Txt w K mg) : FnOk P w K mg base CX0 2 T.a_gives_number T.d_gives_number p_gives_number (spGn K T.C_Scope) := by
  have g_is_number_kind := ok_is_number_kind (P := P) (w := w) (K := K) (base := base) T
  have g_Scope_field_kind := ok_Scope_field_kind (P := P) (w := w) (K := K) (base := base) T
  refine T.F_gives_number.ok sc_gives_number (fun vs H Q E h => ?_) (fun cdv A outer s H vs Q E hr h => ?_)
  · obtain ⟨x, Pm, f, s, v, i, rfl, _⟩ := h
    rfl
  obtain ⟨x, Pm, f, st, v, i, rfl, hs, hv, hw, ok, mf, q⟩ := h
  refine ⟨_, (pss_cons (ps_set (i := 2) sc_gives_number.nd rfl (Or.inl rfl) (pe_ix ix_tup (pv 1) pe_int (fun _ _ => rfl)))
      (pss_cons (ps_if (pt_cmpR op_eq (pv 2) pe_str (nomark _)) (pss_one (ps_ret (pe_call g_is_number_kind (hr.mono (by first | decide | omega)) rfl T.m_is_number_kind T.F_is_number_kind.kp T.b_is_number_kind .nil pass0 (pa_cons (pe_dget (hu_of hr) (pe_fld (pv 0) rfl) (pe_ix ix_tup (pv 1) pe_int (fun _ _ => rfl)) (fun _ _ => rfl)) pa_nil)))) pss_nil)
      (pss_cons (ps_if (pt_cmpR op_eq (pv 2) pe_str (nomark _)) (pss_one (ps_ret (pe_call g_is_number_kind (hr.mono (by first | decide | omega)) rfl T.m_is_number_kind T.F_is_number_kind.kp T.b_is_number_kind .nil pass0 (pa_cons (pe_meth (pv 0) T.cl_Scope T.me_Scope_field_kind g_Scope_field_kind (hr.mono (by first | decide | omega)) T.b_Scope_field_kind .nil pass0 (pa_cons (pe_ix ix_tup (pv 1) pe_int (fun _ _ => rfl)) (pa_cons (pe_ix ix_tup (pv 1) pe_int (fun _ _ => rfl)) pa_nil))) pa_nil)))) pss_nil)
      (pss_cons (ps_if (pt_cmpR op_eq (pv 2) pe_str (nomark _)) (pss_one (ps_ret (pe_callB (cr_any rfl) rfl T.z_any bb_any (pa_cons (pe_lc (own := [("_", 3), ("kind", 4)]) (g := gTup K 2 (gCons (gName 3) (gCons (gName 4) gNil))) (tt := tYes) rfl sc_gives_number.nd (pi_tup (pe_ix ix_tup (pe_dget (hu_of hr) (pe_fld (pv 0) rfl) (pe_ix ix_tup (pv 1) pe_int (fun _ _ => rfl)) (fun _ _ => rfl)) pe_int (fun _ _ => rfl))) (blkOk_by (own := [("_", 3), ("kind", 4)]) (N := n_gives_number) (sc := defScope s_gives_number) (by decide +kernel)) (fun _ _ _ _ _ => (pg_tup rfl (pgs_cons (pg_name (i := 3) sc_gives_number.nd rfl (Or.inl rfl)) (pgs_cons (pg_name (i := 4) sc_gives_number.nd rfl (Or.inl rfl)) pgs_nil)))) (fun _ _ _ _ _ => pts_nil) (fun _ _ _ _ _ => (pe_call g_is_number_kind (hr.mono (by first | decide | omega)) rfl T.m_is_number_kind T.F_is_number_kind.kp T.b_is_number_kind .nil pass0 (pa_cons (pv 4) pa_nil)))) pa_nil)))) pss_nil)
      (pss_one (ps_ret (pe_and (pe_cmpR op_eq (pv 2) pe_str (nomark _)) (pe_one (pe_call g_is_number_kind (hr.mono (by first | decide | omega)) rfl T.m_is_number_kind T.F_is_number_kind.kp T.b_is_number_kind .nil pass0 (pa_cons (pe_fld (pv 0) rfl) pa_nil)))))))))), ?_⟩
  obtain ⟨dx, fls, rv, dk, dr, df, h1, h2, h3, h4, h5, h6, h7, h8, h9, hM⟩ := hs.ex
  obtain ⟨p, rest, roles, rfl, hp, _⟩ := hv.bodI
  refine ⟨_, rfl, p, _, 0, _, rfl, rfl, hp, at0, ?_⟩
  have nv := (ok.nv f mf).1
  cases st with
  | set y e =>
    obtain ⟨p', a, e1, hp', hx⟩ := hv
    cases e1
    obtain ⟨k, mk, _⟩ := hw
    obtain ⟨kvs, kv, d1, d2, d3⟩ := h5.get mk
    have et : (Pm.taken f (.set y e)).any Kd.isN = k.isN := by
      show ((visP Pm.gl f).lookup y).toList.any Kd.isN = _
      rw [lk_nd nv mk]
      simp
    rw [et] at q
    exact ⟨_, rfl, rfl, _, rfl, ifT rfl ⟨_, rfl, x, T.C_Scope, dx, fls, _, rfl, h1, T.cl_Scope, T.no_Scope_kinds, h4, _, rfl, p, _, 1, _, rfl, rfl, hp', rfl, dk, _, rfl, DGet.at d1 d2, kv, some k, rfl, d3, q _ (Same.refl _)⟩⟩
  | store y g e =>
    obtain ⟨p', a, e1, hp', hx⟩ := hv
    cases e1
    obtain ⟨sn, fs, k, my, ms, mg2, _⟩ := hw
    have et : (Pm.taken f (.store y g e)).any Kd.isN = k.isN := by
      show (match (visP Pm.gl f).lookup y with | some (.ref s) => ((Pm.rc.lookup s).bind fun fs => fs.lookup g).toList | _ => []).any Kd.isN = _
      rw [lk_nd nv my]
      show ((Pm.rc.lookup sn).bind fun fs => fs.lookup g).toList.any Kd.isN = _
      rw [lk_nd ok.nr ms]
      show (fs.lookup g).toList.any Kd.isN = _
      rw [lk_nd (ok.fl _ ms).1 mg2]
      simp
    rw [et] at q
    refine ⟨_, rfl, rfl, _, rfl, ifF rfl ⟨_, rfl, rfl, _, rfl, ifT rfl ⟨_, rfl, x, dx, fls, rfl, h1, hM.1, _, rfl, p, _, 1, _, rfl, rfl, hp', rfl, _, rfl, p, _, 2, _, rfl, rfl, hp', rfl, x, Pm, f, y, g, sn, fs, k, rfl, hs, my, ms, mg2, fun v hv => ⟨v, some k, rfl, hv, q _ (Same.refl _)⟩⟩⟩⟩
  | call y g es =>
    obtain ⟨p', qa, vs, e1, hp', _⟩ := hv
    cases e1
    obtain ⟨hd, mh, rfl, _⟩ := hw
    obtain ⟨fd, mfd, rfl⟩ := List.mem_map.mp mh
    obtain ⟨kvf, k1, k2⟩ := h9
    obtain ⟨u, k3, F, t1, x1, rv1, t3, x3, t4, x4, rfl, f1, f2, f3, _⟩ := k2 fd mfd
    have et : (Pm.taken f (.call y fd.hd.nm es)).any Kd.isN = fd.ps.any fun a => a.2.isN := by
      show ((((Pm.fn.map fun o => (o.nm, o.ps)).lookup fd.nm).getD []).map (·.2)).any Kd.isN = _
      rw [lk_nd (l := Pm.fn.map fun o => (o.nm, o.ps)) (k := fd.ps) (by rw [List.map_map]; exact ok.nf) (List.mem_map.mpr ⟨fd, mfd, rfl⟩)]
      simp [List.any_map, Function.comp_def]
    rw [et] at q
    refine ⟨_, rfl, rfl, _, rfl, ifF rfl ⟨_, rfl, rfl, _, rfl, ifF rfl ⟨_, rfl, rfl, _, rfl, ifT rfl ⟨_, rfl, x, T.C_Scope, dx, fls, _, rfl, h1, T.cl_Scope, T.no_Scope_functions, h8, _, rfl, p, _, 2, _, rfl, rfl, hp', rfl, df, _, rfl, DGet.at k1 k3, F, _, 1, _, rfl, rfl, f1, rfl, t1, rfl, ⟨_, f2⟩, fun D hD => ?_⟩⟩⟩⟩
    have l1 := A2.len f3
    refine lc_it (walk_tup (xs := x1)) (fun i G => Same H G ∧ G D = some (.lst (((fd.ps.take i).map fun a => a.2.isN).map V.bl))) ⟨Same.new hD _, upd_same⟩ (fun i G _ P => Same.tup P.1 f2) ?_ ?_
    · rintro i z G G' hi ⟨sG, eD⟩ ⟨rfl, ey⟩
      obtain ⟨a, ea, pa, kv, rfl, c1, c2⟩ := (f3.keep (Keeps.of_same sG)).atv ey
      have le : (fd.ps.take i).length ≤ 40 := by
        have h1 := List.length_take_le' i fd.ps
        have h2 := (ok.nv fd mfd).2.2.1
        unfold visP at h2
        rw [List.length_append, List.length_append] at h2
        omega
      refine ⟨pa, _, rfl, c1, rfl, _, _, rfl, _, _, rfl, rfl, rfl, tyes ⟨_, rfl, kv, some a.2, rfl, c2, _, eD, lt_line (by rw [List.length_map, List.length_map]; omega), fun b o e => ?_, ?_⟩⟩
      · rw [upd_ne (ne_of_none e hD)]
        exact sG _ _ e
      · rw [upd_same, List.take_add_one, ea, List.map_append, List.map_append]
        rfl
    rintro G ⟨sG, eD⟩
    rw [l1, List.take_length] at eD
    refine ⟨D, _, rfl, SqL.of eD, ?_⟩
    have ea : (fd.ps.map fun a => a.2.isN).any id = fd.ps.any fun a => a.2.isN := by rw [List.any_map]; rfl
    rw [ea]
    exact q G sG
  | ret e =>
    have et : (Pm.taken f (.ret e)).any Kd.isN = oN f.rs := by
      show f.rs.toList.any Kd.isN = _
      cases f.rs with
      | none => rfl
      | some k => simp [oN]
    rw [et] at q
    refine ⟨_, rfl, rfl, _, rfl, ifF rfl ⟨_, rfl, rfl, _, rfl, ifF rfl ⟨_, rfl, rfl, _, rfl, ifF rfl ⟨_, rfl, rfl, _, rfl, ifT rfl ⟨_, rfl, x, T.C_Scope, dx, fls, _, rfl, h1, T.cl_Scope, T.no_Scope_result, h2, rv, f.rs, rfl, h3, q _ (Same.refl _)⟩⟩⟩⟩⟩
  | input => exact ⟨_, rfl, rfl, _, rfl, ifF rfl ⟨_, rfl, rfl, _, rfl, ifF rfl ⟨_, rfl, rfl, _, rfl, ifF rfl ⟨_, rfl, rfl, _, rfl, ifF rfl (q _ (Same.refl _))⟩⟩⟩⟩
  | new => exact ⟨_, rfl, rfl, _, rfl, ifF rfl ⟨_, rfl, rfl, _, rfl, ifF rfl ⟨_, rfl, rfl, _, rfl, ifF rfl ⟨_, rfl, rfl, _, rfl, ifF rfl (q _ (Same.refl _))⟩⟩⟩⟩
  | free => exact ⟨_, rfl, rfl, _, rfl, ifF rfl ⟨_, rfl, rfl, _, rfl, ifF rfl ⟨_, rfl, rfl, _, rfl, ifF rfl ⟨_, rfl, rfl, _, rfl, ifF rfl (q _ (Same.refl _))⟩⟩⟩⟩
  | load => exact ⟨_, rfl, rfl, _, rfl, ifF rfl ⟨_, rfl, rfl, _, rfl, ifF rfl ⟨_, rfl, rfl, _, rfl, ifF rfl ⟨_, rfl, rfl, _, rfl, ifF rfl (q _ (Same.refl _))⟩⟩⟩⟩
  | get => exact ⟨_, rfl, rfl, _, rfl, ifF rfl ⟨_, rfl, rfl, _, rfl, ifF rfl ⟨_, rfl, rfl, _, rfl, ifF rfl ⟨_, rfl, rfl, _, rfl, ifF rfl (q _ (Same.refl _))⟩⟩⟩⟩
  | put => exact ⟨_, rfl, rfl, _, rfl, ifF rfl ⟨_, rfl, rfl, _, rfl, ifF rfl ⟨_, rfl, rfl, _, rfl, ifF rfl ⟨_, rfl, rfl, _, rfl, ifF rfl (q _ (Same.refl _))⟩⟩⟩⟩
  | iff => exact ⟨_, rfl, rfl, _, rfl, ifF rfl ⟨_, rfl, rfl, _, rfl, ifF rfl ⟨_, rfl, rfl, _, rfl, ifF rfl ⟨_, rfl, rfl, _, rfl, ifF rfl (q _ (Same.refl _))⟩⟩⟩⟩
  | loop => exact ⟨_, rfl, rfl, _, rfl, ifF rfl ⟨_, rfl, rfl, _, rfl, ifF rfl ⟨_, rfl, rfl, _, rfl, ifF rfl ⟨_, rfl, rfl, _, rfl, ifF rfl (q _ (Same.refl _))⟩⟩⟩⟩
  | brk => exact ⟨_, rfl, rfl, _, rfl, ifF rfl ⟨_, rfl, rfl, _, rfl, ifF rfl ⟨_, rfl, rfl, _, rfl, ifF rfl ⟨_, rfl, rfl, _, rfl, ifF rfl (q _ (Same.refl _))⟩⟩⟩⟩
  | asrt => exact ⟨_, rfl, rfl, _, rfl, ifF rfl ⟨_, rfl, rfl, _, rfl, ifF rfl ⟨_, rfl, rfl, _, rfl, ifF rfl ⟨_, rfl, rfl, _, rfl, ifF rfl (q _ (Same.refl _))⟩⟩⟩⟩
/-- the faults of a statement -/
def spFo (K : PySem.W.Frag) (C : Addr) : Sp := fun vs H Q _ => ∃ (x : Addr) (Pm : Pg) (f : Fd) (s : Sm) (v : V) (i : Bool), vs = [.ref x, v] ∧ ScAt K C H x Pm f ∧ SmAt K H s v ∧ s.wf Pm.wm (visP Pm.gl f) f.rs i ∧ PgOk Pm ∧ f ∈ Pm.fn ∧ ∀ (r : Addr) H', Same H H' → SqT K H' r ((Pm.faults f s).map V.str) → Q (.ref r) H'
def noF : List Str := ["set", "input", "new", "call", "return", "if", "while", "break"]
theorem own_tab (s : Sm) : (s.word, s.own) ∈ tb_FAULTS ∨ (s.word ∈ noF ∧ s.own = []) := by
  cases s with
  | free => exact .inl (by show (("free" : Str), (["null", "gone"] : List Str)) ∈ tb_FAULTS; decide +kernel)
  | load => exact .inl (by show (("load" : Str), (["null", "gone"] : List Str)) ∈ tb_FAULTS; decide +kernel)
  | store => exact .inl (by show (("store" : Str), (["null", "gone"] : List Str)) ∈ tb_FAULTS; decide +kernel)
  | get => exact .inl (by show (("get" : Str), (["index"] : List Str)) ∈ tb_FAULTS; decide +kernel)
  | put => exact .inl (by show (("put" : Str), (["index", "range"] : List Str)) ∈ tb_FAULTS; decide +kernel)
  | asrt => exact .inl (by show (("assert" : Str), (["assert"] : List Str)) ∈ tb_FAULTS; decide +kernel)
  | set => exact .inr ⟨by show (("set" : Str)) ∈ noF; decide +kernel, rfl⟩
  | input => exact .inr ⟨by show (("input" : Str)) ∈ noF; decide +kernel, rfl⟩
  | new => exact .inr ⟨by show (("new" : Str)) ∈ noF; decide +kernel, rfl⟩
  | call => exact .inr ⟨by show (("call" : Str)) ∈ noF; decide +kernel, rfl⟩
  | ret => exact .inr ⟨by show (("return" : Str)) ∈ noF; decide +kernel, rfl⟩
  | iff => exact .inr ⟨by show (("if" : Str)) ∈ noF; decide +kernel, rfl⟩
  | loop => exact .inr ⟨by show (("while" : Str)) ∈ noF; decide +kernel, rfl⟩
  | brk => exact .inr ⟨by show (("break" : Str)) ∈ noF; decide +kernel, rfl⟩
theorem own_len (s : Sm) : s.own.length ≤ 2 := by cases s <;> simp [Sm.own]
theorem faults_or {w : World} {K : PySem.W.Frag} {d z : Addr} {H3 : Hp} {s : Sm} {Qf : V → Hp → Prop} (tab : ∀ q ∈ tb_FAULTS, KPart w K d q.1 q.2) (kg : ∀ z ∈ noF, PySem.W.nsIn K d z = some none) (hz : SqT K H3 z []) (h : ∀ r, SqT K H3 r (s.own.map V.str) → Qf (.ref r) H3) :
    (∃ u v, PySem.W.nsIn K d s.word = some (some u) ∧ RelV v u ∧ Qf v H3) ∨ (PySem.W.nsIn K d s.word = some none ∧ Qf (.ref z) H3) := by
  rcases own_tab s with m | ⟨m, e⟩
  · obtain ⟨r, ⟨es, n, u, h1, h2, h3, h4⟩, hr⟩ := tab _ m
    exact .inl ⟨u, _, h3, h4, h r (hr _)⟩
  · exact .inr ⟨kg _ m, h z (by rw [e]; exact hz)⟩
theorem ok_faults_of (T : Txt w K mg) : FnOk P w K mg base CX0 3 T.a_faults_of T.d_faults_of p_faults_of (spFo K T.C_Scope) := by
  obtain ⟨d_FAULTS, c_FAULTS_h, tab⟩ := T.c_FAULTS
  have kg := T.k_FAULTS d_FAULTS c_FAULTS_h
  have g_gives_number := ok_gives_number (P := P) (w := w) (K := K) (base := base) T
  refine T.F_faults_of.ok sc_faults_of (fun vs H Q E h => ?_) (fun cdv A outer s H vs Q E hr h => ?_)
  · obtain ⟨x, Pm, f, s, v, i, rfl, _⟩ := h
    rfl
  obtain ⟨x, Pm, f, st, v, i, rfl, hs, hv, hw, ok, mf, q⟩ := h
  refine ⟨_, (pss_cons (ps_set (i := 2) sc_faults_of.nd rfl (Or.inl rfl) (KG.pe_kget2 (pe_glob (v := .ref d_FAULTS) rfl c_FAULTS_h rfl) (pe_ix ix_tup (pv 1) pe_int (fun _ _ => rfl)) (pe_tup pa_nil) ⟨rfl, rfl, rfl, rfl⟩))
      (pss_one (ps_ret (pe_ifExp (pt_val (pe_call g_gives_number (hr.mono (by first | decide | omega)) rfl T.m_gives_number T.F_gives_number.kp T.b_gives_number .nil pass0 (pa_cons (pv 0) (pa_cons (pv 1) pa_nil)))) (pe_tup (StX.pa_star (pv 2) (pa_cons pe_str pa_nil))) (pv 2))))), ?_⟩
  obtain ⟨p, rest, roles, rfl, hp, _⟩ := hv.bodI
  obtain ⟨es, n, k1, k2, k3, k4⟩ := kg
  refine ⟨d_FAULTS, es, n, rfl, k1, k2, k3, _, rfl, p, _, 0, _, rfl, rfl, hp, at0, by show 0 ≤ sizeLine; decide, fun z hz => ⟨_, rfl, ?_⟩⟩
  have s1 := Same.new hz (.tup [])
  have ez : SqT K (upd H z (.tup [])) z [] := SqT.of upd_same
  generalize (upd H z (.tup [])) = H1 at *
  refine faults_or tab k4 ez fun r hr0 => ?_
  have kp := Keeps.of_same (K := K) s1
  refine ⟨_, rfl, _, rfl, x, Pm, f, st, .ref p, i, rfl, hs.same s1, hv.keep kp, hw, ok, mf, fun H2 s2 => ⟨_, rfl, ?_⟩⟩
  have s12 := s1.trans s2
  have ol := own_len st
  have ro := Same.tup s2 hr0
  refine ite2 (fun e => ?_) (fun e => ?_)
  · refine ⟨_, rfl, r, _, rfl, .inl ro, by simp only [List.length_append, List.length_map, List.length_singleton]; exact Nat.le_of_lt (lt_line (by omega)), fun t ht => ?_⟩
    refine q t _ (s12.trans (Same.new ht _)) (SqT.of ?_)
    unfold Pg.faults
    rw [if_pos e, List.map_append]
    exact upd_same
  · refine ⟨_, rfl, q r _ s12 ?_⟩
    unfold Pg.faults
    rw [if_neg e, List.append_nil]
    exact ro
end
/-! ### the sites of a program -/
mutual
theorem Sm.wf_pre {W : Wm} {env : List Pk} {rs : Option Kd} : ∀ {i : Bool} {s : Sm}, s.wf W env rs i → ∀ x ∈ s.pre, ∃ j, x.wf W env rs j
  | i, .iff e b c, h, x, hx => by
    have hx : x ∈ Sm.iff e b c :: (b.pre ++ c.pre) := hx
    rcases List.mem_cons.mp hx with rfl | hx
    · exact ⟨i, h⟩
    · rcases List.mem_append.mp hx with hx | hx
      · exact Bd.wf_pre h.2.1 x hx
      · exact Bd.wf_pre h.2.2 x hx
  | i, .loop e b, h, x, hx => by
    have hx : x ∈ Sm.loop e b :: b.pre := hx
    rcases List.mem_cons.mp hx with rfl | hx
    · exact ⟨i, h⟩
    · exact Bd.wf_pre h.2 x hx
  | i, .set _ _, h, x, hx => ⟨i, by rw [List.mem_singleton.mp hx]; exact h⟩
  | i, .input _, h, x, hx => ⟨i, by rw [List.mem_singleton.mp hx]; exact h⟩
  | i, .new _, h, x, hx => ⟨i, by rw [List.mem_singleton.mp hx]; exact h⟩
  | i, .free _, h, x, hx => ⟨i, by rw [List.mem_singleton.mp hx]; exact h⟩
  | i, .load _ _ _, h, x, hx => ⟨i, by rw [List.mem_singleton.mp hx]; exact h⟩
  | i, .store _ _ _, h, x, hx => ⟨i, by rw [List.mem_singleton.mp hx]; exact h⟩
  | i, .get _ _ _, h, x, hx => ⟨i, by rw [List.mem_singleton.mp hx]; exact h⟩
  | i, .put _ _ _, h, x, hx => ⟨i, by rw [List.mem_singleton.mp hx]; exact h⟩
  | i, .call _ _ _, h, x, hx => ⟨i, by rw [List.mem_singleton.mp hx]; exact h⟩
  | i, .ret _, h, x, hx => ⟨i, by rw [List.mem_singleton.mp hx]; exact h⟩
  | i, .brk, h, x, hx => ⟨i, by rw [List.mem_singleton.mp hx]; exact h⟩
  | i, .asrt _, h, x, hx => ⟨i, by rw [List.mem_singleton.mp hx]; exact h⟩
theorem Bd.wf_pre {W : Wm} {env : List Pk} {rs : Option Kd} : ∀ {i : Bool} {b : Bd}, b.wf W env rs i → ∀ x ∈ b.pre, ∃ j, x.wf W env rs j
  | _, .nil, _, x, hx => nomatch hx
  | i, .cons s b, h, x, hx => by
    have hx : x ∈ s.pre ++ b.pre := hx
    rcases List.mem_append.mp hx with hx | hx
    · exact Sm.wf_pre h.1 x hx
    · exact Bd.wf_pre h.2 x hx
end
abbrev Si := Str × Nat × Str
def Pg.siteS (P : Pg) (f : Fd) (s : Sm) (i : Nat) : List Si := (P.faults f s).map fun x => (f.nm, i, x)
def Pg.siteF (P : Pg) (f : Fd) : Nat → List Sm → List Si
  | _, [] => []
  | i, s :: l => P.siteS f s i ++ P.siteF f (i + 1) l
def Pg.sites (P : Pg) : List Si := P.fn.flatMap fun f => P.siteF f 0 f.bd.pre
theorem Pg.siteF_snoc (P : Pg) (f : Fd) (s : Sm) : ∀ (l : List Sm) (i : Nat), P.siteF f i (l ++ [s]) = P.siteF f i l ++ P.siteS f s (i + l.length)
  | [], i => by simp [Pg.siteF]
  | a :: l, i => by
    show P.siteS f a i ++ P.siteF f (i + 1) (l ++ [s]) = P.siteS f a i ++ P.siteF f (i + 1) l ++ _
    rw [Pg.siteF_snoc P f s l (i + 1), List.append_assoc, List.length_cons, show i + 1 + l.length = i + (l.length + 1) by omega]
theorem Pg.faults_len (P : Pg) (f : Fd) (s : Sm) : (P.faults f s).length ≤ 3 := by
  have := own_len s
  unfold Pg.faults
  rw [List.length_append]
  by_cases h : (P.taken f s).any Kd.isN = true
  · rw [if_pos h]
    show s.own.length + 1 ≤ 3
    omega
  · rw [if_neg h]
    show s.own.length + 0 ≤ 3
    omega
theorem Pg.siteF_len (P : Pg) (f : Fd) : ∀ (l : List Sm) (i : Nat), (P.siteF f i l).length ≤ 3 * l.length
  | [], _ => by simp [Pg.siteF]
  | s :: l, i => by
    have h1 := P.faults_len f s
    have h2 := Pg.siteF_len P f l (i + 1)
    show (P.siteS f s i ++ P.siteF f (i + 1) l).length ≤ _
    unfold Pg.siteS
    rw [List.length_append, List.length_map, List.length_cons]
    omega
theorem sites_le (P : Pg) (ok : PgOk P) (i : Nat) : ((P.fn.take i).flatMap fun f => P.siteF f 0 f.bd.pre).length ≤ 3000 := by
  have : ∀ l : List Fd, (∀ f ∈ l, f ∈ P.fn) → (l.flatMap fun f => P.siteF f 0 f.bd.pre).length ≤ 300 * l.length := fun l => by
    induction l with
    | nil => intro _; simp
    | cons f l ih =>
      intro h
      rw [List.flatMap_cons, List.length_append, List.length_cons]
      have h1 := ih fun x hx => h x (List.mem_cons_of_mem _ hx)
      have h2 := P.siteF_len f f.bd.pre 0
      have h3 := (ok.dc f (h f List.mem_cons_self)).2
      rw [← Bd.pre_len] at h3
      omega
  have h := this (P.fn.take i) fun f hf => List.mem_of_mem_take hf
  have h2 := List.length_take_le' i P.fn
  have h3 := ok.ln.2.2.2
  omega
def StV (K : PySem.W.Frag) (H : Hp) (x : Si) (v : V) : Prop := ∃ p, v = .ref p ∧ SqT K H p [.str x.1, .int (x.2.1 : Nat), .str x.2.2]
theorem StV.keep {K : PySem.W.Frag} {H H' : Hp} (kp : Keeps K H H') {x : Si} {v : V} (h : StV K H x v) : StV K H' x v := by
  obtain ⟨p, e, h⟩ := h
  exact ⟨p, e, kp _ _ h⟩
theorem SmX.refl (x : Addr) (H : Hp) : SmX x H H := fun _ _ _ e => e
theorem SmX.same {x : Addr} {H H' H2 : Hp} (h : SmX x H H') (s : Same H' H2) : SmX x H H2 := fun b o n e => s b o (h b o n e)
theorem SmX.keeps {K : PySem.W.Frag} {l : Addr} {H H' : Hp} {xs : List V} (h : SmX l H H') (e : H l = some (.lst xs)) : Keeps K H H' := fun p ys q => by
  rcases q with (q | ⟨o, q⟩) | q
  · exact .inl (.inl (h _ _ (ne_of q e (by intro z; cases z)) q))
  · exact .inl (.inr ⟨o, h _ _ (ne_of q e (by intro z; cases z)) q⟩)
  · exact .inr q
theorem SmX.keepz {l : Addr} {H H' : Hp} {xs : List V} (h : SmX l H H') (e : H l = some (.lst xs)) : KeepZ H H' := fun p o ys q => h _ _ (ne_of q e (by intro z; cases z)) q
theorem ScAt.smx {K : PySem.W.Frag} {C : Addr} {l : Addr} {H H' : Hp} {xs : List V} {x : Addr} {Pm : Pg} {f : Fd} (s : SmX l H H') (e : H l = some (.lst xs)) (h : ScAt K C H x Pm f) : ScAt K C H' x Pm f := by
  have hx := h
  obtain ⟨dx, fs, rv, dk, dr, df, h1, _⟩ := hx.ex
  exact h.mono (s.keeps e) (fun b kvs q => s _ _ (ne_of q e (by intro z; cases z)) q) fun o q => s _ _ (ne_of h1 e (by intro z; cases z)) q
def spSites (K : PySem.W.Frag) : Sp := fun vs H Q _ => ∃ (v : V) (Pm : Pg), vs = [v] ∧ PgAt K H v Pm ∧ PgOk Pm ∧
  ∀ (D : Addr) (us : List V) (H' : Hp), Same H H' → H D = none → H' D = some (.lst us) → A2 (StV K H') Pm.sites us → Q (.ref D) H'
section
variable {P : Program} {w : World} {K : PySem.W.Frag} {mg : Str → Option Value} {base : Heap}
theorem ok_sites (T : Txt w K mg) : FnOk P w K mg base CX0 13 T.a_sites T.d_sites p_sites (spSites K) := by
  have g_Scope_init := ok_Scope_init (P := P) (w := w) (K := K) (base := base) T
  have g_faults_of := ok_faults_of (P := P) (w := w) (K := K) (base := base) T
  have g_list_statements := ok_lsB (P := P) (w := w) (K := K) (base := base) T 8
  obtain ⟨ds_e, e_list_statements⟩ := T.e_list_statements
  refine T.F_sites.ok sc_sites (fun vs H Q E h => ?_) (fun cdv A outer s H vs Q E hr h => ?_)
  · obtain ⟨v, Pm, rfl, _⟩ := h
    rfl
  obtain ⟨v, Pm, rfl, hp, ok, q⟩ := h
  refine ⟨_, (pss_cons (ps_set (i := 1) sc_sites.nd rfl (Or.inl rfl) (pe_lst pa_nil))
      (pss_cons (ps_for PassesOwn.never rfl (pi_tup (pe_ix ix_tup (pv 0) pe_int (fun _ _ => rfl))) (pg_name (i := 2) sc_sites.nd rfl (Or.inr rfl))
        (pss_cons (ps_set (i := 3) sc_sites.nd rfl (Or.inl rfl) (pe_make T.mk_Scope g_Scope_init (hr.mono (by first | decide | omega)) rfl T.mgc_Scope T.b_Scope_init .nil pass0 (pa_cons (pv 0) (pa_cons (pv 2) pa_nil))))
      (pss_one (ps_for PassesOwn.never rfl (pi_enum (by rfl) T.z_enumerate (pa_cons (pe_call g_list_statements (hr.mono (by first | decide | omega)) rfl T.m_list_statements T.F_list_statements.kp e_list_statements.2 e_list_statements.1 pass0 (pa_cons (pe_ix ix_tup (pv 2) pe_int (fun _ _ => rfl)) pa_nil)) pa_nil)) (pg_tup rfl (pgs_cons (pg_name (i := 4) sc_sites.nd rfl (Or.inr rfl)) (pgs_cons (pg_tup rfl (pgs_cons (pg_name (i := 5) sc_sites.nd rfl (Or.inl rfl)) (pgs_cons (pg_name (i := 6) sc_sites.nd rfl (Or.inl rfl)) pgs_nil))) pgs_nil)))
        (pss_one (ps_expr (pe_bm PySem.F.plainAttrs_list PySem.F.slot_list_extend PySem.F.type_list_extend mt_extend (pv 1) (pa_cons (pe_lc (own := [("fault", 7)]) (g := gName 7) (tt := tYes) rfl sc_sites.nd (pi_tup (pe_call g_faults_of (hr.mono (by first | decide | omega)) rfl T.m_faults_of T.F_faults_of.kp T.b_faults_of .nil pass0 (pa_cons (pv 3) (pa_cons (pv 5) pa_nil)))) (blkOk_by (own := [("fault", 7)]) (N := n_sites) (sc := defScope s_sites) (by decide +kernel)) (fun _ _ _ _ _ => (pg_name (i := 7) sc_sites.nd rfl (Or.inl rfl))) (fun _ _ _ _ _ => pts_nil) (fun _ _ _ _ _ => (pe_tup (pa_cons (pe_ix (show IxR _ (rIxT K) from ix_tup) (pv 2) pe_int (fun _ _ => rfl)) (pa_cons (pv 4) (pa_cons (pv 7) pa_nil)))))) pa_nil))))))))
      (pss_one (ps_ret (pv 1))))), ?_⟩
  refine ⟨by show 0 ≤ sizeLine; decide, fun l hl0 => ?_⟩
  have s0 := Same.new hl0 (.lst [])
  have hp0 := hp
  obtain ⟨p, r, rx, a, ax, g, fa, fx, rfl, h1, h2, h3, h4, h5, h6, h7, h8⟩ := hp
  have fxl := A2.len h8
  have hk0 := Keeps.of_same (K := K) s0
  refine ⟨_, rfl, p, _, 3, _, rfl, rfl, hk0 _ _ h1, rfl, fa, rfl, ⟨_, hk0 _ _ h7⟩, for_tup (K := K) (a := fa) (xs := fx) (fun i σ G => (Same H G ∧ ∃ us, G l = some (.lst us) ∧ A2 (StV K G) ((Pm.fn.take i).flatMap fun f => Pm.siteF f 0 f.bd.pre) us) ∧ ∃ x2 x3 x4 x5 x6 x7 : Option V, σ = [some (.ref p), some (.ref l), x2, x3, x4, x5, x6, x7])
    ⟨⟨s0, [], upd_same, trivial⟩, none, none, none, none, none, none, rfl⟩ (fun i σ G _ P => Same.tup P.1.1 h7) ?_ ?_⟩
  · rintro i y σ G hy ⟨⟨sG, us, el, xu⟩, x2, x3, x4, x5, x6, x7, rfl⟩
    obtain ⟨fd, ef, xf⟩ := (h8.imp fun _ _ => FdAt.keep (Keeps.of_same sG)).atv hy
    have mf := List.mem_of_getElem? ef
    have hi10 : i < 10 := by
      have := (List.getElem?_eq_some_iff.mp ef).1
      have := ok.ln.2.2.2
      omega
    have xf0 := xf
    obtain ⟨pF, t1, w1, rv, t3, w3, t4, w4, rfl, c1, _, _, _, _, _, c7, c8⟩ := xf
    refine ⟨_, rfl, _, rfl, fun x dx hx hdx ne => ?_⟩
    have sx : Same G (upd (upd G dx (.own x)) x (.ins T.C_Scope dx [])) := fun b o e => by rw [upd_ne (ne_of_none e hx), upd_ne (ne_of_none e hdx)]; exact e
    refine ⟨x, dx, .ref p, .ref pF, Pm, fd, rfl, upd_same, hp0.keep (Keeps.of_same (sG.trans sx)) (KeepZ.of_same (sG.trans sx)), xf0.keep (Keeps.of_same sx), mf, ok, fun G2 sm sc => ⟨rfl, ?_⟩⟩
    have s2 : Same G G2 := fun b o e => sm b o (ne_of_none e hx) (sx b o e)
    clear sx sm hx hdx ne
    refine ⟨_, rfl, pF, _, 4, _, rfl, rfl, Same.tup s2 c1, rfl, t4, w4, fd.bd, false, rfl, Same.tup s2 c7, c8.keep (Keeps.of_same s2), (ok.dc fd mf).1, Nat.le_trans (ok.dc fd mf).2 (by decide), fun D ps G3 s3 hD0 hD xp => ?_⟩
    have s23 := s2.trans s3
    have sc3 := sc.same s3
    have el3 := s23 _ _ el
    have nDl : D ≠ l := (ne_of_none (s2 _ _ el) hD0).symm
    have xu3 := xu.imp fun _ _ => StV.keep (Keeps.of_same s23)
    have c13 := Same.tup s23 c1
    have sH3 := sG.trans s23
    clear s2 s3 sc xf0 s23 el xu hD0
    have lp := A2.len xp
    refine ⟨D, ps, rfl, SqL.of hD, ?_⟩
    refine for_it walk_enum (fun j σ F => (SmX l G3 F ∧ ∃ us', F l = some (.lst us') ∧ A2 (StV K F) (((Pm.fn.take i).flatMap fun f => Pm.siteF f 0 f.bd.pre) ++ Pm.siteF fd 0 (fd.bd.pre.take j)) us') ∧ ∃ x4 x5 x6 : Option V, σ = [some (.ref p), some (.ref l), some (.ref pF), some (.ref x), x4, x5, x6, x7])
      ⟨⟨SmX.refl _ _, us, el3, by simpa [Pg.siteF] using xu3⟩, x4, x5, x6, rfl⟩ (fun j σ F _ P => SqL.of (P.1.1 _ _ nDl hD)) ?_ ?_
    · rintro j y σ F F' hj ⟨⟨sF, us', el', xu'⟩, y4, y5, y6, rfl⟩ ⟨TT, a1, a2, rfl, hTT, rfl, ea1, ea2⟩
      obtain rfl := Option.some.inj ea1
      have kF := sF.keeps (K := K) el3
      obtain ⟨st, es, pq, u, fl, rfl, d1, d2⟩ := (xp.imp fun _ _ => LsV.keep kF).atv ea2
      have sT := Same.new hTT (.tup [.int (j : Nat), .ref pq])
      have kT := Keeps.of_same (K := K) sT
      have mst := List.mem_of_getElem? es
      obtain ⟨ii, wst⟩ := Bd.wf_pre (ok.wf fd mf) st mst
      refine ⟨TT, _, rfl, SqT.of upd_same, rfl, _, _, rfl, _, _, rfl, pq, _, rfl, kT _ _ d1, rfl, _, _, rfl, _, _, rfl, rfl, rfl, ?_⟩
      have kFT : Keeps K G3 (upd F TT (.tup [.int (j : Nat), .ref pq])) := fun z zs h => kT _ _ (kF _ _ h)
      have sFT : SmX l G3 (upd F TT (.tup [.int (j : Nat), .ref pq])) := sF.same sT
      have elT := sT _ _ el'
      have xuT := xu'.imp fun _ _ => StV.keep kT
      have scT := sc3.smx sFT el3
      have d2T := d2.keep kT
      generalize (upd F TT (.tup [.int (j : Nat), .ref pq])) = F1 at *
      clear kT sT hTT d1 d2 xu' el' sF kF
      refine ⟨_, rfl, .inl ⟨rfl, _, SqL.of elT⟩, _, rfl, _, rfl, x, Pm, fd, st, u, ii, rfl, scT, d2T, wst, ok, mf, fun r F2 s5 hr => ⟨r, rfl, ⟨_, hr⟩, fun D2 hD2 => ?_⟩⟩
      have hj40 : j < 100 := by
        have := (List.getElem?_eq_some_iff.mp es).1
        rw [Bd.pre_len] at this
        have := (ok.dc fd mf).2
        omega
      refine lc_it (walk_tup (xs := (Pm.faults fd st).map V.str)) (fun k F => Same F2 F ∧ ∃ us2, F D2 = some (.lst us2) ∧ A2 (StV K F) (((Pm.faults fd st).take k).map fun x => (fd.nm, j, x)) us2) ⟨Same.new hD2 _, [], upd_same, trivial⟩ (fun k F _ P => Same.tup P.1 hr) ?_ ?_
      · rintro k z F F' hk ⟨sF, us2, eD2, xu2⟩ ⟨rfl, ez⟩
        rw [List.getElem?_map] at ez
        obtain ⟨x', ex', rfl⟩ := Option.map_eq_some_iff.mp ez
        have c1F := Same.tup sF (Same.tup s5 (kFT _ _ c13))
        have f3 := Pm.faults_len fd st
        have l2 := A2.len xu2
        rw [List.length_map] at l2
        have l3 := List.length_take_le' k (Pm.faults fd st)
        refine ⟨rfl, tyes ⟨_, rfl, pF, _, 0, _, rfl, rfl, c1F, rfl, _, rfl, _, rfl, by show 3 ≤ sizeLine; decide, fun e he => ?_⟩⟩
        have se := Same.new he (.tup [.str fd.nm, .int (j : Nat), .str x'])
        refine ⟨us2, se _ _ eD2, lt_line (by omega), fun b o e => ?_, _, upd_same, ?_⟩
        · rw [upd_ne (ne_of_none e hD2)]
          exact se _ _ (sF _ _ e)
        · have kl := keep_lst (K := K) (o := .lst (us2 ++ [.ref e])) (se _ _ eD2)
          rw [List.take_add_one, ex', List.map_append]
          exact ((xu2.imp fun _ _ => StV.keep (Keeps.of_same se)).imp fun _ _ => StV.keep kl).snoc ⟨e, rfl, kl _ _ (SqT.of upd_same)⟩
      rintro F3 ⟨s6, us2, eD2, xu2⟩
      rw [List.length_map, List.take_length] at xu2
      have s56 := s5.trans s6
      have elF := s56 _ _ elT
      have kf := keep_lst (K := K) (o := .lst (us' ++ us2)) elF
      have k56 := Keeps.of_same (K := K) s56
      have lA := A2.len xuT
      have lB := A2.len xu2
      have f3 := Pm.faults_len fd st
      rw [List.length_map] at lB
      have lC : us'.length ≤ 3600 := by
        rw [lA, List.length_append]
        have h1 := Pm.siteF_len fd (fd.bd.pre.take j) 0
        have h2 := List.length_take_le' j fd.bd.pre
        have h3 := (ok.dc fd mf).2
        rw [← Bd.pre_len] at h3
        have h4 := sites_le Pm ok i
        omega
      refine ⟨l, D2, us', us2, rfl, rfl, elF, eD2, by rw [sizeLine_eq]; omega, ⟨fun b o nb e => ?_, _, upd_same, ?_⟩, _, _, _, rfl⟩
      · rw [upd_ne nb]
        exact s56 _ _ (sFT b o nb e)
      · rw [List.take_add_one, es]
        show A2 _ (_ ++ Pm.siteF fd 0 (fd.bd.pre.take j ++ [st])) _
        rw [Pg.siteF_snoc, ← List.append_assoc]
        have lj : (fd.bd.pre.take j).length = j := by
          rw [List.length_take]
          have := (List.getElem?_eq_some_iff.mp es).1
          omega
        rw [lj, Nat.zero_add]
        exact A2.app (xu2.imp fun _ _ => StV.keep kf) ((xuT.imp fun _ _ => StV.keep k56).imp fun _ _ => StV.keep kf)
    rintro σ F ⟨⟨sF, us', el', xu'⟩, y4, y5, y6, rfl⟩
    rw [lp, List.take_length] at xu'
    refine ⟨⟨fun b o e => sF b o (ne_of_none e hl0) (sH3 b o e), us', el', ?_⟩, _, _, _, _, _, _, rfl⟩
    rw [List.take_add_one, ef, List.flatMap_append]
    simpa using xu'
  rintro σ G ⟨⟨sG, us, el, xu⟩, x2, x3, x4, x5, x6, x7, rfl⟩
  rw [fxl, List.take_length] at xu
  exact ⟨_, rfl, q l us G sG hl0 el xu⟩
end
/-! ### plain programs -/
def spLg (K : PySem.W.Frag) : Sp := fun vs H Q _ => ∃ v k, vs = [v] ∧ KdAt K H v k ∧ Q (.bl k.large) H
def Fd.kinds (f : Fd) : List Kd := (f.ps ++ f.ow).map (·.2) ++ f.rs.toList
def Pg.kinds (P : Pg) : List Kd := P.gl.map (·.2) ++ P.fn.flatMap Fd.kinds
def Pg.plain (P : Pg) : Bool := P.ar.isEmpty && !(P.kinds.any Kd.large)
theorem kinds_le (P : Pg) (ok : PgOk P) (i : Nat) : ((P.fn.take i).flatMap Fd.kinds).length ≤ 800 := by
  have : ∀ l : List Fd, (∀ f ∈ l, f ∈ P.fn) → (l.flatMap Fd.kinds).length ≤ 80 * l.length := fun l => by
    induction l with
    | nil => intro _; simp
    | cons f l ih =>
      intro h
      rw [List.flatMap_cons, List.length_append, List.length_cons]
      have h1 := ih fun x hx => h x (List.mem_cons_of_mem _ hx)
      have h2 := (ok.nv f (h f List.mem_cons_self)).2.2.1
      unfold visP at h2
      rw [List.length_append, List.length_append] at h2
      have h3 : f.kinds.length ≤ 41 := by
        unfold Fd.kinds
        rw [List.length_append, List.length_map, List.length_append]
        cases f.rs <;> simp <;> omega
      omega
  have h := this (P.fn.take i) fun f hf => List.mem_of_mem_take hf
  have h2 := List.length_take_le' i P.fn
  have h3 := ok.ln.2.2.2
  omega
def spPln (K : PySem.W.Frag) : Sp := fun vs H Q _ => ∃ (v : V) (Pm : Pg), vs = [v] ∧ PgAt K H v Pm ∧ PgOk Pm ∧ ∀ H', Same H H' → Q (.bl Pm.plain) H'
section
variable {P : Program} {w : World} {K : PySem.W.Frag} {mg : Str → Option Value} {base : Heap}
theorem ok_is_large (T : Txt w K mg) : FnOk P w K mg base CX0 1 T.a_is_large T.d_is_large p_is_large (spLg K) := by
  refine T.F_is_large.ok sc_is_large (fun vs H Q E h => ?_) (fun cdv A outer s H vs Q E hr h => ?_)
  · obtain ⟨v, k, rfl, _⟩ := h
    rfl
  obtain ⟨v, k, rfl, ⟨p, rfl, hp⟩, q⟩ := h
  obtain ⟨t, c_WIDEST_SMALL_h⟩ := T.c_WIDEST_SMALL
  refine ⟨_, (pss_one (ps_ret (pe_and (pe_cmpR op_eq (pe_ix ix_tup (pv 0) pe_int (fun _ _ => rfl)) pe_str (nomark _)) (pe_one (pe_cmpR op_gt (pe_op op_sub (pe_ix ix_tup (pv 0) pe_int (fun _ _ => rfl)) (pe_ix ix_tup (pv 0) pe_int (fun _ _ => rfl))) (pe_glob (v := .int 7) rfl c_WIDEST_SMALL_h ⟨_, rfl⟩) (nomark _)))))), ?_⟩
  cases k with
  | flag => exact ⟨_, rfl, p, _, 0, _, rfl, rfl, hp, at0, rfl, _, rfl, ifF rfl q⟩
  | ref s => exact ⟨_, rfl, p, _, 0, _, rfl, rfl, hp, at0, rfl, _, rfl, ifF rfl q⟩
  | num lo hi =>
    refine ⟨_, rfl, p, _, 0, _, rfl, rfl, hp, at0, rfl, _, rfl, ifT rfl ⟨_, rfl, p, _, 2, _, rfl, rfl, hp, rfl, _, rfl, p, _, 1, _, rfl, rfl, hp, rfl, _, _, rfl, rfl, ?_⟩⟩
    refine ⟨hi - lo, 7, rfl, rfl, ?_⟩
    have e : (decide ((7 : Int) < hi - lo)) = (Kd.num lo hi).large := rfl
    exact q
theorem ok_is_plain (T : Txt w K mg) : FnOk P w K mg base CX0 2 T.a_is_plain T.d_is_plain p_is_plain (spPln K) := by
  have g_is_large := ok_is_large (P := P) (w := w) (K := K) (base := base) T
  refine T.F_is_plain.ok sc_is_plain (fun vs H Q E h => ?_) (fun cdv A outer s H vs Q E hr h => ?_)
  · obtain ⟨v, Pm, rfl, _⟩ := h
    rfl
  obtain ⟨v, Pm, rfl, hp, ok, q⟩ := h
  refine ⟨_, (pss_cons (ps_asg (pv 0) (pg_tup rfl (pgs_cons (pg_name (i := 1) sc_is_plain.nd rfl (Or.inl rfl)) (pgs_cons (pg_name (i := 2) sc_is_plain.nd rfl (Or.inl rfl)) (pgs_cons (pg_name (i := 3) sc_is_plain.nd rfl (Or.inl rfl)) (pgs_cons (pg_name (i := 4) sc_is_plain.nd rfl (Or.inl rfl)) pgs_nil))))))
      (pss_cons (ps_setLc (i := 5) (own := [("_", 1), ("kind", 6)]) (g := gTup K 2 (gCons (gName 1) (gCons (gName 6) gNil))) (tt := tYes) rfl sc_is_plain.nd rfl rfl (sw_true rfl rfl rfl (by decide +kernel)) (pi_tup (pv 3)) (blkOk_by (own := [("_", 1), ("kind", 6)]) (N := n_is_plain) (sc := defScope s_is_plain) (by decide +kernel)) (fun _ _ _ _ _ => (pg_tup rfl (pgs_cons (pg_name (i := 1) sc_is_plain.nd rfl (Or.inl rfl)) (pgs_cons (pg_name (i := 6) sc_is_plain.nd rfl (Or.inl rfl)) pgs_nil)))) (fun _ _ _ _ _ => pts_nil) (fun _ _ _ _ _ => (pv 6)))
      (pss_cons (ps_for PassesOwn.never rfl (pi_tup (pv 4)) (pg_tup rfl (pgs_cons (pg_name (i := 1) sc_is_plain.nd rfl (Or.inl rfl)) (pgs_cons (pg_name (i := 7) sc_is_plain.nd rfl (Or.inl rfl)) (pgs_cons (pg_name (i := 8) sc_is_plain.nd rfl (Or.inl rfl)) (pgs_cons (pg_name (i := 9) sc_is_plain.nd rfl (Or.inl rfl)) (pgs_cons (pg_name (i := 1) sc_is_plain.nd rfl (Or.inl rfl)) pgs_nil))))))
        (pss_cons (ps_expr (pe_bm PySem.F.plainAttrs_list PySem.F.slot_list_extend PySem.F.type_list_extend mt_extend (pv 5) (pa_cons (pe_lc (own := [("_", 1), ("kind", 6)]) (g := gTup K 2 (gCons (gName 1) (gCons (gName 6) gNil))) (tt := tYes) rfl sc_is_plain.nd (pi_tup (pe_tup (StX.pa_star (pv 7) (StX.pa_star (pv 9) pa_nil)))) (blkOk_by (own := [("_", 1), ("kind", 6)]) (N := n_is_plain) (sc := defScope s_is_plain) (by decide +kernel)) (fun _ _ _ _ _ => (pg_tup rfl (pgs_cons (pg_name (i := 1) sc_is_plain.nd rfl (Or.inl rfl)) (pgs_cons (pg_name (i := 6) sc_is_plain.nd rfl (Or.inl rfl)) pgs_nil)))) (fun _ _ _ _ _ => pts_nil) (fun _ _ _ _ _ => (pv 6))) pa_nil)))
      (pss_one (ps_expr (pe_bm PySem.F.plainAttrs_list PySem.F.slot_list_extend PySem.F.type_list_extend mt_extend (pv 5) (pa_cons (pe_ifExp (pt_cmpR op_isN (pv 8) pe_non (nomark _)) (pe_lst pa_nil) (pe_lst (pa_cons (pv 8) pa_nil))) pa_nil))))))
      (pss_one (ps_ret (pe_and (pe_cmpR (op_eqT0 hr.units0) (pv 2) (pe_tup pa_nil) (nomark _)) (pe_one (pe_not (pe_callB (cr_any rfl) rfl T.z_any bb_any (pa_cons (pe_lc (own := [("kind", 6)]) (g := gName 6) (tt := tYes) rfl sc_is_plain.nd (pi_list (pv 5)) (blkOk_by (own := [("kind", 6)]) (N := n_is_plain) (sc := defScope s_is_plain) (by decide +kernel)) (fun _ _ _ _ _ => (pg_name (i := 6) sc_is_plain.nd rfl (Or.inl rfl))) (fun _ _ _ _ _ => pts_nil) (fun _ _ _ _ _ => (pe_call g_is_large (hr.mono (by first | decide | omega)) rfl T.m_is_large T.F_is_large.kp T.b_is_large .nil pass0 (pa_cons (pv 6) pa_nil)))) pa_nil)))))))))), ?_⟩
  have hp0 := hp
  obtain ⟨p, r, rx, a, ax, g, fa, fx, rfl, h1, h2, h3, h4, h5, ⟨gx, gz, gk⟩, h7, h8⟩ := hp
  refine ⟨_, rfl, p, _, rfl, h1, rfl, _, _, rfl, _, _, rfl, _, _, rfl, _, _, rfl, rfl, ?_⟩
  refine ⟨_, rfl, g, rfl, ⟨_, gz.sq⟩, fun l hl0 => ?_⟩
  refine lc_it (walk_tup (xs := gx)) (fun i G => Same H G ∧ ∃ us, G l = some (.lst us) ∧ KdsL K G ((Pm.gl.take i).map (·.2)) us) ⟨Same.new hl0 _, [], upd_same, trivial⟩ (fun i G _ P => Same.tup P.1 gz.sq) ?_ ?_
  · rintro i y G G' hi ⟨sG, us, el, xu⟩ ⟨rfl, ey⟩
    obtain ⟨b, eb, pa, kv, rfl, c1, c2⟩ := (gk.keep (Keeps.of_same sG)).atv ey
    have l1 := A2.len xu
    have l2 := List.length_take_le' i Pm.gl
    have l3 := ok.ln.2.2.1
    rw [List.length_map] at l1
    have kl := keep_lst (K := K) (o := .lst (us ++ [kv])) el
    refine ⟨pa, _, rfl, c1, rfl, _, _, rfl, _, _, rfl, rfl, rfl, tyes ⟨_, rfl, us, el, lt_line (by omega), Same.grow hl0 sG, _, upd_same, ?_⟩⟩
    rw [List.take_add_one, eb, List.map_append]
    exact (xu.imp fun _ _ => KdAt.keep kl).snoc (c2.keep kl)
  rintro G0 ⟨s0, us0, el0, xu0⟩
  have lgx := A2.len gk
  rw [lgx, List.take_length] at xu0
  have fxl := A2.len h8
  refine ⟨_, rfl, fa, rfl, ⟨_, Same.tup s0 h7⟩, for_tup (K := K) (a := fa) (xs := fx) (fun i σ G => (Same H G ∧ ∃ us, G l = some (.lst us) ∧ KdsL K G (Pm.gl.map (·.2) ++ (Pm.fn.take i).flatMap Fd.kinds) us) ∧ ∃ x1 x6 x7 x8 x9 : Option V, σ = [some (.ref p), x1, some (.ref a), some (.ref g), some (.ref fa), some (.ref l), x6, x7, x8, x9])
    ⟨⟨s0, us0, el0, by simpa using xu0⟩, _, _, _, _, _, rfl⟩ (fun i σ G _ P => Same.tup P.1.1 h7) ?_ ?_⟩
  · rintro i y σ G hy ⟨⟨sG, us, el, xu⟩, x1, x6, x7, x8, x9, rfl⟩
    obtain ⟨fd, ef, xf⟩ := (h8.imp fun _ _ => FdAt.keep (Keeps.of_same sG)).atv hy
    have mf := List.mem_of_getElem? ef
    obtain ⟨pF, t1, w1, rv, t3, w3, t4, w4, rfl, c1, c2, c3, c4, c5, c6, c7, c8⟩ := xf
    have cp : PksL K G (fd.ps ++ fd.ow) (w1 ++ (w3 ++ [])) := by
      rw [List.append_nil]
      exact A2.app c6 c3
    have lcp := A2.len cp
    have l40 : (fd.ps ++ fd.ow).length ≤ 40 := by
      have h2 := (ok.nv fd mf).2.2.1
      unfold visP at h2
      rw [List.length_append, List.length_append] at h2
      rw [List.length_append]
      omega
    have lus : us.length ≤ 900 := by
      have h1 := A2.len xu
      rw [h1, List.length_append, List.length_map]
      have h2 := kinds_le Pm ok i
      have h3 := ok.ln.2.2.1
      omega
    refine ⟨pF, _, rfl, c1, rfl, _, _, rfl, _, _, rfl, _, _, rfl, _, _, rfl, _, _, rfl, rfl, ?_⟩
    refine ⟨_, rfl, .inl ⟨rfl, _, SqL.of el⟩, _, rfl, t1, _, rfl, .inl c2, _, rfl, t3, _, rfl, .inl c5, ?_⟩
    refine ⟨by rw [lcp]; exact Nat.le_of_lt (lt_line (by omega)), fun tz htz => ⟨tz, rfl, ⟨_, SqT.of upd_same⟩, fun D hD => ?_⟩⟩
    have sz := Same.new htz (.tup (w1 ++ (w3 ++ [])))
    have ez : SqT K (upd G tz (.tup (w1 ++ (w3 ++ [])))) tz (w1 ++ (w3 ++ [])) := SqT.of upd_same
    have el1 := sz _ _ el
    generalize (upd G tz (.tup (w1 ++ (w3 ++ [])))) = G1 at *
    refine lc_it (walk_tup (xs := w1 ++ (w3 ++ []))) (fun j F => Same G1 F ∧ ∃ vs, F D = some (.lst vs) ∧ KdsL K F (((fd.ps ++ fd.ow).take j).map (·.2)) vs) ⟨Same.new hD _, [], upd_same, trivial⟩ (fun j F _ P => Same.tup P.1 ez) ?_ ?_
    · rintro j y F F' hj ⟨sF, vs, eD, xv⟩ ⟨rfl, ey⟩
      obtain ⟨b, eb, pa, kv, rfl, d1, d2⟩ := (cp.keep (Keeps.of_same (sz.trans sF))).atv ey
      have l1 := A2.len xv
      have l2 := List.length_take_le' j (fd.ps ++ fd.ow)
      rw [List.length_map] at l1
      have kl := keep_lst (K := K) (o := .lst (vs ++ [kv])) eD
      refine ⟨pa, _, rfl, d1, rfl, _, _, rfl, _, _, rfl, rfl, rfl, tyes ⟨_, rfl, vs, eD, lt_line (by omega), Same.grow hD sF, _, upd_same, ?_⟩⟩
      rw [List.take_add_one, eb, List.map_append]
      exact (xv.imp fun _ _ => KdAt.keep kl).snoc (d2.keep kl)
    rintro F ⟨sF, vs, eD, xv⟩
    rw [lcp, List.take_length] at xv
    have lvs := A2.len xv
    rw [List.length_map] at lvs
    have elF := sF _ _ el1
    have kl := keep_lst (K := K) (o := .lst (us ++ vs)) elF
    have kF := Keeps.of_same (K := K) (sz.trans sF)
    refine ⟨l, D, us, vs, rfl, rfl, elF, eD, Nat.le_of_lt (lt_line (by omega)), ?_⟩
    have xu1 : KdsL K (upd F l (.lst (us ++ vs))) (Pm.gl.map (·.2) ++ (Pm.fn.take i).flatMap Fd.kinds ++ (fd.ps ++ fd.ow).map (·.2)) (us ++ vs) := A2.app (xv.imp fun _ _ => KdAt.keep kl) ((xu.imp fun _ _ => KdAt.keep kF).imp fun _ _ => KdAt.keep kl)
    have c41 := (c4.keep kF).keep kl
    have s1 : Same H (upd F l (.lst (us ++ vs))) := Same.grow hl0 ((sG.trans sz).trans sF)
    have e1 : (upd F l (.lst (us ++ vs))) l = some (.lst (us ++ vs)) := upd_same
    have luv : (us ++ vs).length ≤ 940 := by
      rw [List.length_append]
      omega
    generalize (upd F l (.lst (us ++ vs))) = F1 at *
    generalize us ++ vs = us1 at *
    clear kl kF elF eD xv sF el1 ez sz htz hD xu el sG c1 c2 c3 c5 c6 c7 c8 cp
    refine ⟨_, rfl, .inl ⟨rfl, _, SqL.of e1⟩, ?_⟩
    have step : ∀ (ks : List Kd) (vs2 : List V) (D2 : Addr) (F2 : Hp), fd.rs.toList = ks → Same F1 F2 → F2 D2 = some (.lst vs2) → KdsL K F2 ks vs2 → vs2.length ≤ 1 → Same H (upd F2 l (.lst (us1 ++ vs2))) ∧ ∃ us, (upd F2 l (.lst (us1 ++ vs2))) l = some (.lst us) ∧ KdsL K (upd F2 l (.lst (us1 ++ vs2))) (Pm.gl.map (·.2) ++ (Pm.fn.take (i + 1)).flatMap Fd.kinds) us := by
      intro ks vs2 D2 F2 ek s2 e2 x2 l2
      have kl := keep_lst (K := K) (o := .lst (us1 ++ vs2)) (s2 _ _ e1)
      refine ⟨Same.grow hl0 (s1.trans s2), _, upd_same, ?_⟩
      have e : Pm.gl.map (·.2) ++ (Pm.fn.take (i + 1)).flatMap Fd.kinds = Pm.gl.map (·.2) ++ (Pm.fn.take i).flatMap Fd.kinds ++ (fd.ps ++ fd.ow).map (·.2) ++ ks := by
        rw [List.take_add_one, ef, List.flatMap_append, ← ek]
        simp [Fd.kinds]
      rw [e]
      exact A2.app (x2.imp fun _ _ => KdAt.keep kl) ((xu1.imp fun _ _ => KdAt.keep (Keeps.of_same s2)).imp fun _ _ => KdAt.keep kl)
    cases ers : fd.rs with
    | none =>
      rw [ers] at c41
      obtain rfl : rv = .non := c41
      refine ⟨_, rfl, rfl, _, rfl, ifT rfl ⟨by show 0 ≤ sizeLine; decide, fun D2 hD2 => ?_⟩⟩
      have s2 := Same.new hD2 (.lst [])
      exact ⟨l, D2, us1, [], rfl, rfl, s2 _ _ e1, upd_same, Nat.le_of_lt (lt_line (by rw [List.length_nil]; omega)), step [] [] D2 _ (by rw [ers]; rfl) s2 upd_same trivial (by decide), _, _, _, _, _, rfl⟩
    | some k =>
      rw [ers] at c41
      obtain ⟨pk, rfl, hk⟩ := c41
      refine ⟨_, rfl, rfl, _, rfl, ifF rfl ⟨_, rfl, by show 1 ≤ sizeLine; decide, fun D2 hD2 => ?_⟩⟩
      have s2 := Same.new hD2 (.lst [.ref pk])
      exact ⟨l, D2, us1, [.ref pk], rfl, rfl, s2 _ _ e1, upd_same, Nat.le_of_lt (lt_line (by rw [List.length_singleton]; omega)), step [k] [.ref pk] D2 _ (by rw [ers]; rfl) s2 upd_same ⟨⟨pk, rfl, Same.tup s2 hk⟩, trivial⟩ (Nat.le_refl 1), _, _, _, _, _, rfl⟩
  rintro σ G ⟨⟨sG, us, el, xu⟩, x1, x6, x7, x8, x9, rfl⟩
  rw [fxl, List.take_length] at xu
  have xu : KdsL K G Pm.kinds us := xu
  have lk : Pm.kinds.length ≤ 900 := by
    unfold Pg.kinds
    have h2 := kinds_le Pm ok Pm.fn.length
    rw [List.take_length] at h2
    have h3 := ok.ln.2.2.1
    rw [List.length_append, List.length_map]
    omega
  refine ⟨_, rfl, by show 0 ≤ sizeLine; decide, fun z hz => ?_⟩
  have sz := Same.new hz (.tup [])
  have sHz := sG.trans sz
  have hax : SqT K (upd G z (.tup [])) a ax := Same.tup sHz h4
  have hzz : SqT K (upd G z (.tup [])) z [] := SqT.of upd_same
  have elz := sz _ _ el
  have xuz := xu.imp fun _ _ => KdAt.keep (Keeps.of_same sz)
  generalize (upd G z (.tup [])) = G1 at *
  have eax : ax.isEmpty = Pm.ar.isEmpty := by
    have := A2.len h5
    cases ax <;> cases hh : Pm.ar <;> rw [hh] at this <;> simp at this <;> rfl
  refine ⟨a, z, ax, rfl, rfl, hax, hzz, _, rfl, ?_⟩
  have pl : Pm.plain = (Pm.ar.isEmpty && !(Pm.kinds.any Kd.large)) := rfl
  refine ite2 (fun e => ?_) (fun e => ?_)
  · refine ⟨_, rfl, l, rfl, ⟨_, SqL.of elz⟩, fun D hD => ?_⟩
    have nD : l ≠ D := ne_of_none elz hD
    have lx := A2.len xuz
    refine lc_it (walk_list (xs := us)) (fun i F => Same G1 F ∧ F D = some (.lst (((Pm.kinds.take i).map Kd.large).map V.bl))) ⟨Same.new hD _, upd_same⟩ (fun i F _ P => SqL.of (P.1 _ _ elz)) ?_ ?_
    · rintro i y F F' hi ⟨sF, eD⟩ ⟨rfl, ey⟩
      obtain ⟨k, ek, hk⟩ := (xuz.imp fun _ _ => KdAt.keep (Keeps.of_same sF)).atv ey
      have l2 := List.length_take_le' i Pm.kinds
      refine ⟨rfl, tyes ⟨_, rfl, y, k, rfl, hk, _, eD, lt_line (by rw [List.length_map, List.length_map]; omega), Same.grow hD sF, ?_⟩⟩
      rw [upd_same, List.take_add_one, ek, List.map_append, List.map_append]
      rfl
    rintro F ⟨sF, eD⟩
    rw [lx, List.take_length] at eD
    refine ⟨D, _, rfl, SqL.of eD, _, rfl, ?_⟩
    have eb : Pm.plain = !((Pm.kinds.map Kd.large).any id) := by
      rw [pl, ← eax, e, List.any_map]
      rfl
    rw [← eb]
    exact q F (sHz.trans sF)
  · have eb : Pm.plain = false := by
      rw [pl, ← eax, Bool.eq_false_iff.mpr e]
      rfl
    have := q G1 sHz
    rw [eb] at this
    exact this
end
/-! ### the law's statements -/
def spFl (K : PySem.W.Frag) (m : Nat) : Sp := fun vs H Q _ => ∃ (q : Addr) (us : List V) (b : Bd), vs = [.ref q] ∧ SqT K H q us ∧ BdL K H b us ∧ b.dep m ∧ b.cnt ≤ 400 ∧
  ∀ (D : Addr) (ps : List V) (H' : Hp), Same H H' → H D = none → H' D = some (.lst ps) → A2 (SmAt K H') b.pre ps → Q (.ref D) H'
section
variable {P : Program} {w : World} {K : PySem.W.Frag} {mg : Str → Option Value} {base : Heap}
theorem ok_flat0 (T : Txt w K mg) {m : Nat} (g_l_flat : FnOk P w K mg base CX0 (m + 1) T.a_l_flat T.d_l_flat p_l_flat (match m with | 0 => fun _ _ _ _ => False | k + 1 => spFl K k)) :
    FnOk P w K mg base CX0 (m + 2) T.a_l_flat T.d_l_flat p_l_flat (spFl K m) := by
  refine T.F_l_flat.ok sc_l_flat (fun vs H Q E h => ?_) (fun cdv A outer s H vs Q E hr h => ?_)
  · obtain ⟨q, us, t, rfl, _⟩ := h
    rfl
  obtain ⟨qa, us, t, rfl, hq, ht, hd, hc, q⟩ := h
  refine ⟨_, (pss_cons (ps_set (i := 1) sc_l_flat.nd rfl (Or.inl rfl) (pe_lst pa_nil))
      (pss_cons (ps_for PassesOwn.never rfl (pi_tup (pv 0)) (pg_name (i := 2) sc_l_flat.nd rfl (Or.inl rfl))
        (pss_cons (ps_expr (pe_bm PySem.F.plainAttrs_list PySem.F.slot_list_append PySem.F.type_list_append mt_append (pv 1) (pa_cons (pv 2) pa_nil)))
      (C8.pss_cut (ps_if (PW.pt (pw_or (pt_cmpR op_eq (pe_ix ix_tup (pv 2) pe_int (fun _ _ => rfl)) pe_str (nomark _)) (pw_or1 (pt_cmpR op_eq (pe_ix ix_tup (pv 2) pe_int (fun _ _ => rfl)) pe_str (nomark _))))) (pss_one (ps_set (i := 1) sc_l_flat.nd rfl (Or.inl rfl) (pe_op op_cat (pv 1) (pe_call g_l_flat (hr.mono (by first | decide | omega)) rfl T.m_l_flat T.F_l_flat.kp T.b_l_flat .nil pass0 (pa_cons (pe_ix ix_tup (pv 2) pe_int (fun _ _ => rfl)) pa_nil))))) pss_nil)
      (pss_one (ps_if (pt_cmpR op_eq (pe_ix ix_tup (pv 2) pe_int (fun _ _ => rfl)) pe_str (nomark _)) (pss_one (ps_set (i := 1) sc_l_flat.nd rfl (Or.inl rfl) (pe_op op_cat (pv 1) (pe_call g_l_flat (hr.mono (by first | decide | omega)) rfl T.m_l_flat T.F_l_flat.kp T.b_l_flat .nil pass0 (pa_cons (pe_ix ix_tup (pv 2) pe_int (fun _ _ => rfl)) pa_nil))))) pss_nil)))))
      (pss_one (ps_ret (pv 1))))), ?_⟩
  refine ⟨by show 0 ≤ sizeLine; decide, fun l hl0 => ?_⟩
  have s0 := Same.new hl0 (.lst [])
  refine ⟨_, rfl, qa, rfl, ⟨_, Same.tup s0 hq⟩, for_tup (K := K) (a := qa) (xs := us) (fun i σ H' => Same H H' ∧ ∃ (l : Addr) (ps : List V) (dn : List Sm) (r : Bd) (v2 : Option V), σ = [some (.ref qa), some (.ref l), v2] ∧ H l = none ∧ H' l = some (.lst ps) ∧ A2 (SmAt K H') dn ps ∧ BdL K H' r (us.drop i) ∧ r.dep m ∧ t.pre = dn ++ r.pre)
    ⟨s0, l, [], [], t, none, rfl, hl0, upd_same, trivial, ht.keep (Keeps.of_same s0), hd, rfl⟩ (fun i σ H' _ ⟨h, _⟩ => Same.tup h hq) ?_ ?_⟩
  · clear hl0 s0 l
    rintro i v σ H' hi ⟨sm, l, ps, dn, r, v2, rfl, hl0, hl, hp, htr, hdr, epre⟩
    have hil : i < us.length := (List.getElem?_eq_some_iff.mp hi).1
    have dr : us.drop i = v :: us.drop (i + 1) := by
      rw [List.drop_eq_getElem_cons hil]
      congr 1
      exact (List.getElem?_eq_some_iff.mp hi).2
    rw [dr] at htr
    have plen := hp.len
    have tlen := Bd.pre_len t
    have dlen : dn.length + r.pre.length ≤ 400 := by
      rw [← List.length_append, ← epre, tlen]
      exact hc
    cases r with
    | nil => cases (show v :: us.drop (i + 1) = [] from htr)
    | cons st r2 =>
    obtain ⟨v', ws, ev, xst, ht2⟩ := htr
    obtain ⟨rfl, rfl⟩ := List.cons.inj ev
    have hdr : st.dep m ∧ r2.dep m := hdr
    obtain ⟨hds, hd2⟩ := hdr
    have er : (Bd.cons st r2).pre = st.pre ++ r2.pre := rfl
    rw [er] at epre dlen
    obtain ⟨p, rest, roles, rfl, hpt, _⟩ := xst.bodI
    refine ⟨_, rfl, .inl ⟨rfl, _, SqL.of hl⟩, _, rfl, l, _, _, rfl, rfl, hl, lt_line (by omega), ?_⟩
    have kA := keep_lst (K := K) (o := .lst (ps ++ [.ref p])) hl
    have smA : Same H (upd H' l (.lst (ps ++ [.ref p]))) := Same.grow hl0 sm
    have hlA : (upd H' l (.lst (ps ++ [.ref p]))) l = some (.lst (ps ++ [.ref p])) := upd_same
    have pA : A2 (SmAt K (upd H' l (.lst (ps ++ [.ref p])))) (dn ++ [st]) (ps ++ [.ref p]) := (hp.imp fun _ _ => SmAt.keep kA).snoc (xst.keep kA)
    have ht2 := ht2.keep kA
    have hptA := kA _ _ hpt
    have xA := xst.keep kA
    have lA : (ps ++ [V.ref p]).length = dn.length + 1 := by rw [List.length_append, plen]; rfl
    generalize (upd H' l (.lst (ps ++ [.ref p]))) = HA at *
    generalize ps ++ [V.ref p] = psA at *
    clear hp kA xst hl hpt plen sm
    -- after the bodies
    have fin : ∀ (HB : Hp) (lB : Addr) (psB : List V), Same H HB → Keeps K HA HB → H lB = none → HB lB = some (.lst psB) → A2 (SmAt K HB) (dn ++ st.pre) psB → Same H HB ∧ ∃ (l : Addr) (ps : List V) (dn : List Sm) (r : Bd) (v2 : Option V), [some (.ref qa), some (.ref lB), some (.ref p)] = [some (.ref qa), some (V.ref l), v2] ∧ H l = none ∧ HB l = some (.lst ps) ∧ A2 (SmAt K HB) dn ps ∧ BdL K HB r (us.drop (i + 1)) ∧ r.dep m ∧ t.pre = dn ++ r.pre :=
      fun HB lB psB sB kB nB eB xB => ⟨sB, lB, psB, dn ++ st.pre, r2, _, rfl, nB, eB, xB, ht2.keep kB, hd2, by rw [epre, List.append_assoc]⟩
    have bods := Sm.dep_bods hds
    -- a body behind the list
    have call : ∀ (b : Bd) (qb : Addr) (ub : List V) (HB : Hp) (lB : Addr) (psB : List V) (dB : List Sm) (Qf : V → Hp → Prop), b ∈ st.bods → SqT K HB qb ub → BdL K HB b ub → dB.length + b.pre.length ≤ 400 → H lB = none → Same H HB → Keeps K HA HB → HB lB = some (.lst psB) → A2 (SmAt K HB) dB psB →
        (∀ (HC : Hp) (lC : Addr) (psC : List V), H lC = none → Same H HC → Keeps K HA HC → HC lC = some (.lst psC) → A2 (SmAt K HC) (dB ++ b.pre) psC → Qf (.ref lC) HC) →
        (match m with | 0 => fun _ _ _ _ => False | k + 1 => spFl K k) [V.ref qb] HB (fun y H2 => rCat (.ref lB) y H2 Qf) E0 := by
      intro b qb ub HB lB psB dB Qf mb hqb hub hle nB sB kB eB xB fq
      obtain ⟨k, rfl, hdb⟩ := bods (fun z => by rw [z] at mb; cases mb)
      have bl2 := Bd.pre_len b
      refine ⟨qb, ub, b, rfl, hqb, hub, hdb b mb, by omega, fun D pD H6 s6 hD0 hD xD => ?_⟩
      have l1 := A2.len xB
      have l2 := A2.len xD
      refine ⟨lB, D, psB, pD, rfl, rfl, s6 _ _ eB, hD, Nat.le_of_lt (lt_line (by omega)), fun p5 hp5 => ?_⟩
      have s7 := Same.new hp5 (.lst (psB ++ pD))
      have s67 := s6.trans s7
      exact fq _ p5 _ (sB.free (s6.free hp5)) (sB.trans s67) (fun z zs h => Same.tup s67 (kB _ _ h)) upd_same (A2.app (xD.imp fun _ _ => SmAt.keep (Keeps.of_same s7)) (xB.imp fun _ _ => SmAt.keep (Keeps.of_same s67)))
    have no : st.bods = [] → st.word ≠ "if" → st.word ≠ "while" → st.pre = [st] := fun e _ _ => by rw [Sm.pre_eq, e]; rfl
    have isI : ∀ (HB : Hp) (u : Str), Keeps K HA HB → True := fun _ _ _ => trivial
    cases st with
    | iff e b c =>
      obtain ⟨p', a, q1, q2, vs, ws, e1, hp', hx, g1, g2, g3, g4⟩ := xA
      cases e1
      have ln : dn.length + (1 + b.pre.length + c.pre.length) ≤ 400 := by
        have : (Sm.iff e b c).pre.length = 1 + b.pre.length + c.pre.length := by
          show (Sm.iff e b c :: (b.pre ++ c.pre)).length = _
          rw [List.length_cons, List.length_append]
          omega
        rw [List.length_append, this] at dlen
        omega
      refine ⟨fun σ F => ∃ (l2 : Addr) (ps2 : List V), σ = [some (.ref qa), some (.ref l2), some (.ref p)] ∧ Same H F ∧ Keeps K HA F ∧ H l2 = none ∧ F l2 = some (.lst ps2) ∧ A2 (SmAt K F) (dn ++ [.iff e b c] ++ b.pre) ps2, ?_, ?_⟩
      · refine ⟨_, rfl, p, _, 0, _, rfl, rfl, hp', at0, rfl, _, rfl, ifT rfl ⟨_, rfl, _, rfl, p, _, 2, _, rfl, rfl, hp', rfl, ?_⟩⟩
        exact call b q1 vs HA l psA (dn ++ [.iff e b c]) _ (by show b ∈ [b, c]; simp) g1 g2 (by rw [List.length_append]; show dn.length + 1 + _ ≤ 400; omega) hl0 smA (fun _ _ h => h) hlA pA fun HC lC psC nC sC kC eC xC => ⟨lC, psC, rfl, sC, kC, nC, eC, xC⟩
      rintro σ F ⟨l2, ps2, rfl, sF, kF, nF, eF, xF⟩
      refine ⟨_, rfl, p, _, 0, _, rfl, rfl, kF _ _ hp', at0, rfl, _, rfl, ifT rfl ⟨_, rfl, _, rfl, p, _, 3, _, rfl, rfl, kF _ _ hp', rfl, ?_⟩⟩
      refine call c q2 ws F l2 ps2 (dn ++ [.iff e b c] ++ b.pre) _ (by show c ∈ [b, c]; simp) (kF _ _ g3) (g4.keep kF) (by rw [List.length_append, List.length_append]; show dn.length + 1 + _ + _ ≤ 400; omega) nF sF kF eF xF fun HC lC psC nC sC kC eC xC => ?_
      refine fin HC lC psC sC kC nC eC ?_
      have e5 : dn ++ (Sm.iff e b c).pre = dn ++ [.iff e b c] ++ b.pre ++ c.pre := by
        show dn ++ (Sm.iff e b c :: (b.pre ++ c.pre)) = _
        simp
      rw [e5]
      exact xC
    | loop e b =>
      obtain ⟨p', a, q1, vs, e1, hp', hx, g1, g2⟩ := xA
      cases e1
      have ln : dn.length + (1 + b.pre.length) ≤ 400 := by
        have : (Sm.loop e b).pre.length = 1 + b.pre.length := by
          show (Sm.loop e b :: b.pre).length = _
          rw [List.length_cons]
          omega
        rw [List.length_append, this] at dlen
        omega
      refine ⟨fun σ F => ∃ (l2 : Addr) (ps2 : List V), σ = [some (.ref qa), some (.ref l2), some (.ref p)] ∧ Same H F ∧ Keeps K HA F ∧ H l2 = none ∧ F l2 = some (.lst ps2) ∧ A2 (SmAt K F) (dn ++ [.loop e b] ++ b.pre) ps2, ?_, ?_⟩
      · refine ⟨_, rfl, p, _, 0, _, rfl, rfl, hp', at0, rfl, _, rfl, ifF rfl ⟨_, rfl, p, _, 0, _, rfl, rfl, hp', at0, rfl, _, rfl, ifT rfl ⟨_, rfl, _, rfl, p, _, 2, _, rfl, rfl, hp', rfl, ?_⟩⟩⟩
        exact call b q1 vs HA l psA (dn ++ [.loop e b]) _ (by show b ∈ [b]; simp) g1 g2 (by rw [List.length_append]; show dn.length + 1 + _ ≤ 400; omega) hl0 smA (fun _ _ h => h) hlA pA fun HC lC psC nC sC kC eC xC => ⟨lC, psC, rfl, sC, kC, nC, eC, xC⟩
      rintro σ F ⟨l2, ps2, rfl, sF, kF, nF, eF, xF⟩
      refine ⟨_, rfl, p, _, 0, _, rfl, rfl, kF _ _ hp', at0, rfl, _, rfl, ifF rfl ?_⟩
      refine fin F l2 ps2 sF kF nF eF ?_
      have e5 : dn ++ (Sm.loop e b).pre = dn ++ [.loop e b] ++ b.pre := by
        show dn ++ (Sm.loop e b :: b.pre) = _
        simp
      rw [e5]
      exact xF
    | set => exact ⟨fun σ F => σ = [some (.ref qa), some (.ref l), some (.ref p)] ∧ HA = F, ⟨_, rfl, p, _, 0, _, rfl, rfl, hptA, at0, rfl, _, rfl, ifF rfl ⟨_, rfl, p, _, 0, _, rfl, rfl, hptA, at0, rfl, _, rfl, ifF rfl ⟨rfl, rfl⟩⟩⟩, by rintro σ F ⟨rfl, rfl⟩; exact ⟨_, rfl, p, _, 0, _, rfl, rfl, hptA, at0, rfl, _, rfl, ifF rfl (fin HA l psA smA (fun _ _ h => h) hl0 hlA pA)⟩⟩
    | input => exact ⟨fun σ F => σ = [some (.ref qa), some (.ref l), some (.ref p)] ∧ HA = F, ⟨_, rfl, p, _, 0, _, rfl, rfl, hptA, at0, rfl, _, rfl, ifF rfl ⟨_, rfl, p, _, 0, _, rfl, rfl, hptA, at0, rfl, _, rfl, ifF rfl ⟨rfl, rfl⟩⟩⟩, by rintro σ F ⟨rfl, rfl⟩; exact ⟨_, rfl, p, _, 0, _, rfl, rfl, hptA, at0, rfl, _, rfl, ifF rfl (fin HA l psA smA (fun _ _ h => h) hl0 hlA pA)⟩⟩
    | new => exact ⟨fun σ F => σ = [some (.ref qa), some (.ref l), some (.ref p)] ∧ HA = F, ⟨_, rfl, p, _, 0, _, rfl, rfl, hptA, at0, rfl, _, rfl, ifF rfl ⟨_, rfl, p, _, 0, _, rfl, rfl, hptA, at0, rfl, _, rfl, ifF rfl ⟨rfl, rfl⟩⟩⟩, by rintro σ F ⟨rfl, rfl⟩; exact ⟨_, rfl, p, _, 0, _, rfl, rfl, hptA, at0, rfl, _, rfl, ifF rfl (fin HA l psA smA (fun _ _ h => h) hl0 hlA pA)⟩⟩
    | free => exact ⟨fun σ F => σ = [some (.ref qa), some (.ref l), some (.ref p)] ∧ HA = F, ⟨_, rfl, p, _, 0, _, rfl, rfl, hptA, at0, rfl, _, rfl, ifF rfl ⟨_, rfl, p, _, 0, _, rfl, rfl, hptA, at0, rfl, _, rfl, ifF rfl ⟨rfl, rfl⟩⟩⟩, by rintro σ F ⟨rfl, rfl⟩; exact ⟨_, rfl, p, _, 0, _, rfl, rfl, hptA, at0, rfl, _, rfl, ifF rfl (fin HA l psA smA (fun _ _ h => h) hl0 hlA pA)⟩⟩
    | load => exact ⟨fun σ F => σ = [some (.ref qa), some (.ref l), some (.ref p)] ∧ HA = F, ⟨_, rfl, p, _, 0, _, rfl, rfl, hptA, at0, rfl, _, rfl, ifF rfl ⟨_, rfl, p, _, 0, _, rfl, rfl, hptA, at0, rfl, _, rfl, ifF rfl ⟨rfl, rfl⟩⟩⟩, by rintro σ F ⟨rfl, rfl⟩; exact ⟨_, rfl, p, _, 0, _, rfl, rfl, hptA, at0, rfl, _, rfl, ifF rfl (fin HA l psA smA (fun _ _ h => h) hl0 hlA pA)⟩⟩
    | store => exact ⟨fun σ F => σ = [some (.ref qa), some (.ref l), some (.ref p)] ∧ HA = F, ⟨_, rfl, p, _, 0, _, rfl, rfl, hptA, at0, rfl, _, rfl, ifF rfl ⟨_, rfl, p, _, 0, _, rfl, rfl, hptA, at0, rfl, _, rfl, ifF rfl ⟨rfl, rfl⟩⟩⟩, by rintro σ F ⟨rfl, rfl⟩; exact ⟨_, rfl, p, _, 0, _, rfl, rfl, hptA, at0, rfl, _, rfl, ifF rfl (fin HA l psA smA (fun _ _ h => h) hl0 hlA pA)⟩⟩
    | get => exact ⟨fun σ F => σ = [some (.ref qa), some (.ref l), some (.ref p)] ∧ HA = F, ⟨_, rfl, p, _, 0, _, rfl, rfl, hptA, at0, rfl, _, rfl, ifF rfl ⟨_, rfl, p, _, 0, _, rfl, rfl, hptA, at0, rfl, _, rfl, ifF rfl ⟨rfl, rfl⟩⟩⟩, by rintro σ F ⟨rfl, rfl⟩; exact ⟨_, rfl, p, _, 0, _, rfl, rfl, hptA, at0, rfl, _, rfl, ifF rfl (fin HA l psA smA (fun _ _ h => h) hl0 hlA pA)⟩⟩
    | put => exact ⟨fun σ F => σ = [some (.ref qa), some (.ref l), some (.ref p)] ∧ HA = F, ⟨_, rfl, p, _, 0, _, rfl, rfl, hptA, at0, rfl, _, rfl, ifF rfl ⟨_, rfl, p, _, 0, _, rfl, rfl, hptA, at0, rfl, _, rfl, ifF rfl ⟨rfl, rfl⟩⟩⟩, by rintro σ F ⟨rfl, rfl⟩; exact ⟨_, rfl, p, _, 0, _, rfl, rfl, hptA, at0, rfl, _, rfl, ifF rfl (fin HA l psA smA (fun _ _ h => h) hl0 hlA pA)⟩⟩
    | call => exact ⟨fun σ F => σ = [some (.ref qa), some (.ref l), some (.ref p)] ∧ HA = F, ⟨_, rfl, p, _, 0, _, rfl, rfl, hptA, at0, rfl, _, rfl, ifF rfl ⟨_, rfl, p, _, 0, _, rfl, rfl, hptA, at0, rfl, _, rfl, ifF rfl ⟨rfl, rfl⟩⟩⟩, by rintro σ F ⟨rfl, rfl⟩; exact ⟨_, rfl, p, _, 0, _, rfl, rfl, hptA, at0, rfl, _, rfl, ifF rfl (fin HA l psA smA (fun _ _ h => h) hl0 hlA pA)⟩⟩
    | ret => exact ⟨fun σ F => σ = [some (.ref qa), some (.ref l), some (.ref p)] ∧ HA = F, ⟨_, rfl, p, _, 0, _, rfl, rfl, hptA, at0, rfl, _, rfl, ifF rfl ⟨_, rfl, p, _, 0, _, rfl, rfl, hptA, at0, rfl, _, rfl, ifF rfl ⟨rfl, rfl⟩⟩⟩, by rintro σ F ⟨rfl, rfl⟩; exact ⟨_, rfl, p, _, 0, _, rfl, rfl, hptA, at0, rfl, _, rfl, ifF rfl (fin HA l psA smA (fun _ _ h => h) hl0 hlA pA)⟩⟩
    | brk => exact ⟨fun σ F => σ = [some (.ref qa), some (.ref l), some (.ref p)] ∧ HA = F, ⟨_, rfl, p, _, 0, _, rfl, rfl, hptA, at0, rfl, _, rfl, ifF rfl ⟨_, rfl, p, _, 0, _, rfl, rfl, hptA, at0, rfl, _, rfl, ifF rfl ⟨rfl, rfl⟩⟩⟩, by rintro σ F ⟨rfl, rfl⟩; exact ⟨_, rfl, p, _, 0, _, rfl, rfl, hptA, at0, rfl, _, rfl, ifF rfl (fin HA l psA smA (fun _ _ h => h) hl0 hlA pA)⟩⟩
    | asrt => exact ⟨fun σ F => σ = [some (.ref qa), some (.ref l), some (.ref p)] ∧ HA = F, ⟨_, rfl, p, _, 0, _, rfl, rfl, hptA, at0, rfl, _, rfl, ifF rfl ⟨_, rfl, p, _, 0, _, rfl, rfl, hptA, at0, rfl, _, rfl, ifF rfl ⟨rfl, rfl⟩⟩⟩, by rintro σ F ⟨rfl, rfl⟩; exact ⟨_, rfl, p, _, 0, _, rfl, rfl, hptA, at0, rfl, _, rfl, ifF rfl (fin HA l psA smA (fun _ _ h => h) hl0 hlA pA)⟩⟩
  · rintro σ H' ⟨sm, l, ps, dn, r, v2, rfl, hl0, hl, hp, htr, hdr, epre⟩
    rw [List.drop_length] at htr
    have er : r.pre = [] := by
      cases r with
      | nil => rfl
      | cons s b => obtain ⟨v, ws, e, _⟩ := htr; cases e
    rw [er, List.append_nil] at epre
    rw [← epre] at hp
    exact ⟨_, rfl, q l ps H' sm hl0 hl hp⟩
theorem ok_flat (T : Txt w K mg) : ∀ m : Nat, FnOk P w K mg base CX0 (m + 2) T.a_l_flat T.d_l_flat p_l_flat (spFl K m)
  | 0 => ok_flat0 T (fn_vac fun _ _ _ _ h => h)
  | m + 1 => ok_flat0 T (ok_flat T m)
end
/-! ### the kinds that are given values -/
def spTk (K : PySem.W.Frag) : Sp := fun vs H Q _ => ∃ (v : V) (d : Addr) (u sv : V) (Pm : Pg) (f : Fd) (s : Sm) (i : Bool), vs = [v, .ref d, u, sv] ∧ PgAt K H v Pm ∧ DctAt K H d (visP Pm.gl f) ∧ FdAt K H f u ∧ SmAt K H s sv ∧ s.wf Pm.wm (visP Pm.gl f) f.rs i ∧ PgOk Pm ∧ f ∈ Pm.fn ∧
  ∀ (D : Addr) (us : List V) (H' : Hp), Same H H' → H D = none → H' D = some (.lst us) → KdsL K H' (Pm.taken f s) us → us.length ≤ 40 → Q (.ref D) H'
theorem filter_nd {α : Type} : ∀ {l : List (Str × α)} {x : Str} {k : α}, (l.map (·.1)).Nodup → (x, k) ∈ l → l.filter (fun a => decide (a.1 = x)) = [(x, k)]
  | [], _, _, _, h => nomatch h
  | a :: l, x, k, nd, h => by
    have nd' := List.nodup_cons.mp nd
    rcases List.mem_cons.mp h with rfl | h
    · rw [List.filter_cons_of_pos (by simp)]
      have : l.filter (fun a => decide (a.1 = x)) = [] := by
        rw [List.filter_eq_nil_iff]
        intro b hb
        simp only [decide_eq_true_eq]
        intro e
        exact nd'.1 (List.mem_map.mpr ⟨b, hb, e⟩)
      rw [this]
    · rw [List.filter_cons_of_neg (by
        simp only [decide_eq_true_eq]
        intro e
        exact nd'.1 (List.mem_map.mpr ⟨_, h, e.symm⟩))]
      exact filter_nd nd'.2 h
section
variable {P : Program} {w : World} {K : PySem.W.Frag} {mg : Str → Option Value} {base : Heap}
theorem ok_taking (T : Txt w K mg) : FnOk P w K mg base CX0 1 T.a_l_taking T.d_l_taking p_l_taking (spTk K) := by
  refine T.F_l_taking.ok sc_l_taking (fun vs H Q E h => ?_) (fun cdv A outer s H vs Q E hr h => ?_)
  · obtain ⟨v, d, u, sv, Pm, f, st, i, rfl, _⟩ := h
    rfl
  obtain ⟨v, d, u, sv, Pm, f, st, i, rfl, hp, hd, hf, hv, hw, ok, mf, q⟩ := h
  refine ⟨_, (pss_cons (ps_set (i := 4) sc_l_taking.nd rfl (Or.inl rfl) (pe_ix ix_tup (pv 3) pe_int (fun _ _ => rfl)))
      (pss_cons (ps_if (pt_cmpR op_eq (pv 4) pe_str (nomark _)) (pss_one (ps_ret (pe_lst (pa_cons (pe_dget (hu_of hr) (pv 1) (pe_ix ix_tup (pv 3) pe_int (fun _ _ => rfl)) (fun _ _ => rfl)) pa_nil)))) pss_nil)
      (pss_cons (ps_if (PW.pt (pw_and (pt_cmpR op_eq (pv 4) pe_str (nomark _)) (pw_and1 (pt_cmpR op_notN (pe_ix ix_tup (pv 2) pe_int (fun _ _ => rfl)) pe_non (nomark _))))) (pss_one (ps_ret (pe_lst (pa_cons (pe_ix ix_tup (pv 2) pe_int (fun _ _ => rfl)) pa_nil)))) pss_nil)
      (C8.pss_cut (ps_if (pt_cmpR op_eq (pv 4) pe_str (nomark _)) (pss_one (ps_for PassesOwn.never rfl (pi_tup (pe_ix ix_tup (pv 0) pe_int (fun _ _ => rfl))) (pg_name (i := 5) sc_l_taking.nd rfl (Or.inl rfl))
        (pss_one (ps_if (pt_cmpR op_eq (pe_ix ix_tup (pv 5) pe_int (fun _ _ => rfl)) (pe_ix ix_tup (pv 3) pe_int (fun _ _ => rfl)) (nomark _)) (pss_one (ps_ret (pe_lc (own := [("_law_pair", 6)]) (g := gName 6) (tt := tYes) rfl sc_l_taking.nd (pi_tup (pe_ix ix_tup (pv 5) pe_int (fun _ _ => rfl))) (blkOk_by (own := [("_law_pair", 6)]) (N := n_l_taking) (sc := defScope s_l_taking) (by decide +kernel)) (fun _ _ _ _ _ => (pg_name (i := 6) sc_l_taking.nd rfl (Or.inl rfl))) (fun _ _ _ _ _ => pts_nil) (fun _ _ _ _ _ => (pe_ix (show IxR _ (rIxT K) from ix_tup) (pv 6) pe_int (fun _ _ => rfl)))))) pss_nil)))) pss_nil)
      (C8.pss_cut (ps_if (pt_cmpR op_eq (pv 4) pe_str (nomark _)) (pss_one (ps_for PassesOwn.never rfl (pi_tup (pe_ix ix_tup (pv 0) pe_int (fun _ _ => rfl))) (pg_name (i := 7) sc_l_taking.nd rfl (Or.inl rfl))
        (pss_one (ps_if (pt_cmpR op_eq (pe_ix ix_tup (pv 7) pe_int (fun _ _ => rfl)) (pe_ix ix_tup (pe_dget (hu_of hr) (pv 1) (pe_ix ix_tup (pv 3) pe_int (fun _ _ => rfl)) (fun _ _ => rfl)) pe_int (fun _ _ => rfl)) (nomark _)) (pss_one (ps_ret (pe_lc (own := [("_law_field", 8)]) (g := gName 8) rfl sc_l_taking.nd (pi_tup (pe_ix ix_tup (pv 7) pe_int (fun _ _ => rfl))) (blkOk_by (own := [("_law_field", 8)]) (N := n_l_taking) (sc := defScope s_l_taking) (by decide +kernel)) (fun _ _ _ _ _ => (pg_name (i := 8) sc_l_taking.nd rfl (Or.inl rfl))) (fun _ _ _ _ _ => (pts_one (pt_cmpR op_eq (pe_ix (show IxR _ (rIxT K) from ix_tup) (pv 8) pe_int (fun _ _ => rfl)) (pe_ix (show IxR _ (rIxT K) from ix_tup) (pv 3) pe_int (fun _ _ => rfl)) (nomark _)))) (fun _ _ _ _ _ => (pe_ix (show IxR _ (rIxT K) from ix_tup) (pv 8) pe_int (fun _ _ => rfl)))))) pss_nil)))) pss_nil)
      (pss_one (ps_ret (pe_lst pa_nil)))))))), ?_⟩
  have hp0 := hp
  obtain ⟨p, r, rx, a, ax, g, fa, fx, rfl, h1, h2, h3, h4, h5, h6, h7, h8⟩ := hp
  obtain ⟨pF, t1, w1, rv, t3, w3, t4, w4, rfl, f1, f2, f3, f4, f5, f6, f7, f8⟩ := hf
  obtain ⟨pp, rest, roles, rfl, hpt, _⟩ := hv.bodI
  have nv := (ok.nv f mf).1
  refine ⟨_, rfl, pp, _, 0, _, rfl, rfl, hpt, at0, ?_⟩
  cases st with
  | set y e =>
    obtain ⟨p', b, e1, hp', hx⟩ := hv
    cases e1
    obtain ⟨k, mk, _⟩ := hw
    obtain ⟨kvs, kv, d1, d2, d3⟩ := hd.get mk
    have et : Pm.taken f (.set y e) = [k] := by
      show ((visP Pm.gl f).lookup y).toList = _
      rw [lk_nd nv mk]
      rfl
    rw [et] at q
    refine ⟨_, rfl, rfl, _, rfl, ifT rfl ⟨_, rfl, _, rfl, pp, _, 1, _, rfl, rfl, hp', rfl, d, kv, rfl, DGet.at d1 d2, by show 1 ≤ sizeLine; decide, fun D hD => ?_⟩⟩
    have s1 := Same.new hD (.lst [kv])
    exact q D _ _ s1 hD upd_same ⟨d3.keep (Keeps.of_same s1), trivial⟩ (Nat.le_of_ble_eq_true rfl)
  | ret e =>
    have et : Pm.taken f (.ret e) = f.rs.toList := rfl
    rw [et] at q
    cases ers : f.rs with
    | none =>
      rw [ers] at f4 q
      obtain rfl : rv = .non := f4
      exact ⟨_, rfl, rfl, _, rfl, ifF rfl ⟨_, rfl, rfl, _, rfl, ifT rfl ⟨_, rfl, pF, _, 2, _, rfl, rfl, f1, rfl, rfl, _, rfl, ifF rfl ⟨fun σ F => σ = [some (.ref p), some (.ref d), some (.ref pF), some (.ref pp), some (.str "return"), none, none, none, none] ∧ H = F, ⟨_, rfl, rfl, _, rfl, ifF rfl ⟨rfl, rfl⟩⟩, by
      rintro σ F ⟨rfl, rfl⟩
      exact ⟨fun σ F => σ = [some (.ref p), some (.ref d), some (.ref pF), some (.ref pp), some (.str "return"), none, none, none, none] ∧ H = F, ⟨_, rfl, rfl, _, rfl, ifF rfl ⟨rfl, rfl⟩⟩, by
        rintro σ F ⟨rfl, rfl⟩
        exact ⟨by show 0 ≤ sizeLine; decide, fun D hD => q D [] _ (Same.new hD _) hD upd_same trivial (by decide)⟩⟩⟩⟩⟩⟩
    | some k =>
      rw [ers] at f4 q
      obtain ⟨pk, rfl, hk⟩ := f4
      refine ⟨_, rfl, rfl, _, rfl, ifF rfl ⟨_, rfl, rfl, _, rfl, ifT rfl ⟨_, rfl, pF, _, 2, _, rfl, rfl, f1, rfl, rfl, _, rfl, ifT rfl ⟨_, rfl, pF, _, 2, _, rfl, rfl, f1, rfl, by show 1 ≤ sizeLine; decide, fun D hD => ?_⟩⟩⟩⟩
      have s1 := Same.new hD (.lst [.ref pk])
      exact q D _ _ s1 hD upd_same ⟨⟨pk, rfl, Same.tup s1 hk⟩, trivial⟩ (Nat.le_of_ble_eq_true rfl)
  | input =>
    exact ⟨_, rfl, rfl, _, rfl, ifF rfl ⟨_, rfl, rfl, _, rfl, ifF rfl ⟨fun σ F => σ = [some (.ref p), some (.ref d), some (.ref pF), some (.ref pp), some (.str "input"), none, none, none, none] ∧ H = F, ⟨_, rfl, rfl, _, rfl, ifF rfl ⟨rfl, rfl⟩⟩, by
      rintro σ F ⟨rfl, rfl⟩
      exact ⟨fun σ F => σ = [some (.ref p), some (.ref d), some (.ref pF), some (.ref pp), some (.str "input"), none, none, none, none] ∧ H = F, ⟨_, rfl, rfl, _, rfl, ifF rfl ⟨rfl, rfl⟩⟩, by
        rintro σ F ⟨rfl, rfl⟩
        exact ⟨by show 0 ≤ sizeLine; decide, fun D hD => q D [] _ (Same.new hD _) hD upd_same trivial (by decide)⟩⟩⟩⟩⟩
  | new =>
    exact ⟨_, rfl, rfl, _, rfl, ifF rfl ⟨_, rfl, rfl, _, rfl, ifF rfl ⟨fun σ F => σ = [some (.ref p), some (.ref d), some (.ref pF), some (.ref pp), some (.str "new"), none, none, none, none] ∧ H = F, ⟨_, rfl, rfl, _, rfl, ifF rfl ⟨rfl, rfl⟩⟩, by
      rintro σ F ⟨rfl, rfl⟩
      exact ⟨fun σ F => σ = [some (.ref p), some (.ref d), some (.ref pF), some (.ref pp), some (.str "new"), none, none, none, none] ∧ H = F, ⟨_, rfl, rfl, _, rfl, ifF rfl ⟨rfl, rfl⟩⟩, by
        rintro σ F ⟨rfl, rfl⟩
        exact ⟨by show 0 ≤ sizeLine; decide, fun D hD => q D [] _ (Same.new hD _) hD upd_same trivial (by decide)⟩⟩⟩⟩⟩
  | free =>
    exact ⟨_, rfl, rfl, _, rfl, ifF rfl ⟨_, rfl, rfl, _, rfl, ifF rfl ⟨fun σ F => σ = [some (.ref p), some (.ref d), some (.ref pF), some (.ref pp), some (.str "free"), none, none, none, none] ∧ H = F, ⟨_, rfl, rfl, _, rfl, ifF rfl ⟨rfl, rfl⟩⟩, by
      rintro σ F ⟨rfl, rfl⟩
      exact ⟨fun σ F => σ = [some (.ref p), some (.ref d), some (.ref pF), some (.ref pp), some (.str "free"), none, none, none, none] ∧ H = F, ⟨_, rfl, rfl, _, rfl, ifF rfl ⟨rfl, rfl⟩⟩, by
        rintro σ F ⟨rfl, rfl⟩
        exact ⟨by show 0 ≤ sizeLine; decide, fun D hD => q D [] _ (Same.new hD _) hD upd_same trivial (by decide)⟩⟩⟩⟩⟩
  | load =>
    exact ⟨_, rfl, rfl, _, rfl, ifF rfl ⟨_, rfl, rfl, _, rfl, ifF rfl ⟨fun σ F => σ = [some (.ref p), some (.ref d), some (.ref pF), some (.ref pp), some (.str "load"), none, none, none, none] ∧ H = F, ⟨_, rfl, rfl, _, rfl, ifF rfl ⟨rfl, rfl⟩⟩, by
      rintro σ F ⟨rfl, rfl⟩
      exact ⟨fun σ F => σ = [some (.ref p), some (.ref d), some (.ref pF), some (.ref pp), some (.str "load"), none, none, none, none] ∧ H = F, ⟨_, rfl, rfl, _, rfl, ifF rfl ⟨rfl, rfl⟩⟩, by
        rintro σ F ⟨rfl, rfl⟩
        exact ⟨by show 0 ≤ sizeLine; decide, fun D hD => q D [] _ (Same.new hD _) hD upd_same trivial (by decide)⟩⟩⟩⟩⟩
  | get =>
    exact ⟨_, rfl, rfl, _, rfl, ifF rfl ⟨_, rfl, rfl, _, rfl, ifF rfl ⟨fun σ F => σ = [some (.ref p), some (.ref d), some (.ref pF), some (.ref pp), some (.str "get"), none, none, none, none] ∧ H = F, ⟨_, rfl, rfl, _, rfl, ifF rfl ⟨rfl, rfl⟩⟩, by
      rintro σ F ⟨rfl, rfl⟩
      exact ⟨fun σ F => σ = [some (.ref p), some (.ref d), some (.ref pF), some (.ref pp), some (.str "get"), none, none, none, none] ∧ H = F, ⟨_, rfl, rfl, _, rfl, ifF rfl ⟨rfl, rfl⟩⟩, by
        rintro σ F ⟨rfl, rfl⟩
        exact ⟨by show 0 ≤ sizeLine; decide, fun D hD => q D [] _ (Same.new hD _) hD upd_same trivial (by decide)⟩⟩⟩⟩⟩
  | put =>
    exact ⟨_, rfl, rfl, _, rfl, ifF rfl ⟨_, rfl, rfl, _, rfl, ifF rfl ⟨fun σ F => σ = [some (.ref p), some (.ref d), some (.ref pF), some (.ref pp), some (.str "put"), none, none, none, none] ∧ H = F, ⟨_, rfl, rfl, _, rfl, ifF rfl ⟨rfl, rfl⟩⟩, by
      rintro σ F ⟨rfl, rfl⟩
      exact ⟨fun σ F => σ = [some (.ref p), some (.ref d), some (.ref pF), some (.ref pp), some (.str "put"), none, none, none, none] ∧ H = F, ⟨_, rfl, rfl, _, rfl, ifF rfl ⟨rfl, rfl⟩⟩, by
        rintro σ F ⟨rfl, rfl⟩
        exact ⟨by show 0 ≤ sizeLine; decide, fun D hD => q D [] _ (Same.new hD _) hD upd_same trivial (by decide)⟩⟩⟩⟩⟩
  | iff =>
    exact ⟨_, rfl, rfl, _, rfl, ifF rfl ⟨_, rfl, rfl, _, rfl, ifF rfl ⟨fun σ F => σ = [some (.ref p), some (.ref d), some (.ref pF), some (.ref pp), some (.str "if"), none, none, none, none] ∧ H = F, ⟨_, rfl, rfl, _, rfl, ifF rfl ⟨rfl, rfl⟩⟩, by
      rintro σ F ⟨rfl, rfl⟩
      exact ⟨fun σ F => σ = [some (.ref p), some (.ref d), some (.ref pF), some (.ref pp), some (.str "if"), none, none, none, none] ∧ H = F, ⟨_, rfl, rfl, _, rfl, ifF rfl ⟨rfl, rfl⟩⟩, by
        rintro σ F ⟨rfl, rfl⟩
        exact ⟨by show 0 ≤ sizeLine; decide, fun D hD => q D [] _ (Same.new hD _) hD upd_same trivial (by decide)⟩⟩⟩⟩⟩
  | loop =>
    exact ⟨_, rfl, rfl, _, rfl, ifF rfl ⟨_, rfl, rfl, _, rfl, ifF rfl ⟨fun σ F => σ = [some (.ref p), some (.ref d), some (.ref pF), some (.ref pp), some (.str "while"), none, none, none, none] ∧ H = F, ⟨_, rfl, rfl, _, rfl, ifF rfl ⟨rfl, rfl⟩⟩, by
      rintro σ F ⟨rfl, rfl⟩
      exact ⟨fun σ F => σ = [some (.ref p), some (.ref d), some (.ref pF), some (.ref pp), some (.str "while"), none, none, none, none] ∧ H = F, ⟨_, rfl, rfl, _, rfl, ifF rfl ⟨rfl, rfl⟩⟩, by
        rintro σ F ⟨rfl, rfl⟩
        exact ⟨by show 0 ≤ sizeLine; decide, fun D hD => q D [] _ (Same.new hD _) hD upd_same trivial (by decide)⟩⟩⟩⟩⟩
  | brk =>
    exact ⟨_, rfl, rfl, _, rfl, ifF rfl ⟨_, rfl, rfl, _, rfl, ifF rfl ⟨fun σ F => σ = [some (.ref p), some (.ref d), some (.ref pF), some (.ref pp), some (.str "break"), none, none, none, none] ∧ H = F, ⟨_, rfl, rfl, _, rfl, ifF rfl ⟨rfl, rfl⟩⟩, by
      rintro σ F ⟨rfl, rfl⟩
      exact ⟨fun σ F => σ = [some (.ref p), some (.ref d), some (.ref pF), some (.ref pp), some (.str "break"), none, none, none, none] ∧ H = F, ⟨_, rfl, rfl, _, rfl, ifF rfl ⟨rfl, rfl⟩⟩, by
        rintro σ F ⟨rfl, rfl⟩
        exact ⟨by show 0 ≤ sizeLine; decide, fun D hD => q D [] _ (Same.new hD _) hD upd_same trivial (by decide)⟩⟩⟩⟩⟩
  | asrt =>
    exact ⟨_, rfl, rfl, _, rfl, ifF rfl ⟨_, rfl, rfl, _, rfl, ifF rfl ⟨fun σ F => σ = [some (.ref p), some (.ref d), some (.ref pF), some (.ref pp), some (.str "assert"), none, none, none, none] ∧ H = F, ⟨_, rfl, rfl, _, rfl, ifF rfl ⟨rfl, rfl⟩⟩, by
      rintro σ F ⟨rfl, rfl⟩
      exact ⟨fun σ F => σ = [some (.ref p), some (.ref d), some (.ref pF), some (.ref pp), some (.str "assert"), none, none, none, none] ∧ H = F, ⟨_, rfl, rfl, _, rfl, ifF rfl ⟨rfl, rfl⟩⟩, by
        rintro σ F ⟨rfl, rfl⟩
        exact ⟨by show 0 ≤ sizeLine; decide, fun D hD => q D [] _ (Same.new hD _) hD upd_same trivial (by decide)⟩⟩⟩⟩⟩
  | call y g es =>
    obtain ⟨p', qa, vs, e1, hp', _⟩ := hv
    cases e1
    obtain ⟨hd2, mh, rfl, _⟩ := hw
    obtain ⟨fd, mfd, rfl⟩ := List.mem_map.mp mh
    refine ⟨_, rfl, rfl, _, rfl, ifF rfl ⟨_, rfl, rfl, _, rfl, ifF rfl ⟨fun σ F => False, ⟨_, rfl, rfl, _, rfl, ifT rfl ⟨_, rfl, p, _, 3, _, rfl, rfl, h1, rfl, fa, rfl, ⟨_, h7⟩, for_tup (K := K) (a := fa) (xs := fx) (fun i σ G => H = G ∧ (∀ j < i, ∀ o, Pm.fn[j]? = some o → o.nm ≠ fd.nm) ∧ ∃ x5 : Option V, σ = [some (.ref p), some (.ref d), some (.ref pF), some (.ref pp), some (.str "call"), x5, none, none, none])
      ⟨rfl, fun j hj => by omega, none, rfl⟩ (fun i σ G _ P => by rw [← P.1]; exact h7) ?_ ?_⟩⟩, fun σ F hF => hF.elim⟩⟩⟩
    · rintro i z σ G hz ⟨rfl, old, x5, rfl⟩
      obtain ⟨fd1, e1, pF1, t1', w1', rv', t3', w3', t4', w4', rfl, c1, c2, c3, _⟩ := A2.atv h8 hz
      refine ⟨_, rfl, pF1, _, 0, _, rfl, rfl, c1, rfl, _, rfl, pp, _, 2, _, rfl, rfl, hp', rfl, rfl, _, rfl, ite2 (fun e => ?_) (fun e => ?_)⟩
      · have en : fd1.nm = fd.nm := V.str.inj (of_decide_eq_true e)
        have m1 := List.mem_of_getElem? e1
        have et : Pm.taken f (.call y fd.hd.nm es) = fd1.ps.map (·.2) := by
          show (((Pm.fn.map fun o => (o.nm, o.ps)).lookup fd.nm).getD []).map (·.2) = _
          rw [lk_nd (l := Pm.fn.map fun o => (o.nm, o.ps)) (k := fd1.ps) (by rw [List.map_map]; exact ok.nf) (List.mem_map.mpr ⟨fd1, m1, by rw [en]⟩)]
          rfl
        rw [et] at q
        have l40 : fd1.ps.length ≤ 40 := by
          have h2 := (ok.nv fd1 m1).2.2.1
          unfold visP at h2
          rw [List.length_append, List.length_append] at h2
          omega
        refine ⟨_, rfl, pF1, _, 1, _, rfl, rfl, c1, rfl, t1', rfl, ⟨_, c2⟩, fun D hD => ?_⟩
        refine lc_it (walk_tup (xs := w1')) (fun i G => Same H G ∧ ∃ us, G D = some (.lst us) ∧ KdsL K G ((fd1.ps.take i).map (·.2)) us) ⟨Same.new hD _, [], upd_same, trivial⟩ (fun i G _ P => Same.tup P.1 c2) ?_ ?_
        · rintro i y G G' hi ⟨sG, us, el, xu⟩ ⟨rfl, ey⟩
          obtain ⟨b, eb, pa, kv, rfl, d1, d2⟩ := (c3.keep (Keeps.of_same sG)).atv ey
          have l1 := A2.len xu
          have l2 := List.length_take_le' i fd1.ps
          rw [List.length_map] at l1
          have kl := keep_lst (K := K) (o := .lst (us ++ [kv])) el
          refine ⟨rfl, tyes ⟨_, rfl, pa, _, 1, _, rfl, rfl, d1, rfl, us, el, lt_line (by omega), Same.grow hD sG, _, upd_same, ?_⟩⟩
          rw [List.take_add_one, eb, List.map_append]
          exact (xu.imp fun _ _ => KdAt.keep kl).snoc (d2.keep kl)
        rintro G ⟨sG, us, el, xu⟩
        rw [A2.len c3, List.take_length] at xu
        have lu := A2.len xu
        rw [List.length_map] at lu
        exact q D us G sG hD el xu (by omega)
      · have en : fd1.nm ≠ fd.nm := fun z => e (decide_eq_true (congrArg V.str z))
        refine ⟨rfl, fun j hj o ho => ?_, _, rfl⟩
        by_cases hji : j = i
        · subst hji
          rw [e1] at ho
          rw [← Option.some.inj ho]
          exact en
        · exact old j (by omega) o ho
    · rintro σ G ⟨rfl, old, x5, rfl⟩
      obtain ⟨j, hj⟩ := List.mem_iff_getElem?.mp mfd
      have hl := (List.getElem?_eq_some_iff.mp hj).1
      rw [← A2.len h8] at hl
      exact old j hl fd hj rfl
  | store y g e =>
    obtain ⟨p', b, e1, hp', hx⟩ := hv
    cases e1
    obtain ⟨sn, fs, k, my, ms, mg2, _⟩ := hw
    obtain ⟨kvs, kv, d1, d2, pk, rfl, hk⟩ := hd.get my
    have et : Pm.taken f (.store y g e) = [k] := by
      show (match (visP Pm.gl f).lookup y with | some (.ref s) => ((Pm.rc.lookup s).bind fun fs => fs.lookup g).toList | _ => []) = _
      rw [lk_nd nv my]
      show ((Pm.rc.lookup sn).bind fun fs => fs.lookup g).toList = _
      rw [lk_nd ok.nr ms]
      show (fs.lookup g).toList = _
      rw [lk_nd (ok.fl _ ms).1 mg2]
      rfl
    rw [et] at q
    refine ⟨_, rfl, rfl, _, rfl, ifF rfl ⟨_, rfl, rfl, _, rfl, ifF rfl ⟨fun σ F => σ = [some (.ref p), some (.ref d), some (.ref pF), some (.ref pp), some (.str "store"), none, none, none, none] ∧ H = F, ⟨_, rfl, rfl, _, rfl, ifF rfl ⟨rfl, rfl⟩⟩, ?_⟩⟩⟩
    rintro σ F ⟨rfl, rfl⟩
    refine ⟨fun σ F => False, ⟨_, rfl, rfl, _, rfl, ifT rfl ⟨_, rfl, p, _, 0, _, rfl, rfl, h1, rfl, r, rfl, ⟨_, h2⟩, for_tup (K := K) (a := r) (xs := rx) (fun i σ G => H = G ∧ (∀ j < i, ∀ o, Pm.rc[j]? = some o → o.1 ≠ sn) ∧ ∃ x7 : Option V, σ = [some (.ref p), some (.ref d), some (.ref pF), some (.ref pp), some (.str "store"), none, none, x7, none])
      ⟨rfl, fun j hj => by omega, none, rfl⟩ (fun i σ G _ P => by rw [← P.1]; exact h2) ?_ ?_⟩⟩, fun σ F hF => hF.elim⟩
    · rintro i z σ G hz ⟨rfl, old, x7, rfl⟩
      obtain ⟨rc1, e1, pr, tr, rfl, c1, c2⟩ := A2.atv h3 hz
      obtain ⟨xs, zt, px⟩ := c2
      refine ⟨_, rfl, pr, _, 0, _, rfl, rfl, c1, rfl, _, rfl, _, rfl, pp, _, 1, _, rfl, rfl, hp', rfl, d, _, rfl, DGet.at d1 d2, pk, _, 1, _, rfl, rfl, hk, rfl, rfl, _, rfl, ite2 (fun e => ?_) (fun e => ?_)⟩
      · have en : rc1.1 = sn := V.str.inj (of_decide_eq_true e)
        have m1 := List.mem_of_getElem? e1
        have em : rc1.2 = fs := by
          have h1 := lk_nd ok.nr m1
          have h2 := lk_nd ok.nr ms
          rw [en, h2] at h1
          exact (Option.some.inj h1).symm
        rw [em] at px
        have fl := ok.fl _ ms
        have ef : fs.filter (fun a => decide (a.1 = g)) = [(g, k)] := filter_nd fl.1 mg2
        refine ⟨_, rfl, pr, _, 1, _, rfl, rfl, c1, rfl, tr, rfl, ⟨_, zt.sq⟩, fun D hD => ?_⟩
        refine lc_it (walk_tup (xs := xs)) (fun i G => Same H G ∧ ∃ us, G D = some (.lst us) ∧ KdsL K G (((fs.take i).filter (fun a => decide (a.1 = g))).map (·.2)) us) ⟨Same.new hD _, [], upd_same, trivial⟩ (fun i G _ P => Same.tup P.1 zt.sq) ?_ ?_
        · rintro i y G G' hi ⟨sG, us, el, xu⟩ ⟨rfl, ey⟩
          obtain ⟨b, eb, pa, kv, rfl, d1, d2⟩ := (px.keep (Keeps.of_same sG)).atv ey
          have l1 := A2.len xu
          have l2 := List.length_take_le' i fs
          have l3 := List.length_filter_le (fun a : Pk => decide (a.1 = g)) (fs.take i)
          have l4 : fs.length ≤ 20 := fl.2.2.1
          rw [List.length_map] at l1
          have kl := keep_lst (K := K) (o := .lst (us ++ [kv])) el
          refine ⟨rfl, _, rfl, pa, _, 0, _, rfl, rfl, d1, rfl, _, rfl, pp, _, 2, _, rfl, rfl, Same.tup sG hp', rfl, rfl, _, rfl, ite2 (fun e => ?_) (fun e => ?_)⟩
          · have en : b.1 = g := V.str.inj (of_decide_eq_true e)
            refine ⟨_, rfl, pa, _, 1, _, rfl, rfl, d1, rfl, us, el, lt_line (by omega), Same.grow hD sG, _, upd_same, ?_⟩
            rw [List.take_add_one, eb, List.filter_append]
            have : (some b).toList.filter (fun a : Pk => decide (a.1 = g)) = [b] := by simp [en]
            rw [this, List.map_append]
            exact (xu.imp fun _ _ => KdAt.keep kl).snoc (d2.keep kl)
          · have en : b.1 ≠ g := fun z => e (decide_eq_true (congrArg V.str z))
            refine ⟨sG, us, el, ?_⟩
            rw [List.take_add_one, eb, List.filter_append]
            have : (some b).toList.filter (fun a : Pk => decide (a.1 = g)) = [] := by simp [en]
            rw [this, List.append_nil]
            exact xu
        rintro G ⟨sG, us, el, xu⟩
        rw [A2.len px, List.take_length, ef] at xu
        have lu := A2.len xu
        exact q D us G sG hD el xu (by rw [lu]; exact Nat.le_of_ble_eq_true rfl)
      · have en : rc1.1 ≠ sn := fun z => e (decide_eq_true (congrArg V.str z))
        refine ⟨rfl, fun j hj o ho => ?_, _, rfl⟩
        by_cases hji : j = i
        · subst hji
          rw [e1] at ho
          rw [← Option.some.inj ho]
          exact en
        · exact old j (by omega) o ho
    · rintro σ G ⟨rfl, old, x5, rfl⟩
      obtain ⟨j, hj⟩ := List.mem_iff_getElem?.mp ms
      have hl : j < Pm.rc.length := (List.getElem?_eq_some_iff.mp hj).1
      rw [← A2.len h3] at hl
      exact old j hl _ hj rfl
end
/-! ### the faults, as the law finds them -/
def spLf (K : PySem.W.Frag) : Sp := fun vs H Q _ => ∃ (v : V) (d : Addr) (u sv : V) (Pm : Pg) (f : Fd) (s : Sm) (i : Bool), vs = [v, .ref d, u, sv] ∧ PgAt K H v Pm ∧ DctAt K H d (visP Pm.gl f) ∧ FdAt K H f u ∧ SmAt K H s sv ∧ s.wf Pm.wm (visP Pm.gl f) f.rs i ∧ PgOk Pm ∧ f ∈ Pm.fn ∧
  ∀ (D : Addr) (H' : Hp), Same H H' → H D = none → H' D = some (.lst ((Pm.faults f s).map V.str)) → Q (.ref D) H'
theorem DctAt.same {K : PySem.W.Frag} {H H' : Hp} {d : Addr} {l : List Pk} (s : Same H H') (h : DctAt K H d l) : DctAt K H' d l := h.mono (Keeps.of_same s) fun o e => s _ _ e
def rg (b : Bool) : List Str := if b then [("range" : Str)] else []
theorem w_asrt {s : Sm} (h : s.word = "assert") : ∃ e, s = .asrt e := by
  cases s <;> first | exact ⟨_, rfl⟩ | (simp only [Sm.word] at h; exact absurd h (by decide +kernel))
theorem w_get {s : Sm} (h : s.word = "get") : ∃ x y e, s = .get x y e := by
  cases s <;> first | exact ⟨_, _, _, rfl⟩ | (simp only [Sm.word] at h; exact absurd h (by decide +kernel))
theorem w_put {s : Sm} (h : s.word = "put") : ∃ x y e, s = .put x y e := by
  cases s <;> first | exact ⟨_, _, _, rfl⟩ | (simp only [Sm.word] at h; exact absurd h (by decide +kernel))
theorem own_in {s : Sm} (c1 : s.word ≠ "assert") (c2 : s.word ≠ "get") (c3 : s.word ≠ "put") : (inV (V.str s.word) [V.str "free", .str "load", .str "store"] = true ∧ s.own = [("null" : Str), "gone"]) ∨ (inV (V.str s.word) [V.str "free", .str "load", .str "store"] = false ∧ s.own = []) := by
  cases s with
  | free => exact .inl ⟨by show inV (V.str "free") _ = true; decide +kernel, rfl⟩
  | load => exact .inl ⟨by show inV (V.str "load") _ = true; decide +kernel, rfl⟩
  | store => exact .inl ⟨by show inV (V.str "store") _ = true; decide +kernel, rfl⟩
  | get => exact absurd rfl c2
  | put => exact absurd rfl c3
  | asrt => exact absurd rfl c1
  | set => exact .inr ⟨by show inV (V.str "set") _ = false; decide +kernel, rfl⟩
  | input => exact .inr ⟨by show inV (V.str "input") _ = false; decide +kernel, rfl⟩
  | new => exact .inr ⟨by show inV (V.str "new") _ = false; decide +kernel, rfl⟩
  | call => exact .inr ⟨by show inV (V.str "call") _ = false; decide +kernel, rfl⟩
  | ret => exact .inr ⟨by show inV (V.str "return") _ = false; decide +kernel, rfl⟩
  | iff => exact .inr ⟨by show inV (V.str "if") _ = false; decide +kernel, rfl⟩
  | loop => exact .inr ⟨by show inV (V.str "while") _ = false; decide +kernel, rfl⟩
  | brk => exact .inr ⟨by show inV (V.str "break") _ = false; decide +kernel, rfl⟩
theorem in_strs (x : Str) (l : List Str) : inV (.str x) (l.map V.str) = decide (x ∈ l) := by
  induction l with
  | nil => rfl
  | cons a l ih =>
    have e : inV (.str x) (V.str a :: l.map V.str) = (eqV (V.str a) (.str x) || inV (.str x) (l.map V.str)) := rfl
    rw [List.map_cons, e, ih, Bool.eq_iff_iff, Bool.or_eq_true, decide_eq_true_eq, decide_eq_true_eq, List.mem_cons]
    have f : eqV (V.str a) (.str x) = true ↔ x = a := by
      show (a == x) = true ↔ _
      rw [beq_iff_eq]
      exact ⟨fun z => z.symm, fun z => z.symm⟩
    rw [f]
theorem rg_in {own : List Str} {b : Bool} (h : ("range" : Str) ∉ own) : inV (.str ("range" : Str)) ((own ++ rg b).map V.str) = b := by
  rw [in_strs]
  cases b with
  | true => exact decide_eq_true (by simp [rg])
  | false => exact decide_eq_false (by simpa [rg] using h)
section
variable {P : Program} {w : World} {K : PySem.W.Frag} {mg : Str → Option Value} {base : Heap}
theorem ok_l_faults (T : Txt w K mg) : FnOk P w K mg base CX0 2 T.a_l_faults T.d_l_faults p_l_faults (spLf K) := by
  have g_l_taking := ok_taking (P := P) (w := w) (K := K) (base := base) T
  refine T.F_l_faults.ok sc_l_faults (fun vs H Q E h => ?_) (fun cdv A outer s H vs Q E hr h => ?_)
  · obtain ⟨v, d, u, sv, Pm, f, st, i, rfl, _⟩ := h
    rfl
  obtain ⟨v, d, u, sv, Pm, f, st, i, rfl, hp, hd, hf, hv, hw, ok, mf, q⟩ := h
  refine ⟨_, (pss_cons (ps_set (i := 4) sc_l_faults.nd rfl (Or.inl rfl) (pe_ix ix_tup (pv 3) pe_int (fun _ _ => rfl)))
      (pss_cons (ps_if (pt_cmpR op_eq (pv 4) pe_str (nomark _)) (pss_one (ps_ret (pe_lst (pa_cons pe_str pa_nil)))) pss_nil)
      (pss_cons (ps_if (pt_cmpR op_eq (pv 4) pe_str (nomark _)) (pss_one (ps_ret (pe_lst (pa_cons pe_str pa_nil)))) pss_nil)
      (pss_cons (ps_if (pt_cmpR op_eq (pv 4) pe_str (nomark _)) (pss_one (ps_ret (pe_lst (pa_cons pe_str (pa_cons pe_str pa_nil))))) pss_nil)
      (pss_cons (ps_set (i := 5) sc_l_faults.nd rfl (Or.inl rfl) (pe_lst pa_nil))
      (C8.pss_cut (ps_if (pt_cmpR op_in_seq (pv 4) (pe_lst (pa_cons pe_str (pa_cons pe_str (pa_cons pe_str pa_nil)))) (by rfl)) (pss_one (ps_set (i := 5) sc_l_faults.nd rfl (Or.inl rfl) (pe_lst (pa_cons pe_str (pa_cons pe_str pa_nil))))) pss_nil)
      (pss_cons (ps_for PassesOwn.never rfl (pi_list (pe_call g_l_taking (hr.mono (by first | decide | omega)) rfl T.m_l_taking T.F_l_taking.kp T.b_l_taking .nil pass0 (pa_cons (pv 0) (pa_cons (pv 1) (pa_cons (pv 2) (pa_cons (pv 3) pa_nil)))))) (pg_name (i := 6) sc_l_faults.nd rfl (Or.inl rfl))
        (pss_one (ps_if (PW.pt (pw_and (pt_cmpR op_eq (pe_ix ix_tup (pv 6) pe_int (fun _ _ => rfl)) pe_str (nomark _)) (pw_and1 (pt_cmpR op_notIn_seq pe_str (pv 5) (by rfl))))) (pss_one (ps_expr (pe_bm PySem.F.plainAttrs_list PySem.F.slot_list_append PySem.F.type_list_append mt_append (pv 5) (pa_cons pe_str pa_nil)))) pss_nil)))
      (pss_one (ps_ret (pv 5)))))))))), ?_⟩
  obtain ⟨pp, rest, roles, rfl, hpt, _⟩ := hv.bodI
  refine ⟨_, rfl, pp, _, 0, _, rfl, rfl, hpt, at0, ?_⟩
  by_cases c1 : st.word = "assert"
  · obtain ⟨e, rfl⟩ := w_asrt c1
    exact ⟨_, rfl, rfl, _, rfl, ifT rfl ⟨by show 1 ≤ sizeLine; decide, fun D hD => q D _ (Same.new hD _) hD upd_same⟩⟩
  by_cases c2 : st.word = "get"
  · obtain ⟨x, y, e, rfl⟩ := w_get c2
    exact ⟨_, rfl, rfl, _, rfl, ifF rfl ⟨_, rfl, rfl, _, rfl, ifT rfl ⟨by show 1 ≤ sizeLine; decide, fun D hD => q D _ (Same.new hD _) hD upd_same⟩⟩⟩
  by_cases c3 : st.word = "put"
  · obtain ⟨x, y, e, rfl⟩ := w_put c3
    exact ⟨_, rfl, rfl, _, rfl, ifF rfl ⟨_, rfl, rfl, _, rfl, ifF rfl ⟨_, rfl, rfl, _, rfl, ifT rfl ⟨by show 2 ≤ sizeLine; decide, fun D hD => q D _ (Same.new hD _) hD upd_same⟩⟩⟩⟩
  have nw : ∀ x : Str, st.word ≠ x → decide (V.str st.word = V.str x) = false := fun x h => decide_eq_false fun z => h (V.str.inj z)
  refine ⟨_, rfl, rfl, _, rfl, ifF (nw _ c1) ⟨_, rfl, rfl, _, rfl, ifF (nw _ c2) ⟨_, rfl, rfl, _, rfl, ifF (nw _ c3) ⟨by show 0 ≤ sizeLine; decide, fun l0 hl0 => ?_⟩⟩⟩⟩
  have s0 := Same.new hl0 (.lst [])
  refine ⟨fun σ F => ∃ l : Addr, σ = [some v, some (.ref d), some u, some (.ref pp), some (.str st.word), some (.ref l), none] ∧ Same H F ∧ H l = none ∧ F l = some (.lst (st.own.map V.str)), ?_, ?_⟩
  · refine ⟨_, rfl, by show 3 ≤ sizeLine; decide, fun e he => ⟨e, _, rfl, .inl (SqL.of upd_same), rfl, rfl, _, rfl, ?_⟩⟩
    have se := Same.new he (.lst [.str ("free" : Str), .str "load", .str "store"])
    rcases own_in c1 c2 c3 with ⟨e1, e2⟩ | ⟨e1, e2⟩
    · refine ifT e1 ⟨by show 2 ≤ sizeLine; decide, fun l3 hl3 => ?_⟩
      have s3 := Same.new hl3 (.lst [.str ("null" : Str), .str "gone"])
      have s03 := (s0.trans se).trans s3
      refine ⟨l3, rfl, s03, (s0.trans se).free hl3, ?_⟩
      rw [e2]
      exact upd_same
    · refine ifF e1 ⟨l0, rfl, s0.trans se, hl0, ?_⟩
      rw [e2]
      exact se _ _ upd_same
  clear s0 hl0 l0
  rintro σ F ⟨l, rfl, s1, nl, el⟩
  have kp1 := Keeps.of_same (K := K) s1
  refine ⟨_, rfl, _, rfl, _, rfl, _, rfl, v, d, u, .ref pp, Pm, f, st, i, rfl, hp.keep kp1 (KeepZ.of_same s1), hd.same s1, hf.keep kp1, hv.keep kp1, hw, ok, mf, fun D us G sG nD eD xu lu => ⟨D, rfl, ⟨_, SqL.of eD⟩, ?_⟩⟩
  have nlD : l ≠ D := ne_of_none el nD
  have sHG := s1.trans sG
  have elG := sG _ _ el
  refine for_list (K := K) (a := D) (xs := us) (fun j σ F => (Same H F ∧ Keeps K G F) ∧ F D = some (.lst us) ∧ F l = some (.lst ((st.own ++ rg ((((Pm.taken f st).take j).any Kd.isN))).map V.str)) ∧ ∃ x6 : Option V, σ = [some v, some (.ref d), some u, some (.ref pp), some (.str st.word), some (.ref l), x6])
    ⟨⟨sHG, fun _ _ h => h⟩, eD, by simpa [rg] using elG, none, rfl⟩ (fun j σ F _ P => SqL.of P.2.1) ?_ ?_
  · rintro j y σ F hy ⟨⟨sF, kF⟩, eDF, elF, x6, rfl⟩
    obtain ⟨k, ek, p, rfl, hk⟩ := (xu.imp fun _ _ => KdAt.keep kF).atv hy
    have nr : ("range" : Str) ∉ st.own := by
      rcases own_in c1 c2 c3 with ⟨_, e2⟩ | ⟨_, e2⟩ <;> rw [e2] <;> decide +kernel
    have ea : (((Pm.taken f st).take (j + 1)).any Kd.isN) = ((((Pm.taken f st).take j).any Kd.isN) || k.isN) := by
      rw [List.take_add_one, ek, List.any_append]
      simp
    have same : ((((Pm.taken f st).take (j + 1)).any Kd.isN) = (((Pm.taken f st).take j).any Kd.isN)) → (Same H F ∧ Keeps K G F) ∧ F D = some (.lst us) ∧ F l = some (.lst ((st.own ++ rg ((((Pm.taken f st).take (j + 1)).any Kd.isN))).map V.str)) ∧ ∃ x6' : Option V, [some v, some (.ref d), some u, some (.ref pp), some (.str st.word), some (.ref l), some (.ref p)] = [some v, some (.ref d), some u, some (.ref pp), some (.str st.word), some (.ref l), x6'] := fun z => by
      rw [z]
      exact ⟨⟨sF, kF⟩, eDF, elF, _, rfl⟩
    cases k with
    | flag => exact ⟨_, rfl, p, _, 0, _, rfl, rfl, hk, at0, rfl, _, rfl, ifF rfl (same (by rw [ea]; exact Bool.or_false _))⟩
    | ref s => exact ⟨_, rfl, p, _, 0, _, rfl, rfl, hk, at0, rfl, _, rfl, ifF rfl (same (by rw [ea]; exact Bool.or_false _))⟩
    | num lo hi =>
      refine ⟨_, rfl, p, _, 0, _, rfl, rfl, hk, at0, rfl, _, rfl, ifT rfl ⟨_, rfl, l, _, rfl, .inl (SqL.of elF), rfl, flat_roles _, _, rfl, ?_⟩⟩
      have ri := rg_in (b := (((Pm.taken f st).take j).any Kd.isN)) nr
      have kn : (Kd.num lo hi).isN = true := rfl
      rw [kn, Bool.or_true] at ea
      generalize (((Pm.taken f st).take j).any Kd.isN) = b0 at *
      cases b0 with
      | true => exact ifF (by show (!inV _ _) = false; rw [ri]; rfl) (same ea)
      | false =>
        refine ifT (by show (!inV _ _) = true; rw [ri]; rfl) ⟨_, rfl, .inl ⟨rfl, _, SqL.of elF⟩, l, _, _, rfl, rfl, elF, ?_, ⟨Same.grow nl sF, ?_⟩, ?_, ?_, _, rfl⟩
        · have := own_len st
          exact lt_line (by rw [List.length_map, List.length_append]; show st.own.length + 0 ≤ _; omega)
        · have kl := keep_lst (K := K) (o := .lst ((st.own ++ rg false).map V.str ++ [V.str "range"])) elF
          exact fun z zs h => kl _ _ (kF _ _ h)
        · rw [upd_ne nlD.symm]
          exact eDF
        · rw [upd_same, ea]
          simp [rg]
  rintro σ F ⟨⟨sF, kF⟩, eDF, elF, x6, rfl⟩
  rw [A2.len xu, List.take_length] at elF
  exact ⟨_, rfl, q l F sF nl elF⟩
end
/-! ### the law's sites -/
theorem KvAt.snoc {K : PySem.W.Frag} {H : Hp} {a : Pk} {kv : Key × V} (h : kv.1 = Sum.inr a.1 ∧ KdAt K H kv.2 a.2) : ∀ {l : List Pk} {r : List (Key × V)}, KvAt K H l r → KvAt K H (l ++ [a]) (r ++ [kv])
  | [], [], _ => ⟨h.1, h.2, trivial⟩
  | _ :: _, _ :: _, q => ⟨q.1, q.2.1, KvAt.snoc h q.2.2⟩
  | [], _ :: _, q => q.elim
  | _ :: _, [], q => q.elim
theorem SmX.keepsD {K : PySem.W.Frag} {l : Addr} {H H' : Hp} {xs : List (Key × V)} (h : SmX l H H') (e : H l = some (.dK xs)) : Keeps K H H' := fun p ys q => by
  rcases q with (q | ⟨o, q⟩) | q
  · exact .inl (.inl (h _ _ (ne_of q e (by intro z; cases z)) q))
  · exact .inl (.inr ⟨o, h _ _ (ne_of q e (by intro z; cases z)) q⟩)
  · exact .inr q
theorem keep_dK {K : PySem.W.Frag} {H : Hp} {d : Addr} {kvs : List (Key × V)} {o : HO} (h : H d = some (.dK kvs)) : Keeps K H (upd H d o) := SmX.keepsD (fun b u n e => by rw [upd_ne n]; exact e) h
theorem SmX.trans {x : Addr} {H H' H2 : Hp} (h : SmX x H H') (s : SmX x H' H2) : SmX x H H2 := fun b o n e => s b o n (h b o n e)
def spLst53 (K : PySem.W.Frag) : Sp := fun vs H Q _ => ∃ (v : V) (Pm : Pg), vs = [v] ∧ PgAt K H v Pm ∧ PgOk Pm ∧
  ∀ (D : Addr) (us : List V) (H' : Hp), Same H H' → H D = none → H' D = some (.lst us) → A2 (StV K H') Pm.sites us → Q (.ref D) H'
section
variable {P : Program} {w : World} {K : PySem.W.Frag} {mg : Str → Option Value} {base : Heap}
theorem ok_l_sites (T : Txt w K mg) : FnOk P w K mg base CX0 11 T.a_l_sites T.d_l_sites p_l_sites (spLst53 K) := by
  have g_l_flat := ok_flat (P := P) (w := w) (K := K) (base := base) T 8
  have g_l_faults := ok_l_faults (P := P) (w := w) (K := K) (base := base) T
  refine T.F_l_sites.ok sc_l_sites (fun vs H Q E h => ?_) (fun cdv A outer s H vs Q E hr h => ?_)
  · obtain ⟨v, Pm, rfl, _⟩ := h
    rfl
  obtain ⟨v, Pm, rfl, hp, ok, q⟩ := h
  refine ⟨_, (pss_cons (ps_set (i := 1) sc_l_sites.nd rfl (Or.inl rfl) (pe_lst pa_nil))
      (pss_cons (ps_for PassesOwn.never rfl (pi_tup (pe_ix ix_tup (pv 0) pe_int (fun _ _ => rfl))) (pg_name (i := 2) sc_l_sites.nd rfl (Or.inl rfl))
        (pss_cons (ps_set (i := 3) sc_l_sites.nd rfl (Or.inl rfl) pe_dnewK)
      (pss_cons (ps_for PassesOwn.never rfl (pi_tup (pe_op TZ.op_catU (pe_op TZ.op_catU (pe_ix ix_tup (pv 0) pe_int (fun _ _ => rfl)) (pe_ix ix_tup (pv 2) pe_int (fun _ _ => rfl))) (pe_ix ix_tup (pv 2) pe_int (fun _ _ => rfl)))) (pg_name (i := 4) sc_l_sites.nd rfl (Or.inl rfl))
        (pss_one (ps_dput (hu_of hr) (pv 3) (pe_ix ix_tup (pv 4) pe_int (fun _ _ => rfl)) (pe_ix ix_tup (pv 4) pe_int (fun _ _ => rfl)) rfl)))
      (pss_cons (ps_set (i := 5) sc_l_sites.nd rfl (Or.inl rfl) (pe_call g_l_flat (hr.mono (by first | decide | omega)) rfl T.m_l_flat T.F_l_flat.kp T.b_l_flat .nil pass0 (pa_cons (pe_ix ix_tup (pv 2) pe_int (fun _ _ => rfl)) pa_nil)))
      (pss_one (ps_for PassesOwn.never rfl (pi_range1 rfl T.z_range (pa_cons (pe_callB call_len_seq rfl T.z_len PySem.boot_len (pa_cons (pv 5) pa_nil)) pa_nil)) (pg_name (i := 6) sc_l_sites.nd rfl (Or.inl rfl))
        (pss_one (ps_for PassesOwn.never rfl (pi_list (pe_call g_l_faults (hr.mono (by first | decide | omega)) rfl T.m_l_faults T.F_l_faults.kp T.b_l_faults .nil pass0 (pa_cons (pv 0) (pa_cons (pv 3) (pa_cons (pv 2) (pa_cons (pe_ix ix_list (pv 5) (pv 6) (fun _ _ => rfl)) pa_nil)))))) (pg_name (i := 7) sc_l_sites.nd rfl (Or.inl rfl))
        (pss_one (ps_expr (pe_bm PySem.F.plainAttrs_list PySem.F.slot_list_append PySem.F.type_list_append mt_append (pv 1) (pa_cons (pe_tup (pa_cons (pe_ix ix_tup (pv 2) pe_int (fun _ _ => rfl)) (pa_cons (pv 6) (pa_cons (pv 7) pa_nil)))) pa_nil))))))))))))
      (pss_one (ps_ret (pv 1))))), ?_⟩
  refine ⟨by show 0 ≤ sizeLine; decide, fun l hl0 => ?_⟩
  have s0 := Same.new hl0 (.lst [])
  have hp0 := hp
  obtain ⟨p, r, rx, a, ax, g, fa, fx, rfl, h1, h2, h3, h4, h5, ⟨gx, zt, px⟩, h7, h8⟩ := hp
  have fxl := A2.len h8
  have hk0 := Keeps.of_same (K := K) s0
  refine ⟨_, rfl, p, _, 3, _, rfl, rfl, hk0 _ _ h1, rfl, fa, rfl, ⟨_, hk0 _ _ h7⟩, for_tup (K := K) (a := fa) (xs := fx) (fun i σ G => (Same H G ∧ ∃ us, G l = some (.lst us) ∧ A2 (StV K G) ((Pm.fn.take i).flatMap fun f => Pm.siteF f 0 f.bd.pre) us) ∧ ∃ x2 x3 x4 x5 x6 x7 : Option V, σ = [some (.ref p), some (.ref l), x2, x3, x4, x5, x6, x7])
    ⟨⟨s0, [], upd_same, trivial⟩, none, none, none, none, none, none, rfl⟩ (fun i σ G _ P => Same.tup P.1.1 h7) ?_ ?_⟩
  · rintro i y σ G hy ⟨⟨sG, us, el, xu⟩, x2, x3, x4, x5, x6, x7, rfl⟩
    obtain ⟨fd, ef, xf⟩ := (h8.imp fun _ _ => FdAt.keep (Keeps.of_same sG)).atv hy
    have mf := List.mem_of_getElem? ef
    have xf0 := xf
    obtain ⟨pF, t1, w1, rv, t3, w3, t4, w4, rfl, c1, c2, c3, c4, c5, c6, c7, c8⟩ := xf
    obtain ⟨v1, v2, v3, v4, v5, v6⟩ := ok.nv fd mf
    refine fun d hd => ?_
    have s1 := Same.new hd (.dK [])
    have ed : (upd G d (.dK [])) d = some (.dK []) := upd_same
    have ndl : l ≠ d := ne_of_none el hd
    have hdH := sG.free hd
    have sH1 := sG.trans s1
    have el1 := s1 _ _ el
    have xu1 := xu.imp fun _ _ => StV.keep (Keeps.of_same s1)
    have kG1 := Keeps.of_same (K := K) s1
    have xf1 := xf0.keep kG1
    have c11 := kG1 _ _ c1
    have c21 := kG1 _ _ c2
    have c51 := kG1 _ _ c5
    have pe : PksL K (upd G d (.dK [])) (visP Pm.gl fd) (gx ++ w1 ++ w3) := A2.app (c6.keep kG1) (A2.app (c3.keep kG1) ((px.keep (Keeps.of_same sG)).keep kG1))
    have pl := A2.len pe
    have c71 := kG1 _ _ c7
    have c81 := c8.keep kG1
    generalize (upd G d (.dK [])) = G1 at *
    clear s1 hd kG1 xf0 c1 c2 c3 c4 c5 c6 c7 c8 xu el sG
    refine ⟨_, rfl, p, _, 2, _, rfl, rfl, Same.tup sH1 h1, rfl, _, rfl, pF, _, 1, _, rfl, rfl, c11, rfl, g, t1, gx, w1, rfl, rfl, Same.tup sH1 zt.sq, c21, ?_⟩
    have lgx := A2.len px
    have lvis : (visP Pm.gl fd).length = gx.length + w1.length + w3.length := by rw [← pl]; simp [Nat.add_assoc]
    refine ⟨Nat.le_of_lt (lt_line (by omega)), fun q1 F1 s2 e1 => ⟨_, rfl, pF, _, 3, _, rfl, rfl, Same.tup s2 c11, rfl, q1, t3, gx ++ w1, w3, rfl, rfl, e1, Same.tup s2 c51, ?_, fun q2 F2 s3 e2 => ?_⟩⟩
    · rw [List.length_append]
      exact Nat.le_of_lt (lt_line (by omega))
    have s23 := s2.trans s3
    clear e1 c21
    have sH2 := sH1.trans s23
    have ed2 := s23 _ _ ed
    have el2 := s23 _ _ el1
    have k23 := Keeps.of_same (K := K) s23
    have xu2 := xu1.imp fun _ _ => StV.keep k23
    have pe2 := pe.keep k23
    have xf2 := xf1.keep k23
    have c12 := k23 _ _ c11
    have c72 := k23 _ _ c71
    have c82 := c81.keep k23
    clear s2 s3 s23 xu1 el1 ed pe xf1 c11 c71 c81 k23 sH1
    -- the kinds by their names
    refine ⟨q2, rfl, ⟨_, e2⟩, for_tup (K := K) (a := q2) (xs := gx ++ w1 ++ w3) (fun i σ F => (SmX d F2 F ∧ ∃ kvs, F d = some (.dK kvs) ∧ KvAt K F ((visP Pm.gl fd).take i) kvs) ∧ ∃ x4 : Option V, σ = [some (.ref p), some (.ref l), some (.ref pF), some (.ref d), x4, x5, x6, x7])
      ⟨⟨SmX.refl _ _, [], ed2, trivial⟩, x4, rfl⟩ (fun i σ F _ P => P.1.1.keepsD ed2 _ _ e2) ?_ ?_⟩
    · rintro j z σ F hz ⟨⟨sF, kvs, edF, kv⟩, y4, rfl⟩
      have kF := sF.keepsD (K := K) ed2
      obtain ⟨b, eb, pa, kk, rfl, d1, d2⟩ := (pe2.keep kF).atv hz
      have l1 := kv.len
      have l2 := List.length_take_le' j (visP Pm.gl fd)
      have new : valV kvs (Sum.inr b.1) = none := valV_out (by
        rw [kv.keys]
        intro hm
        obtain ⟨c, hc, e⟩ := List.mem_map.mp hm
        exact nd_take v1 eb c hc (Sum.inr.inj e))
      refine ⟨_, rfl, pa, _, 1, _, rfl, rfl, d1, rfl, _, rfl, _, rfl, pa, _, 0, _, rfl, rfl, d1, rfl, d, _, rfl, DPut.k (k := Sum.inr b.1) edF (lt_line (by omega)), ?_⟩
      have kd := keep_dK (K := K) (o := .dK (putK kvs (Sum.inr b.1) kk)) edF
      refine ⟨⟨fun c u n e => by rw [upd_ne n]; exact sF c u n e, _, upd_same, ?_⟩, _, rfl⟩
      rw [List.take_add_one, eb, putK_new _ new]
      rw [putK_new _ new] at kd
      exact (kv.keep kd).snoc ⟨rfl, d2.keep kd⟩
    rintro σ F ⟨⟨sF, kvs, edF, kv⟩, y4, rfl⟩
    rw [pl, List.take_length] at kv
    have kF := sF.keepsD (K := K) ed2
    have dF : DctAt K F d (visP Pm.gl fd) := ⟨kvs, edF, kv, kv.nd v1⟩
    have elF := sF _ _ ndl el2
    have xuF := xu2.imp fun _ _ => StV.keep kF
    have sHF : Same H F := fun b o e => sF b o (ne_of_none e hdH) (sH2 b o e)
    have xfF := xf2.keep kF
    have c1F := kF _ _ c12
    have c7F := kF _ _ c72
    have c8F := c82.keep kF
    clear xu2 xf2 c12 c72 c82 pe2 sF kF el2 ed2 e2 sH2 kv edF kvs
    -- the statements
    refine ⟨_, rfl, pF, _, 4, _, rfl, rfl, c1F, rfl, t4, w4, fd.bd, rfl, c7F, c8F, (ok.dc fd mf).1, Nat.le_trans (ok.dc fd mf).2 (by decide), fun D ps G3 s3 hD0 hD xp => ?_⟩
    have sH3 := sHF.trans s3
    have k3 := Keeps.of_same (K := K) s3
    have el3 := s3 _ _ elF
    have nDl : D ≠ l := (ne_of_none elF hD0).symm
    have xu3 := xuF.imp fun _ _ => StV.keep k3
    have xf3 := xfF.keep k3
    have d3 := dF.same s3
    have c13 := k3 _ _ c1F
    clear xuF elF xfF dF c1F c7F c8F s3 sHF hD0 k3
    have lp := A2.len xp
    have bl := Bd.pre_len fd.bd
    have dc2 := (ok.dc fd mf).2
    have si := sites_le Pm ok i
    refine ⟨_, rfl, D, _, rfl, .inl (SqL.of hD), _, rfl, by omega, by omega, for_range (lo := 0) (fun j σ F => (SmX l G3 F ∧ ∃ us', F l = some (.lst us') ∧ A2 (StV K F) (((Pm.fn.take i).flatMap fun f => Pm.siteF f 0 f.bd.pre) ++ Pm.siteF fd 0 (fd.bd.pre.take j)) us') ∧ ∃ x6 x7 : Option V, σ = [some (.ref p), some (.ref l), some (.ref pF), some (.ref d), y4, some (.ref D), x6, x7])
      ⟨⟨SmX.refl _ _, us, el3, by simpa [Pg.siteF] using xu3⟩, x6, x7, rfl⟩ ?_ ?_⟩
    · rintro j σ F hj ⟨⟨sF, us', el', xu'⟩, y6, y7, rfl⟩
      have hj : j < ps.length := by omega
      have kF := sF.keeps (K := K) el3
      obtain ⟨u, eu⟩ : ∃ u, ps[j]? = some u := ⟨_, List.getElem?_eq_getElem hj⟩
      obtain ⟨st, es, xst⟩ := (xp.imp fun _ _ => SmAt.keep kF).atv eu
      have mst := List.mem_of_getElem? es
      obtain ⟨ii, wst⟩ := Bd.wf_pre (ok.wf fd mf) st mst
      have dF : DctAt K F d (visP Pm.gl fd) := d3.mono kF fun o e => sF _ _ ndl.symm e
      have sHF : Same H F := fun b o e => sF b o (ne_of_none e hl0) (sH3 b o e)
      refine ⟨_, rfl, _, rfl, _, rfl, _, rfl, _, rfl, D, _, _, _, rfl, rfl, SqL.of (sF _ _ nDl hD), ?_, .ref p, d, .ref pF, u, Pm, fd, st, ii, rfl, hp0.keep (Keeps.of_same sHF) (KeepZ.of_same sHF), dF, xf3.keep kF, xst, wst, ok, mf, fun D2 F2 s5 hD20 hD2 => ?_⟩
      · rw [Int.zero_add]
        exact atI_nat eu
      have elF := s5 _ _ el'
      have nD2 : D2 ≠ l := (ne_of_none el' hD20).symm
      have k5 := Keeps.of_same (K := K) s5
      have xuF := xu'.imp fun _ _ => StV.keep k5
      have c1F := k5 _ _ (kF _ _ c13)
      have sF2 : SmX l G3 F2 := sF.same s5
      have lA := A2.len xuF
      have f3 := Pm.faults_len fd st
      have lC : us'.length ≤ 3600 := by
        rw [lA, List.length_append]
        have h1 := Pm.siteF_len fd (fd.bd.pre.take j) 0
        have h2 := List.length_take_le' j fd.bd.pre
        omega
      clear xu' el' kF k5 s5 hD20 dF xst eu sF
      refine ⟨D2, rfl, ⟨_, SqL.of hD2⟩, for_list (K := K) (a := D2) (xs := (Pm.faults fd st).map V.str) (fun k σ F3 => (SmX l F2 F3 ∧ ∃ us3, F3 l = some (.lst us3) ∧ A2 (StV K F3) ((((Pm.fn.take i).flatMap fun f => Pm.siteF f 0 f.bd.pre) ++ Pm.siteF fd 0 (fd.bd.pre.take j)) ++ ((Pm.faults fd st).take k).map fun x => (fd.nm, j, x)) us3) ∧ ∃ x7 : Option V, σ = [some (.ref p), some (.ref l), some (.ref pF), some (.ref d), y4, some (.ref D), some (.int (0 + (j : Int))), x7])
        ⟨⟨SmX.refl _ _, us', elF, by simpa using xuF⟩, y7, rfl⟩ (fun k σ F3 _ P => SqL.of (P.1.1 _ _ nD2 hD2)) ?_ ?_⟩
      · rintro k z σ F3 hz ⟨⟨s6, us3, el6, xu6⟩, z7, rfl⟩
        rw [List.getElem?_map] at hz
        obtain ⟨x', ex', rfl⟩ := Option.map_eq_some_iff.mp hz
        have k6 := s6.keeps (K := K) elF
        have l6 := A2.len xu6
        rw [List.length_append, ← lA, List.length_map] at l6
        have l7 := List.length_take_le' k (Pm.faults fd st)
        refine ⟨_, rfl, .inl ⟨rfl, _, SqL.of el6⟩, _, rfl, pF, _, 0, _, rfl, rfl, k6 _ _ c1F, rfl, _, rfl, _, rfl, by show 3 ≤ sizeLine; decide, fun e he => ?_⟩
        have se := Same.new he (.tup [.str fd.nm, .int (0 + (j : Int)), .str x'])
        refine ⟨l, us3, _, rfl, rfl, se _ _ el6, lt_line (by omega), ?_⟩
        have kl := keep_lst (K := K) (o := .lst (us3 ++ [.ref e])) (se _ _ el6)
        refine ⟨⟨fun b o n q => by rw [upd_ne n]; exact se _ _ (s6 b o n q), _, upd_same, ?_⟩, _, rfl⟩
        rw [List.take_add_one, ex', List.map_append, ← List.append_assoc]
        refine ((xu6.imp fun _ _ => StV.keep (Keeps.of_same se)).imp fun _ _ => StV.keep kl).snoc ⟨e, rfl, kl _ _ ?_⟩
        have e0 : (0 + (j : Int)) = (j : Int) := Int.zero_add _
        rw [e0]
        exact SqT.of upd_same
      rintro σ F3 ⟨⟨s6, us3, el6, xu6⟩, z7, rfl⟩
      rw [List.length_map, List.take_length] at xu6
      refine ⟨⟨sF2.trans s6, us3, el6, ?_⟩, _, _, rfl⟩
      rw [List.take_add_one, es]
      show A2 _ (_ ++ Pm.siteF fd 0 (fd.bd.pre.take j ++ [st])) _
      rw [Pg.siteF_snoc, ← List.append_assoc]
      have lj : (fd.bd.pre.take j).length = j := by
        rw [List.length_take]
        have := (List.getElem?_eq_some_iff.mp es).1
        omega
      rw [lj, Nat.zero_add]
      exact xu6
    rintro σ F ⟨⟨sF, us', el', xu'⟩, y6, y7, rfl⟩
    have en : ((ps.length : Int)).toNat = fd.bd.pre.length := by omega
    rw [en, List.take_length] at xu'
    refine ⟨⟨fun b o e => sF b o (ne_of_none e hl0) (sH3 b o e), us', el', ?_⟩, _, _, _, _, _, _, rfl⟩
    rw [List.take_add_one, ef, List.flatMap_append]
    simpa using xu'
  rintro σ G ⟨⟨sG, us, el, xu⟩, x2, x3, x4, x5, x6, x7, rfl⟩
  rw [fxl, List.take_length] at xu
  exact ⟨_, rfl, q l us G sG hl0 el xu⟩
end
/-! ### plain, as the law finds it -/
section
variable {P : Program} {w : World} {K : PySem.W.Frag} {mg : Str → Option Value} {base : Heap}
theorem ok_l_plain (T : Txt w K mg) : FnOk P w K mg base CX0 1 T.a_l_plain T.d_l_plain p_l_plain (spPln K) := by
  refine T.F_l_plain.ok sc_l_plain (fun vs H Q E h => ?_) (fun cdv A outer s H vs Q E hr h => ?_)
  · obtain ⟨v, Pm, rfl, _⟩ := h
    rfl
  obtain ⟨v, Pm, rfl, hp, ok, q⟩ := h
  refine ⟨_, (pss_cons (ps_if (pt_cmpR (op_neT0 hr.units0) (pe_ix ix_tup (pv 0) pe_int (fun _ _ => rfl)) (pe_tup pa_nil) (nomark _)) (pss_one (ps_ret pe_bl)) pss_nil)
      (pss_cons (ps_setLc (i := 1) (own := [("_law_pair", 2)]) (g := gName 2) (tt := tYes) rfl sc_l_plain.nd rfl rfl (sw_true rfl rfl rfl (by decide +kernel)) (pi_tup (pe_ix ix_tup (pv 0) pe_int (fun _ _ => rfl))) (blkOk_by (own := [("_law_pair", 2)]) (N := n_l_plain) (sc := defScope s_l_plain) (by decide +kernel)) (fun _ _ _ _ _ => (pg_name (i := 2) sc_l_plain.nd rfl (Or.inl rfl))) (fun _ _ _ _ _ => pts_nil) (fun _ _ _ _ _ => (pe_ix (show IxR _ (rIxT K) from ix_tup) (pv 2) pe_int (fun _ _ => rfl))))
      (pss_cons (ps_for PassesOwn.never rfl (pi_tup (pe_ix ix_tup (pv 0) pe_int (fun _ _ => rfl))) (pg_name (i := 3) sc_l_plain.nd rfl (Or.inl rfl))
        (pss_cons (ps_set (i := 1) sc_l_plain.nd rfl (Or.inl rfl) (pe_op op_cat (pv 1) (pe_lc (own := [("_law_pair", 2)]) (g := gName 2) (tt := tYes) rfl sc_l_plain.nd (pi_tup (pe_op TZ.op_catU (pe_ix ix_tup (pv 3) pe_int (fun _ _ => rfl)) (pe_ix ix_tup (pv 3) pe_int (fun _ _ => rfl)))) (blkOk_by (own := [("_law_pair", 2)]) (N := n_l_plain) (sc := defScope s_l_plain) (by decide +kernel)) (fun _ _ _ _ _ => (pg_name (i := 2) sc_l_plain.nd rfl (Or.inl rfl))) (fun _ _ _ _ _ => pts_nil) (fun _ _ _ _ _ => (pe_ix (show IxR _ (rIxT K) from ix_tup) (pv 2) pe_int (fun _ _ => rfl))))))
      (pss_one (ps_if (pt_cmpR op_notN (pe_ix ix_tup (pv 3) pe_int (fun _ _ => rfl)) pe_non (nomark _)) (pss_one (ps_expr (pe_bm PySem.F.plainAttrs_list PySem.F.slot_list_append PySem.F.type_list_append mt_append (pv 1) (pa_cons (pe_ix ix_tup (pv 3) pe_int (fun _ _ => rfl)) pa_nil)))) pss_nil))))
      (pss_cons (ps_for PassesOwn.never rfl (pi_list (pv 1)) (pg_name (i := 4) sc_l_plain.nd rfl (Or.inl rfl))
        (pss_one (ps_if (PW.pt (pw_and (pt_cmpR op_eq (pe_ix ix_tup (pv 4) pe_int (fun _ _ => rfl)) pe_str (nomark _)) (pw_and1 (pt_cmpR op_gt (pe_op op_sub (pe_ix ix_tup (pv 4) pe_int (fun _ _ => rfl)) (pe_ix ix_tup (pv 4) pe_int (fun _ _ => rfl))) pe_int (nomark _))))) (pss_one (ps_ret pe_bl)) pss_nil)))
      (pss_one (ps_ret pe_bl)))))), ?_⟩
  obtain ⟨p, r, rx, a, ax, g, fa, fx, rfl, h1, h2, h3, h4, h5, ⟨gx, gz, gk⟩, h7, h8⟩ := hp
  have pl : Pm.plain = (Pm.ar.isEmpty && !(Pm.kinds.any Kd.large)) := rfl
  have eax : ax.isEmpty = Pm.ar.isEmpty := by
    have := A2.len h5
    cases ax <;> cases hh : Pm.ar <;> rw [hh] at this <;> simp at this <;> rfl
  refine ⟨_, rfl, p, _, 1, _, rfl, rfl, h1, rfl, by show 0 ≤ sizeLine; decide, fun z hz => ?_⟩
  have sz := Same.new hz (.tup [])
  have ez : SqT K (upd H z (.tup [])) z [] := SqT.of upd_same
  generalize (upd H z (.tup [])) = H1 at *
  refine ⟨a, z, ax, rfl, rfl, Same.tup sz h4, ez, _, rfl, ?_⟩
  cases eb : ax.isEmpty with
  | false =>
    have eb2 : Pm.plain = false := by rw [pl, ← eax, eb]; rfl
    rw [eb2] at q
    exact ifT rfl (q _ sz)
  | true =>
  have eb2 : Pm.plain = !(Pm.kinds.any Kd.large) := by rw [pl, ← eax, eb]; rfl
  rw [eb2] at q
  refine ifF rfl ⟨_, rfl, p, _, 2, _, rfl, rfl, Same.tup sz h1, rfl, g, rfl, ⟨_, Same.tup sz gz.sq⟩, fun l hl => ?_⟩
  refine lc_it (walk_tup (xs := gx)) (fun i G => Same H1 G ∧ ∃ us, G l = some (.lst us) ∧ KdsL K G ((Pm.gl.take i).map (·.2)) us) ⟨Same.new hl _, [], upd_same, trivial⟩ (fun i G _ P => Same.tup P.1 (Same.tup sz gz.sq)) ?_ ?_
  · rintro i y G G' hi ⟨sG, us, el, xu⟩ ⟨rfl, ey⟩
    obtain ⟨b, eb, pa, kv, rfl, c1, c2⟩ := (gk.keep (Keeps.of_same (sz.trans sG))).atv ey
    have l1 := A2.len xu
    have l2 := List.length_take_le' i Pm.gl
    have l3 := ok.ln.2.2.1
    rw [List.length_map] at l1
    have kl := keep_lst (K := K) (o := .lst (us ++ [kv])) el
    refine ⟨rfl, tyes ⟨_, rfl, pa, _, 1, _, rfl, rfl, c1, rfl, us, el, lt_line (by omega), Same.grow hl sG, _, upd_same, ?_⟩⟩
    rw [List.take_add_one, eb, List.map_append]
    exact (xu.imp fun _ _ => KdAt.keep kl).snoc (c2.keep kl)
  rintro G0 ⟨s00, us0, el0, xu0⟩
  rw [A2.len gk, List.take_length] at xu0
  have fxl := A2.len h8
  have hl0 := sz.free hl
  have s0 := sz.trans s00
  clear hl ez sz s00
  refine ⟨_, rfl, p, _, 3, _, rfl, rfl, Same.tup s0 h1, rfl, fa, rfl, ⟨_, Same.tup s0 h7⟩, for_tup (K := K) (a := fa) (xs := fx) (fun i σ G => Same H G ∧ ∃ (l : Addr) (us : List V), H l = none ∧ G l = some (.lst us) ∧ KdsL K G (Pm.gl.map (·.2) ++ (Pm.fn.take i).flatMap Fd.kinds) us ∧ ∃ x2 x3 x4 : Option V, σ = [some (.ref p), some (.ref l), x2, x3, x4])
    ⟨s0, l, us0, hl0, el0, by simpa using xu0, _, _, _, rfl⟩ (fun i σ G _ P => Same.tup P.1 h7) ?_ ?_⟩
  · clear s0 us0 el0 xu0 hl0 l G0
    rintro i y σ G hy ⟨sG, l, us, hl0, el, xu, x2, x3, x4, rfl⟩
    obtain ⟨fd, ef, xf⟩ := (h8.imp fun _ _ => FdAt.keep (Keeps.of_same sG)).atv hy
    have mf := List.mem_of_getElem? ef
    obtain ⟨pF, t1, w1, rv, t3, w3, t4, w4, rfl, c1, c2, c3, c4, c5, c6, c7, c8⟩ := xf
    have cp : PksL K G (fd.ps ++ fd.ow) (w1 ++ w3) := A2.app c6 c3
    have lcp := A2.len cp
    have l40 : (fd.ps ++ fd.ow).length ≤ 40 := by
      have h2 := (ok.nv fd mf).2.2.1
      unfold visP at h2
      rw [List.length_append, List.length_append] at h2
      rw [List.length_append]
      omega
    have lus : us.length ≤ 900 := by
      have h1 := A2.len xu
      rw [h1, List.length_append, List.length_map]
      have h2 := kinds_le Pm ok i
      have h3 := ok.ln.2.2.1
      omega
    have l13 : w1.length + w3.length ≤ 40 := by
      rw [← List.length_append, lcp]
      exact l40
    refine ⟨_, rfl, _, rfl, pF, _, 1, _, rfl, rfl, c1, rfl, _, rfl, pF, _, 3, _, rfl, rfl, c1, rfl, t1, t3, w1, w3, rfl, rfl, c2, c5, Nat.le_of_lt (lt_line (by omega)), fun tz G1 s1 ez => ⟨tz, rfl, ⟨_, ez⟩, fun D hD => ?_⟩⟩
    have sG1 := sG.trans s1
    have el1 := s1 _ _ el
    have xu1 := xu.imp fun _ _ => KdAt.keep (Keeps.of_same s1)
    have cp1 := cp.keep (Keeps.of_same s1)
    have c11 := Same.tup s1 c1
    have c41 := c4.keep (Keeps.of_same s1)
    clear c1 c2 c3 c4 c5 c6 c7 c8 cp xu el sG s1
    refine lc_it (walk_tup (xs := w1 ++ w3)) (fun j F => Same G1 F ∧ ∃ vs, F D = some (.lst vs) ∧ KdsL K F (((fd.ps ++ fd.ow).take j).map (·.2)) vs) ⟨Same.new hD _, [], upd_same, trivial⟩ (fun j F _ P => Same.tup P.1 ez) ?_ ?_
    · rintro j y F F' hj ⟨sF, vs, eD, xv⟩ ⟨rfl, ey⟩
      obtain ⟨b, eb, pa, kv, rfl, d1, d2⟩ := (cp1.keep (Keeps.of_same sF)).atv ey
      have l1 := A2.len xv
      have l2 := List.length_take_le' j (fd.ps ++ fd.ow)
      rw [List.length_map] at l1
      have kl := keep_lst (K := K) (o := .lst (vs ++ [kv])) eD
      refine ⟨rfl, tyes ⟨_, rfl, pa, _, 1, _, rfl, rfl, d1, rfl, vs, eD, lt_line (by omega), Same.grow hD sF, _, upd_same, ?_⟩⟩
      rw [List.take_add_one, eb, List.map_append]
      exact (xv.imp fun _ _ => KdAt.keep kl).snoc (d2.keep kl)
    rintro F ⟨sF, vs, eD, xv⟩
    rw [lcp, List.take_length] at xv
    have lvs := A2.len xv
    rw [List.length_map] at lvs
    have elF := sF _ _ el1
    refine ⟨l, D, us, vs, rfl, rfl, elF, eD, Nat.le_of_lt (lt_line (by omega)), fun l2 hl2 => ?_⟩
    have s2 := sF.trans (Same.new hl2 (.lst (us ++ vs)))
    have k2 := Keeps.of_same (K := K) s2
    have xu2 : KdsL K (upd F l2 (.lst (us ++ vs))) (Pm.gl.map (·.2) ++ (Pm.fn.take i).flatMap Fd.kinds ++ (fd.ps ++ fd.ow).map (·.2)) (us ++ vs) := A2.app (xv.imp fun _ _ => KdAt.keep (Keeps.of_same (Same.new hl2 (.lst (us ++ vs))))) (xu1.imp fun _ _ => KdAt.keep k2)
    have c12 := k2 _ _ c11
    have c42 := c41.keep k2
    have sH2 := sG1.trans s2
    have hl20 := (sG1.trans sF).free hl2
    have el2 : (upd F l2 (.lst (us ++ vs))) l2 = some (.lst (us ++ vs)) := upd_same
    have luv : (us ++ vs).length ≤ 940 := by
      rw [List.length_append]
      omega
    generalize (upd F l2 (.lst (us ++ vs))) = F2 at *
    generalize us ++ vs = us2 at *
    clear k2 s2 hl2 elF eD xv sF c11 c41 cp1 xu1 el1 sG1 ez hD hl0
    have ek : ∀ ks, fd.rs.toList = ks → Pm.gl.map (·.2) ++ (Pm.fn.take (i + 1)).flatMap Fd.kinds = Pm.gl.map (·.2) ++ (Pm.fn.take i).flatMap Fd.kinds ++ (fd.ps ++ fd.ow).map (·.2) ++ ks := by
      intro ks e
      rw [List.take_add_one, ef, List.flatMap_append, ← e]
      simp [Fd.kinds]
    cases ers : fd.rs with
    | none =>
      rw [ers] at c42
      obtain rfl : rv = .non := c42
      refine ⟨_, rfl, pF, _, 2, _, rfl, rfl, c12, rfl, rfl, _, rfl, ifF rfl ⟨sH2, l2, us2, hl20, el2, ?_, _, _, _, rfl⟩⟩
      rw [ek [] (by rw [ers]; rfl), List.append_nil]
      exact xu2
    | some k =>
      rw [ers] at c42
      obtain ⟨pk, rfl, hk⟩ := c42
      refine ⟨_, rfl, pF, _, 2, _, rfl, rfl, c12, rfl, rfl, _, rfl, ifT rfl ⟨_, rfl, .inl ⟨rfl, _, SqL.of el2⟩, _, rfl, pF, _, 2, _, rfl, rfl, c12, rfl, l2, us2, _, rfl, rfl, el2, lt_line (by omega), Same.grow hl20 sH2, l2, us2 ++ [.ref pk], hl20, upd_same, ?_, _, _, _, rfl⟩⟩
      have kl := keep_lst (K := K) (o := .lst (us2 ++ [.ref pk])) el2
      rw [ek [k] (by rw [ers]; rfl)]
      exact (xu2.imp fun _ _ => KdAt.keep kl).snoc ⟨pk, rfl, kl _ _ hk⟩
  clear s0 us0 el0 xu0 hl0 l G0
  rintro σ G ⟨sG, l, us, hl0, el, xu, x2, x3, x4, rfl⟩
  rw [fxl, List.take_length] at xu
  have xu : KdsL K G Pm.kinds us := xu
  refine ⟨_, rfl, l, rfl, ⟨_, SqL.of el⟩, for_list (K := K) (a := l) (xs := us) (fun i σ F => G = F ∧ (Pm.kinds.take i).any Kd.large = false ∧ ∃ x4 : Option V, σ = [some (.ref p), some (.ref l), x2, x3, x4])
    ⟨rfl, rfl, x4, rfl⟩ (fun i σ F _ P => by rw [← P.1]; exact SqL.of el) ?_ ?_⟩
  · rintro i y σ F hy ⟨rfl, no, y4, rfl⟩
    obtain ⟨k, ek, pk, rfl, hk⟩ := xu.atv hy
    have nx : k.large = false → G = G ∧ (Pm.kinds.take (i + 1)).any Kd.large = false ∧ ∃ x4 : Option V, [some (.ref p), some (.ref l), x2, x3, some (.ref pk)] = [some (V.ref p), some (.ref l), x2, x3, x4] := fun e => by
      refine ⟨rfl, ?_, _, rfl⟩
      rw [List.take_add_one, ek, List.any_append, no]
      simpa using e
    cases k with
    | flag => exact ⟨_, rfl, pk, _, 0, _, rfl, rfl, hk, at0, rfl, _, rfl, ifF rfl (nx rfl)⟩
    | ref s => exact ⟨_, rfl, pk, _, 0, _, rfl, rfl, hk, at0, rfl, _, rfl, ifF rfl (nx rfl)⟩
    | num lo hi =>
      refine ⟨_, rfl, pk, _, 0, _, rfl, rfl, hk, at0, rfl, _, rfl, ifT rfl ⟨_, rfl, pk, _, 2, _, rfl, rfl, hk, rfl, _, rfl, pk, _, 1, _, rfl, rfl, hk, rfl, _, _, rfl, rfl, hi - lo, 7, rfl, rfl, _, rfl, ite2 (fun e => ?_) (fun e => ?_)⟩⟩
      · have : Pm.kinds.any Kd.large = true := List.any_eq_true.mpr ⟨_, List.mem_of_getElem? ek, e⟩
        rw [this] at q
        exact q _ sG
      · exact nx (Bool.eq_false_iff.mpr e)
  rintro σ F ⟨rfl, no, y4, rfl⟩
  rw [A2.len xu, List.take_length] at no
  rw [no] at q
  exact q _ sG
end
/-! ### a body behind itself -/
def Bd.rep (b : Bd) : Nat → Bd
  | 0 => .nil
  | n + 1 => b.app (b.rep n)
theorem BdL.rep {K : PySem.W.Frag} {H : Hp} {b : Bd} {vs : List V} (h : BdL K H b vs) : ∀ n : Nat, BdL K H (b.rep n) (List.replicate n vs).flatten
  | 0 => rfl
  | n + 1 => by
    rw [List.replicate_succ, List.flatten_cons]
    exact BdL.app (BdL.rep h n) h
theorem Bd.wf_rep {W : Wm} {env : List Pk} {rs : Option Kd} {i : Bool} {b : Bd} (h : b.wf W env rs i) : ∀ n : Nat, (b.rep n).wf W env rs i
  | 0 => by simp [Bd.rep, Bd.wf]
  | n + 1 => Bd.wf_app (Bd.wf_rep h n) h
theorem Bd.dep_rep {m : Nat} {b : Bd} (h : b.dep m) : ∀ n : Nat, (b.rep n).dep m
  | 0 => by cases m <;> simp [Bd.rep, Bd.dep]
  | n + 1 => Bd.dep_app (Bd.dep_rep h n) h
theorem Bd.cnt_rep (b : Bd) : ∀ n : Nat, (b.rep n).cnt = n * b.cnt
  | 0 => by simp [Bd.rep, Bd.cnt]
  | n + 1 => by
    show (b.app (b.rep n)).cnt = _
    rw [Bd.cnt_app, Bd.cnt_rep b n, Nat.add_mul, Nat.one_mul, Nat.add_comm]
theorem Sm.cnt_pos (s : Sm) : 1 ≤ s.cnt := by cases s <;> simp [Sm.cnt] <;> omega
theorem BdL.le {K : PySem.W.Frag} {H : Hp} : ∀ {b : Bd} {vs : List V}, BdL K H b vs → vs.length ≤ b.cnt
  | .nil, _, h => by
    rw [show _ = [] from h]
    exact Nat.le_refl 0
  | .cons s b, _, ⟨v, ws, e, _, h⟩ => by
    subst e
    have h1 := BdL.le h
    have h2 := Sm.cnt_pos s
    show ws.length + 1 ≤ s.cnt + b.cnt
    omega
theorem A2.set {α : Type} {R : α → V → Prop} {a : α} {v : V} (h : R a v) : ∀ {l : List α} {vs : List V} (i : Nat), A2 R l vs → A2 R (l.set i a) (vs.set i v)
  | [], [], _, _ => trivial
  | _ :: _, _ :: _, 0, q => ⟨h, q.2⟩
  | _ :: _, _ :: _, i + 1, q => ⟨q.1, A2.set h i q.2⟩
  | [], _ :: _, _, q => q.elim
  | _ :: _, [], _, q => q.elim
theorem set_cut {α : Type} {xs : List α} {i : Nat} {v : α} (h : i < xs.length) : xs.take i ++ [v] ++ xs.drop (i + 1) = xs.set i v := by
  rw [List.set_eq_take_append_cons_drop, if_pos h, List.append_assoc]
  rfl
/-- a program with another function in place -/
def Pg.setF (P : Pg) (i : Nat) (f : Fd) : Pg := ⟨P.rc, P.ar, P.gl, P.fn.set i f⟩
theorem map_set_same {α β : Type} {g : α → β} {l : List α} {i : Nat} {a b : α} (h : l[i]? = some a) (e : g b = g a) : (l.set i b).map g = l.map g := by
  apply List.ext_getElem?
  intro j
  rw [List.getElem?_map, List.getElem?_map, List.getElem?_set]
  by_cases hj : i = j
  · subst hj
    have hi := (List.getElem?_eq_some_iff.mp h).1
    rw [if_pos rfl, if_pos hi, h]
    simp [e]
  · rw [if_neg hj]
theorem PgOk.setF {P : Pg} {i : Nat} {f f' : Fd} (ok : PgOk P) (h : P.fn[i]? = some f) (e : f'.hd = f.hd) (w : f'.bd.wf P.wm (visP P.gl f') f'.rs false) (d : f'.bd.dep 8) (c : f'.bd.cnt ≤ 100) (v : ((visP P.gl f').map (·.1)).Nodup ∧ (∀ a ∈ visP P.gl f', PkOk a) ∧ (visP P.gl f').length ≤ 40) : PgOk (P.setF i f') := by
  have mf := List.mem_of_getElem? h
  have en : f'.nm = f.nm := congrArg Hd.nm e
  have er : f'.rs = f.rs := congrArg Hd.rs e
  have wm : (P.setF i f').wm = P.wm := by
    have : (P.fn.set i f').map Fd.hd = P.fn.map Fd.hd := map_set_same h e
    show Wm.mk P.rc P.ar ((P.fn.set i f').map Fd.hd) false = Wm.mk P.rc P.ar (P.fn.map Fd.hd) false
    rw [this]
  have all : ∀ {R : Fd → Prop}, (∀ x ∈ P.fn, R x) → R f' → ∀ x ∈ (P.setF i f').fn, R x := fun h1 h2 x hx => by
    rcases List.mem_or_eq_of_mem_set (show x ∈ P.fn.set i f' from hx) with hx | rfl
    · exact h1 x hx
    · exact h2
  obtain ⟨_, _, _, o4, o5, o6⟩ := ok.nv f mf
  refine ⟨?_, ok.nr, ok.na, ok.fl, all ok.nv ⟨v.1, v.2.1, v.2.2, by rw [er]; exact o4, by rw [en]; exact o5, by rw [en]; exact o6⟩, ?_, all ok.dc ⟨d, c⟩, ok.ar, ok.ln.1, ok.ln.2.1, ok.ln.2.2.1, ?_⟩
  · show ((P.fn.set i f').map (·.nm)).Nodup
    rw [map_set_same h en]
    exact ok.nf
  · rw [wm]
    exact all ok.wf w
  · show (P.fn.set i f').length ≤ 10
    rw [List.length_set]
    exact ok.ln.2.2.2
/-- what is drawn, and stays so -/
structure PgD (zs : List Str) (P : Pg) : Prop where
  o : PgOk P
  n : PgN zs P
  s : PgSm P
  e : P.fn ≠ []
  c : ∀ f ∈ P.fn, f.bd.cnt ≤ 40
def spLng (K : PySem.W.Frag) : Sp := fun vs H Q _ => ∃ (a : Addr) (v : V) (Pm : Pg) (zs : List Str), vs = [.ref a, v] ∧ Src H a ∧ PgAt K H v Pm ∧ PgD zs Pm ∧
  ∀ (v' : V) (Pm' : Pg) (H' : Hp), Stp a H H' → PgAt K H' v' Pm' → PgD zs Pm' → Q v' H'
section
variable {P : Program} {w : World} {K : PySem.W.Frag} {mg : Str → Option Value} {base : Heap}
theorem ok_longer (T : Txt w K mg) : FnOk P w K mg base CX0 11 T.a_l_longer T.d_l_longer p_l_longer (spLng K) := by
  have g_l_flat := ok_flat (P := P) (w := w) (K := K) (base := base) T 8
  have g_l_pick := ok_l_pick (P := P) (w := w) (base := base) T
  have g_l_one := ok_l_oneQ (P := P) (w := w) (K := K) (base := base) T
  refine T.F_l_longer.ok sc_l_longer (fun vs H Q E h => ?_) (fun cdv A outer s H vs Q E hr h => ?_)
  · obtain ⟨a, v, Pm, zs, rfl, _⟩ := h
    rfl
  obtain ⟨a, v, Pm, zs, rfl, hS, hp, pd, q⟩ := h
  refine ⟨_, (pss_cons (ps_set (i := 2) sc_l_longer.nd rfl (Or.inl rfl) (pe_ix ix_tup (pv 1) pe_int (fun _ _ => rfl)))
      (pss_cons (ps_set (i := 3) sc_l_longer.nd rfl (Or.inl rfl) (pe_call g_l_pick (hr.mono (by first | decide | omega)) rfl T.m_l_pick T.F_l_pick.kp T.b_l_pick .nil pass0 (pa_cons (pv 0) (pa_cons (pe_callB call_len_seq rfl T.z_len PySem.boot_len (pa_cons (pv 2) pa_nil)) pa_nil))))
      (pss_cons (ps_set (i := 4) sc_l_longer.nd rfl (Or.inl rfl) (pe_ix ix_tup (pv 2) (pv 3) (fun _ _ => rfl)))
      (pss_cons (ps_set (i := 5) sc_l_longer.nd rfl (Or.inl rfl) (pe_call g_l_one (hr.mono (by first | decide | omega)) rfl T.m_l_one T.F_l_one.kp T.b_l_one .nil pass0 (pa_cons (pv 0) (pa_cons (pe_lst (pa_cons pe_int (pa_cons pe_int (pa_cons pe_int (pa_cons pe_int (pa_cons pe_int (pa_cons pe_int (pa_cons pe_int pa_nil)))))))) pa_nil))))
      (C8.pss_cut (ps_if (pt_cmpR op_le (pe_op op_mul (pe_callB call_len_seq rfl T.z_len PySem.boot_len (pa_cons (pe_call g_l_flat (hr.mono (by first | decide | omega)) rfl T.m_l_flat T.F_l_flat.kp T.b_l_flat .nil pass0 (pa_cons (pe_ix ix_tup (pv 4) pe_int (fun _ _ => rfl)) pa_nil)) pa_nil)) (pv 5)) pe_int (nomark _)) (pss_one (ps_set (i := 4) sc_l_longer.nd rfl (Or.inl rfl) (pe_op TZ.op_catU (pe_slice TZ.sl_tupU (pv 4) po_none (po_some pe_int)) (pe_tup (pa_cons (pe_op RpT.op_repU (pe_ix ix_tup (pv 4) pe_int (fun _ _ => rfl)) (pv 5)) pa_nil))))) pss_nil)
      (pss_one (ps_ret (pe_op TZ.op_catU (pe_slice TZ.sl_tupU (pv 1) po_none (po_some pe_int)) (pe_tup (pa_cons (pe_op TZ.op_catU (pe_op TZ.op_catU (pe_slice TZ.sl_tupU (pv 2) po_none (po_some (pv 3))) (pe_tup (pa_cons (pv 4) pa_nil))) (pe_slice TZ.sl_tupU (pv 2) (po_some (pe_op op_add (pv 3) pe_int)) po_none)) pa_nil)))))))))), ?_⟩
  obtain ⟨p, r, rx, ra, ax, g, fa, fx, rfl, h1, h2, h3, h4, h5, h6, h7, h8⟩ := hp
  have fxl := A2.len h8
  have ln := pd.s.fn
  have lp : 0 < fx.length := by
    rw [fxl]
    exact List.length_pos_iff.mpr pd.e
  refine ⟨_, rfl, p, _, 3, _, rfl, rfl, h1, rfl, ?_⟩
  refine ⟨_, rfl, _, rfl, fa, fx, rfl, .inr h7, a, _, rfl, hS, by omega, fun rr F1 s1 r0 r1 => ?_⟩
  have rl : rr.toNat < fx.length := by omega
  have er : rr = ((rr.toNat : Nat) : Int) := by omega
  obtain ⟨hv, eh⟩ : ∃ hv, fx[rr.toNat]? = some hv := ⟨_, List.getElem?_eq_getElem rl⟩
  obtain ⟨fd, ef, xf⟩ := (h8.imp fun _ _ => FdAt.keep (Keeps.of_stp s1 hS)).atv eh
  have mf := List.mem_of_getElem? ef
  have xf0 := xf
  obtain ⟨pF, t1, w1, rv, t3, w3, t4, w4, rfl, c1, c2, c3, c4, c5, c6, c7, c8⟩ := xf
  have ah : atI fx rr = some (.ref pF) := by rw [er]; exact atI_nat eh
  refine ⟨_, rfl, _, rfl, fa, _, _, _, rfl, rfl, s1.rd h7 hS, ah, ?_⟩
  refine ⟨_, rfl, by show 7 ≤ sizeLine; decide, fun l1 hl1 => ?_⟩
  have s2 := s1.new (o := .lst [.int 1, .int 1, .int 1, .int 2, .int 3, .int 5, .int 0]) hl1
  refine ⟨a, l1, _, rfl, s2.s, .inl ⟨(s1.s.ne hl1).symm, SqL.of upd_same⟩, by show 0 < 7; decide, by show 7 < 1000; decide, fun v F2 hv2 s3 => ?_⟩
  obtain ⟨w1', rfl, w10, w15⟩ : ∃ w1 : Int, v = .int w1 ∧ 0 ≤ w1 ∧ w1 ≤ 5 := by
    simp only [List.mem_cons, List.not_mem_nil, or_false] at hv2
    rcases hv2 with rfl | rfl | rfl | rfl | rfl | rfl | rfl
    all_goals exact ⟨_, rfl, by decide, by decide⟩
  have k12 : Keeps K F1 F2 := fun z zs h => s3.rd (Same.tup (Same.new hl1 _) h) s2.s
  have st := s2.trans s3
  have xf2 := xf0.keep k12
  have c12 := k12 _ _ c1
  have c22 := k12 _ _ c2
  have c32 := c3.keep k12
  have c42 := c4.keep k12
  have c52 := k12 _ _ c5
  have c62 := c6.keep k12
  have c72 := k12 _ _ c7
  have c82 := c8.keep k12
  clear c1 c2 c3 c4 c5 c6 c7 c8 xf0 k12 s2 s3 hl1 hv2 s1
  obtain ⟨v1, v2, v3, v4, v5, v6⟩ := pd.o.nv fd mf
  have wf0 := pd.o.wf fd mf
  have dc0 := pd.o.dc fd mf
  have c40 := pd.c fd mf
  refine ⟨fun σ F => ∃ (hd : Addr) (f' : Fd), σ = [some (.ref a), some (.ref p), some (.ref fa), some (.int rr), some (.ref hd), some (.int w1')] ∧ Stp a H F ∧ FdAt K F f' (.ref hd) ∧ f'.hd = fd.hd ∧ f'.ow = fd.ow ∧ f'.bd.wf Pm.wm (visP Pm.gl fd) fd.rs false ∧ f'.bd.dep 8 ∧ f'.bd.cnt ≤ 40, ?_, ?_⟩
  · have lw4 : w4.length ≤ 1000 := Nat.le_trans (BdL.le c82) (by omega)
    refine ⟨_, rfl, pF, _, 4, _, rfl, rfl, c12, rfl, t4, w4, fd.bd, rfl, c72, c82, dc0.1, by omega, fun D ps G s4 hD0 hD xp => ⟨D, _, rfl, .inl (SqL.of hD), _, rfl, _, _, rfl, rfl, .inr ⟨by omega, by omega⟩, _, _, rfl, rfl, _, rfl, ite2 (fun e => ?_) (fun e => ⟨pF, fd, rfl, st.same s4, xf2.keep (Keeps.of_same s4), rfl, rfl, wf0, dc0.1, c40⟩)⟩⟩
    have c14 := Same.tup s4 c12
    have ec : cutV [.str fd.nm, .ref t1, rv, .ref t3, .ref t4] none (some 4) = [.str fd.nm, .ref t1, rv, .ref t3] := rfl
    refine ⟨_, rfl, 4, rfl, pF, _, rfl, c14, fun p5 F5 s5 e5 => ⟨_, rfl, pF, _, 4, _, rfl, rfl, Same.tup s5 c14, rfl, _, rfl, t4, w1', w4, rfl, rfl, Same.tup s5 (Same.tup s4 c72), w10, by omega, lw4, fun p6 F6 s6 e6 => ⟨by show 1 ≤ sizeLine; decide, fun p7 hp7 => ?_⟩⟩⟩
    rw [ec] at e5
    have s7 := Same.new hp7 (.tup [.ref p6])
    have e7 : SqT K (upd F6 p7 (.tup [.ref p6])) p7 [.ref p6] := SqT.of upd_same
    refine ⟨p5, p7, _, _, rfl, rfl, Same.tup (s6.trans s7) e5, e7, by show 4 + 1 ≤ sizeLine; decide, fun p8 F8 s8 e8 => ?_⟩
    have s48 := (((s4.trans s5).trans s6).trans s7).trans s8
    have k48 := Keeps.of_same (K := K) s48
    have e68 : SqT K F8 p6 (List.replicate w1'.toNat w4).flatten := Same.tup (s7.trans s8) e6
    refine ⟨p8, ⟨fd.nm, fd.ps, fd.rs, fd.ow, fd.bd.rep w1'.toNat⟩, rfl, st.same s48, ⟨p8, t1, w1, rv, t3, w3, p6, _, rfl, e8, k48 _ _ c22, c32.keep k48, c42.keep k48, k48 _ _ c52, c62.keep k48, e68, (c82.keep k48).rep _⟩, rfl, rfl, Bd.wf_rep wf0 _, Bd.dep_rep dc0.1 _, ?_⟩
    show (fd.bd.rep w1'.toNat).cnt ≤ 40
    rw [Bd.cnt_rep]
    have e := of_decide_eq_true e
    have lps := A2.len xp
    rw [Bd.pre_len] at lps
    rw [lps] at e
    obtain ⟨n, rfl⟩ : ∃ n : Nat, w1' = (n : Int) := ⟨w1'.toNat, by omega⟩
    have e' : fd.bd.cnt * n ≤ 40 := by exact_mod_cast e
    rw [Int.toNat_natCast, Nat.mul_comm]
    exact e'
  rintro σ F ⟨hd, f', rfl, sF, xf', e1, e2, w', d', c'⟩
  have kF := Keeps.of_stp (K := K) sF hS
  have kz := KeepZ.of_stp sF hS
  have h1F := kF _ _ h1
  have h7F := kF _ _ h7
  have e3 : cutV [.ref r, .ref ra, .ref g, .ref fa] none (some 3) = [.ref r, .ref ra, .ref g] := rfl
  have ea := cut_hi (xs := fx) r0 (by omega)
  have eb := cut_lo (xs := fx) (r := rr + 1) (by omega) (by omega)
  have eb2 : (rr + 1).toNat = rr.toNat + 1 := by omega
  rw [eb2] at eb
  have lfx : fx.length ≤ 3 := by rw [fxl]; exact ln
  refine ⟨_, rfl, 3, rfl, p, _, rfl, h1F, fun q1 F1 s1 e1' => ⟨_, rfl, _, rfl, rr, rfl, fa, fx, rfl, Same.tup s1 h7F, fun q2 F2 s2 e2' => ⟨_, rfl, by show 1 ≤ sizeLine; decide, fun q3 hq3 => ?_⟩⟩⟩
  rw [e3] at e1'
  rw [ea] at e2'
  have s3 := Same.new hq3 (.tup [.ref hd])
  have e3' : SqT K (upd F2 q3 (.tup [.ref hd])) q3 [.ref hd] := SqT.of upd_same
  generalize (upd F2 q3 (.tup [.ref hd])) = F3 at *
  have lt1 := List.length_take_le' rr.toNat fx
  refine ⟨q2, q3, _, _, rfl, rfl, Same.tup s3 e2', e3', Nat.le_of_lt (lt_line (by rw [List.length_singleton]; omega)), fun q4 F4 s4 e4 => ⟨_, rfl, _, rfl, _, _, rfl, rfl, rr + 1, rfl, fa, fx, rfl, Same.tup (((s1.trans s2).trans s3).trans s4) h7F, fun q5 F5 s5 e5 => ?_⟩⟩
  rw [eb] at e5
  refine ⟨q4, q5, _, _, rfl, rfl, Same.tup s5 e4, e5, Nat.le_of_lt (lt_line (by rw [List.length_append, List.length_singleton, List.length_drop]; omega)), fun q6 F6 s6 e6 => ⟨by show 1 ≤ sizeLine; decide, fun q7 hq7 => ?_⟩⟩
  rw [set_cut rl] at e6
  have s7 := Same.new hq7 (.tup [.ref q6])
  have e7 : SqT K (upd F6 q7 (.tup [.ref q6])) q7 [.ref q6] := SqT.of upd_same
  have s27 := ((((s2.trans s3).trans s4).trans s5).trans s6).trans s7
  refine ⟨q1, q7, _, _, rfl, rfl, Same.tup s27 e1', e7, by show 3 + 1 ≤ sizeLine; decide, fun q8 F8 s8 e8 => ?_⟩
  have s18 := (s1.trans s27).trans s8
  have k8 : Keeps K H F8 := fun z zs h => Same.tup s18 (kF _ _ h)
  have z8 : KeepZ H F8 := fun z o zs h => s18 _ _ (kz _ _ _ h)
  have e68 := Same.tup (s7.trans s8) e6
  have en : f'.nm = fd.nm := congrArg Hd.nm e1
  have eps : f'.ps = fd.ps := congrArg Hd.ps e1
  have ers : f'.rs = fd.rs := congrArg Hd.rs e1
  have evs : visP Pm.gl f' = visP Pm.gl fd := by unfold visP; rw [eps, e2]
  have all : ∀ {R : Fd → Prop}, (∀ x ∈ Pm.fn, R x) → R f' → ∀ x ∈ (Pm.setF rr.toNat f').fn, R x := fun h1 h2 x hx => by
    rcases List.mem_or_eq_of_mem_set (show x ∈ Pm.fn.set rr.toNat f' from hx) with hx | rfl
    · exact h1 x hx
    · exact h2
  refine q (.ref q8) (Pm.setF rr.toNat f') F8 (sF.same s18) ⟨q8, r, rx, ra, ax, g, q6, _, rfl, e8, k8 _ _ h2, h3.imp fun _ _ => RcAt.keep k8 z8, k8 _ _ h4, h5.imp fun _ _ => ArAt.keep k8, h6.keep k8 z8, e68, A2.set (xf'.keep (Keeps.of_same s18)) _ (h8.imp fun _ _ => FdAt.keep k8)⟩
    ⟨PgOk.setF pd.o ef e1 (by rw [evs, ers]; exact w') d' (by omega) (by rw [evs]; exact ⟨v1, v2, v3⟩), ⟨pd.n.rc, pd.n.ar, pd.n.gl, all pd.n.fn (by rw [en, eps, e2]; exact pd.n.fn fd mf)⟩, ⟨pd.s.rc, pd.s.ar, pd.s.gl, by show (Pm.fn.set rr.toNat f').length ≤ 3; rw [List.length_set]; exact pd.s.fn, all pd.s.vs (by show (visP Pm.gl f').length ≤ 6; rw [evs]; exact pd.s.vs fd mf)⟩, fun z => pd.e ?_, all pd.c c'⟩
  have z2 : Pm.fn.set rr.toNat f' = [] := z
  have z3 := congrArg List.length z2
  rw [List.length_set] at z3
  exact List.length_eq_zero_iff.mp z3
end
/-! ### one thing more -/
structure Fr (zs : List Str) : Prop where
  g : ("grand" : Str) ∉ zs
  s : ("spare" : Str) ∉ zs
theorem fr_of {st : Int} (h0 : 0 ≤ st) (h4 : st < 4) : Fr (namesOf st) := by
  have h : st = 0 ∨ st = 1 ∨ st = 2 ∨ st = 3 := by omega
  rcases h with rfl | rfl | rfl | rfl <;> exact ⟨by decide +kernel, by decide +kernel⟩
theorem nd_snoc {α : Type} {l : List α} {x : α} (nd : l.Nodup) (h : x ∉ l) : (l ++ [x]).Nodup := by
  rw [List.nodup_append]
  refine ⟨nd, List.pairwise_singleton _ _, fun a ha b hb => ?_⟩
  rw [List.mem_singleton.mp hb]
  intro z
  exact h (z ▸ ha)
theorem g_ok {k : Kd} (h : k.fine) : PkOk (("grand" : Str), k) := ⟨by show PyData.strOk ("grand" : Str) = true; decide +kernel, by show ("grand" : Str).length ≤ 20; decide +kernel, h⟩
theorem sp_ok : PyData.strOk ("spare" : Str) = true ∧ ("spare" : Str).length ≤ 20 := ⟨by decide +kernel, by decide +kernel⟩
theorem vis_names {zs : List Str} {P : Pg} (n : PgN zs P) {f : Fd} (hf : f ∈ P.fn) : ∀ a ∈ visP P.gl f, a.1 ∈ zs := fun a ha => by
  unfold visP at ha
  rcases List.mem_append.mp ha with ha | ha
  · rcases List.mem_append.mp ha with ha | ha
    · exact n.gl a ha
    · exact (n.fn f hf).2 a (List.mem_append.mpr (.inl ha))
  · exact (n.fn f hf).2 a (List.mem_append.mpr (.inr ha))
theorem PgD.addR {zs : List Str} {P : Pg} (d : PgD zs P) (fr : Fr zs) {k : Kd} (hk : k.fine) : PgOk ⟨P.rc ++ [(("spare" : Str), [(("grand" : Str), k)])], P.ar, P.gl, P.fn⟩ := by
  obtain ⟨ok, n, s, e, c⟩ := d
  refine ⟨ok.nf, ?_, ok.na, fun r hr => ?_, ok.nv, fun f hf => ?_, ok.dc, ok.ar, ?_, ok.ln.2.1, ok.ln.2.2.1, ok.ln.2.2.2⟩
  · show ((P.rc ++ [(("spare" : Str), [(("grand" : Str), k)])]).map (·.1)).Nodup
    rw [List.map_append]
    refine nd_snoc ok.nr fun h => ?_
    obtain ⟨r, hr, e⟩ := List.mem_map.mp h
    exact fr.s ((show r.1 = ("spare" : Str) from e) ▸ (n.rc r hr).1)
  · rcases List.mem_append.mp (show r ∈ P.rc ++ [_] from hr) with hr | hr
    · exact ok.fl r hr
    · rw [List.mem_singleton.mp hr]
      exact ⟨List.pairwise_singleton _ _, fun a ha => by rw [List.mem_singleton.mp ha]; exact g_ok hk, Nat.le_of_ble_eq_true rfl, sp_ok.1, sp_ok.2⟩
  · exact Bd.wf_mono (W := P.wm) (W' := (⟨P.rc ++ [(("spare" : Str), [(("grand" : Str), k)])], P.ar, P.gl, P.fn⟩ : Pg).wm) ⟨fun x hx => List.mem_append.mpr (.inl hx), fun x hx => hx, fun x hx => hx⟩ (fun a ha => ha) (ok.wf f hf)
  · show (P.rc ++ [_]).length ≤ 10
    rw [List.length_append]
    have := s.rc
    show P.rc.length + 1 ≤ 10
    omega
theorem PgD.addA {zs : List Str} {P : Pg} (d : PgD zs P) (fr : Fr zs) {m lo hi : Int} (hk : (Kd.num lo hi).fine) (m1 : 1 ≤ m) (m2 : m ≤ 64) : PgOk ⟨P.rc, P.ar ++ [(("grand" : Str), m, lo, hi)], P.gl, P.fn⟩ := by
  obtain ⟨ok, n, s, e, c⟩ := d
  refine ⟨ok.nf, ok.nr, ?_, ok.fl, ok.nv, fun f hf => ?_, ok.dc, fun x hx => ?_, ok.ln.1, ?_, ok.ln.2.2.1, ok.ln.2.2.2⟩
  · show ((P.ar ++ [(("grand" : Str), m, lo, hi)]).map (·.1)).Nodup
    rw [List.map_append]
    refine nd_snoc ok.na fun h => ?_
    obtain ⟨r, hr, e⟩ := List.mem_map.mp h
    exact fr.g ((show r.1 = ("grand" : Str) from e) ▸ n.ar r hr)
  · exact Bd.wf_mono (W := P.wm) (W' := (⟨P.rc, P.ar ++ [(("grand" : Str), m, lo, hi)], P.gl, P.fn⟩ : Pg).wm) ⟨fun x hx => hx, fun x hx => List.mem_append.mpr (.inl hx), fun x hx => hx⟩ (fun a ha => ha) (ok.wf f hf)
  · rcases List.mem_append.mp (show x ∈ P.ar ++ [_] from hx) with hx | hx
    · exact ok.ar x hx
    · rw [List.mem_singleton.mp hx]
      exact ⟨hk, m1, m2, (g_ok hk).1, (g_ok hk).2.1⟩
  · show (P.ar ++ [_]).length ≤ 10
    rw [List.length_append]
    have := s.ar
    show P.ar.length + 1 ≤ 10
    omega
theorem PgD.addF {zs : List Str} {P : Pg} (d : PgD zs P) (fr : Fr zs) {f0 : Fd} {fs : List Fd} (hn : f0.nm = "spare") (ho : f0.ow = []) (hb : f0.bd = .nil) (hps : f0.ps = [] ∨ ∃ k, f0.ps = [(("grand" : Str), k)] ∧ k.fine) (hrs : okFine f0.rs) (hp : fs.Perm (f0 :: P.fn)) : PgOk ⟨P.rc, P.ar, P.gl, fs⟩ := by
  obtain ⟨ok, n, s, e, c⟩ := d
  have all : ∀ {R : Fd → Prop}, (∀ x ∈ P.fn, R x) → R f0 → ∀ x ∈ fs, R x := fun h1 h2 x hx => by
    rcases List.mem_cons.mp (hp.mem_iff.mp hx) with rfl | hx
    · exact h2
    · exact h1 x hx
  have vis : visP P.gl f0 = P.gl ++ f0.ps := by unfold visP; rw [ho, List.append_nil]
  have gl : ((P.gl).map (·.1)).Nodup ∧ ∀ a ∈ P.gl, PkOk a := by
    obtain ⟨f, hf⟩ := List.exists_mem_of_ne_nil _ e
    have h := ok.nv f hf
    constructor
    · refine List.Nodup.sublist ?_ h.1
      unfold visP
      rw [List.map_append, List.map_append, List.append_assoc]
      exact List.sublist_append_left _ _
    · intro a ha
      exact h.2.1 a (by unfold visP; simp [ha])
  refine ⟨?_, ok.nr, ok.na, ok.fl, all ok.nv ⟨?_, ?_, ?_, hrs, by rw [hn]; exact sp_ok.1, by rw [hn]; exact sp_ok.2⟩, all (fun f hf => ?_) (by rw [hb]; simp [Bd.wf]), all ok.dc (by rw [hb]; exact ⟨by simp [Bd.dep], by simp [Bd.cnt]⟩), ok.ar, ok.ln.1, ok.ln.2.1, ok.ln.2.2.1, ?_⟩
  · refine (hp.map (·.nm)).nodup_iff.mpr ?_
    rw [List.map_cons, List.nodup_cons]
    refine ⟨fun h => ?_, ok.nf⟩
    obtain ⟨r, hr, e⟩ := List.mem_map.mp h
    rw [hn] at e
    rcases (n.fn r hr).1 with h | h
    · exact fr.s ((show r.nm = ("spare" : Str) from e) ▸ h)
    · exact absurd (e.symm.trans h) (by decide +kernel)
  · show ((visP P.gl f0).map (·.1)).Nodup
    rw [vis, List.map_append]
    rcases hps with e | ⟨k, e, _⟩ <;> rw [e]
    · simpa using gl.1
    · refine nd_snoc gl.1 fun h => ?_
      obtain ⟨r, hr, e⟩ := List.mem_map.mp h
      exact fr.g ((show r.1 = ("grand" : Str) from e) ▸ n.gl r hr)
  · show ∀ a ∈ visP P.gl f0, PkOk a
    rw [vis]
    intro a ha
    rcases List.mem_append.mp ha with ha | ha
    · exact gl.2 a ha
    · rcases hps with e | ⟨k, e, hk⟩ <;> rw [e] at ha
      · cases ha
      · rw [List.mem_singleton.mp ha]
        exact g_ok hk
  · show (visP P.gl f0).length ≤ 40
    rw [vis, List.length_append]
    have := s.gl
    have h2 : f0.ps.length ≤ 1 := by rcases hps with e | ⟨k, e, _⟩ <;> rw [e] <;> simp
    omega
  · exact Bd.wf_mono (W := P.wm) (W' := (⟨P.rc, P.ar, P.gl, fs⟩ : Pg).wm) ⟨fun x hx => hx, fun x hx => hx, fun x hx => by
      obtain ⟨o, ho, e⟩ := List.mem_map.mp (show x ∈ P.fn.map Fd.hd from hx)
      exact List.mem_map.mpr ⟨o, hp.mem_iff.mpr (List.mem_cons_of_mem _ ho), e⟩⟩ (fun a ha => ha) (ok.wf f hf)
  · show fs.length ≤ 10
    rw [hp.length_eq, List.length_cons]
    have := s.fn
    omega
theorem vis_perm {gl : List Pk} {x : Pk} {f : Fd} : (visP (gl ++ [x]) f).Perm (x :: visP gl f) := by
  unfold visP
  rw [List.append_assoc, List.append_assoc gl [x], List.append_assoc gl]
  exact List.perm_middle
theorem PgD.addP {zs : List Str} {P : Pg} (d : PgD zs P) (fr : Fr zs) {k : Kd} (hk : k.fine) : PgOk ⟨P.rc, P.ar, P.gl ++ [(("grand" : Str), k)], P.fn⟩ := by
  obtain ⟨ok, n, s, e, c⟩ := d
  refine ⟨ok.nf, ok.nr, ok.na, ok.fl, fun f hf => ?_, fun f hf => ?_, ok.dc, ok.ar, ok.ln.1, ok.ln.2.1, ?_, ok.ln.2.2.2⟩
  · obtain ⟨v1, v2, v3, v4, v5, v6⟩ := ok.nv f hf
    have pm := vis_perm (gl := P.gl) (x := (("grand" : Str), k)) (f := f)
    refine ⟨?_, fun a ha => ?_, ?_, v4, v5, v6⟩
    · refine (pm.map (·.1)).nodup_iff.mpr ?_
      rw [List.map_cons, List.nodup_cons]
      refine ⟨fun h => ?_, v1⟩
      obtain ⟨r, hr, e⟩ := List.mem_map.mp h
      exact fr.g ((show r.1 = ("grand" : Str) from e) ▸ vis_names n hf r hr)
    · rcases List.mem_cons.mp (pm.mem_iff.mp ha) with rfl | ha
      · exact g_ok hk
      · exact v2 a ha
    · show (visP (P.gl ++ [(("grand" : Str), k)]) f).length ≤ 40
      rw [pm.length_eq, List.length_cons]
      have := s.vs f hf
      omega
  · exact Bd.wf_mono (W := P.wm) ⟨fun x hx => hx, fun x hx => hx, fun x hx => hx⟩ (fun a ha => vis_perm.mem_iff.mpr (List.mem_cons_of_mem _ ha)) (ok.wf f hf)
  · show (P.gl ++ [_]).length ≤ 10
    rw [List.length_append]
    have := s.gl
    show P.gl.length + 1 ≤ 10
    omega
theorem PgD.addO {zs : List Str} {P : Pg} (d : PgD zs P) (fr : Fr zs) {k : Kd} (hk : k.fine) {i : Nat} {f : Fd} (h : P.fn[i]? = some f) : PgOk (P.setF i ⟨f.nm, f.ps, f.rs, f.ow ++ [(("grand" : Str), k)], f.bd⟩) := by
  obtain ⟨ok, n, s, e, c⟩ := d
  have hf := List.mem_of_getElem? h
  obtain ⟨v1, v2, v3, v4, v5, v6⟩ := ok.nv f hf
  have vis : visP P.gl ⟨f.nm, f.ps, f.rs, f.ow ++ [(("grand" : Str), k)], f.bd⟩ = visP P.gl f ++ [(("grand" : Str), k)] := by
    unfold visP
    rw [List.append_assoc (P.gl ++ f.ps)]
  refine PgOk.setF ok h rfl ?_ (ok.dc f hf).1 (ok.dc f hf).2 ?_
  · rw [vis]
    exact Bd.wf_mono (W := P.wm) ⟨fun x hx => hx, fun x hx => hx, fun x hx => hx⟩ (fun a ha => List.mem_append.mpr (.inl ha)) (ok.wf f hf)
  · rw [vis]
    refine ⟨?_, fun a ha => ?_, ?_⟩
    · rw [List.map_append]
      refine nd_snoc v1 fun h => ?_
      obtain ⟨r, hr, e⟩ := List.mem_map.mp h
      exact fr.g ((show r.1 = ("grand" : Str) from e) ▸ vis_names n hf r hr)
    · rcases List.mem_append.mp ha with ha | ha
      · exact v2 a ha
      · rw [List.mem_singleton.mp ha]
        exact g_ok hk
    · rw [List.length_append]
      have := s.vs f hf
      show _ + 1 ≤ 40
      omega
/-! ### one thing more, as the law adds it -/
def PrtAt (K : PySem.W.Frag) (F : Hp) (r ra g fa : Addr) (P : Pg) : Prop := ∃ rx ax fx, SqT K F r rx ∧ A2 (RcAt K F) P.rc rx ∧ SqT K F ra ax ∧ A2 (ArAt K F) P.ar ax ∧ PksZ K F g P.gl ∧ SqT K F fa fx ∧ A2 (FdAt K F) P.fn fx
theorem PrtAt.keep {K : PySem.W.Frag} {F F' : Hp} (kp : Keeps K F F') (kz : KeepZ F F') {r ra g fa : Addr} {P : Pg} (h : PrtAt K F r ra g fa P) : PrtAt K F' r ra g fa P := by
  obtain ⟨rx, ax, fx, h1, h2, h3, h4, h5, h6, h7⟩ := h
  exact ⟨rx, ax, fx, kp _ _ h1, h2.imp fun _ _ => RcAt.keep kp kz, kp _ _ h3, h4.imp fun _ _ => ArAt.keep kp, h5.keep kp kz, kp _ _ h6, h7.imp fun _ _ => FdAt.keep kp⟩
theorem PrtAt.same {K : PySem.W.Frag} {F F' : Hp} (s : Same F F') {r ra g fa : Addr} {P : Pg} (h : PrtAt K F r ra g fa P) : PrtAt K F' r ra g fa P := h.keep (Keeps.of_same s) (KeepZ.of_same s)
theorem PrtAt.stp {K : PySem.W.Frag} {a : Addr} {F F' : Hp} (hs : Src F a) (s : Stp a F F') {r ra g fa : Addr} {P : Pg} (h : PrtAt K F r ra g fa P) : PrtAt K F' r ra g fa P := h.keep (Keeps.of_stp s hs) (KeepZ.of_stp s hs)
/-- the kind that is added -/
def KdG (K : PySem.W.Frag) (F : Hp) (tk : Addr) (lo : Int) : Prop := ∃ hi, KdAt K F (.ref tk) (.num lo hi) ∧ lo ≤ hi ∧ hi ≤ lo + 1000
theorem KdG.keep {K : PySem.W.Frag} {F F' : Hp} {tk : Addr} {lo : Int} (kp : Keeps K F F') (h : KdG K F tk lo) : KdG K F' tk lo := by
  obtain ⟨hi, h1, h2⟩ := h
  exact ⟨hi, h1.keep kp, h2⟩
def AdI (K : PySem.W.Frag) (a : Addr) (H : Hp) (p : Addr) (pl : Bool) (lo wd ch : Int) (Pm : Pg) (k : Int) (σ : L2.St) (F : Hp) : Prop :=
  ∃ (tk r ra g fa : Addr) (P' : Pg) (x11 x12 : Option V), σ = [some (.ref a), some (.ref p), some (.bl pl), some (.int lo), some (.int wd), some (.int ch), some (.ref tk), some (.ref r), some (.ref ra), some (.ref g), some (.ref fa), x11, x12] ∧ Stp a H F ∧ KdG K F tk lo ∧ PrtAt K F r ra g fa P' ∧ PgOk P' ∧ (k ≤ ch → P' = Pm)
theorem AdI.up {K : PySem.W.Frag} {a : Addr} {H : Hp} {p : Addr} {pl : Bool} {lo wd ch : Int} {Pm : Pg} {k : Int} {σ : L2.St} {F : Hp} (h : AdI K a H p pl lo wd ch Pm k σ F) : AdI K a H p pl lo wd ch Pm (k + 1) σ F := by
  obtain ⟨tk, r, ra, g, fa, P', x11, x12, h1, h2, h3, h4, h5, h6⟩ := h
  exact ⟨tk, r, ra, g, fa, P', x11, x12, h1, h2, h3, h4, h5, fun z => h6 (by omega)⟩
def AdK (K : PySem.W.Frag) (a : Addr) (H : Hp) (p : Addr) (pl : Bool) (lo wd ch : Int) (σ : L2.St) (F : Hp) : Prop :=
  ∃ tk : Addr, σ = [some (.ref a), some (.ref p), some (.bl pl), some (.int lo), some (.int wd), some (.int ch), some (.ref tk), none, none, none, none, none, none] ∧ Stp a H F ∧ KdG K F tk lo
def spAdd (K : PySem.W.Frag) : Sp := fun vs H Q _ => ∃ (a : Addr) (v : V) (pl : Bool) (Pm : Pg) (zs : List Str), vs = [.ref a, v, .bl pl] ∧ Src H a ∧ PgAt K H v Pm ∧ PgD zs Pm ∧ Fr zs ∧
  ∀ (v' : V) (Pm' : Pg) (H' : Hp), Stp a H H' → PgAt K H' v' Pm' → PgOk Pm' → Q v' H'
theorem mnv {w : Int} (h : 0 ≤ w) (h2 : w ≤ 1000) : 0 ≤ (if (7 : Int) < w then (7 : Int) else w) ∧ (if (7 : Int) < w then (7 : Int) else w) ≤ 1000 := by
  by_cases c : (7 : Int) < w
  · rw [if_pos c]; omega
  · rw [if_neg c]; omega
section
variable {P : Program} {w : World} {K : PySem.W.Frag} {mg : Str → Option Value} {base : Heap}
theorem ok_added (T : Txt w K mg) : FnOk P w K mg base CX0 3 T.a_l_added T.d_l_added p_l_added (spAdd K) := by
  have g_l_pick := ok_l_pick (P := P) (w := w) (base := base) T
  have g_l_one := ok_l_oneQ (P := P) (w := w) (K := K) (base := base) T
  refine T.F_l_added.ok sc_l_added (fun vs H Q E h => ?_) (fun cdv A outer s H vs Q E hr h => ?_)
  · obtain ⟨a, v, pl, Pm, zs, rfl, _⟩ := h
    rfl
  obtain ⟨a, v, pl, Pm, zs, rfl, hS, hp, pd, fr, q⟩ := h
  refine ⟨_, (pss_cons (ps_set (i := 3) sc_l_added.nd rfl (Or.inl rfl) (pe_op op_sub (pe_call g_l_pick (hr.mono (by first | decide | omega)) rfl T.m_l_pick T.F_l_pick.kp T.b_l_pick .nil pass0 (pa_cons (pv 0) (pa_cons pe_int pa_nil))) pe_int))
      (pss_cons (ps_set (i := 4) sc_l_added.nd rfl (Or.inl rfl) (pe_call g_l_one (hr.mono (by first | decide | omega)) rfl T.m_l_one T.F_l_one.kp T.b_l_one .nil pass0 (pa_cons (pv 0) (pa_cons (pe_lst (pa_cons pe_int (pa_cons pe_int (pa_cons pe_int (pa_cons pe_int (pa_cons pe_int (pa_cons pe_int (pa_cons pe_int (pa_cons pe_int pa_nil))))))))) pa_nil))))
      (pss_cons (ps_set (i := 5) sc_l_added.nd rfl (Or.inl rfl) (pe_call g_l_pick (hr.mono (by first | decide | omega)) rfl T.m_l_pick T.F_l_pick.kp T.b_l_pick .nil pass0 (pa_cons (pv 0) (pa_cons pe_int pa_nil))))
      (pss_cons (ps_set (i := 6) sc_l_added.nd rfl (Or.inl rfl) (pe_tup (pa_cons pe_str (pa_cons (pv 3) (pa_cons (pe_op op_add (pv 3) (pv 4)) pa_nil)))))
      (C8.pss_cut (ps_if (PW.pt (pw_and (pt_not (pt_val (pv 2))) (pw_and1 (pt_cmpR op_gt (pv 5) pe_int (nomark _))))) (pss_one (ps_set (i := 6) sc_l_added.nd rfl (Or.inl rfl) (pe_tup (pa_cons pe_str (pa_cons (pv 3) (pa_cons (pe_op op_add (pv 3) (pe_callB (call_min2 rfl) rfl T.z_min bb_min (pa_cons (pv 4) (pa_cons pe_int pa_nil)))) pa_nil)))))) pss_nil)
      (pss_cons (ps_set (i := 7) sc_l_added.nd rfl (Or.inl rfl) (pe_ix ix_tup (pv 1) pe_int (fun _ _ => rfl)))
      (pss_cons (ps_set (i := 8) sc_l_added.nd rfl (Or.inl rfl) (pe_ix ix_tup (pv 1) pe_int (fun _ _ => rfl)))
      (pss_cons (ps_set (i := 9) sc_l_added.nd rfl (Or.inl rfl) (pe_ix ix_tup (pv 1) pe_int (fun _ _ => rfl)))
      (pss_cons (ps_set (i := 10) sc_l_added.nd rfl (Or.inl rfl) (pe_ix ix_tup (pv 1) pe_int (fun _ _ => rfl)))
      (C8.pss_cut (ps_if (pt_cmpR op_eq (pv 5) pe_int (nomark _)) (pss_one (ps_set (i := 7) sc_l_added.nd rfl (Or.inl rfl) (pe_op TZ.op_catU (pv 7) (pe_tup (pa_cons (pe_tup (pa_cons pe_str (pa_cons (TZ.pe_tupZ (pa_cons (pe_tup (pa_cons pe_str (pa_cons (pe_tup (pa_cons pe_str (pa_cons (pv 3) (pa_cons (pe_op op_add (pv 3) (pe_callB (call_min2 rfl) rfl T.z_min bb_min (pa_cons (pv 4) (pa_cons pe_int pa_nil)))) pa_nil)))) pa_nil))) pa_nil)) pa_nil))) pa_nil))))) pss_nil)
      (C8.pss_cut (ps_if (pt_cmpR op_eq (pv 5) pe_int (nomark _)) (pss_one (ps_set (i := 8) sc_l_added.nd rfl (Or.inl rfl) (pe_op TZ.op_catU (pv 8) (pe_tup (pa_cons (pe_tup (pa_cons pe_str (pa_cons (pe_op op_add pe_int (pe_call g_l_pick (hr.mono (by first | decide | omega)) rfl T.m_l_pick T.F_l_pick.kp T.b_l_pick .nil pass0 (pa_cons (pv 0) (pa_cons pe_int pa_nil)))) (pa_cons (pv 3) (pa_cons (pe_op op_add (pv 3) (pv 4)) pa_nil))))) pa_nil))))) pss_nil)
      (C8.pss_cut (ps_if (pt_cmpR op_eq (pv 5) pe_int (nomark _)) (pss_one (ps_set (i := 10) sc_l_added.nd rfl (Or.inl rfl) (pe_op TZ.op_catU (pv 10) (pe_tup (pa_cons (pe_tup (pa_cons pe_str (pa_cons (pe_tup (pa_cons (pe_tup (pa_cons pe_str (pa_cons (pv 6) pa_nil))) pa_nil)) (pa_cons pe_non (pa_cons (pe_tup pa_nil) (pa_cons (pe_tup pa_nil) pa_nil)))))) pa_nil))))) pss_nil)
      (C8.pss_cut (ps_if (pt_cmpR op_eq (pv 5) pe_int (nomark _)) (pss_one (ps_set (i := 10) sc_l_added.nd rfl (Or.inl rfl) (pe_op TZ.op_catU (pe_tup (pa_cons (pe_tup (pa_cons pe_str (pa_cons (pe_tup pa_nil) (pa_cons (pv 6) (pa_cons (pe_tup pa_nil) (pa_cons (pe_tup pa_nil) pa_nil)))))) pa_nil)) (pv 10)))) pss_nil)
      (C8.pss_cut (ps_if (pt_cmpR op_eq (pv 5) pe_int (nomark _)) (pss_one (ps_set (i := 9) sc_l_added.nd rfl (Or.inl rfl) (pe_op TZ.op_catZ (pv 9) (TZ.pe_tupZ (pa_cons (pe_tup (pa_cons pe_str (pa_cons (pv 6) pa_nil))) pa_nil))))) pss_nil)
      (C8.pss_cut (ps_if (pt_cmpR op_gt (pv 5) pe_int (nomark _)) (pss_cons (ps_set (i := 11) sc_l_added.nd rfl (Or.inl rfl) (pe_call g_l_pick (hr.mono (by first | decide | omega)) rfl T.m_l_pick T.F_l_pick.kp T.b_l_pick .nil pass0 (pa_cons (pv 0) (pa_cons (pe_callB call_len_seq rfl T.z_len PySem.boot_len (pa_cons (pv 10) pa_nil)) pa_nil))))
      (pss_cons (ps_set (i := 12) sc_l_added.nd rfl (Or.inl rfl) (pe_ix ix_tup (pv 10) (pv 11) (fun _ _ => rfl)))
      (pss_cons (ps_set (i := 12) sc_l_added.nd rfl (Or.inl rfl) (pe_op TZ.op_catU (pe_slice TZ.sl_tupU (pv 12) po_none (po_some pe_int)) (pe_tup (pa_cons (pe_op TZ.op_catU (pe_ix ix_tup (pv 12) pe_int (fun _ _ => rfl)) (pe_tup (pa_cons (pe_tup (pa_cons pe_str (pa_cons (pv 6) pa_nil))) pa_nil))) (pa_cons (pe_ix ix_tup (pv 12) pe_int (fun _ _ => rfl)) pa_nil)))))
      (pss_one (ps_set (i := 10) sc_l_added.nd rfl (Or.inl rfl) (pe_op TZ.op_catU (pe_op TZ.op_catU (pe_slice TZ.sl_tupU (pv 10) po_none (po_some (pv 11))) (pe_tup (pa_cons (pv 12) pa_nil))) (pe_slice TZ.sl_tupU (pv 10) (po_some (pe_op op_add (pv 11) pe_int)) po_none))))))) pss_nil)
      (pss_one (ps_ret (pe_tup (pa_cons (pv 7) (pa_cons (pv 8) (pa_cons (pv 9) (pa_cons (pv 10) pa_nil)))))))))))))))))))))), ?_⟩
  obtain ⟨p, r, rx, ra, ax, g, fa, fx, rfl, h1, h2, h3, h4, h5, h6, h7, h8⟩ := hp
  refine ⟨_, rfl, a, _, rfl, hS, by omega, fun lo' F1 s1 r0 r1 => ⟨_, _, rfl, rfl, ?_⟩⟩
  refine ⟨_, rfl, by show 8 ≤ sizeLine; decide, fun l1 hl1 => ?_⟩
  have s2 := s1.new (o := .lst [.int 0, .int 6, .int 7, .int 7, .int 8, .int 8, .int 9, .int 1000]) hl1
  refine ⟨a, l1, _, rfl, s2.s, .inl ⟨(s1.s.ne hl1).symm, SqL.of upd_same⟩, by show 0 < 8; decide, by show 8 < 1000; decide, fun v F2 hv2 s3 => ?_⟩
  obtain ⟨wd, rfl, w0, w1⟩ : ∃ w1 : Int, v = .int w1 ∧ 0 ≤ w1 ∧ w1 ≤ 1000 := by
    simp only [List.mem_cons, List.not_mem_nil, or_false] at hv2
    rcases hv2 with rfl | rfl | rfl | rfl | rfl | rfl | rfl | rfl
    all_goals exact ⟨_, rfl, by decide, by decide⟩
  refine ⟨_, rfl, a, _, rfl, s3.s, by omega, fun ch F3 s4 c0 c1 => ⟨_, rfl, _, rfl, _, rfl, _, _, rfl, rfl, by show 3 ≤ sizeLine; decide, fun tk htk => ?_⟩⟩
  have s5 := Same.new htk (.tup (Kd.num (lo' - 20) (lo' - 20 + wd)).vals)
  have st0 := ((s2.trans s3).trans s4).same s5
  have xk0 : KdG K (upd F3 tk (.tup (Kd.num (lo' - 20) (lo' - 20 + wd)).vals)) tk (lo' - 20) := ⟨_, ⟨tk, rfl, SqT.of upd_same⟩, by omega, by omega⟩
  have ech : 0 ≤ ch ∧ ch < 8 := by omega
  have elo : -20 ≤ lo' - 20 ∧ lo' - 20 ≤ 20 := by omega
  have xk : KdG K (upd F3 tk (.tup [.str "num", .int (lo' - 20), .int (lo' - 20 + wd)])) tk (lo' - 20) := xk0
  have st : Stp a H (upd F3 tk (.tup [.str "num", .int (lo' - 20), .int (lo' - 20 + wd)])) := st0
  generalize (upd F3 tk (.tup [.str "num", .int (lo' - 20), .int (lo' - 20 + wd)])) = F4 at *
  clear s1 s2 s3 s4 s5 hv2 hl1 htk r0 r1 c0 c1 st0 xk0
  refine ⟨AdK K a H p pl (lo' - 20) wd ch, ?_, ?_⟩
  · have new : ∀ (w2 : Int) (G : Hp) (t2 : Addr), 0 ≤ w2 → w2 ≤ 1000 → Same F4 G → G t2 = none → AdK K a H p pl (lo' - 20) wd ch [some (.ref a), some (.ref p), some (.bl pl), some (.int (lo' - 20)), some (.int wd), some (.int ch), some (.ref t2), none, none, none, none, none, none] (upd G t2 (.tup [.str "num", .int (lo' - 20), .int (lo' - 20 + w2)])) :=
      fun w2 G t2 h1 h2 sG ht => ⟨t2, rfl, (st.same sG).same (Same.new ht _), _, ⟨t2, rfl, SqT.of upd_same⟩, by omega, by omega⟩
    have old : AdK K a H p pl (lo' - 20) wd ch [some (.ref a), some (.ref p), some (.bl pl), some (.int (lo' - 20)), some (.int wd), some (.int ch), some (.ref tk), none, none, none, none, none, none] F4 := ⟨tk, rfl, st, xk⟩
    refine ⟨_, rfl, _, rfl, ?_⟩
    clear xk st
    cases pl with
    | true => exact ifF rfl (ifF rfl old)
    | false => exact ifT rfl ⟨_, rfl, _, _, rfl, rfl, _, rfl, ite2 (fun e => ⟨_, rfl, _, rfl, _, rfl, _, _, rfl, _, _, rfl, rfl, by show 3 ≤ sizeLine; decide, fun t ht => new _ F4 t (mnv w0 w1).1 (mnv w0 w1).2 (Same.refl _) ht⟩) (fun e => old)⟩
  clear xk st tk F4
  rintro σ F ⟨tk, rfl, st, xk⟩
  have kp := Keeps.of_stp (K := K) st hS
  refine ⟨_, rfl, p, _, 0, _, rfl, rfl, kp _ _ h1, rfl, _, rfl, p, _, 1, _, rfl, rfl, kp _ _ h1, rfl, _, rfl, p, _, 2, _, rfl, rfl, kp _ _ h1, rfl, _, rfl, p, _, 3, _, rfl, rfl, kp _ _ h1, rfl, ?_⟩
  have I0 : AdI K a H p pl (lo' - 20) wd ch Pm 1 [some (.ref a), some (.ref p), some (.bl pl), some (.int (lo' - 20)), some (.int wd), some (.int ch), some (.ref tk), some (.ref r), some (.ref ra), some (.ref g), some (.ref fa), none, none] F :=
    ⟨tk, r, ra, g, fa, Pm, none, none, rfl, st, xk, PrtAt.stp hS st ⟨rx, ax, fx, h2, h3, h4, h5, h6, h7, h8⟩, pd.o, fun _ => rfl⟩
  clear kp st xk
  -- a record kind
  refine ⟨AdI K a H p pl (lo' - 20) wd ch Pm 2, ?_, ?_⟩
  · refine ⟨_, rfl, rfl, _, rfl, ite2 (fun e => ?_) (fun e => I0.up)⟩
    obtain ⟨tk', r', ra', g', fa', P', x11, x12, eσ, st, xk, ⟨rx', ax', fx', p1, p2, p3, p4, p5, p6, p7⟩, _, eP⟩ := I0
    obtain rfl := eP (Int.le_of_eq (V.int.inj (of_decide_eq_true e)).symm)
    cases eσ
    refine ⟨_, rfl, _, rfl, _, rfl, _, rfl, _, _, rfl, _, _, rfl, rfl, by show 3 ≤ sizeLine; decide, fun k1 hk1 => ⟨by show 2 ≤ sizeLine; decide, fun k2 hk2 => ?_⟩⟩
    have m1 := Same.new hk1 (.tup (Kd.num (lo' - 20) (lo' - 20 + (if (7 : Int) < wd then (7 : Int) else wd))).vals)
    have m2 := Same.new hk2 (.tup [.str "grand", .ref k1])
    refine ⟨by show 1 ≤ sizeLine; decide, fun k3 o3 hk3 _ ho3 => ⟨by show 2 ≤ sizeLine; decide, fun k4 hk4 => ⟨by show 1 ≤ sizeLine; decide, fun k5 hk5 => ?_⟩⟩⟩
    have m3 := Same.new hk3 (.frz o3 (.tup [.ref k2]))
    have m4 := Same.new hk4 (.tup [.str "spare", .ref k3])
    have m5 := Same.new hk5 (.tup [.ref k4])
    have m15 := (((m1.trans m2).trans m3).trans m4).trans m5
    refine ⟨r, k5, rx', [.ref k4], rfl, rfl, Same.tup m15 p1, SqT.of upd_same, ?_, fun q1 G s e1 => ?_⟩
    · rw [A2.len p2, List.length_singleton]
      have := pd.s.rc
      exact Nat.le_of_lt (lt_line (by omega))
    have m16 := m15.trans s
    have fine : (Kd.num (lo' - 20) (lo' - 20 + (if (7 : Int) < wd then (7 : Int) else wd))).fine := ⟨by omega, by have := mnv w0 w1; omega, by have := mnv w0 w1; omega⟩
    have k16 := Keeps.of_same (K := K) m16
    have z16 := KeepZ.of_same m16
    have n4 : SqT K G k4 [.str "spare", .ref k3] := Same.tup (m5.trans s) (SqT.of upd_same)
    have n2 : SqT K G k2 [.str "grand", .ref k1] := Same.tup (((m3.trans m4).trans m5).trans s) (SqT.of upd_same)
    have n1 : SqT K G k1 (Kd.num (lo' - 20) (lo' - 20 + (if (7 : Int) < wd then (7 : Int) else wd))).vals := Same.tup ((((m2.trans m3).trans m4).trans m5).trans s) (SqT.of upd_same)
    have n3 : TZ.ZT G k3 [.ref k2] := ⟨o3, ((m4.trans m5).trans s) _ _ upd_same, ho3⟩
    exact ⟨tk, q1, ra, g, fa, ⟨P'.rc ++ [(("spare" : Str), [(("grand" : Str), Kd.num (lo' - 20) (lo' - 20 + (if (7 : Int) < wd then (7 : Int) else wd)))])], P'.ar, P'.gl, P'.fn⟩, none, none, rfl, st.same m16, xk.keep k16, ⟨_, ax', fx', e1, A2.snoc ⟨k4, k3, rfl, n4, _, n3, ⟨k2, .ref k1, rfl, n2, k1, rfl, n1⟩, trivial⟩ (p2.imp fun _ _ => RcAt.keep k16 z16), k16 _ _ p3, p4.imp fun _ _ => ArAt.keep k16, p5.keep k16 z16, k16 _ _ p6, p7.imp fun _ _ => FdAt.keep k16⟩, pd.addR fr fine, fun z => by have := V.int.inj (of_decide_eq_true e); omega⟩
  clear I0 tk F
  -- an array
  rintro σ F ⟨tk, r', ra', g', fa', P', x11, x12, rfl, st, xk, pt, okP, eP⟩
  refine ⟨AdI K a H p pl (lo' - 20) wd ch Pm 3, ?_, ?_⟩
  · refine ⟨_, rfl, rfl, _, rfl, ite2 (fun e => ?_) (fun e => AdI.up (k := 2) ⟨tk, r', ra', g', fa', P', x11, x12, rfl, st, xk, pt, okP, eP⟩)⟩
    have ec : ch = 2 := V.int.inj (of_decide_eq_true e)
    have eP := eP (by omega)
    subst eP
    obtain ⟨rx', ax', fx', p1, p2, p3, p4, p5, p6, p7⟩ := pt
    refine ⟨_, rfl, _, rfl, a, _, rfl, st.s, by omega, fun n F1 s1 n0 n1 => ⟨_, _, rfl, rfl, _, rfl, _, rfl, _, rfl, _, _, rfl, rfl, by show 4 ≤ sizeLine; decide, fun k1 hk1 => ⟨by show 1 ≤ sizeLine; decide, fun k2 hk2 => ?_⟩⟩⟩
    have m1 := Same.new hk1 (.tup [.str "grand", .int (1 + n), .int (lo' - 20), .int (lo' - 20 + wd)])
    have m2 := Same.new hk2 (.tup [.ref k1])
    have m12 := m1.trans m2
    have kS := Keeps.of_stp (K := K) s1 st.s
    refine ⟨ra', k2, ax', [.ref k1], rfl, rfl, Same.tup m12 (kS _ _ p3), SqT.of upd_same, ?_, fun q1 G s e1 => ?_⟩
    · rw [A2.len p4, List.length_singleton]
      have := pd.s.ar
      exact Nat.le_of_lt (lt_line (by omega))
    have m13 := m12.trans s
    have fine : (Kd.num (lo' - 20) (lo' - 20 + wd)).fine := ⟨by omega, by omega, by omega⟩
    have kG : Keeps K F G := fun z zs h => Same.tup m13 (kS _ _ h)
    have zG : KeepZ F G := fun z o zs h => m13 _ _ (KeepZ.of_stp s1 st.s _ _ _ h)
    have n4 : SqT K G k1 [.str "grand", .int (1 + n), .int (lo' - 20), .int (lo' - 20 + wd)] := Same.tup (m2.trans s) (SqT.of upd_same)
    exact ⟨tk, r', q1, g', fa', ⟨P'.rc, P'.ar ++ [(("grand" : Str), 1 + n, lo' - 20, lo' - 20 + wd)], P'.gl, P'.fn⟩, x11, x12, rfl, (st.trans s1).same m13, xk.keep kG, ⟨rx', _, fx', kG _ _ p1, p2.imp fun _ _ => RcAt.keep kG zG, e1, A2.snoc ⟨k1, rfl, n4⟩ (p4.imp fun _ _ => ArAt.keep kG), p5.keep kG zG, kG _ _ p6, p7.imp fun _ _ => FdAt.keep kG⟩, pd.addA fr fine (by omega) (by omega), fun z => by omega⟩
  -- a function behind the others
  rintro σ F ⟨tk, r', ra', g', fa', P', x11, x12, rfl, st, xk, pt, okP, eP⟩
  refine ⟨AdI K a H p pl (lo' - 20) wd ch Pm 4, ?_, ?_⟩
  · refine ⟨_, rfl, rfl, _, rfl, ite2 (fun e => ?_) (fun e => AdI.up (k := 3) ⟨tk, r', ra', g', fa', P', x11, x12, rfl, st, xk, pt, okP, eP⟩)⟩
    have ec : ch = 3 := V.int.inj (of_decide_eq_true e)
    have eP := eP (by omega)
    subst eP
    obtain ⟨rx', ax', fx', p1, p2, p3, p4, p5, p6, p7⟩ := pt
    obtain ⟨hi, xk1, l1, l2⟩ := xk
    refine ⟨_, rfl, _, rfl, by show 2 ≤ sizeLine; decide, fun k1 hk1 => ⟨by show 1 ≤ sizeLine; decide, fun k2 hk2 => ⟨by show 0 ≤ sizeLine; decide, fun k3 hk3 => ⟨by show 0 ≤ sizeLine; decide, fun k4 hk4 => ⟨by show 5 ≤ sizeLine; decide, fun k5 hk5 => ⟨by show 1 ≤ sizeLine; decide, fun k6 hk6 => ?_⟩⟩⟩⟩⟩⟩
    have m1 := Same.new hk1 (.tup [.str "grand", .ref tk])
    have m2 := Same.new hk2 (.tup [.ref k1])
    have m3 := Same.new hk3 (.tup [])
    have m4 := Same.new hk4 (.tup [])
    have m5 := Same.new hk5 (.tup [.str "spare", .ref k2, .non, .ref k3, .ref k4])
    have m6 := Same.new hk6 (.tup [.ref k5])
    have m16 := ((((m1.trans m2).trans m3).trans m4).trans m5).trans m6
    refine ⟨fa', k6, fx', [.ref k5], rfl, rfl, Same.tup m16 p6, SqT.of upd_same, ?_, fun q1 G s e1 => ?_⟩
    · rw [A2.len p7, List.length_singleton]
      have := pd.s.fn
      exact Nat.le_of_lt (lt_line (by omega))
    have m17 := m16.trans s
    have fine : (Kd.num (lo' - 20) hi).fine := ⟨by omega, by omega, by omega⟩
    have kG := Keeps.of_same (K := K) m17
    have zG := KeepZ.of_same m17
    have n1 : SqT K G k1 [.str "grand", .ref tk] := Same.tup (((((m2.trans m3).trans m4).trans m5).trans m6).trans s) (SqT.of upd_same)
    have n2 : SqT K G k2 [.ref k1] := Same.tup ((((m3.trans m4).trans m5).trans m6).trans s) (SqT.of upd_same)
    have n3 : SqT K G k3 [] := Same.tup (((m4.trans m5).trans m6).trans s) (SqT.of upd_same)
    have n4 : SqT K G k4 [] := Same.tup ((m5.trans m6).trans s) (SqT.of upd_same)
    have n5 : SqT K G k5 [.str "spare", .ref k2, .non, .ref k3, .ref k4] := Same.tup (m6.trans s) (SqT.of upd_same)
    have nf : FdAt K G ⟨"spare", [(("grand" : Str), Kd.num (lo' - 20) hi)], none, [], .nil⟩ (.ref k5) := ⟨k5, k2, [.ref k1], .non, k3, [], k4, [], rfl, n5, n2, ⟨⟨k1, .ref tk, rfl, n1, xk1.keep kG⟩, trivial⟩, rfl, n3, trivial, n4, rfl⟩
    exact ⟨tk, r', ra', g', q1, ⟨P'.rc, P'.ar, P'.gl, P'.fn ++ [⟨"spare", [(("grand" : Str), Kd.num (lo' - 20) hi)], none, [], .nil⟩]⟩, x11, x12, rfl, st.same m17, ⟨hi, xk1.keep kG, l1, l2⟩, ⟨rx', ax', _, kG _ _ p1, p2.imp fun _ _ => RcAt.keep kG zG, kG _ _ p3, p4.imp fun _ _ => ArAt.keep kG, p5.keep kG zG, e1, A2.snoc nf (p7.imp fun _ _ => FdAt.keep kG)⟩, pd.addF (f0 := ⟨"spare", [(("grand" : Str), Kd.num (lo' - 20) hi)], none, [], .nil⟩) fr rfl rfl rfl (.inr ⟨_, rfl, fine⟩) trivial List.perm_append_comm, fun z => by omega⟩
  -- a function in front of the others
  rintro σ F ⟨tk, r', ra', g', fa', P', x11, x12, rfl, st, xk, pt, okP, eP⟩
  refine ⟨AdI K a H p pl (lo' - 20) wd ch Pm 5, ?_, ?_⟩
  · refine ⟨_, rfl, rfl, _, rfl, ite2 (fun e => ?_) (fun e => AdI.up (k := 4) ⟨tk, r', ra', g', fa', P', x11, x12, rfl, st, xk, pt, okP, eP⟩)⟩
    have ec : ch = 4 := V.int.inj (of_decide_eq_true e)
    have eP := eP (by omega)
    subst eP
    obtain ⟨rx', ax', fx', p1, p2, p3, p4, p5, p6, p7⟩ := pt
    obtain ⟨hi, xk1, l1, l2⟩ := xk
    refine ⟨by show 0 ≤ sizeLine; decide, fun k1 hk1 => ⟨_, rfl, by show 0 ≤ sizeLine; decide, fun k2 hk2 => ⟨by show 0 ≤ sizeLine; decide, fun k3 hk3 => ⟨by show 5 ≤ sizeLine; decide, fun k4 hk4 => ⟨by show 1 ≤ sizeLine; decide, fun k5 hk5 => ⟨_, rfl, ?_⟩⟩⟩⟩⟩⟩
    have m1 := Same.new hk1 (.tup [])
    have m2 := Same.new hk2 (.tup [])
    have m3 := Same.new hk3 (.tup [])
    have m4 := Same.new hk4 (.tup [.str "spare", .ref k1, .ref tk, .ref k2, .ref k3])
    have m5 := Same.new hk5 (.tup [.ref k4])
    have m15 := (((m1.trans m2).trans m3).trans m4).trans m5
    refine ⟨k5, fa', [.ref k4], fx', rfl, rfl, SqT.of upd_same, Same.tup m15 p6, ?_, fun q1 G s e1 => ?_⟩
    · rw [A2.len p7, List.length_singleton]
      have := pd.s.fn
      exact Nat.le_of_lt (lt_line (by omega))
    have m16 := m15.trans s
    have fine : (Kd.num (lo' - 20) hi).fine := ⟨by omega, by omega, by omega⟩
    have kG := Keeps.of_same (K := K) m16
    have zG := KeepZ.of_same m16
    have n1 : SqT K G k1 [] := Same.tup ((((m2.trans m3).trans m4).trans m5).trans s) (SqT.of upd_same)
    have n2 : SqT K G k2 [] := Same.tup (((m3.trans m4).trans m5).trans s) (SqT.of upd_same)
    have n3 : SqT K G k3 [] := Same.tup ((m4.trans m5).trans s) (SqT.of upd_same)
    have n4 : SqT K G k4 [.str "spare", .ref k1, .ref tk, .ref k2, .ref k3] := Same.tup (m5.trans s) (SqT.of upd_same)
    have nf : FdAt K G ⟨"spare", [], some (Kd.num (lo' - 20) hi), [], .nil⟩ (.ref k4) := ⟨k4, k1, [], .ref tk, k2, [], k3, [], rfl, n4, n1, trivial, xk1.keep kG, n2, trivial, n3, rfl⟩
    exact ⟨tk, r', ra', g', q1, ⟨P'.rc, P'.ar, P'.gl, ⟨"spare", [], some (Kd.num (lo' - 20) hi), [], .nil⟩ :: P'.fn⟩, x11, x12, rfl, st.same m16, ⟨hi, xk1.keep kG, l1, l2⟩, ⟨rx', ax', _, kG _ _ p1, p2.imp fun _ _ => RcAt.keep kG zG, kG _ _ p3, p4.imp fun _ _ => ArAt.keep kG, p5.keep kG zG, e1, ⟨nf, p7.imp fun _ _ => FdAt.keep kG⟩⟩, pd.addF (f0 := ⟨"spare", [], some (Kd.num (lo' - 20) hi), [], .nil⟩) fr rfl rfl rfl (.inl rfl) fine (List.Perm.refl _), fun z => by omega⟩
  -- a global
  rintro σ F ⟨tk, r', ra', g', fa', P', x11, x12, rfl, st, xk, pt, okP, eP⟩
  refine ⟨AdI K a H p pl (lo' - 20) wd ch Pm 6, ?_, ?_⟩
  · refine ⟨_, rfl, rfl, _, rfl, ite2 (fun e => ?_) (fun e => AdI.up (k := 5) ⟨tk, r', ra', g', fa', P', x11, x12, rfl, st, xk, pt, okP, eP⟩)⟩
    have ec : ch = 5 := V.int.inj (of_decide_eq_true e)
    have eP := eP (by omega)
    subst eP
    obtain ⟨rx', ax', fx', p1, p2, p3, p4, p5, p6, p7⟩ := pt
    obtain ⟨hi, xk1, l1, l2⟩ := xk
    obtain ⟨gx', zt, px⟩ := p5
    refine ⟨_, rfl, _, rfl, by show 2 ≤ sizeLine; decide, fun k1 hk1 => ⟨by show 1 ≤ sizeLine; decide, fun k2 o2 hk2 _ ho2 => ?_⟩⟩
    have m1 := Same.new hk1 (.tup [.str "grand", .ref tk])
    have m2 := Same.new hk2 (.frz o2 (.tup [.ref k1]))
    have m12 := m1.trans m2
    refine ⟨g', k2, gx', [.ref k1], rfl, rfl, TZ.ZT.same m12 zt, ⟨o2, upd_same, ho2⟩, ?_, fun q1 G s e1 => ?_⟩
    · rw [A2.len px, List.length_singleton]
      have := pd.s.gl
      exact Nat.le_of_lt (lt_line (by omega))
    have m13 := m12.trans s
    have fine : (Kd.num (lo' - 20) hi).fine := ⟨by omega, by omega, by omega⟩
    have kG := Keeps.of_same (K := K) m13
    have zG := KeepZ.of_same m13
    have n1 : SqT K G k1 [.str "grand", .ref tk] := Same.tup (m2.trans s) (SqT.of upd_same)
    exact ⟨tk, r', ra', q1, fa', ⟨P'.rc, P'.ar, P'.gl ++ [(("grand" : Str), Kd.num (lo' - 20) hi)], P'.fn⟩, x11, x12, rfl, st.same m13, ⟨hi, xk1.keep kG, l1, l2⟩, ⟨rx', ax', fx', kG _ _ p1, p2.imp fun _ _ => RcAt.keep kG zG, kG _ _ p3, p4.imp fun _ _ => ArAt.keep kG, ⟨_, e1, A2.snoc ⟨k1, .ref tk, rfl, n1, xk1.keep kG⟩ (px.keep kG)⟩, kG _ _ p6, p7.imp fun _ _ => FdAt.keep kG⟩, pd.addP fr fine, fun z => by omega⟩
  -- a local
  rintro σ F ⟨tk, r', ra', g', fa', P', x11, x12, rfl, st, xk, pt, okP, eP⟩
  refine ⟨AdI K a H p pl (lo' - 20) wd ch Pm 8, ?_, ?_⟩
  · refine ⟨_, rfl, _, _, rfl, rfl, _, rfl, ite2 (fun e => ?_) (fun e => AdI.up (k := 7) (AdI.up (k := 6) ⟨tk, r', ra', g', fa', P', x11, x12, rfl, st, xk, pt, okP, eP⟩))⟩
    have ec : 5 < ch := of_decide_eq_true e
    have eP := eP (by omega)
    subst eP
    obtain ⟨rx', ax', fx', p1, p2, p3, p4, p5, p6, p7⟩ := pt
    obtain ⟨hi, xk1, l1, l2⟩ := xk
    have fine : (Kd.num (lo' - 20) hi).fine := ⟨by omega, by omega, by omega⟩
    have lfx := A2.len p7
    have ln := pd.s.fn
    have lp : 0 < fx'.length := by
      rw [lfx]
      exact List.length_pos_iff.mpr pd.e
    refine ⟨_, rfl, _, rfl, fa', fx', rfl, .inr p6, a, _, rfl, st.s, by omega, fun rr F1 s1 r0 r1 => ?_⟩
    have rl : rr.toNat < fx'.length := by omega
    have er : rr = ((rr.toNat : Nat) : Int) := by omega
    have k1 := Keeps.of_stp (K := K) s1 st.s
    have z1 := KeepZ.of_stp s1 st.s
    obtain ⟨hv, eh⟩ : ∃ hv, fx'[rr.toNat]? = some hv := ⟨_, List.getElem?_eq_getElem rl⟩
    obtain ⟨fd, ef, xf⟩ := (p7.imp fun _ _ => FdAt.keep k1).atv eh
    obtain ⟨pF, t1, w1', rv, t3, w3, t4, w4, rfl, c1, c2, c3, c4, c5, c6, c7, c8⟩ := xf
    have ah : atI fx' rr = some (.ref pF) := by rw [er]; exact atI_nat eh
    have e3 : cutV [.str fd.nm, .ref t1, rv, .ref t3, .ref t4] none (some 3) = [.str fd.nm, .ref t1, rv] := rfl
    refine ⟨_, rfl, _, rfl, fa', _, _, _, rfl, rfl, k1 _ _ p6, ah, _, rfl, 3, rfl, pF, _, rfl, c1, fun q1 F2 s2 e2 => ⟨_, rfl, pF, _, 3, _, rfl, rfl, Same.tup s2 c1, rfl, _, rfl, by show 2 ≤ sizeLine; decide, fun k2 hk2 => ⟨by show 1 ≤ sizeLine; decide, fun k3 hk3 => ?_⟩⟩⟩
    rw [e3] at e2
    have m2 := Same.new hk2 (.tup [.str "grand", .ref tk])
    have m3 := Same.new hk3 (.tup [.ref k2])
    have s23 := (s2.trans m2).trans m3
    have l3 : w3.length ≤ 6 := by
      have h1 := A2.len c6
      have h2 := pd.s.vs fd (List.mem_of_getElem? ef)
      unfold visP at h2
      rw [List.length_append, List.length_append] at h2
      omega
    refine ⟨t3, k3, w3, [.ref k2], rfl, rfl, Same.tup s23 c5, SqT.of upd_same, Nat.le_of_lt (lt_line (by rw [List.length_singleton]; omega)), fun q2 F5 s5 e5 => ?_⟩
    have s25 := s23.trans s5
    refine ⟨_, rfl, pF, _, 4, _, rfl, rfl, Same.tup s25 c1, rfl, by show 2 ≤ sizeLine; decide, fun k4 hk4 => ?_⟩
    have m4 := Same.new hk4 (.tup [.ref q2, .ref t4])
    refine ⟨q1, k4, _, _, rfl, rfl, Same.tup (((m2.trans m3).trans s5).trans m4) e2, SqT.of upd_same, by show 3 + 2 ≤ sizeLine; decide, fun q3 F7 s7 e7 => ?_⟩
    have m27 := (s25.trans m4).trans s7
    have n2 : SqT K F7 k2 [.str "grand", .ref tk] := Same.tup (((m3.trans s5).trans m4).trans s7) (SqT.of upd_same)
    have n5 : SqT K F7 q2 (w3 ++ [.ref k2]) := Same.tup (m4.trans s7) e5
    have k7 : Keeps K F F7 := fun z zs h => Same.tup m27 (k1 _ _ h)
    have z7 : KeepZ F F7 := fun z o zs h => m27 _ _ (z1 _ _ _ h)
    have k27 := Keeps.of_same (K := K) m27
    have xh : FdAt K F7 ⟨fd.nm, fd.ps, fd.rs, fd.ow ++ [((("grand" : Str)), Kd.num (lo' - 20) hi)], fd.bd⟩ (.ref q3) := ⟨q3, t1, w1', rv, q2, w3 ++ [.ref k2], t4, w4, rfl, e7, k27 _ _ c2, c3.keep k27, c4.keep k27, n5, A2.snoc ⟨k2, .ref tk, rfl, n2, xk1.keep k7⟩ (c6.keep k27), k27 _ _ c7, c8.keep k27⟩
    have st7 := (st.trans s1).same m27
    have p67 := k7 _ _ p6
    clear n2 n5 e2 e5 e7 c1 c2 c3 c4 c5 c6 c7 c8 s2 m2 m3 s5 m4 s7 s23 s25 hk2 hk3 hk4 ah k27 m27
    have ea := cut_hi (xs := fx') r0 (by omega)
    have eb := cut_lo (xs := fx') (r := rr + 1) (by omega) (by omega)
    have eb2 : (rr + 1).toNat = rr.toNat + 1 := by omega
    rw [eb2] at eb
    have lt1 := List.length_take_le' rr.toNat fx'
    refine ⟨_, rfl, _, rfl, rr, rfl, fa', fx', rfl, p67, fun q4 F8 s8 e8 => ⟨_, rfl, by show 1 ≤ sizeLine; decide, fun q5 hq5 => ?_⟩⟩
    rw [ea] at e8
    have s9 := Same.new hq5 (.tup [.ref q3])
    have e9 : SqT K (upd F8 q5 (.tup [.ref q3])) q5 [.ref q3] := SqT.of upd_same
    generalize (upd F8 q5 (.tup [.ref q3])) = F9 at *
    refine ⟨q4, q5, _, _, rfl, rfl, Same.tup s9 e8, e9, Nat.le_of_lt (lt_line (by rw [List.length_singleton]; omega)), fun q6 Fa sa e10 => ⟨_, rfl, _, rfl, _, _, rfl, rfl, rr + 1, rfl, fa', fx', rfl, Same.tup ((s8.trans s9).trans sa) p67, fun q7 Fb sb e11 => ?_⟩⟩
    rw [eb] at e11
    refine ⟨q6, q7, _, _, rfl, rfl, Same.tup sb e10, e11, Nat.le_of_lt (lt_line (by rw [List.length_append, List.length_singleton, List.length_drop]; omega)), fun q8 Fc sc e12 => ?_⟩
    rw [set_cut rl] at e12
    have s8c := (((s8.trans s9).trans sa).trans sb).trans sc
    have kC : Keeps K F Fc := fun z zs h => Same.tup s8c (k7 _ _ h)
    have zC : KeepZ F Fc := fun z o zs h => s8c _ _ (z7 _ _ _ h)
    exact ⟨tk, r', ra', g', q8, P'.setF rr.toNat ⟨fd.nm, fd.ps, fd.rs, fd.ow ++ [((("grand" : Str)), Kd.num (lo' - 20) hi)], fd.bd⟩, _, _, rfl, st7.same s8c, ⟨hi, xk1.keep kC, l1, l2⟩, ⟨rx', ax', _, kC _ _ p1, p2.imp fun _ _ => RcAt.keep kC zC, kC _ _ p3, p4.imp fun _ _ => ArAt.keep kC, p5.keep kC zC, e12, A2.set (xh.keep (Keeps.of_same s8c)) _ (p7.imp fun _ _ => FdAt.keep kC)⟩, pd.addO fr fine ef, fun z => by omega⟩
  rintro σ F ⟨tk, r', ra', g', fa', P', x11, x12, rfl, st, xk, ⟨rx', ax', fx', p1, p2, p3, p4, p5, p6, p7⟩, okP, eP⟩
  refine ⟨_, rfl, _, rfl, _, rfl, _, rfl, by show 4 ≤ sizeLine; decide, fun k1 hk1 => ?_⟩
  have m1 := Same.new hk1 (.tup [.ref r', .ref ra', .ref g', .ref fa'])
  have kG := Keeps.of_same (K := K) m1
  have zG := KeepZ.of_same m1
  exact q (.ref k1) P' _ (st.same m1) ⟨k1, r', rx', ra', ax', g', fa', fx', rfl, SqT.of upd_same, kG _ _ p1, p2.imp fun _ _ => RcAt.keep kG zG, kG _ _ p3, p4.imp fun _ _ => ArAt.keep kG, p5.keep kG zG, kG _ _ p6, p7.imp fun _ _ => FdAt.keep kG⟩ okP
end
/-! ### the law -/
def spLaw (K : PySem.W.Frag) : Sp := fun vs H Q _ => ∃ (a : Addr) (ns : List Int), vs = [.ref a] ∧ SqL K H a (ns.map V.int) ∧ ns.length ≤ 63 ∧ ∀ H', Q (.bl true) H'
def stD (x : Si) : PyData := .tuple [.str x.1, .int (x.2.1 : Nat), .str x.2.2]
theorem StV.dp {K : PySem.W.Frag} {H : Hp} : ∀ {l : List Si} {vs : List V}, A2 (StV K H) l vs → DpAll K H vs (l.map stD)
  | [], [], _ => .nil
  | _ :: _, _ :: _, ⟨⟨p, e, h⟩, r⟩ => by
    subst e
    exact .cons (.tup h (.cons (.str _) (.cons (.int _) (.cons (.str _) .nil)))) (StV.dp r)
  | [], _ :: _, h => h.elim
  | _ :: _, [], h => h.elim
theorem sites_dok (P : Pg) (ok : PgOk P) : Dok 4 (.list (P.sites.map stD)) := by
  have h := sites_le P ok P.fn.length
  rw [List.take_length] at h
  have h : P.sites.length ≤ 3000 := h
  refine ⟨by rw [List.length_map]; omega, fun d hd => ?_⟩
  obtain ⟨x, _, rfl⟩ := List.mem_map.mp hd
  refine ⟨by show 3 ≤ 100000; omega, fun d hd => ?_⟩
  simp only [List.mem_cons, List.not_mem_nil, or_false] at hd
  rcases hd with rfl | rfl | rfl <;> exact trivial
section
variable {P : Program} {w : World} {K : PySem.W.Frag} {mg : Str → Option Value} {base : Heap}
theorem ok_law (T : Txt w K mg) : FnOk P w K mg base CX0 20 T.a_law T.d_law p_law (spLaw K) := by
  have g_l_cell := ok_l_cell (P := P) (w := w) (K := K) (base := base) T
  have g_l_source := ok_l_source (P := P) (w := w) (base := base) T
  have g_l_pick := ok_l_pick (P := P) (w := w) (base := base) T
  have g_l_program := ok_l_program (P := P) (w := w) (K := K) (base := base) T
  have g_l_longer := ok_longer (P := P) (w := w) (K := K) (base := base) T
  have g_l_added := ok_added (P := P) (w := w) (K := K) (base := base) T
  have g_l_sites := ok_l_sites (P := P) (w := w) (K := K) (base := base) T
  have g_l_plain := ok_l_plain (P := P) (w := w) (K := K) (base := base) T
  have g_sites := ok_sites (P := P) (w := w) (K := K) (base := base) T
  have g_is_plain := ok_is_plain (P := P) (w := w) (K := K) (base := base) T
  have g_l_same := ok_l_same (P := P) (w := w) (K := K) (base := base) T 4
  refine T.F_law.ok sc_law (fun vs H Q E h => ?_) (fun cdv A outer s H vs Q E hr h => ?_)
  · obtain ⟨a, ns, rfl, _⟩ := h
    rfl
  obtain ⟨a, ns, rfl, hS, h63, q⟩ := h
  refine ⟨_, (pss_cons (ps_set (i := 1) sc_law.nd rfl (Or.inl rfl) (pe_call g_l_source (hr.mono (by first | decide | omega)) rfl T.m_l_source T.F_l_source.kp T.b_l_source .nil pass0 (pa_cons (pe_call g_l_cell (hr.mono (by first | decide | omega)) rfl T.m_l_cell T.F_l_cell.kp T.b_l_cell .nil pass0 (pa_cons (pv 0) (pa_cons pe_int pa_nil))) pa_nil)))
      (pss_cons (ps_set (i := 2) sc_law.nd rfl (Or.inl rfl) (pe_cmpR op_eq (pe_call g_l_pick (hr.mono (by first | decide | omega)) rfl T.m_l_pick T.F_l_pick.kp T.b_l_pick .nil pass0 (pa_cons (pv 1) (pa_cons pe_int pa_nil))) pe_int (nomark _)))
      (pss_cons (ps_set (i := 3) sc_law.nd rfl (Or.inl rfl) (pe_cmpR op_eq (pe_call g_l_pick (hr.mono (by first | decide | omega)) rfl T.m_l_pick T.F_l_pick.kp T.b_l_pick .nil pass0 (pa_cons (pv 1) (pa_cons pe_int pa_nil))) pe_int (nomark _)))
      (pss_cons (ps_set (i := 4) sc_law.nd rfl (Or.inl rfl) (pe_cmpR op_eq (pe_call g_l_pick (hr.mono (by first | decide | omega)) rfl T.m_l_pick T.F_l_pick.kp T.b_l_pick .nil pass0 (pa_cons (pv 1) (pa_cons pe_int pa_nil))) pe_int (nomark _)))
      (pss_cons (ps_set (i := 5) sc_law.nd rfl (Or.inl rfl) (pe_call g_l_program (hr.mono (by first | decide | omega)) rfl T.m_l_program T.F_l_program.kp T.b_l_program .nil pass0 (pa_cons (pe_call g_l_source (hr.mono (by first | decide | omega)) rfl T.m_l_source T.F_l_source.kp T.b_l_source .nil pass0 (pa_cons (pe_call g_l_cell (hr.mono (by first | decide | omega)) rfl T.m_l_cell T.F_l_cell.kp T.b_l_cell .nil pass0 (pa_cons (pv 0) (pa_cons pe_int pa_nil))) pa_nil)) (pa_cons (pv 2) (pa_cons (pv 3) (pa_cons (pv 4) pa_nil))))))
      (pss_cons (ps_set (i := 5) sc_law.nd rfl (Or.inl rfl) (pe_call g_l_added (hr.mono (by first | decide | omega)) rfl T.m_l_added T.F_l_added.kp T.b_l_added .nil pass0 (pa_cons (pv 1) (pa_cons (pe_call g_l_longer (hr.mono (by first | decide | omega)) rfl T.m_l_longer T.F_l_longer.kp T.b_l_longer .nil pass0 (pa_cons (pv 1) (pa_cons (pv 5) pa_nil))) (pa_cons (pv 2) pa_nil)))))
      (pss_cons (ps_set (i := 6) sc_law.nd rfl (Or.inl rfl) (pe_call g_l_sites (hr.mono (by first | decide | omega)) rfl T.m_l_sites T.F_l_sites.kp T.b_l_sites .nil pass0 (pa_cons (pv 5) pa_nil)))
      (pss_cons (ps_set (i := 7) sc_law.nd rfl (Or.inl rfl) (pe_call g_sites (hr.mono (by first | decide | omega)) rfl T.m_sites T.F_sites.kp T.b_sites .nil pass0 (pa_cons (pv 5) pa_nil)))
      (pss_cons (ps_if (PW.pt (pw_or (pt_not (pt_val (pe_call g_l_same (hr.mono (by first | decide | omega)) rfl T.m_l_same T.F_l_same.kp T.b_l_same .nil pass0 (pa_cons (pv 7) (pa_cons (pv 6) pa_nil))))) (pw_or1 (pt_not (pt_val (pe_call g_l_same (hr.mono (by first | decide | omega)) rfl T.m_l_same T.F_l_same.kp T.b_l_same .nil pass0 (pa_cons (pe_call g_is_plain (hr.mono (by first | decide | omega)) rfl T.m_is_plain T.F_is_plain.kp T.b_is_plain .nil pass0 (pa_cons (pv 5) pa_nil)) (pa_cons (pe_call g_l_plain (hr.mono (by first | decide | omega)) rfl T.m_l_plain T.F_l_plain.kp T.b_l_plain .nil pass0 (pa_cons (pv 5) pa_nil)) pa_nil)))))))) (pss_one (ps_ret pe_bl)) pss_nil)
      (pss_cons (ps_expr (pe_bm PySem.F.plainAttrs_list PySem.F.slot_list_append PySem.F.type_list_append mt_append (pv 7) (pa_cons (pe_tup (pa_cons pe_str (pa_cons pe_int (pa_cons pe_str pa_nil)))) pa_nil)))
      (pss_cons (ps_asg (pe_tup (pa_cons pe_str (pa_cons pe_int (pa_cons pe_str pa_nil)))) (pg_sub (pv 7) pe_int set_list))
      (pss_one (ps_ret (pe_and (pe_call g_l_same (hr.mono (by first | decide | omega)) rfl T.m_l_same T.F_l_same.kp T.b_l_same .nil pass0 (pa_cons (pe_call g_sites (hr.mono (by first | decide | omega)) rfl T.m_sites T.F_sites.kp T.b_sites .nil pass0 (pa_cons (pv 5) pa_nil)) (pa_cons (pv 6) pa_nil))) (pe_one (pe_call g_l_same (hr.mono (by first | decide | omega)) rfl T.m_l_same T.F_l_same.kp T.b_l_same .nil pass0 (pa_cons (pe_call g_is_plain (hr.mono (by first | decide | omega)) rfl T.m_is_plain T.F_is_plain.kp T.b_is_plain .nil pass0 (pa_cons (pv 5) pa_nil)) (pa_cons (pe_call g_l_plain (hr.mono (by first | decide | omega)) rfl T.m_l_plain T.F_l_plain.kp T.b_l_plain .nil pass0 (pa_cons (pv 5) pa_nil)) pa_nil)))))))))))))))))), ?_⟩
  refine ⟨_, rfl, a, ns, 1, rfl, hS, by decide, fun c1 => ⟨c1, rfl, fun pO H1 hp1 s1 src1 => ?_⟩⟩
  refine ⟨_, rfl, pO, 2, rfl, src1, by decide, fun r1 H2 st2 _ _ => ⟨rfl, ?_⟩⟩
  refine ⟨_, rfl, pO, 3, rfl, st2.s, by decide, fun r2 H3 st3 _ _ => ⟨rfl, ?_⟩⟩
  refine ⟨_, rfl, pO, 2, rfl, st3.s, by decide, fun r3 H4 st4 _ _ => ⟨rfl, ?_⟩⟩
  have S4 := Stp.fresh s1 hp1 ((st2.trans st3).trans st4)
  obtain ⟨cO, mO, kO, eO⟩ := id st4.s
  refine ⟨_, rfl, a, ns, 0, rfl, S4.seq hS, by decide, fun c0 => ⟨c0, rfl, fun pS H5 hp5 s5 src5 => ⟨_, rfl, _, rfl, _, rfl, pS, _, _, _, rfl, src5, fun v0 P0 st H6 st6 hp6 ok6 z0 z4 nm6 ne6 c6 sm6 => ?_⟩⟩⟩
  have src6 : Src H6 pO := ⟨cO, mO, kO, st6.k _ _ (ne_of_none eO hp5) (s5 _ _ eO)⟩
  have pd6 : PgD (namesOf st) P0 := ⟨ok6, nm6, sm6, ne6, c6⟩
  refine ⟨_, rfl, _, rfl, _, rfl, pO, v0, P0, namesOf st, rfl, src6, hp6, pd6, fun v1 P1 H7 st7 hp7 pd7 => ⟨_, rfl, pO, v1, _, P1, namesOf st, rfl, st7.s, hp7, pd7, fr_of z0 z4, fun v2 P2 H8 st8 hp8 ok8 => ?_⟩⟩
  refine ⟨_, rfl, v2, P2, rfl, hp8, ok8, fun D us H9 s9 hD0 hD xD => ?_⟩
  refine ⟨_, rfl, v2, P2, rfl, hp8.keep (Keeps.of_same s9) (KeepZ.of_same s9), ok8, fun D2 us2 HA sA hD20 hD2 xD2 => ?_⟩
  have s9A := s9.trans sA
  have nD : D ≠ D2 := ne_of_none hD hD20
  have hDA := sA _ _ hD
  have xDA := xD.imp fun _ _ => StV.keep (Keeps.of_same sA)
  have dok := sites_dok P2 ok8
  have d1 : Dp K HA (.ref D) (.list (P2.sites.map stD)) := .lst (SqL.of hDA) (StV.dp xDA)
  have d2 : Dp K HA (.ref D2) (.list (P2.sites.map stD)) := .lst (SqL.of hD2) (StV.dp xD2)
  have hpA := hp8.keep (Keeps.of_same s9A) (KeepZ.of_same s9A)
  clear hp8 xD hD hD0 hD20 sA s9 s9A s1 s5 st2 st3 st4 st6 st7 st8 S4 hp1 hp5 src1 src5 src6 eO hS hp6 hp7
  refine ⟨_, rfl, _, rfl, .ref D2, .ref D, _, rfl, d2, d1, dok, _, rfl, ifF rfl ⟨_, rfl, v2, P2, rfl, hpA, ok8, fun HB sB => ⟨_, rfl, v2, P2, rfl, hpA.keep (Keeps.of_same sB) (KeepZ.of_same sB), ok8, fun HC sC => ⟨.bl P2.plain, .bl P2.plain, _, rfl, .bl _, .bl _, trivial, _, rfl, ifF rfl ?_⟩⟩⟩⟩
  have sBC := sB.trans sC
  have hpC := hpA.keep (Keeps.of_same sBC) (KeepZ.of_same sBC)
  have hDC := sBC _ _ hDA
  have xDC := xDA.imp fun _ _ => StV.keep (Keeps.of_same sBC)
  have hD2C := sBC _ _ hD2
  have l2 : us2.length ≤ 3000 := by
    have h := sites_le P2 ok8 P2.fn.length
    rw [List.take_length] at h
    rw [A2.len xD2]
    exact h
  clear d1 d2 hpA hDA xDA hD2 xD2 sB sC sBC
  refine ⟨_, rfl, .inl ⟨rfl, _, SqL.of hD2C⟩, by show 3 ≤ sizeLine; decide, fun k1 hk1 => ?_⟩
  have m1 := Same.new hk1 (.tup [.str "main", .int 0, .str "assert"])
  refine ⟨D2, us2, _, rfl, rfl, m1 _ _ hD2C, lt_line (by omega), ?_⟩
  have e2 := m1 _ _ hD2C
  have kk : Keeps K HC (upd (upd HC k1 (.tup [.str "main", .int 0, .str "assert"])) D2 (.lst (us2 ++ [.ref k1]))) := fun z zs h => keep_lst e2 _ _ (Same.tup m1 h)
  have kz : KeepZ HC (upd (upd HC k1 (.tup [.str "main", .int 0, .str "assert"])) D2 (.lst (us2 ++ [.ref k1]))) := fun z o zs h => KeepZ.lst e2 _ _ _ (m1 _ _ h)
  have hD3 : (upd (upd HC k1 (.tup [.str "main", .int 0, .str "assert"])) D2 (.lst (us2 ++ [.ref k1]))) D = some (.lst us) := by rw [upd_ne nD]; exact m1 _ _ hDC
  have e3 : (upd (upd HC k1 (.tup [.str "main", .int 0, .str "assert"])) D2 (.lst (us2 ++ [.ref k1]))) D2 = some (.lst (us2 ++ [.ref k1])) := upd_same
  generalize (upd (upd HC k1 (.tup [.str "main", .int 0, .str "assert"])) D2 (.lst (us2 ++ [.ref k1]))) = HE at *
  clear m1 e2 hk1
  refine ⟨by show 3 ≤ sizeLine; decide, fun k2 hk2 => ?_⟩
  have m2 := Same.new hk2 (.tup [.str "main", .int 40, .str "null"])
  have e4 := m2 _ _ e3
  have i0 : ixN (us2 ++ [V.ref k1]).length 0 = some 0 := by
    unfold ixN
    simp
  refine ⟨_, rfl, D2, _, 0, 0, rfl, rfl, e4, i0, ?_⟩
  have k5 : Keeps K HC (upd (upd HE k2 (.tup [.str "main", .int 40, .str "null"])) D2 (.lst ((us2 ++ [V.ref k1]).set 0 (.ref k2)))) := fun z zs h => keep_lst e4 _ _ (Same.tup m2 (kk _ _ h))
  have z5 : KeepZ HC (upd (upd HE k2 (.tup [.str "main", .int 40, .str "null"])) D2 (.lst ((us2 ++ [V.ref k1]).set 0 (.ref k2)))) := fun z o zs h => KeepZ.lst e4 _ _ _ (m2 _ _ (kz _ _ _ h))
  have hD5 : (upd (upd HE k2 (.tup [.str "main", .int 40, .str "null"])) D2 (.lst ((us2 ++ [V.ref k1]).set 0 (.ref k2)))) D = some (.lst us) := by rw [upd_ne nD]; exact m2 _ _ hD3
  generalize (upd (upd HE k2 (.tup [.str "main", .int 40, .str "null"])) D2 (.lst ((us2 ++ [V.ref k1]).set 0 (.ref k2)))) = HF at *
  have hpF := hpC.keep k5 z5
  have xDF := xDC.imp fun _ _ => StV.keep k5
  clear m2 e4 i0 k5 z5 kk kz hk2 hD3 e3 hpC xDC
  refine ⟨_, rfl, v2, P2, rfl, hpF, ok8, fun D3 us3 HG sG hD30 hD3 xD3 => ⟨_, rfl, .ref D3, .ref D, _, rfl, .lst (SqL.of hD3) (StV.dp xD3), .lst (SqL.of (sG _ _ hD5)) (StV.dp (xDF.imp fun _ _ => StV.keep (Keeps.of_same sG))), dok, _, rfl, ifT rfl ?_⟩⟩
  refine ⟨_, rfl, v2, P2, rfl, hpF.keep (Keeps.of_same sG) (KeepZ.of_same sG), ok8, fun HH sH => ⟨_, rfl, v2, P2, rfl, hpF.keep (Keeps.of_same (sG.trans sH)) (KeepZ.of_same (sG.trans sH)), ok8, fun HI sI => ⟨.bl P2.plain, .bl P2.plain, _, rfl, .bl _, .bl _, trivial, q _⟩⟩⟩
end
theorem all_mk {l : PySem.W.OpenLaw} {w : World} {K : PySem.W.Frag} {h : Heap} {mg : Str → Option Value} {fa : Addr} (X : K.In h) (G : h.Ns mainGlobals mg) (hfa : mg "law" = some (.ref fa))
    {f__wall : Addr} {od__wall an__wall : Option Addr} {sl__wall : Array (Option Value)} {oc__wall kV__wall dc__wall pm__wall cd__wall ct__wall : Value}
    (A__wall : PySem.W.nsIn K mainGlobals "_wall" = some (some (.ref f__wall))) (L__wall : K.lookup f__wall = some ⟨oc__wall, od__wall, .func (PySem.W.fnOf "_wall" "_wall" (defArgs s__wall) (defBody s__wall) (defScope s__wall) .none kV__wall dc__wall pm__wall an__wall cd__wall ct__wall), sl__wall⟩) (C__wall : PySem.W.codeIn K cd__wall "_wall" = true) (K__wall : PySem.W.keepIn K (.ref f__wall) = true)
    {f_is_large : Addr} {od_is_large an_is_large : Option Addr} {sl_is_large : Array (Option Value)} {oc_is_large kV_is_large dc_is_large pm_is_large cd_is_large ct_is_large : Value}
    (A_is_large : PySem.W.nsIn K mainGlobals "is_large" = some (some (.ref f_is_large))) (L_is_large : K.lookup f_is_large = some ⟨oc_is_large, od_is_large, .func (PySem.W.fnOf "is_large" "is_large" (defArgs s_is_large) (defBody s_is_large) (defScope s_is_large) .none kV_is_large dc_is_large pm_is_large an_is_large cd_is_large ct_is_large), sl_is_large⟩) (C_is_large : PySem.W.codeIn K cd_is_large "is_large" = true) (K_is_large : PySem.W.keepIn K (.ref f_is_large) = true)
    {f_visible_kinds : Addr} {od_visible_kinds an_visible_kinds : Option Addr} {sl_visible_kinds : Array (Option Value)} {oc_visible_kinds kV_visible_kinds dc_visible_kinds pm_visible_kinds cd_visible_kinds ct_visible_kinds : Value}
    (A_visible_kinds : PySem.W.nsIn K mainGlobals "visible_kinds" = some (some (.ref f_visible_kinds))) (L_visible_kinds : K.lookup f_visible_kinds = some ⟨oc_visible_kinds, od_visible_kinds, .func (PySem.W.fnOf "visible_kinds" "visible_kinds" (defArgs s_visible_kinds) (defBody s_visible_kinds) (defScope s_visible_kinds) .none kV_visible_kinds dc_visible_kinds pm_visible_kinds an_visible_kinds cd_visible_kinds ct_visible_kinds), sl_visible_kinds⟩) (C_visible_kinds : PySem.W.codeIn K cd_visible_kinds "visible_kinds" = true) (K_visible_kinds : PySem.W.keepIn K (.ref f_visible_kinds) = true)
    {f_bodies_of : Addr} {od_bodies_of an_bodies_of : Option Addr} {sl_bodies_of : Array (Option Value)} {oc_bodies_of kV_bodies_of dc_bodies_of pm_bodies_of cd_bodies_of ct_bodies_of : Value}
    (A_bodies_of : PySem.W.nsIn K mainGlobals "bodies_of" = some (some (.ref f_bodies_of))) (L_bodies_of : K.lookup f_bodies_of = some ⟨oc_bodies_of, od_bodies_of, .func (PySem.W.fnOf "bodies_of" "bodies_of" (defArgs s_bodies_of) (defBody s_bodies_of) (defScope s_bodies_of) .none kV_bodies_of dc_bodies_of pm_bodies_of an_bodies_of cd_bodies_of ct_bodies_of), sl_bodies_of⟩) (C_bodies_of : PySem.W.codeIn K cd_bodies_of "bodies_of" = true) (K_bodies_of : PySem.W.keepIn K (.ref f_bodies_of) = true)
    {f_list_statements td_list_statements : Addr} {od_list_statements an_list_statements dd_list_statements : Option Addr} {sl_list_statements sk_list_statements : Array (Option Value)} {its_list_statements : Array Value} {n_list_statements : Nat} {oc_list_statements kV_list_statements dc_list_statements pm_list_statements cd_list_statements ct_list_statements tt_list_statements : Value}
    (A_list_statements : PySem.W.nsIn K mainGlobals "list_statements" = some (some (.ref f_list_statements))) (L_list_statements : K.lookup f_list_statements = some ⟨oc_list_statements, od_list_statements, .func (PySem.W.fnOf "list_statements" "list_statements" (defArgs s_list_statements) (defBody s_list_statements) (defScope s_list_statements) (.ref td_list_statements) kV_list_statements dc_list_statements pm_list_statements an_list_statements cd_list_statements ct_list_statements), sl_list_statements⟩) (R_list_statements : K.lookup td_list_statements = some ⟨tt_list_statements, dd_list_statements, .seq its_list_statements n_list_statements, sk_list_statements⟩) (W_list_statements : isVs [.bl false] its_list_statements.toList = true) (C_list_statements : PySem.W.codeIn K cd_list_statements "list_statements" = true) (K_list_statements : PySem.W.keepIn K (.ref f_list_statements) = true)
    {f_is_number_kind : Addr} {od_is_number_kind an_is_number_kind : Option Addr} {sl_is_number_kind : Array (Option Value)} {oc_is_number_kind kV_is_number_kind dc_is_number_kind pm_is_number_kind cd_is_number_kind ct_is_number_kind : Value}
    (A_is_number_kind : PySem.W.nsIn K mainGlobals "is_number_kind" = some (some (.ref f_is_number_kind))) (L_is_number_kind : K.lookup f_is_number_kind = some ⟨oc_is_number_kind, od_is_number_kind, .func (PySem.W.fnOf "is_number_kind" "is_number_kind" (defArgs s_is_number_kind) (defBody s_is_number_kind) (defScope s_is_number_kind) .none kV_is_number_kind dc_is_number_kind pm_is_number_kind an_is_number_kind cd_is_number_kind ct_is_number_kind), sl_is_number_kind⟩) (C_is_number_kind : PySem.W.codeIn K cd_is_number_kind "is_number_kind" = true) (K_is_number_kind : PySem.W.keepIn K (.ref f_is_number_kind) = true)
    {f_gives_number : Addr} {od_gives_number an_gives_number : Option Addr} {sl_gives_number : Array (Option Value)} {oc_gives_number kV_gives_number dc_gives_number pm_gives_number cd_gives_number ct_gives_number : Value}
    (A_gives_number : PySem.W.nsIn K mainGlobals "gives_number" = some (some (.ref f_gives_number))) (L_gives_number : K.lookup f_gives_number = some ⟨oc_gives_number, od_gives_number, .func (PySem.W.fnOf "gives_number" "gives_number" (defArgs s_gives_number) (defBody s_gives_number) (defScope s_gives_number) .none kV_gives_number dc_gives_number pm_gives_number an_gives_number cd_gives_number ct_gives_number), sl_gives_number⟩) (C_gives_number : PySem.W.codeIn K cd_gives_number "gives_number" = true) (K_gives_number : PySem.W.keepIn K (.ref f_gives_number) = true)
    {f_faults_of : Addr} {od_faults_of an_faults_of : Option Addr} {sl_faults_of : Array (Option Value)} {oc_faults_of kV_faults_of dc_faults_of pm_faults_of cd_faults_of ct_faults_of : Value}
    (A_faults_of : PySem.W.nsIn K mainGlobals "faults_of" = some (some (.ref f_faults_of))) (L_faults_of : K.lookup f_faults_of = some ⟨oc_faults_of, od_faults_of, .func (PySem.W.fnOf "faults_of" "faults_of" (defArgs s_faults_of) (defBody s_faults_of) (defScope s_faults_of) .none kV_faults_of dc_faults_of pm_faults_of an_faults_of cd_faults_of ct_faults_of), sl_faults_of⟩) (C_faults_of : PySem.W.codeIn K cd_faults_of "faults_of" = true) (K_faults_of : PySem.W.keepIn K (.ref f_faults_of) = true)
    {f_sites : Addr} {od_sites an_sites : Option Addr} {sl_sites : Array (Option Value)} {oc_sites kV_sites dc_sites pm_sites cd_sites ct_sites : Value}
    (A_sites : PySem.W.nsIn K mainGlobals "sites" = some (some (.ref f_sites))) (L_sites : K.lookup f_sites = some ⟨oc_sites, od_sites, .func (PySem.W.fnOf "sites" "sites" (defArgs s_sites) (defBody s_sites) (defScope s_sites) .none kV_sites dc_sites pm_sites an_sites cd_sites ct_sites), sl_sites⟩) (C_sites : PySem.W.codeIn K cd_sites "sites" = true) (K_sites : PySem.W.keepIn K (.ref f_sites) = true)
    {f_is_plain : Addr} {od_is_plain an_is_plain : Option Addr} {sl_is_plain : Array (Option Value)} {oc_is_plain kV_is_plain dc_is_plain pm_is_plain cd_is_plain ct_is_plain : Value}
    (A_is_plain : PySem.W.nsIn K mainGlobals "is_plain" = some (some (.ref f_is_plain))) (L_is_plain : K.lookup f_is_plain = some ⟨oc_is_plain, od_is_plain, .func (PySem.W.fnOf "is_plain" "is_plain" (defArgs s_is_plain) (defBody s_is_plain) (defScope s_is_plain) .none kV_is_plain dc_is_plain pm_is_plain an_is_plain cd_is_plain ct_is_plain), sl_is_plain⟩) (C_is_plain : PySem.W.codeIn K cd_is_plain "is_plain" = true) (K_is_plain : PySem.W.keepIn K (.ref f_is_plain) = true)
    {f_l_cell : Addr} {od_l_cell an_l_cell : Option Addr} {sl_l_cell : Array (Option Value)} {oc_l_cell kV_l_cell dc_l_cell pm_l_cell cd_l_cell ct_l_cell : Value}
    (A_l_cell : PySem.W.nsIn K mainGlobals "_law_cell" = some (some (.ref f_l_cell))) (L_l_cell : K.lookup f_l_cell = some ⟨oc_l_cell, od_l_cell, .func (PySem.W.fnOf "_law_cell" "_law_cell" (defArgs s_l_cell) (defBody s_l_cell) (defScope s_l_cell) .none kV_l_cell dc_l_cell pm_l_cell an_l_cell cd_l_cell ct_l_cell), sl_l_cell⟩) (C_l_cell : PySem.W.codeIn K cd_l_cell "_law_cell" = true) (K_l_cell : PySem.W.keepIn K (.ref f_l_cell) = true)
    {f_l_source : Addr} {od_l_source an_l_source : Option Addr} {sl_l_source : Array (Option Value)} {oc_l_source kV_l_source dc_l_source pm_l_source cd_l_source ct_l_source : Value}
    (A_l_source : PySem.W.nsIn K mainGlobals "_law_source" = some (some (.ref f_l_source))) (L_l_source : K.lookup f_l_source = some ⟨oc_l_source, od_l_source, .func (PySem.W.fnOf "_law_source" "_law_source" (defArgs s_l_source) (defBody s_l_source) (defScope s_l_source) .none kV_l_source dc_l_source pm_l_source an_l_source cd_l_source ct_l_source), sl_l_source⟩) (C_l_source : PySem.W.codeIn K cd_l_source "_law_source" = true) (K_l_source : PySem.W.keepIn K (.ref f_l_source) = true)
    {f_l_pick : Addr} {od_l_pick an_l_pick : Option Addr} {sl_l_pick : Array (Option Value)} {oc_l_pick kV_l_pick dc_l_pick pm_l_pick cd_l_pick ct_l_pick : Value}
    (A_l_pick : PySem.W.nsIn K mainGlobals "_law_pick" = some (some (.ref f_l_pick))) (L_l_pick : K.lookup f_l_pick = some ⟨oc_l_pick, od_l_pick, .func (PySem.W.fnOf "_law_pick" "_law_pick" (defArgs s_l_pick) (defBody s_l_pick) (defScope s_l_pick) .none kV_l_pick dc_l_pick pm_l_pick an_l_pick cd_l_pick ct_l_pick), sl_l_pick⟩) (C_l_pick : PySem.W.codeIn K cd_l_pick "_law_pick" = true) (K_l_pick : PySem.W.keepIn K (.ref f_l_pick) = true)
    {f_l_one : Addr} {od_l_one an_l_one : Option Addr} {sl_l_one : Array (Option Value)} {oc_l_one kV_l_one dc_l_one pm_l_one cd_l_one ct_l_one : Value}
    (A_l_one : PySem.W.nsIn K mainGlobals "_law_one" = some (some (.ref f_l_one))) (L_l_one : K.lookup f_l_one = some ⟨oc_l_one, od_l_one, .func (PySem.W.fnOf "_law_one" "_law_one" (defArgs s_l_one) (defBody s_l_one) (defScope s_l_one) .none kV_l_one dc_l_one pm_l_one an_l_one cd_l_one ct_l_one), sl_l_one⟩) (C_l_one : PySem.W.codeIn K cd_l_one "_law_one" = true) (K_l_one : PySem.W.keepIn K (.ref f_l_one) = true)
    {f_l_names : Addr} {od_l_names an_l_names : Option Addr} {sl_l_names : Array (Option Value)} {oc_l_names kV_l_names dc_l_names pm_l_names cd_l_names ct_l_names : Value}
    (A_l_names : PySem.W.nsIn K mainGlobals "_law_names" = some (some (.ref f_l_names))) (L_l_names : K.lookup f_l_names = some ⟨oc_l_names, od_l_names, .func (PySem.W.fnOf "_law_names" "_law_names" (defArgs s_l_names) (defBody s_l_names) (defScope s_l_names) .none kV_l_names dc_l_names pm_l_names an_l_names cd_l_names ct_l_names), sl_l_names⟩) (C_l_names : PySem.W.codeIn K cd_l_names "_law_names" = true) (K_l_names : PySem.W.keepIn K (.ref f_l_names) = true)
    {f_l_named : Addr} {od_l_named an_l_named : Option Addr} {sl_l_named : Array (Option Value)} {oc_l_named kV_l_named dc_l_named pm_l_named cd_l_named ct_l_named : Value}
    (A_l_named : PySem.W.nsIn K mainGlobals "_law_named" = some (some (.ref f_l_named))) (L_l_named : K.lookup f_l_named = some ⟨oc_l_named, od_l_named, .func (PySem.W.fnOf "_law_named" "_law_named" (defArgs s_l_named) (defBody s_l_named) (defScope s_l_named) .none kV_l_named dc_l_named pm_l_named an_l_named cd_l_named ct_l_named), sl_l_named⟩) (C_l_named : PySem.W.codeIn K cd_l_named "_law_named" = true) (K_l_named : PySem.W.keepIn K (.ref f_l_named) = true)
    {f_l_number : Addr} {od_l_number an_l_number : Option Addr} {sl_l_number : Array (Option Value)} {oc_l_number kV_l_number dc_l_number pm_l_number cd_l_number ct_l_number : Value}
    (A_l_number : PySem.W.nsIn K mainGlobals "_law_number" = some (some (.ref f_l_number))) (L_l_number : K.lookup f_l_number = some ⟨oc_l_number, od_l_number, .func (PySem.W.fnOf "_law_number" "_law_number" (defArgs s_l_number) (defBody s_l_number) (defScope s_l_number) .none kV_l_number dc_l_number pm_l_number an_l_number cd_l_number ct_l_number), sl_l_number⟩) (C_l_number : PySem.W.codeIn K cd_l_number "_law_number" = true) (K_l_number : PySem.W.keepIn K (.ref f_l_number) = true)
    {f_l_compare : Addr} {od_l_compare an_l_compare : Option Addr} {sl_l_compare : Array (Option Value)} {oc_l_compare kV_l_compare dc_l_compare pm_l_compare cd_l_compare ct_l_compare : Value}
    (A_l_compare : PySem.W.nsIn K mainGlobals "_law_compare" = some (some (.ref f_l_compare))) (L_l_compare : K.lookup f_l_compare = some ⟨oc_l_compare, od_l_compare, .func (PySem.W.fnOf "_law_compare" "_law_compare" (defArgs s_l_compare) (defBody s_l_compare) (defScope s_l_compare) .none kV_l_compare dc_l_compare pm_l_compare an_l_compare cd_l_compare ct_l_compare), sl_l_compare⟩) (C_l_compare : PySem.W.codeIn K cd_l_compare "_law_compare" = true) (K_l_compare : PySem.W.keepIn K (.ref f_l_compare) = true)
    {f_l_reference : Addr} {od_l_reference an_l_reference : Option Addr} {sl_l_reference : Array (Option Value)} {oc_l_reference kV_l_reference dc_l_reference pm_l_reference cd_l_reference ct_l_reference : Value}
    (A_l_reference : PySem.W.nsIn K mainGlobals "_law_reference" = some (some (.ref f_l_reference))) (L_l_reference : K.lookup f_l_reference = some ⟨oc_l_reference, od_l_reference, .func (PySem.W.fnOf "_law_reference" "_law_reference" (defArgs s_l_reference) (defBody s_l_reference) (defScope s_l_reference) .none kV_l_reference dc_l_reference pm_l_reference an_l_reference cd_l_reference ct_l_reference), sl_l_reference⟩) (C_l_reference : PySem.W.codeIn K cd_l_reference "_law_reference" = true) (K_l_reference : PySem.W.keepIn K (.ref f_l_reference) = true)
    {f_l_truth : Addr} {od_l_truth an_l_truth : Option Addr} {sl_l_truth : Array (Option Value)} {oc_l_truth kV_l_truth dc_l_truth pm_l_truth cd_l_truth ct_l_truth : Value}
    (A_l_truth : PySem.W.nsIn K mainGlobals "_law_truth" = some (some (.ref f_l_truth))) (L_l_truth : K.lookup f_l_truth = some ⟨oc_l_truth, od_l_truth, .func (PySem.W.fnOf "_law_truth" "_law_truth" (defArgs s_l_truth) (defBody s_l_truth) (defScope s_l_truth) .none kV_l_truth dc_l_truth pm_l_truth an_l_truth cd_l_truth ct_l_truth), sl_l_truth⟩) (C_l_truth : PySem.W.codeIn K cd_l_truth "_law_truth" = true) (K_l_truth : PySem.W.keepIn K (.ref f_l_truth) = true)
    {f_l_expression : Addr} {od_l_expression an_l_expression : Option Addr} {sl_l_expression : Array (Option Value)} {oc_l_expression kV_l_expression dc_l_expression pm_l_expression cd_l_expression ct_l_expression : Value}
    (A_l_expression : PySem.W.nsIn K mainGlobals "_law_expression" = some (some (.ref f_l_expression))) (L_l_expression : K.lookup f_l_expression = some ⟨oc_l_expression, od_l_expression, .func (PySem.W.fnOf "_law_expression" "_law_expression" (defArgs s_l_expression) (defBody s_l_expression) (defScope s_l_expression) .none kV_l_expression dc_l_expression pm_l_expression an_l_expression cd_l_expression ct_l_expression), sl_l_expression⟩) (C_l_expression : PySem.W.codeIn K cd_l_expression "_law_expression" = true) (K_l_expression : PySem.W.keepIn K (.ref f_l_expression) = true)
    {f_l_call : Addr} {od_l_call an_l_call : Option Addr} {sl_l_call : Array (Option Value)} {oc_l_call kV_l_call dc_l_call pm_l_call cd_l_call ct_l_call : Value}
    (A_l_call : PySem.W.nsIn K mainGlobals "_law_call" = some (some (.ref f_l_call))) (L_l_call : K.lookup f_l_call = some ⟨oc_l_call, od_l_call, .func (PySem.W.fnOf "_law_call" "_law_call" (defArgs s_l_call) (defBody s_l_call) (defScope s_l_call) .none kV_l_call dc_l_call pm_l_call an_l_call cd_l_call ct_l_call), sl_l_call⟩) (C_l_call : PySem.W.codeIn K cd_l_call "_law_call" = true) (K_l_call : PySem.W.keepIn K (.ref f_l_call) = true)
    {f_l_memory : Addr} {od_l_memory an_l_memory : Option Addr} {sl_l_memory : Array (Option Value)} {oc_l_memory kV_l_memory dc_l_memory pm_l_memory cd_l_memory ct_l_memory : Value}
    (A_l_memory : PySem.W.nsIn K mainGlobals "_law_memory" = some (some (.ref f_l_memory))) (L_l_memory : K.lookup f_l_memory = some ⟨oc_l_memory, od_l_memory, .func (PySem.W.fnOf "_law_memory" "_law_memory" (defArgs s_l_memory) (defBody s_l_memory) (defScope s_l_memory) .none kV_l_memory dc_l_memory pm_l_memory an_l_memory cd_l_memory ct_l_memory), sl_l_memory⟩) (C_l_memory : PySem.W.codeIn K cd_l_memory "_law_memory" = true) (K_l_memory : PySem.W.keepIn K (.ref f_l_memory) = true)
    {f_l_element : Addr} {od_l_element an_l_element : Option Addr} {sl_l_element : Array (Option Value)} {oc_l_element kV_l_element dc_l_element pm_l_element cd_l_element ct_l_element : Value}
    (A_l_element : PySem.W.nsIn K mainGlobals "_law_element" = some (some (.ref f_l_element))) (L_l_element : K.lookup f_l_element = some ⟨oc_l_element, od_l_element, .func (PySem.W.fnOf "_law_element" "_law_element" (defArgs s_l_element) (defBody s_l_element) (defScope s_l_element) .none kV_l_element dc_l_element pm_l_element an_l_element cd_l_element ct_l_element), sl_l_element⟩) (C_l_element : PySem.W.codeIn K cd_l_element "_law_element" = true) (K_l_element : PySem.W.keepIn K (.ref f_l_element) = true)
    {f_l_leaf : Addr} {od_l_leaf an_l_leaf : Option Addr} {sl_l_leaf : Array (Option Value)} {oc_l_leaf kV_l_leaf dc_l_leaf pm_l_leaf cd_l_leaf ct_l_leaf : Value}
    (A_l_leaf : PySem.W.nsIn K mainGlobals "_law_leaf" = some (some (.ref f_l_leaf))) (L_l_leaf : K.lookup f_l_leaf = some ⟨oc_l_leaf, od_l_leaf, .func (PySem.W.fnOf "_law_leaf" "_law_leaf" (defArgs s_l_leaf) (defBody s_l_leaf) (defScope s_l_leaf) .none kV_l_leaf dc_l_leaf pm_l_leaf an_l_leaf cd_l_leaf ct_l_leaf), sl_l_leaf⟩) (C_l_leaf : PySem.W.codeIn K cd_l_leaf "_law_leaf" = true) (K_l_leaf : PySem.W.keepIn K (.ref f_l_leaf) = true)
    {f_l_loop : Addr} {od_l_loop an_l_loop : Option Addr} {sl_l_loop : Array (Option Value)} {oc_l_loop kV_l_loop dc_l_loop pm_l_loop cd_l_loop ct_l_loop : Value}
    (A_l_loop : PySem.W.nsIn K mainGlobals "_law_loop" = some (some (.ref f_l_loop))) (L_l_loop : K.lookup f_l_loop = some ⟨oc_l_loop, od_l_loop, .func (PySem.W.fnOf "_law_loop" "_law_loop" (defArgs s_l_loop) (defBody s_l_loop) (defScope s_l_loop) .none kV_l_loop dc_l_loop pm_l_loop an_l_loop cd_l_loop ct_l_loop), sl_l_loop⟩) (C_l_loop : PySem.W.codeIn K cd_l_loop "_law_loop" = true) (K_l_loop : PySem.W.keepIn K (.ref f_l_loop) = true)
    {f_l_body : Addr} {od_l_body an_l_body : Option Addr} {sl_l_body : Array (Option Value)} {oc_l_body kV_l_body dc_l_body pm_l_body cd_l_body ct_l_body : Value}
    (A_l_body : PySem.W.nsIn K mainGlobals "_law_body" = some (some (.ref f_l_body))) (L_l_body : K.lookup f_l_body = some ⟨oc_l_body, od_l_body, .func (PySem.W.fnOf "_law_body" "_law_body" (defArgs s_l_body) (defBody s_l_body) (defScope s_l_body) .none kV_l_body dc_l_body pm_l_body an_l_body cd_l_body ct_l_body), sl_l_body⟩) (C_l_body : PySem.W.codeIn K cd_l_body "_law_body" = true) (K_l_body : PySem.W.keepIn K (.ref f_l_body) = true)
    {f_l_some : Addr} {od_l_some an_l_some : Option Addr} {sl_l_some : Array (Option Value)} {oc_l_some kV_l_some dc_l_some pm_l_some cd_l_some ct_l_some : Value}
    (A_l_some : PySem.W.nsIn K mainGlobals "_law_some" = some (some (.ref f_l_some))) (L_l_some : K.lookup f_l_some = some ⟨oc_l_some, od_l_some, .func (PySem.W.fnOf "_law_some" "_law_some" (defArgs s_l_some) (defBody s_l_some) (defScope s_l_some) .none kV_l_some dc_l_some pm_l_some an_l_some cd_l_some ct_l_some), sl_l_some⟩) (C_l_some : PySem.W.codeIn K cd_l_some "_law_some" = true) (K_l_some : PySem.W.keepIn K (.ref f_l_some) = true)
    {f_l_kinds : Addr} {od_l_kinds an_l_kinds : Option Addr} {sl_l_kinds : Array (Option Value)} {oc_l_kinds kV_l_kinds dc_l_kinds pm_l_kinds cd_l_kinds ct_l_kinds : Value}
    (A_l_kinds : PySem.W.nsIn K mainGlobals "_law_kinds" = some (some (.ref f_l_kinds))) (L_l_kinds : K.lookup f_l_kinds = some ⟨oc_l_kinds, od_l_kinds, .func (PySem.W.fnOf "_law_kinds" "_law_kinds" (defArgs s_l_kinds) (defBody s_l_kinds) (defScope s_l_kinds) .none kV_l_kinds dc_l_kinds pm_l_kinds an_l_kinds cd_l_kinds ct_l_kinds), sl_l_kinds⟩) (C_l_kinds : PySem.W.codeIn K cd_l_kinds "_law_kinds" = true) (K_l_kinds : PySem.W.keepIn K (.ref f_l_kinds) = true)
    {f_l_program : Addr} {od_l_program an_l_program : Option Addr} {sl_l_program : Array (Option Value)} {oc_l_program kV_l_program dc_l_program pm_l_program cd_l_program ct_l_program : Value}
    (A_l_program : PySem.W.nsIn K mainGlobals "_law_program" = some (some (.ref f_l_program))) (L_l_program : K.lookup f_l_program = some ⟨oc_l_program, od_l_program, .func (PySem.W.fnOf "_law_program" "_law_program" (defArgs s_l_program) (defBody s_l_program) (defScope s_l_program) .none kV_l_program dc_l_program pm_l_program an_l_program cd_l_program ct_l_program), sl_l_program⟩) (C_l_program : PySem.W.codeIn K cd_l_program "_law_program" = true) (K_l_program : PySem.W.keepIn K (.ref f_l_program) = true)
    {f_l_flat : Addr} {od_l_flat an_l_flat : Option Addr} {sl_l_flat : Array (Option Value)} {oc_l_flat kV_l_flat dc_l_flat pm_l_flat cd_l_flat ct_l_flat : Value}
    (A_l_flat : PySem.W.nsIn K mainGlobals "_law_flat" = some (some (.ref f_l_flat))) (L_l_flat : K.lookup f_l_flat = some ⟨oc_l_flat, od_l_flat, .func (PySem.W.fnOf "_law_flat" "_law_flat" (defArgs s_l_flat) (defBody s_l_flat) (defScope s_l_flat) .none kV_l_flat dc_l_flat pm_l_flat an_l_flat cd_l_flat ct_l_flat), sl_l_flat⟩) (C_l_flat : PySem.W.codeIn K cd_l_flat "_law_flat" = true) (K_l_flat : PySem.W.keepIn K (.ref f_l_flat) = true)
    {f_l_same : Addr} {od_l_same an_l_same : Option Addr} {sl_l_same : Array (Option Value)} {oc_l_same kV_l_same dc_l_same pm_l_same cd_l_same ct_l_same : Value}
    (A_l_same : PySem.W.nsIn K mainGlobals "_law_same" = some (some (.ref f_l_same))) (L_l_same : K.lookup f_l_same = some ⟨oc_l_same, od_l_same, .func (PySem.W.fnOf "_law_same" "_law_same" (defArgs s_l_same) (defBody s_l_same) (defScope s_l_same) .none kV_l_same dc_l_same pm_l_same an_l_same cd_l_same ct_l_same), sl_l_same⟩) (C_l_same : PySem.W.codeIn K cd_l_same "_law_same" = true) (K_l_same : PySem.W.keepIn K (.ref f_l_same) = true)
    {f_l_longer : Addr} {od_l_longer an_l_longer : Option Addr} {sl_l_longer : Array (Option Value)} {oc_l_longer kV_l_longer dc_l_longer pm_l_longer cd_l_longer ct_l_longer : Value}
    (A_l_longer : PySem.W.nsIn K mainGlobals "_law_longer" = some (some (.ref f_l_longer))) (L_l_longer : K.lookup f_l_longer = some ⟨oc_l_longer, od_l_longer, .func (PySem.W.fnOf "_law_longer" "_law_longer" (defArgs s_l_longer) (defBody s_l_longer) (defScope s_l_longer) .none kV_l_longer dc_l_longer pm_l_longer an_l_longer cd_l_longer ct_l_longer), sl_l_longer⟩) (C_l_longer : PySem.W.codeIn K cd_l_longer "_law_longer" = true) (K_l_longer : PySem.W.keepIn K (.ref f_l_longer) = true)
    {f_l_added : Addr} {od_l_added an_l_added : Option Addr} {sl_l_added : Array (Option Value)} {oc_l_added kV_l_added dc_l_added pm_l_added cd_l_added ct_l_added : Value}
    (A_l_added : PySem.W.nsIn K mainGlobals "_law_added" = some (some (.ref f_l_added))) (L_l_added : K.lookup f_l_added = some ⟨oc_l_added, od_l_added, .func (PySem.W.fnOf "_law_added" "_law_added" (defArgs s_l_added) (defBody s_l_added) (defScope s_l_added) .none kV_l_added dc_l_added pm_l_added an_l_added cd_l_added ct_l_added), sl_l_added⟩) (C_l_added : PySem.W.codeIn K cd_l_added "_law_added" = true) (K_l_added : PySem.W.keepIn K (.ref f_l_added) = true)
    {f_l_taking : Addr} {od_l_taking an_l_taking : Option Addr} {sl_l_taking : Array (Option Value)} {oc_l_taking kV_l_taking dc_l_taking pm_l_taking cd_l_taking ct_l_taking : Value}
    (A_l_taking : PySem.W.nsIn K mainGlobals "_law_taking" = some (some (.ref f_l_taking))) (L_l_taking : K.lookup f_l_taking = some ⟨oc_l_taking, od_l_taking, .func (PySem.W.fnOf "_law_taking" "_law_taking" (defArgs s_l_taking) (defBody s_l_taking) (defScope s_l_taking) .none kV_l_taking dc_l_taking pm_l_taking an_l_taking cd_l_taking ct_l_taking), sl_l_taking⟩) (C_l_taking : PySem.W.codeIn K cd_l_taking "_law_taking" = true) (K_l_taking : PySem.W.keepIn K (.ref f_l_taking) = true)
    {f_l_faults : Addr} {od_l_faults an_l_faults : Option Addr} {sl_l_faults : Array (Option Value)} {oc_l_faults kV_l_faults dc_l_faults pm_l_faults cd_l_faults ct_l_faults : Value}
    (A_l_faults : PySem.W.nsIn K mainGlobals "_law_faults" = some (some (.ref f_l_faults))) (L_l_faults : K.lookup f_l_faults = some ⟨oc_l_faults, od_l_faults, .func (PySem.W.fnOf "_law_faults" "_law_faults" (defArgs s_l_faults) (defBody s_l_faults) (defScope s_l_faults) .none kV_l_faults dc_l_faults pm_l_faults an_l_faults cd_l_faults ct_l_faults), sl_l_faults⟩) (C_l_faults : PySem.W.codeIn K cd_l_faults "_law_faults" = true) (K_l_faults : PySem.W.keepIn K (.ref f_l_faults) = true)
    {f_l_sites : Addr} {od_l_sites an_l_sites : Option Addr} {sl_l_sites : Array (Option Value)} {oc_l_sites kV_l_sites dc_l_sites pm_l_sites cd_l_sites ct_l_sites : Value}
    (A_l_sites : PySem.W.nsIn K mainGlobals "_law_sites" = some (some (.ref f_l_sites))) (L_l_sites : K.lookup f_l_sites = some ⟨oc_l_sites, od_l_sites, .func (PySem.W.fnOf "_law_sites" "_law_sites" (defArgs s_l_sites) (defBody s_l_sites) (defScope s_l_sites) .none kV_l_sites dc_l_sites pm_l_sites an_l_sites cd_l_sites ct_l_sites), sl_l_sites⟩) (C_l_sites : PySem.W.codeIn K cd_l_sites "_law_sites" = true) (K_l_sites : PySem.W.keepIn K (.ref f_l_sites) = true)
    {f_l_plain : Addr} {od_l_plain an_l_plain : Option Addr} {sl_l_plain : Array (Option Value)} {oc_l_plain kV_l_plain dc_l_plain pm_l_plain cd_l_plain ct_l_plain : Value}
    (A_l_plain : PySem.W.nsIn K mainGlobals "_law_plain" = some (some (.ref f_l_plain))) (L_l_plain : K.lookup f_l_plain = some ⟨oc_l_plain, od_l_plain, .func (PySem.W.fnOf "_law_plain" "_law_plain" (defArgs s_l_plain) (defBody s_l_plain) (defScope s_l_plain) .none kV_l_plain dc_l_plain pm_l_plain an_l_plain cd_l_plain ct_l_plain), sl_l_plain⟩) (C_l_plain : PySem.W.codeIn K cd_l_plain "_law_plain" = true) (K_l_plain : PySem.W.keepIn K (.ref f_l_plain) = true)
    {f_law : Addr} {od_law an_law : Option Addr} {sl_law : Array (Option Value)} {oc_law kV_law dc_law pm_law cd_law ct_law : Value}
    (A_law : PySem.W.nsIn K mainGlobals "law" = some (some (.ref f_law))) (L_law : K.lookup f_law = some ⟨oc_law, od_law, .func (PySem.W.fnOf "law" "law" (defArgs s_law) (defBody s_law) (defScope s_law) .none kV_law dc_law pm_law an_law cd_law ct_law), sl_law⟩) (C_law : PySem.W.codeIn K cd_law "law" = true) (K_law : PySem.W.keepIn K (.ref f_law) = true)
    {C_Scope : Addr} (A_Scope : PySem.W.nsIn K mainGlobals "Scope" = some (some (.ref C_Scope))) (pg_Scope : PySem.W.plainGet K C_Scope Str.empty = true) (hd_Scope : PySem.W.hasDictIn K C_Scope = true) (po_Scope : PySem.W.plainOver K C_Scope = true) (sa_Scope : PySem.W.findIn K (.ref C_Scope) "__setattr__" = some (some (.builtin "object.__setattr__"))) (kc_Scope : PySem.W.keepIn K (.ref C_Scope) = true)
    (no_Scope_name : PySem.W.findIn K (.ref C_Scope) "name" = some none)
    (no_Scope_result : PySem.W.findIn K (.ref C_Scope) "result" = some none)
    (no_Scope_kinds : PySem.W.findIn K (.ref C_Scope) "kinds" = some none)
    (no_Scope_records : PySem.W.findIn K (.ref C_Scope) "records" = some none)
    (no_Scope_arrays : PySem.W.findIn K (.ref C_Scope) "arrays" = some none)
    (no_Scope_functions : PySem.W.findIn K (.ref C_Scope) "functions" = some none)
    (mi_Scope : PySem.W.makesIn K C_Scope = true)
    {f_Scope_init : Addr} {od_Scope_init an_Scope_init : Option Addr} {sl_Scope_init : Array (Option Value)} {oc_Scope_init kV_Scope_init dc_Scope_init pm_Scope_init cd_Scope_init ct_Scope_init : Value}
    (A_Scope_init : PySem.W.findIn K (.ref C_Scope) "__init__" = some (some (.ref f_Scope_init))) (I_Scope_init : PySem.W.isFn K (.ref f_Scope_init) = true) (L_Scope_init : K.lookup f_Scope_init = some ⟨oc_Scope_init, od_Scope_init, .func (PySem.W.fnOf "__init__" "Scope.__init__" (defArgs s_Scope_init) (defBody s_Scope_init) (defScope s_Scope_init) .none kV_Scope_init dc_Scope_init pm_Scope_init an_Scope_init cd_Scope_init ct_Scope_init), sl_Scope_init⟩) (C_Scope_init : PySem.W.codeIn K cd_Scope_init "Scope.__init__" = true) (K_Scope_init : PySem.W.keepIn K (.ref f_Scope_init) = true)
    {f_Scope_declares : Addr} {od_Scope_declares an_Scope_declares : Option Addr} {sl_Scope_declares : Array (Option Value)} {oc_Scope_declares kV_Scope_declares dc_Scope_declares pm_Scope_declares cd_Scope_declares ct_Scope_declares : Value}
    (A_Scope_declares : PySem.W.findIn K (.ref C_Scope) "declares" = some (some (.ref f_Scope_declares))) (I_Scope_declares : PySem.W.isFn K (.ref f_Scope_declares) = true) (L_Scope_declares : K.lookup f_Scope_declares = some ⟨oc_Scope_declares, od_Scope_declares, .func (PySem.W.fnOf "declares" "Scope.declares" (defArgs s_Scope_declares) (defBody s_Scope_declares) (defScope s_Scope_declares) .none kV_Scope_declares dc_Scope_declares pm_Scope_declares an_Scope_declares cd_Scope_declares ct_Scope_declares), sl_Scope_declares⟩) (C_Scope_declares : PySem.W.codeIn K cd_Scope_declares "Scope.declares" = true) (K_Scope_declares : PySem.W.keepIn K (.ref f_Scope_declares) = true)
    {f_Scope_field_kind : Addr} {od_Scope_field_kind an_Scope_field_kind : Option Addr} {sl_Scope_field_kind : Array (Option Value)} {oc_Scope_field_kind kV_Scope_field_kind dc_Scope_field_kind pm_Scope_field_kind cd_Scope_field_kind ct_Scope_field_kind : Value}
    (A_Scope_field_kind : PySem.W.findIn K (.ref C_Scope) "field_kind" = some (some (.ref f_Scope_field_kind))) (I_Scope_field_kind : PySem.W.isFn K (.ref f_Scope_field_kind) = true) (L_Scope_field_kind : K.lookup f_Scope_field_kind = some ⟨oc_Scope_field_kind, od_Scope_field_kind, .func (PySem.W.fnOf "field_kind" "Scope.field_kind" (defArgs s_Scope_field_kind) (defBody s_Scope_field_kind) (defScope s_Scope_field_kind) .none kV_Scope_field_kind dc_Scope_field_kind pm_Scope_field_kind an_Scope_field_kind cd_Scope_field_kind ct_Scope_field_kind), sl_Scope_field_kind⟩) (C_Scope_field_kind : PySem.W.codeIn K cd_Scope_field_kind "Scope.field_kind" = true) (K_Scope_field_kind : PySem.W.keepIn K (.ref f_Scope_field_kind) = true)
    {u_WIDEST_SMALL : Value} (A_WIDEST_SMALL : PySem.W.nsIn K mainGlobals "WIDEST_SMALL" = some (some u_WIDEST_SMALL)) (U_WIDEST_SMALL : ∃ t, u_WIDEST_SMALL = .int 7 t)
    {d_PARTS : Addr} {es_PARTS : Array DictEntry} {n_PARTS : Nat} (A_PARTS : PySem.W.nsIn K mainGlobals "PARTS" = some (some (.ref d_PARTS))) (D_PARTS : K.lookup d_PARTS = some ⟨.type "dict", none, .dict es_PARTS n_PARTS, #[]⟩) (Y_PARTS : PySem.W.KeysLit w.params es_PARTS.toList)
    {r_PARTS_0 : Addr} {dd_PARTS_0 : Option Addr} {its_PARTS_0 : Array Value} {n_PARTS_0 : Nat} {sl_PARTS_0 : Array (Option Value)} (N_PARTS_0 : PySem.W.nsIn K d_PARTS "set" = some (some (.ref r_PARTS_0))) (R_PARTS_0 : K.lookup r_PARTS_0 = some ⟨.type "tuple", dd_PARTS_0, .seq its_PARTS_0 n_PARTS_0, sl_PARTS_0⟩) (V_PARTS_0 : isStrs ["variable", "expression"] its_PARTS_0.toList = true)
    {r_PARTS_1 : Addr} {dd_PARTS_1 : Option Addr} {its_PARTS_1 : Array Value} {n_PARTS_1 : Nat} {sl_PARTS_1 : Array (Option Value)} (N_PARTS_1 : PySem.W.nsIn K d_PARTS "input" = some (some (.ref r_PARTS_1))) (R_PARTS_1 : K.lookup r_PARTS_1 = some ⟨.type "tuple", dd_PARTS_1, .seq its_PARTS_1 n_PARTS_1, sl_PARTS_1⟩) (V_PARTS_1 : isStrs ["variable"] its_PARTS_1.toList = true)
    {r_PARTS_2 : Addr} {dd_PARTS_2 : Option Addr} {its_PARTS_2 : Array Value} {n_PARTS_2 : Nat} {sl_PARTS_2 : Array (Option Value)} (N_PARTS_2 : PySem.W.nsIn K d_PARTS "new" = some (some (.ref r_PARTS_2))) (R_PARTS_2 : K.lookup r_PARTS_2 = some ⟨.type "tuple", dd_PARTS_2, .seq its_PARTS_2 n_PARTS_2, sl_PARTS_2⟩) (V_PARTS_2 : isStrs ["variable"] its_PARTS_2.toList = true)
    {r_PARTS_3 : Addr} {dd_PARTS_3 : Option Addr} {its_PARTS_3 : Array Value} {n_PARTS_3 : Nat} {sl_PARTS_3 : Array (Option Value)} (N_PARTS_3 : PySem.W.nsIn K d_PARTS "free" = some (some (.ref r_PARTS_3))) (R_PARTS_3 : K.lookup r_PARTS_3 = some ⟨.type "tuple", dd_PARTS_3, .seq its_PARTS_3 n_PARTS_3, sl_PARTS_3⟩) (V_PARTS_3 : isStrs ["variable"] its_PARTS_3.toList = true)
    {r_PARTS_4 : Addr} {dd_PARTS_4 : Option Addr} {its_PARTS_4 : Array Value} {n_PARTS_4 : Nat} {sl_PARTS_4 : Array (Option Value)} (N_PARTS_4 : PySem.W.nsIn K d_PARTS "load" = some (some (.ref r_PARTS_4))) (R_PARTS_4 : K.lookup r_PARTS_4 = some ⟨.type "tuple", dd_PARTS_4, .seq its_PARTS_4 n_PARTS_4, sl_PARTS_4⟩) (V_PARTS_4 : isStrs ["variable", "variable", "field"] its_PARTS_4.toList = true)
    {r_PARTS_5 : Addr} {dd_PARTS_5 : Option Addr} {its_PARTS_5 : Array Value} {n_PARTS_5 : Nat} {sl_PARTS_5 : Array (Option Value)} (N_PARTS_5 : PySem.W.nsIn K d_PARTS "store" = some (some (.ref r_PARTS_5))) (R_PARTS_5 : K.lookup r_PARTS_5 = some ⟨.type "tuple", dd_PARTS_5, .seq its_PARTS_5 n_PARTS_5, sl_PARTS_5⟩) (V_PARTS_5 : isStrs ["variable", "field", "expression"] its_PARTS_5.toList = true)
    {r_PARTS_6 : Addr} {dd_PARTS_6 : Option Addr} {its_PARTS_6 : Array Value} {n_PARTS_6 : Nat} {sl_PARTS_6 : Array (Option Value)} (N_PARTS_6 : PySem.W.nsIn K d_PARTS "get" = some (some (.ref r_PARTS_6))) (R_PARTS_6 : K.lookup r_PARTS_6 = some ⟨.type "tuple", dd_PARTS_6, .seq its_PARTS_6 n_PARTS_6, sl_PARTS_6⟩) (V_PARTS_6 : isStrs ["variable", "array", "expression"] its_PARTS_6.toList = true)
    {r_PARTS_7 : Addr} {dd_PARTS_7 : Option Addr} {its_PARTS_7 : Array Value} {n_PARTS_7 : Nat} {sl_PARTS_7 : Array (Option Value)} (N_PARTS_7 : PySem.W.nsIn K d_PARTS "put" = some (some (.ref r_PARTS_7))) (R_PARTS_7 : K.lookup r_PARTS_7 = some ⟨.type "tuple", dd_PARTS_7, .seq its_PARTS_7 n_PARTS_7, sl_PARTS_7⟩) (V_PARTS_7 : isStrs ["array", "expression", "expression"] its_PARTS_7.toList = true)
    {r_PARTS_8 : Addr} {dd_PARTS_8 : Option Addr} {its_PARTS_8 : Array Value} {n_PARTS_8 : Nat} {sl_PARTS_8 : Array (Option Value)} (N_PARTS_8 : PySem.W.nsIn K d_PARTS "call" = some (some (.ref r_PARTS_8))) (R_PARTS_8 : K.lookup r_PARTS_8 = some ⟨.type "tuple", dd_PARTS_8, .seq its_PARTS_8 n_PARTS_8, sl_PARTS_8⟩) (V_PARTS_8 : isStrs ["variable", "function", "arguments"] its_PARTS_8.toList = true)
    {r_PARTS_9 : Addr} {dd_PARTS_9 : Option Addr} {its_PARTS_9 : Array Value} {n_PARTS_9 : Nat} {sl_PARTS_9 : Array (Option Value)} (N_PARTS_9 : PySem.W.nsIn K d_PARTS "return" = some (some (.ref r_PARTS_9))) (R_PARTS_9 : K.lookup r_PARTS_9 = some ⟨.type "tuple", dd_PARTS_9, .seq its_PARTS_9 n_PARTS_9, sl_PARTS_9⟩) (V_PARTS_9 : isStrs ["expression"] its_PARTS_9.toList = true)
    {r_PARTS_10 : Addr} {dd_PARTS_10 : Option Addr} {its_PARTS_10 : Array Value} {n_PARTS_10 : Nat} {sl_PARTS_10 : Array (Option Value)} (N_PARTS_10 : PySem.W.nsIn K d_PARTS "if" = some (some (.ref r_PARTS_10))) (R_PARTS_10 : K.lookup r_PARTS_10 = some ⟨.type "tuple", dd_PARTS_10, .seq its_PARTS_10 n_PARTS_10, sl_PARTS_10⟩) (V_PARTS_10 : isStrs ["expression", "body", "body"] its_PARTS_10.toList = true)
    {r_PARTS_11 : Addr} {dd_PARTS_11 : Option Addr} {its_PARTS_11 : Array Value} {n_PARTS_11 : Nat} {sl_PARTS_11 : Array (Option Value)} (N_PARTS_11 : PySem.W.nsIn K d_PARTS "while" = some (some (.ref r_PARTS_11))) (R_PARTS_11 : K.lookup r_PARTS_11 = some ⟨.type "tuple", dd_PARTS_11, .seq its_PARTS_11 n_PARTS_11, sl_PARTS_11⟩) (V_PARTS_11 : isStrs ["expression", "body"] its_PARTS_11.toList = true)
    {r_PARTS_12 : Addr} {dd_PARTS_12 : Option Addr} {its_PARTS_12 : Array Value} {n_PARTS_12 : Nat} {sl_PARTS_12 : Array (Option Value)} (N_PARTS_12 : PySem.W.nsIn K d_PARTS "break" = some (some (.ref r_PARTS_12))) (R_PARTS_12 : K.lookup r_PARTS_12 = some ⟨.type "tuple", dd_PARTS_12, .seq its_PARTS_12 n_PARTS_12, sl_PARTS_12⟩) (V_PARTS_12 : isStrs [] its_PARTS_12.toList = true)
    {r_PARTS_13 : Addr} {dd_PARTS_13 : Option Addr} {its_PARTS_13 : Array Value} {n_PARTS_13 : Nat} {sl_PARTS_13 : Array (Option Value)} (N_PARTS_13 : PySem.W.nsIn K d_PARTS "assert" = some (some (.ref r_PARTS_13))) (R_PARTS_13 : K.lookup r_PARTS_13 = some ⟨.type "tuple", dd_PARTS_13, .seq its_PARTS_13 n_PARTS_13, sl_PARTS_13⟩) (V_PARTS_13 : isStrs ["expression"] its_PARTS_13.toList = true)
    {d_FAULTS : Addr} {es_FAULTS : Array DictEntry} {n_FAULTS : Nat} (A_FAULTS : PySem.W.nsIn K mainGlobals "FAULTS" = some (some (.ref d_FAULTS))) (D_FAULTS : K.lookup d_FAULTS = some ⟨.type "dict", none, .dict es_FAULTS n_FAULTS, #[]⟩) (Y_FAULTS : PySem.W.KeysLit w.params es_FAULTS.toList)
    {r_FAULTS_0 : Addr} {dd_FAULTS_0 : Option Addr} {its_FAULTS_0 : Array Value} {n_FAULTS_0 : Nat} {sl_FAULTS_0 : Array (Option Value)} (N_FAULTS_0 : PySem.W.nsIn K d_FAULTS "free" = some (some (.ref r_FAULTS_0))) (R_FAULTS_0 : K.lookup r_FAULTS_0 = some ⟨.type "tuple", dd_FAULTS_0, .seq its_FAULTS_0 n_FAULTS_0, sl_FAULTS_0⟩) (V_FAULTS_0 : isStrs ["null", "gone"] its_FAULTS_0.toList = true)
    {r_FAULTS_1 : Addr} {dd_FAULTS_1 : Option Addr} {its_FAULTS_1 : Array Value} {n_FAULTS_1 : Nat} {sl_FAULTS_1 : Array (Option Value)} (N_FAULTS_1 : PySem.W.nsIn K d_FAULTS "load" = some (some (.ref r_FAULTS_1))) (R_FAULTS_1 : K.lookup r_FAULTS_1 = some ⟨.type "tuple", dd_FAULTS_1, .seq its_FAULTS_1 n_FAULTS_1, sl_FAULTS_1⟩) (V_FAULTS_1 : isStrs ["null", "gone"] its_FAULTS_1.toList = true)
    {r_FAULTS_2 : Addr} {dd_FAULTS_2 : Option Addr} {its_FAULTS_2 : Array Value} {n_FAULTS_2 : Nat} {sl_FAULTS_2 : Array (Option Value)} (N_FAULTS_2 : PySem.W.nsIn K d_FAULTS "store" = some (some (.ref r_FAULTS_2))) (R_FAULTS_2 : K.lookup r_FAULTS_2 = some ⟨.type "tuple", dd_FAULTS_2, .seq its_FAULTS_2 n_FAULTS_2, sl_FAULTS_2⟩) (V_FAULTS_2 : isStrs ["null", "gone"] its_FAULTS_2.toList = true)
    {r_FAULTS_3 : Addr} {dd_FAULTS_3 : Option Addr} {its_FAULTS_3 : Array Value} {n_FAULTS_3 : Nat} {sl_FAULTS_3 : Array (Option Value)} (N_FAULTS_3 : PySem.W.nsIn K d_FAULTS "get" = some (some (.ref r_FAULTS_3))) (R_FAULTS_3 : K.lookup r_FAULTS_3 = some ⟨.type "tuple", dd_FAULTS_3, .seq its_FAULTS_3 n_FAULTS_3, sl_FAULTS_3⟩) (V_FAULTS_3 : isStrs ["index"] its_FAULTS_3.toList = true)
    {r_FAULTS_4 : Addr} {dd_FAULTS_4 : Option Addr} {its_FAULTS_4 : Array Value} {n_FAULTS_4 : Nat} {sl_FAULTS_4 : Array (Option Value)} (N_FAULTS_4 : PySem.W.nsIn K d_FAULTS "put" = some (some (.ref r_FAULTS_4))) (R_FAULTS_4 : K.lookup r_FAULTS_4 = some ⟨.type "tuple", dd_FAULTS_4, .seq its_FAULTS_4 n_FAULTS_4, sl_FAULTS_4⟩) (V_FAULTS_4 : isStrs ["index", "range"] its_FAULTS_4.toList = true)
    {r_FAULTS_5 : Addr} {dd_FAULTS_5 : Option Addr} {its_FAULTS_5 : Array Value} {n_FAULTS_5 : Nat} {sl_FAULTS_5 : Array (Option Value)} (N_FAULTS_5 : PySem.W.nsIn K d_FAULTS "assert" = some (some (.ref r_FAULTS_5))) (R_FAULTS_5 : K.lookup r_FAULTS_5 = some ⟨.type "tuple", dd_FAULTS_5, .seq its_FAULTS_5 n_FAULTS_5, sl_FAULTS_5⟩) (V_FAULTS_5 : isStrs ["assert"] its_FAULTS_5.toList = true)
    (J_FAULTS : (d_FAULTS == PySem.sysModules) = false)
    (M_FAULTS_0 : PySem.W.nsIn K d_FAULTS "set" = some none)
    (M_FAULTS_1 : PySem.W.nsIn K d_FAULTS "input" = some none)
    (M_FAULTS_2 : PySem.W.nsIn K d_FAULTS "new" = some none)
    (M_FAULTS_3 : PySem.W.nsIn K d_FAULTS "call" = some none)
    (M_FAULTS_4 : PySem.W.nsIn K d_FAULTS "return" = some none)
    (M_FAULTS_5 : PySem.W.nsIn K d_FAULTS "if" = some none)
    (M_FAULTS_6 : PySem.W.nsIn K d_FAULTS "while" = some none)
    (M_FAULTS_7 : PySem.W.nsIn K d_FAULTS "break" = some none)
    (Z_any : PySem.W.nsIn K mainGlobals "any" = some none)
    (Z_bool : PySem.W.nsIn K mainGlobals "bool" = some none)
    (Z_dict : PySem.W.nsIn K mainGlobals "dict" = some none)
    (Z_enumerate : PySem.W.nsIn K mainGlobals "enumerate" = some none)
    (Z_int : PySem.W.nsIn K mainGlobals "int" = some none)
    (Z_isinstance : PySem.W.nsIn K mainGlobals "isinstance" = some none)
    (Z_len : PySem.W.nsIn K mainGlobals "len" = some none)
    (Z_list : PySem.W.nsIn K mainGlobals "list" = some none)
    (Z_min : PySem.W.nsIn K mainGlobals "min" = some none)
    (Z_range : PySem.W.nsIn K mainGlobals "range" = some none)
    (Z_str : PySem.W.nsIn K mainGlobals "str" = some none)
    (Z_tuple : PySem.W.nsIn K mainGlobals "tuple" = some none)
    (Z_zip : PySem.W.nsIn K mainGlobals "zip" = some none) :
    ∃ fd : FuncData, (∀ (s : Shared) (v : Value), BindsTo s fd ⟨[v], []⟩ [("_law_script", v)]) ∧ ∀ base : Heap, K.In base → base.Ns mainGlobals mg → FnOk l.prog w K mg base CX0 20 fa fd ["_law_script"] (spLaw K) := by
  have e := hfa.symm.trans (PySem.W.mg_of X G A_law)
  cases e
  let T : Txt w K mg := {
    a__wall := f__wall, d__wall := _, F__wall := fun_mk (st := s__wall) L__wall C__wall K__wall, b__wall := (fun_mk (st := s__wall) L__wall C__wall K__wall).binds (ps := p__wall) (fun _ _ _ _ _ _ us hl => match us, hl with | [_], _ => rfl), m__wall := PySem.W.mg_of X G A__wall,
    a_is_large := f_is_large, d_is_large := _, F_is_large := fun_mk (st := s_is_large) L_is_large C_is_large K_is_large, b_is_large := (fun_mk (st := s_is_large) L_is_large C_is_large K_is_large).binds (ps := p_is_large) (fun _ _ _ _ _ _ us hl => match us, hl with | [_], _ => rfl), m_is_large := PySem.W.mg_of X G A_is_large,
    a_visible_kinds := f_visible_kinds, d_visible_kinds := _, F_visible_kinds := fun_mk (st := s_visible_kinds) L_visible_kinds C_visible_kinds K_visible_kinds, b_visible_kinds := (fun_mk (st := s_visible_kinds) L_visible_kinds C_visible_kinds K_visible_kinds).binds (ps := p_visible_kinds) (fun _ _ _ _ _ _ us hl => match us, hl with | [_, _], _ => rfl), m_visible_kinds := PySem.W.mg_of X G A_visible_kinds,
    a_bodies_of := f_bodies_of, d_bodies_of := _, F_bodies_of := fun_mk (st := s_bodies_of) L_bodies_of C_bodies_of K_bodies_of, b_bodies_of := (fun_mk (st := s_bodies_of) L_bodies_of C_bodies_of K_bodies_of).binds (ps := p_bodies_of) (fun _ _ _ _ _ _ us hl => match us, hl with | [_], _ => rfl), m_bodies_of := PySem.W.mg_of X G A_bodies_of,
    a_list_statements := f_list_statements, d_list_statements := _, F_list_statements := (fund_mk (st := s_list_statements) L_list_statements R_list_statements (isVs_vals W_list_statements) (by decide) C_list_statements K_list_statements), b_list_statements := FunD.binds1 (fund_mk (st := s_list_statements) L_list_statements R_list_statements (isVs_vals W_list_statements) (by decide) C_list_statements K_list_statements) 2 1 (by decide) rfl (fun T kV doc pm an cdv ct us its h1 h2 => match us, its, h1, h2 with | [_, _], [_], _, _ => ⟨_, rfl, rfl⟩), e_list_statements := FunD.binds1 (fund_mk (st := s_list_statements) L_list_statements R_list_statements (isVs_vals W_list_statements) (by decide) C_list_statements K_list_statements) 1 0 (by decide) rfl (fun T kV doc pm an cdv ct us its h1 h2 => match us, its, h1, h2 with | [_], [_], _, _ => ⟨_, rfl, rfl⟩), m_list_statements := PySem.W.mg_of X G A_list_statements,
    a_is_number_kind := f_is_number_kind, d_is_number_kind := _, F_is_number_kind := fun_mk (st := s_is_number_kind) L_is_number_kind C_is_number_kind K_is_number_kind, b_is_number_kind := (fun_mk (st := s_is_number_kind) L_is_number_kind C_is_number_kind K_is_number_kind).binds (ps := p_is_number_kind) (fun _ _ _ _ _ _ us hl => match us, hl with | [_], _ => rfl), m_is_number_kind := PySem.W.mg_of X G A_is_number_kind,
    a_gives_number := f_gives_number, d_gives_number := _, F_gives_number := fun_mk (st := s_gives_number) L_gives_number C_gives_number K_gives_number, b_gives_number := (fun_mk (st := s_gives_number) L_gives_number C_gives_number K_gives_number).binds (ps := p_gives_number) (fun _ _ _ _ _ _ us hl => match us, hl with | [_, _], _ => rfl), m_gives_number := PySem.W.mg_of X G A_gives_number,
    a_faults_of := f_faults_of, d_faults_of := _, F_faults_of := fun_mk (st := s_faults_of) L_faults_of C_faults_of K_faults_of, b_faults_of := (fun_mk (st := s_faults_of) L_faults_of C_faults_of K_faults_of).binds (ps := p_faults_of) (fun _ _ _ _ _ _ us hl => match us, hl with | [_, _], _ => rfl), m_faults_of := PySem.W.mg_of X G A_faults_of,
    a_sites := f_sites, d_sites := _, F_sites := fun_mk (st := s_sites) L_sites C_sites K_sites, b_sites := (fun_mk (st := s_sites) L_sites C_sites K_sites).binds (ps := p_sites) (fun _ _ _ _ _ _ us hl => match us, hl with | [_], _ => rfl), m_sites := PySem.W.mg_of X G A_sites,
    a_is_plain := f_is_plain, d_is_plain := _, F_is_plain := fun_mk (st := s_is_plain) L_is_plain C_is_plain K_is_plain, b_is_plain := (fun_mk (st := s_is_plain) L_is_plain C_is_plain K_is_plain).binds (ps := p_is_plain) (fun _ _ _ _ _ _ us hl => match us, hl with | [_], _ => rfl), m_is_plain := PySem.W.mg_of X G A_is_plain,
    a_l_cell := f_l_cell, d_l_cell := _, F_l_cell := fun_mk (st := s_l_cell) L_l_cell C_l_cell K_l_cell, b_l_cell := (fun_mk (st := s_l_cell) L_l_cell C_l_cell K_l_cell).binds (ps := p_l_cell) (fun _ _ _ _ _ _ us hl => match us, hl with | [_, _], _ => rfl), m_l_cell := PySem.W.mg_of X G A_l_cell,
    a_l_source := f_l_source, d_l_source := _, F_l_source := fun_mk (st := s_l_source) L_l_source C_l_source K_l_source, b_l_source := (fun_mk (st := s_l_source) L_l_source C_l_source K_l_source).binds (ps := p_l_source) (fun _ _ _ _ _ _ us hl => match us, hl with | [_], _ => rfl), m_l_source := PySem.W.mg_of X G A_l_source,
    a_l_pick := f_l_pick, d_l_pick := _, F_l_pick := fun_mk (st := s_l_pick) L_l_pick C_l_pick K_l_pick, b_l_pick := (fun_mk (st := s_l_pick) L_l_pick C_l_pick K_l_pick).binds (ps := p_l_pick) (fun _ _ _ _ _ _ us hl => match us, hl with | [_, _], _ => rfl), m_l_pick := PySem.W.mg_of X G A_l_pick,
    a_l_one := f_l_one, d_l_one := _, F_l_one := fun_mk (st := s_l_one) L_l_one C_l_one K_l_one, b_l_one := (fun_mk (st := s_l_one) L_l_one C_l_one K_l_one).binds (ps := p_l_one) (fun _ _ _ _ _ _ us hl => match us, hl with | [_, _], _ => rfl), m_l_one := PySem.W.mg_of X G A_l_one,
    a_l_names := f_l_names, d_l_names := _, F_l_names := fun_mk (st := s_l_names) L_l_names C_l_names K_l_names, b_l_names := (fun_mk (st := s_l_names) L_l_names C_l_names K_l_names).binds (ps := p_l_names) (fun _ _ _ _ _ _ us hl => match us, hl with | [_], _ => rfl), m_l_names := PySem.W.mg_of X G A_l_names,
    a_l_named := f_l_named, d_l_named := _, F_l_named := fun_mk (st := s_l_named) L_l_named C_l_named K_l_named, b_l_named := (fun_mk (st := s_l_named) L_l_named C_l_named K_l_named).binds (ps := p_l_named) (fun _ _ _ _ _ _ us hl => match us, hl with | [_, _], _ => rfl), m_l_named := PySem.W.mg_of X G A_l_named,
    a_l_number := f_l_number, d_l_number := _, F_l_number := fun_mk (st := s_l_number) L_l_number C_l_number K_l_number, b_l_number := (fun_mk (st := s_l_number) L_l_number C_l_number K_l_number).binds (ps := p_l_number) (fun _ _ _ _ _ _ us hl => match us, hl with | [_, _, _, _], _ => rfl), m_l_number := PySem.W.mg_of X G A_l_number,
    a_l_compare := f_l_compare, d_l_compare := _, F_l_compare := fun_mk (st := s_l_compare) L_l_compare C_l_compare K_l_compare, b_l_compare := (fun_mk (st := s_l_compare) L_l_compare C_l_compare K_l_compare).binds (ps := p_l_compare) (fun _ _ _ _ _ _ us hl => match us, hl with | [_, _, _], _ => rfl), m_l_compare := PySem.W.mg_of X G A_l_compare,
    a_l_reference := f_l_reference, d_l_reference := _, F_l_reference := fun_mk (st := s_l_reference) L_l_reference C_l_reference K_l_reference, b_l_reference := (fun_mk (st := s_l_reference) L_l_reference C_l_reference K_l_reference).binds (ps := p_l_reference) (fun _ _ _ _ _ _ us hl => match us, hl with | [_, _, _], _ => rfl), m_l_reference := PySem.W.mg_of X G A_l_reference,
    a_l_truth := f_l_truth, d_l_truth := _, F_l_truth := fun_mk (st := s_l_truth) L_l_truth C_l_truth K_l_truth, b_l_truth := (fun_mk (st := s_l_truth) L_l_truth C_l_truth K_l_truth).binds (ps := p_l_truth) (fun _ _ _ _ _ _ us hl => match us, hl with | [_, _, _, _], _ => rfl), m_l_truth := PySem.W.mg_of X G A_l_truth,
    a_l_expression := f_l_expression, d_l_expression := _, F_l_expression := fun_mk (st := s_l_expression) L_l_expression C_l_expression K_l_expression, b_l_expression := (fun_mk (st := s_l_expression) L_l_expression C_l_expression K_l_expression).binds (ps := p_l_expression) (fun _ _ _ _ _ _ us hl => match us, hl with | [_, _, _, _], _ => rfl), m_l_expression := PySem.W.mg_of X G A_l_expression,
    a_l_call := f_l_call, d_l_call := _, F_l_call := fun_mk (st := s_l_call) L_l_call C_l_call K_l_call, b_l_call := (fun_mk (st := s_l_call) L_l_call C_l_call K_l_call).binds (ps := p_l_call) (fun _ _ _ _ _ _ us hl => match us, hl with | [_, _, _, _], _ => rfl), m_l_call := PySem.W.mg_of X G A_l_call,
    a_l_memory := f_l_memory, d_l_memory := _, F_l_memory := fun_mk (st := s_l_memory) L_l_memory C_l_memory K_l_memory, b_l_memory := (fun_mk (st := s_l_memory) L_l_memory C_l_memory K_l_memory).binds (ps := p_l_memory) (fun _ _ _ _ _ _ us hl => match us, hl with | [_, _, _], _ => rfl), m_l_memory := PySem.W.mg_of X G A_l_memory,
    a_l_element := f_l_element, d_l_element := _, F_l_element := fun_mk (st := s_l_element) L_l_element C_l_element K_l_element, b_l_element := (fun_mk (st := s_l_element) L_l_element C_l_element K_l_element).binds (ps := p_l_element) (fun _ _ _ _ _ _ us hl => match us, hl with | [_, _, _], _ => rfl), m_l_element := PySem.W.mg_of X G A_l_element,
    a_l_leaf := f_l_leaf, d_l_leaf := _, F_l_leaf := fun_mk (st := s_l_leaf) L_l_leaf C_l_leaf K_l_leaf, b_l_leaf := (fun_mk (st := s_l_leaf) L_l_leaf C_l_leaf K_l_leaf).binds (ps := p_l_leaf) (fun _ _ _ _ _ _ us hl => match us, hl with | [_, _, _, _, _], _ => rfl), m_l_leaf := PySem.W.mg_of X G A_l_leaf,
    a_l_loop := f_l_loop, d_l_loop := _, F_l_loop := fun_mk (st := s_l_loop) L_l_loop C_l_loop K_l_loop, b_l_loop := (fun_mk (st := s_l_loop) L_l_loop C_l_loop K_l_loop).binds (ps := p_l_loop) (fun _ _ _ _ _ _ us hl => match us, hl with | [_, _, _, _, _], _ => rfl), m_l_loop := PySem.W.mg_of X G A_l_loop,
    a_l_body := f_l_body, d_l_body := _, F_l_body := fun_mk (st := s_l_body) L_l_body C_l_body K_l_body, b_l_body := (fun_mk (st := s_l_body) L_l_body C_l_body K_l_body).binds (ps := p_l_body) (fun _ _ _ _ _ _ us hl => match us, hl with | [_, _, _, _, _, _, _], _ => rfl), m_l_body := PySem.W.mg_of X G A_l_body,
    a_l_some := f_l_some, d_l_some := _, F_l_some := fun_mk (st := s_l_some) L_l_some C_l_some K_l_some, b_l_some := (fun_mk (st := s_l_some) L_l_some C_l_some K_l_some).binds (ps := p_l_some) (fun _ _ _ _ _ _ us hl => match us, hl with | [_, _, _, _], _ => rfl), m_l_some := PySem.W.mg_of X G A_l_some,
    a_l_kinds := f_l_kinds, d_l_kinds := _, F_l_kinds := fun_mk (st := s_l_kinds) L_l_kinds C_l_kinds K_l_kinds, b_l_kinds := (fun_mk (st := s_l_kinds) L_l_kinds C_l_kinds K_l_kinds).binds (ps := p_l_kinds) (fun _ _ _ _ _ _ us hl => match us, hl with | [_, _, _, _], _ => rfl), m_l_kinds := PySem.W.mg_of X G A_l_kinds,
    a_l_program := f_l_program, d_l_program := _, F_l_program := fun_mk (st := s_l_program) L_l_program C_l_program K_l_program, b_l_program := (fun_mk (st := s_l_program) L_l_program C_l_program K_l_program).binds (ps := p_l_program) (fun _ _ _ _ _ _ us hl => match us, hl with | [_, _, _, _], _ => rfl), m_l_program := PySem.W.mg_of X G A_l_program,
    a_l_flat := f_l_flat, d_l_flat := _, F_l_flat := fun_mk (st := s_l_flat) L_l_flat C_l_flat K_l_flat, b_l_flat := (fun_mk (st := s_l_flat) L_l_flat C_l_flat K_l_flat).binds (ps := p_l_flat) (fun _ _ _ _ _ _ us hl => match us, hl with | [_], _ => rfl), m_l_flat := PySem.W.mg_of X G A_l_flat,
    a_l_same := f_l_same, d_l_same := _, F_l_same := fun_mk (st := s_l_same) L_l_same C_l_same K_l_same, b_l_same := (fun_mk (st := s_l_same) L_l_same C_l_same K_l_same).binds (ps := p_l_same) (fun _ _ _ _ _ _ us hl => match us, hl with | [_, _], _ => rfl), m_l_same := PySem.W.mg_of X G A_l_same,
    a_l_longer := f_l_longer, d_l_longer := _, F_l_longer := fun_mk (st := s_l_longer) L_l_longer C_l_longer K_l_longer, b_l_longer := (fun_mk (st := s_l_longer) L_l_longer C_l_longer K_l_longer).binds (ps := p_l_longer) (fun _ _ _ _ _ _ us hl => match us, hl with | [_, _], _ => rfl), m_l_longer := PySem.W.mg_of X G A_l_longer,
    a_l_added := f_l_added, d_l_added := _, F_l_added := fun_mk (st := s_l_added) L_l_added C_l_added K_l_added, b_l_added := (fun_mk (st := s_l_added) L_l_added C_l_added K_l_added).binds (ps := p_l_added) (fun _ _ _ _ _ _ us hl => match us, hl with | [_, _, _], _ => rfl), m_l_added := PySem.W.mg_of X G A_l_added,
    a_l_taking := f_l_taking, d_l_taking := _, F_l_taking := fun_mk (st := s_l_taking) L_l_taking C_l_taking K_l_taking, b_l_taking := (fun_mk (st := s_l_taking) L_l_taking C_l_taking K_l_taking).binds (ps := p_l_taking) (fun _ _ _ _ _ _ us hl => match us, hl with | [_, _, _, _], _ => rfl), m_l_taking := PySem.W.mg_of X G A_l_taking,
    a_l_faults := f_l_faults, d_l_faults := _, F_l_faults := fun_mk (st := s_l_faults) L_l_faults C_l_faults K_l_faults, b_l_faults := (fun_mk (st := s_l_faults) L_l_faults C_l_faults K_l_faults).binds (ps := p_l_faults) (fun _ _ _ _ _ _ us hl => match us, hl with | [_, _, _, _], _ => rfl), m_l_faults := PySem.W.mg_of X G A_l_faults,
    a_l_sites := f_l_sites, d_l_sites := _, F_l_sites := fun_mk (st := s_l_sites) L_l_sites C_l_sites K_l_sites, b_l_sites := (fun_mk (st := s_l_sites) L_l_sites C_l_sites K_l_sites).binds (ps := p_l_sites) (fun _ _ _ _ _ _ us hl => match us, hl with | [_], _ => rfl), m_l_sites := PySem.W.mg_of X G A_l_sites,
    a_l_plain := f_l_plain, d_l_plain := _, F_l_plain := fun_mk (st := s_l_plain) L_l_plain C_l_plain K_l_plain, b_l_plain := (fun_mk (st := s_l_plain) L_l_plain C_l_plain K_l_plain).binds (ps := p_l_plain) (fun _ _ _ _ _ _ us hl => match us, hl with | [_], _ => rfl), m_l_plain := PySem.W.mg_of X G A_l_plain,
    a_law := fa, d_law := _, F_law := fun_mk (st := s_law) L_law C_law K_law, b_law := (fun_mk (st := s_law) L_law C_law K_law).binds (ps := p_law) (fun _ _ _ _ _ _ us hl => match us, hl with | [_], _ => rfl), m_law := PySem.W.mg_of X G A_law,
    C_Scope := C_Scope, cl_Scope := ⟨pg_Scope, hd_Scope, po_Scope, sa_Scope⟩, mgc_Scope := PySem.W.mg_of X G A_Scope, ki_Scope := kc_Scope,
    no_Scope_name := no_Scope_name,
    no_Scope_result := no_Scope_result,
    no_Scope_kinds := no_Scope_kinds,
    no_Scope_records := no_Scope_records,
    no_Scope_arrays := no_Scope_arrays,
    no_Scope_functions := no_Scope_functions,
    a_Scope_init := f_Scope_init, d_Scope_init := _, F_Scope_init := fun_mk (st := s_Scope_init) L_Scope_init C_Scope_init K_Scope_init, b_Scope_init := (fun_mk (st := s_Scope_init) L_Scope_init C_Scope_init K_Scope_init).binds (ps := p_Scope_init) (fun _ _ _ _ _ _ us hl => match us, hl with | [_, _, _], _ => rfl),
    mk_Scope := ⟨mi_Scope, A_Scope_init, I_Scope_init, kc_Scope⟩,
    a_Scope_declares := f_Scope_declares, d_Scope_declares := _, F_Scope_declares := fun_mk (st := s_Scope_declares) L_Scope_declares C_Scope_declares K_Scope_declares, b_Scope_declares := (fun_mk (st := s_Scope_declares) L_Scope_declares C_Scope_declares K_Scope_declares).binds (ps := p_Scope_declares) (fun _ _ _ _ _ _ us hl => match us, hl with | [_, _, _], _ => rfl),
    me_Scope_declares := ⟨A_Scope_declares, I_Scope_declares, K_Scope_declares⟩,
    a_Scope_field_kind := f_Scope_field_kind, d_Scope_field_kind := _, F_Scope_field_kind := fun_mk (st := s_Scope_field_kind) L_Scope_field_kind C_Scope_field_kind K_Scope_field_kind, b_Scope_field_kind := (fun_mk (st := s_Scope_field_kind) L_Scope_field_kind C_Scope_field_kind K_Scope_field_kind).binds (ps := p_Scope_field_kind) (fun _ _ _ _ _ _ us hl => match us, hl with | [_, _, _], _ => rfl),
    me_Scope_field_kind := ⟨A_Scope_field_kind, I_Scope_field_kind, K_Scope_field_kind⟩,
    c_WIDEST_SMALL := by obtain ⟨t, e⟩ := U_WIDEST_SMALL; exact ⟨t, by rw [← e]; exact PySem.W.mg_of X G A_WIDEST_SMALL⟩,
    c_PARTS := ⟨d_PARTS, PySem.W.mg_of X G A_PARTS, by
      intro q hq
      simp only [tb_PARTS, List.mem_cons, List.not_mem_nil, or_false] at hq
      rcases hq with rfl | rfl | rfl | rfl | rfl | rfl | rfl | rfl | rfl | rfl | rfl | rfl | rfl | rfl
      · exact kpart D_PARTS Y_PARTS N_PARTS_0 R_PARTS_0 (by decide) V_PARTS_0
      · exact kpart D_PARTS Y_PARTS N_PARTS_1 R_PARTS_1 (by decide) V_PARTS_1
      · exact kpart D_PARTS Y_PARTS N_PARTS_2 R_PARTS_2 (by decide) V_PARTS_2
      · exact kpart D_PARTS Y_PARTS N_PARTS_3 R_PARTS_3 (by decide) V_PARTS_3
      · exact kpart D_PARTS Y_PARTS N_PARTS_4 R_PARTS_4 (by decide) V_PARTS_4
      · exact kpart D_PARTS Y_PARTS N_PARTS_5 R_PARTS_5 (by decide) V_PARTS_5
      · exact kpart D_PARTS Y_PARTS N_PARTS_6 R_PARTS_6 (by decide) V_PARTS_6
      · exact kpart D_PARTS Y_PARTS N_PARTS_7 R_PARTS_7 (by decide) V_PARTS_7
      · exact kpart D_PARTS Y_PARTS N_PARTS_8 R_PARTS_8 (by decide) V_PARTS_8
      · exact kpart D_PARTS Y_PARTS N_PARTS_9 R_PARTS_9 (by decide) V_PARTS_9
      · exact kpart D_PARTS Y_PARTS N_PARTS_10 R_PARTS_10 (by decide) V_PARTS_10
      · exact kpart D_PARTS Y_PARTS N_PARTS_11 R_PARTS_11 (by decide) V_PARTS_11
      · exact kpart D_PARTS Y_PARTS N_PARTS_12 R_PARTS_12 (by decide) V_PARTS_12
      · exact kpart D_PARTS Y_PARTS N_PARTS_13 R_PARTS_13 (by decide) V_PARTS_13⟩,
    c_FAULTS := ⟨d_FAULTS, PySem.W.mg_of X G A_FAULTS, by
      intro q hq
      simp only [tb_FAULTS, List.mem_cons, List.not_mem_nil, or_false] at hq
      rcases hq with rfl | rfl | rfl | rfl | rfl | rfl
      · exact kpart D_FAULTS Y_FAULTS N_FAULTS_0 R_FAULTS_0 (by decide) V_FAULTS_0
      · exact kpart D_FAULTS Y_FAULTS N_FAULTS_1 R_FAULTS_1 (by decide) V_FAULTS_1
      · exact kpart D_FAULTS Y_FAULTS N_FAULTS_2 R_FAULTS_2 (by decide) V_FAULTS_2
      · exact kpart D_FAULTS Y_FAULTS N_FAULTS_3 R_FAULTS_3 (by decide) V_FAULTS_3
      · exact kpart D_FAULTS Y_FAULTS N_FAULTS_4 R_FAULTS_4 (by decide) V_FAULTS_4
      · exact kpart D_FAULTS Y_FAULTS N_FAULTS_5 R_FAULTS_5 (by decide) V_FAULTS_5⟩,
    k_FAULTS := by
      intro d hd
      have e := hd.symm.trans (PySem.W.mg_of X G A_FAULTS)
      cases e
      refine ⟨_, _, D_FAULTS, Y_FAULTS, J_FAULTS, ?_⟩
      intro z hz
      simp only [List.mem_cons, List.not_mem_nil, or_false] at hz
      rcases hz with rfl | rfl | rfl | rfl | rfl | rfl | rfl | rfl
      · exact M_FAULTS_0
      · exact M_FAULTS_1
      · exact M_FAULTS_2
      · exact M_FAULTS_3
      · exact M_FAULTS_4
      · exact M_FAULTS_5
      · exact M_FAULTS_6
      · exact M_FAULTS_7,
    z_any := PySem.W.mg_none_of X G Z_any,
    z_bool := PySem.W.mg_none_of X G Z_bool,
    z_dict := PySem.W.mg_none_of X G Z_dict,
    z_enumerate := PySem.W.mg_none_of X G Z_enumerate,
    z_int := PySem.W.mg_none_of X G Z_int,
    z_isinstance := PySem.W.mg_none_of X G Z_isinstance,
    z_len := PySem.W.mg_none_of X G Z_len,
    z_list := PySem.W.mg_none_of X G Z_list,
    z_min := PySem.W.mg_none_of X G Z_min,
    z_range := PySem.W.mg_none_of X G Z_range,
    z_str := PySem.W.mg_none_of X G Z_str,
    z_tuple := PySem.W.mg_none_of X G Z_tuple,
    z_zip := PySem.W.mg_none_of X G Z_zip }
  refine ⟨PySem.W.fnOf "law" "law" (defArgs s_law) (defBody s_law) (defScope s_law) .none kV_law dc_law pm_law an_law cd_law ct_law, fun s v => .of_eq rfl, fun base _ _ => ok_law T⟩
theorem walk {l : PySem.W.OpenLaw} {q : Program} {loose : List Str} {XP : (Str → Option Value) → Heap → Prop} {YP : World → Heap → Prop} {d : DefRec} {K : Params → PySem.W.Frag} (hn : l.most = some 63) (hdf : d.params.defaults = [])
    (hY : ∀ (w : World) (h : Heap), YP w h → (K w.params).In h)
    (F : ∀ (w : World) (mg : Str → Option Value) (fa : Addr) (h : Heap), (K w.params).In h → h.Ns mainGlobals mg → mg d.name = some (.ref fa) →
      ∃ fd : FuncData, (∀ (s : Shared) (u : Value), BindsTo s fd ⟨[u], []⟩ [("_law_script", u)]) ∧ ∀ base : Heap, (K w.params).In base → base.Ns mainGlobals mg → FnOk l.prog w (K w.params) mg base CX0 20 fa fd ["_law_script"] (spLaw (K w.params))) :
    PySem.W.WalkO q loose XP YP l.row.toRowW d [] (fun f vs => PySem.call f vs) :=
  L2.walk_of (n := 63) (k := 20) (x := "_law_script") (CX := fun _ => CX0) (sp := fun w => spLaw (K w.params)) hn (by decide) hdf ⟨rfl, by decide, by decide⟩ hY F (fun _ _ a ns hl _ hS => ⟨a, ns, rfl, hS, hl, fun _ => rfl⟩) fun _ _ _ _ _ z => z
end Mine
open PySem PySem.W PyProof.Rows
set_option maxRecDepth 100000 in
set_option maxHeartbeats 0 in
theorem PySem.Challenge.cw_neverhappens_k53_sites_holds : PySem.Challenge.rw_neverhappens_k53_sites.Holds := by
  w_on; o_law; k_head; (case hw => w_witness2)
  k_fill
  refine Mine.walk (l := PySem.Challenge.rw_neverhappens_k53_sites) rfl rfl (fun w h Y => PySem.W.kIn_of Y) ?F
  case F =>
    intro w mg fa h KX G hmg
    refine' Mine.all_mk KX G hmg ?A__wall ?L__wall ?C__wall ?K__wall ?A_is_large ?L_is_large ?C_is_large ?K_is_large ?A_visible_kinds ?L_visible_kinds ?C_visible_kinds ?K_visible_kinds ?A_bodies_of ?L_bodies_of ?C_bodies_of ?K_bodies_of ?A_list_statements ?L_list_statements ?R_list_statements ?W_list_statements ?C_list_statements ?K_list_statements ?A_is_number_kind ?L_is_number_kind ?C_is_number_kind ?K_is_number_kind ?A_gives_number ?L_gives_number ?C_gives_number ?K_gives_number ?A_faults_of ?L_faults_of ?C_faults_of ?K_faults_of ?A_sites ?L_sites ?C_sites ?K_sites ?A_is_plain ?L_is_plain ?C_is_plain ?K_is_plain ?A_l_cell ?L_l_cell ?C_l_cell ?K_l_cell ?A_l_source ?L_l_source ?C_l_source ?K_l_source ?A_l_pick ?L_l_pick ?C_l_pick ?K_l_pick ?A_l_one ?L_l_one ?C_l_one ?K_l_one ?A_l_names ?L_l_names ?C_l_names ?K_l_names ?A_l_named ?L_l_named ?C_l_named ?K_l_named ?A_l_number ?L_l_number ?C_l_number ?K_l_number ?A_l_compare ?L_l_compare ?C_l_compare ?K_l_compare ?A_l_reference ?L_l_reference ?C_l_reference ?K_l_reference ?A_l_truth ?L_l_truth ?C_l_truth ?K_l_truth ?A_l_expression ?L_l_expression ?C_l_expression ?K_l_expression ?A_l_call ?L_l_call ?C_l_call ?K_l_call ?A_l_memory ?L_l_memory ?C_l_memory ?K_l_memory ?A_l_element ?L_l_element ?C_l_element ?K_l_element ?A_l_leaf ?L_l_leaf ?C_l_leaf ?K_l_leaf ?A_l_loop ?L_l_loop ?C_l_loop ?K_l_loop ?A_l_body ?L_l_body ?C_l_body ?K_l_body ?A_l_some ?L_l_some ?C_l_some ?K_l_some ?A_l_kinds ?L_l_kinds ?C_l_kinds ?K_l_kinds ?A_l_program ?L_l_program ?C_l_program ?K_l_program ?A_l_flat ?L_l_flat ?C_l_flat ?K_l_flat ?A_l_same ?L_l_same ?C_l_same ?K_l_same ?A_l_longer ?L_l_longer ?C_l_longer ?K_l_longer ?A_l_added ?L_l_added ?C_l_added ?K_l_added ?A_l_taking ?L_l_taking ?C_l_taking ?K_l_taking ?A_l_faults ?L_l_faults ?C_l_faults ?K_l_faults ?A_l_sites ?L_l_sites ?C_l_sites ?K_l_sites ?A_l_plain ?L_l_plain ?C_l_plain ?K_l_plain ?A_law ?L_law ?C_law ?K_law ?A_Scope ?pg_Scope ?hd_Scope ?po_Scope ?sa_Scope ?kc_Scope ?no_Scope_name ?no_Scope_result ?no_Scope_kinds ?no_Scope_records ?no_Scope_arrays ?no_Scope_functions ?mi_Scope ?A_Scope_init ?I_Scope_init ?L_Scope_init ?C_Scope_init ?K_Scope_init ?A_Scope_declares ?I_Scope_declares ?L_Scope_declares ?C_Scope_declares ?K_Scope_declares ?A_Scope_field_kind ?I_Scope_field_kind ?L_Scope_field_kind ?C_Scope_field_kind ?K_Scope_field_kind ?A_WIDEST_SMALL ?U_WIDEST_SMALL ?A_PARTS ?D_PARTS ?Y_PARTS ?N_PARTS_0 ?R_PARTS_0 ?V_PARTS_0 ?N_PARTS_1 ?R_PARTS_1 ?V_PARTS_1 ?N_PARTS_2 ?R_PARTS_2 ?V_PARTS_2 ?N_PARTS_3 ?R_PARTS_3 ?V_PARTS_3 ?N_PARTS_4 ?R_PARTS_4 ?V_PARTS_4 ?N_PARTS_5 ?R_PARTS_5 ?V_PARTS_5 ?N_PARTS_6 ?R_PARTS_6 ?V_PARTS_6 ?N_PARTS_7 ?R_PARTS_7 ?V_PARTS_7 ?N_PARTS_8 ?R_PARTS_8 ?V_PARTS_8 ?N_PARTS_9 ?R_PARTS_9 ?V_PARTS_9 ?N_PARTS_10 ?R_PARTS_10 ?V_PARTS_10 ?N_PARTS_11 ?R_PARTS_11 ?V_PARTS_11 ?N_PARTS_12 ?R_PARTS_12 ?V_PARTS_12 ?N_PARTS_13 ?R_PARTS_13 ?V_PARTS_13 ?A_FAULTS ?D_FAULTS ?Y_FAULTS ?N_FAULTS_0 ?R_FAULTS_0 ?V_FAULTS_0 ?N_FAULTS_1 ?R_FAULTS_1 ?V_FAULTS_1 ?N_FAULTS_2 ?R_FAULTS_2 ?V_FAULTS_2 ?N_FAULTS_3 ?R_FAULTS_3 ?V_FAULTS_3 ?N_FAULTS_4 ?R_FAULTS_4 ?V_FAULTS_4 ?N_FAULTS_5 ?R_FAULTS_5 ?V_FAULTS_5 ?J_FAULTS ?M_FAULTS_0 ?M_FAULTS_1 ?M_FAULTS_2 ?M_FAULTS_3 ?M_FAULTS_4 ?M_FAULTS_5 ?M_FAULTS_6 ?M_FAULTS_7 ?Z_any ?Z_bool ?Z_dict ?Z_enumerate ?Z_int ?Z_isinstance ?Z_len ?Z_list ?Z_min ?Z_range ?Z_str ?Z_tuple ?Z_zip
    (case A__wall => k_is)
    (case L__wall => k_is)
    (case C__wall => k_is)
    (case K__wall => k_is)
    (case A_is_large => k_is)
    (case L_is_large => k_is)
    (case C_is_large => k_is)
    (case K_is_large => k_is)
    (case A_visible_kinds => k_is)
    (case L_visible_kinds => k_is)
    (case C_visible_kinds => k_is)
    (case K_visible_kinds => k_is)
    (case A_bodies_of => k_is)
    (case L_bodies_of => k_is)
    (case C_bodies_of => k_is)
    (case K_bodies_of => k_is)
    (case A_list_statements => k_is)
    (case L_list_statements => k_is)
    (case R_list_statements => k_is)
    (case W_list_statements => first | rfl | decide +kernel)
    (case C_list_statements => k_is)
    (case K_list_statements => k_is)
    (case A_is_number_kind => k_is)
    (case L_is_number_kind => k_is)
    (case C_is_number_kind => k_is)
    (case K_is_number_kind => k_is)
    (case A_gives_number => k_is)
    (case L_gives_number => k_is)
    (case C_gives_number => k_is)
    (case K_gives_number => k_is)
    (case A_faults_of => k_is)
    (case L_faults_of => k_is)
    (case C_faults_of => k_is)
    (case K_faults_of => k_is)
    (case A_sites => k_is)
    (case L_sites => k_is)
    (case C_sites => k_is)
    (case K_sites => k_is)
    (case A_is_plain => k_is)
    (case L_is_plain => k_is)
    (case C_is_plain => k_is)
    (case K_is_plain => k_is)
    (case A_l_cell => k_is)
    (case L_l_cell => k_is)
    (case C_l_cell => k_is)
    (case K_l_cell => k_is)
    (case A_l_source => k_is)
    (case L_l_source => k_is)
    (case C_l_source => k_is)
    (case K_l_source => k_is)
    (case A_l_pick => k_is)
    (case L_l_pick => k_is)
    (case C_l_pick => k_is)
    (case K_l_pick => k_is)
    (case A_l_one => k_is)
    (case L_l_one => k_is)
    (case C_l_one => k_is)
    (case K_l_one => k_is)
    (case A_l_names => k_is)
    (case L_l_names => k_is)
    (case C_l_names => k_is)
    (case K_l_names => k_is)
    (case A_l_named => k_is)
    (case L_l_named => k_is)
    (case C_l_named => k_is)
    (case K_l_named => k_is)
    (case A_l_number => k_is)
    (case L_l_number => k_is)
    (case C_l_number => k_is)
    (case K_l_number => k_is)
    (case A_l_compare => k_is)
    (case L_l_compare => k_is)
    (case C_l_compare => k_is)
    (case K_l_compare => k_is)
    (case A_l_reference => k_is)
    (case L_l_reference => k_is)
    (case C_l_reference => k_is)
    (case K_l_reference => k_is)
    (case A_l_truth => k_is)
    (case L_l_truth => k_is)
    (case C_l_truth => k_is)
    (case K_l_truth => k_is)
    (case A_l_expression => k_is)
    (case L_l_expression => k_is)
    (case C_l_expression => k_is)
    (case K_l_expression => k_is)
    (case A_l_call => k_is)
    (case L_l_call => k_is)
    (case C_l_call => k_is)
    (case K_l_call => k_is)
    (case A_l_memory => k_is)
    (case L_l_memory => k_is)
    (case C_l_memory => k_is)
    (case K_l_memory => k_is)
    (case A_l_element => k_is)
    (case L_l_element => k_is)
    (case C_l_element => k_is)
    (case K_l_element => k_is)
    (case A_l_leaf => k_is)
    (case L_l_leaf => k_is)
    (case C_l_leaf => k_is)
    (case K_l_leaf => k_is)
    (case A_l_loop => k_is)
    (case L_l_loop => k_is)
    (case C_l_loop => k_is)
    (case K_l_loop => k_is)
    (case A_l_body => k_is)
    (case L_l_body => k_is)
    (case C_l_body => k_is)
    (case K_l_body => k_is)
    (case A_l_some => k_is)
    (case L_l_some => k_is)
    (case C_l_some => k_is)
    (case K_l_some => k_is)
    (case A_l_kinds => k_is)
    (case L_l_kinds => k_is)
    (case C_l_kinds => k_is)
    (case K_l_kinds => k_is)
    (case A_l_program => k_is)
    (case L_l_program => k_is)
    (case C_l_program => k_is)
    (case K_l_program => k_is)
    (case A_l_flat => k_is)
    (case L_l_flat => k_is)
    (case C_l_flat => k_is)
    (case K_l_flat => k_is)
    (case A_l_same => k_is)
    (case L_l_same => k_is)
    (case C_l_same => k_is)
    (case K_l_same => k_is)
    (case A_l_longer => k_is)
    (case L_l_longer => k_is)
    (case C_l_longer => k_is)
    (case K_l_longer => k_is)
    (case A_l_added => k_is)
    (case L_l_added => k_is)
    (case C_l_added => k_is)
    (case K_l_added => k_is)
    (case A_l_taking => k_is)
    (case L_l_taking => k_is)
    (case C_l_taking => k_is)
    (case K_l_taking => k_is)
    (case A_l_faults => k_is)
    (case L_l_faults => k_is)
    (case C_l_faults => k_is)
    (case K_l_faults => k_is)
    (case A_l_sites => k_is)
    (case L_l_sites => k_is)
    (case C_l_sites => k_is)
    (case K_l_sites => k_is)
    (case A_l_plain => k_is)
    (case L_l_plain => k_is)
    (case C_l_plain => k_is)
    (case K_l_plain => k_is)
    (case A_law => k_is)
    (case L_law => k_is)
    (case C_law => k_is)
    (case K_law => k_is)
    (case A_Scope => k_is)
    (case pg_Scope => k_is)
    (case hd_Scope => k_is)
    (case po_Scope => k_is)
    (case sa_Scope => k_is)
    (case kc_Scope => k_is)
    (case no_Scope_name => k_is)
    (case no_Scope_result => k_is)
    (case no_Scope_kinds => k_is)
    (case no_Scope_records => k_is)
    (case no_Scope_arrays => k_is)
    (case no_Scope_functions => k_is)
    (case mi_Scope => k_is)
    (case A_Scope_init => k_is)
    (case I_Scope_init => k_is)
    (case L_Scope_init => k_is)
    (case C_Scope_init => k_is)
    (case K_Scope_init => k_is)
    (case A_Scope_declares => k_is)
    (case I_Scope_declares => k_is)
    (case L_Scope_declares => k_is)
    (case C_Scope_declares => k_is)
    (case K_Scope_declares => k_is)
    (case A_Scope_field_kind => k_is)
    (case I_Scope_field_kind => k_is)
    (case L_Scope_field_kind => k_is)
    (case C_Scope_field_kind => k_is)
    (case K_Scope_field_kind => k_is)
    (case A_WIDEST_SMALL => k_is)
    (case U_WIDEST_SMALL => exact ⟨_, rfl⟩)
    (case A_PARTS => k_is)
    (case D_PARTS => k_is)
    (case Y_PARTS => (repeat' (first | exact True.intro | (refine ⟨⟨_, _, rfl, rfl⟩, ?_⟩))))
    (case N_PARTS_0 => k_is)
    (case R_PARTS_0 => k_is)
    (case V_PARTS_0 => first | rfl | decide +kernel)
    (case N_PARTS_1 => k_is)
    (case R_PARTS_1 => k_is)
    (case V_PARTS_1 => first | rfl | decide +kernel)
    (case N_PARTS_2 => k_is)
    (case R_PARTS_2 => k_is)
    (case V_PARTS_2 => first | rfl | decide +kernel)
    (case N_PARTS_3 => k_is)
    (case R_PARTS_3 => k_is)
    (case V_PARTS_3 => first | rfl | decide +kernel)
    (case N_PARTS_4 => k_is)
    (case R_PARTS_4 => k_is)
    (case V_PARTS_4 => first | rfl | decide +kernel)
    (case N_PARTS_5 => k_is)
    (case R_PARTS_5 => k_is)
    (case V_PARTS_5 => first | rfl | decide +kernel)
    (case N_PARTS_6 => k_is)
    (case R_PARTS_6 => k_is)
    (case V_PARTS_6 => first | rfl | decide +kernel)
    (case N_PARTS_7 => k_is)
    (case R_PARTS_7 => k_is)
    (case V_PARTS_7 => first | rfl | decide +kernel)
    (case N_PARTS_8 => k_is)
    (case R_PARTS_8 => k_is)
    (case V_PARTS_8 => first | rfl | decide +kernel)
    (case N_PARTS_9 => k_is)
    (case R_PARTS_9 => k_is)
    (case V_PARTS_9 => first | rfl | decide +kernel)
    (case N_PARTS_10 => k_is)
    (case R_PARTS_10 => k_is)
    (case V_PARTS_10 => first | rfl | decide +kernel)
    (case N_PARTS_11 => k_is)
    (case R_PARTS_11 => k_is)
    (case V_PARTS_11 => first | rfl | decide +kernel)
    (case N_PARTS_12 => k_is)
    (case R_PARTS_12 => k_is)
    (case V_PARTS_12 => first | rfl | decide +kernel)
    (case N_PARTS_13 => k_is)
    (case R_PARTS_13 => k_is)
    (case V_PARTS_13 => first | rfl | decide +kernel)
    (case A_FAULTS => k_is)
    (case D_FAULTS => k_is)
    (case Y_FAULTS => (repeat' (first | exact True.intro | (refine ⟨⟨_, _, rfl, rfl⟩, ?_⟩))))
    (case N_FAULTS_0 => k_is)
    (case R_FAULTS_0 => k_is)
    (case V_FAULTS_0 => first | rfl | decide +kernel)
    (case N_FAULTS_1 => k_is)
    (case R_FAULTS_1 => k_is)
    (case V_FAULTS_1 => first | rfl | decide +kernel)
    (case N_FAULTS_2 => k_is)
    (case R_FAULTS_2 => k_is)
    (case V_FAULTS_2 => first | rfl | decide +kernel)
    (case N_FAULTS_3 => k_is)
    (case R_FAULTS_3 => k_is)
    (case V_FAULTS_3 => first | rfl | decide +kernel)
    (case N_FAULTS_4 => k_is)
    (case R_FAULTS_4 => k_is)
    (case V_FAULTS_4 => first | rfl | decide +kernel)
    (case N_FAULTS_5 => k_is)
    (case R_FAULTS_5 => k_is)
    (case V_FAULTS_5 => first | rfl | decide +kernel)
    (case J_FAULTS => first | rfl | decide +kernel | k_is)
    (case M_FAULTS_0 => k_is)
    (case M_FAULTS_1 => k_is)
    (case M_FAULTS_2 => k_is)
    (case M_FAULTS_3 => k_is)
    (case M_FAULTS_4 => k_is)
    (case M_FAULTS_5 => k_is)
    (case M_FAULTS_6 => k_is)
    (case M_FAULTS_7 => k_is)
    (case Z_any => k_is)
    (case Z_bool => k_is)
    (case Z_dict => k_is)
    (case Z_enumerate => k_is)
    (case Z_int => k_is)
    (case Z_isinstance => k_is)
    (case Z_len => k_is)
    (case Z_list => k_is)
    (case Z_min => k_is)
    (case Z_range => k_is)
    (case Z_str => k_is)
    (case Z_tuple => k_is)
    (case Z_zip => k_is)
#print axioms PySem.Challenge.cw_neverhappens_k53_sites_holds
