import PyProof.Rows.All
import Wide.All
import OpenK.AllK
import Wide.FinOn
import HandS.ForMost
import HandS.IsInst
import HandS.FStr
import HandS.Codes
import HandS.Star
import HandS.Zip
import HandS.More
import HandS.Defaults
import HandS.Rev
import HandS.Walk
import HandS.TupAny
import HandS.TupMul
import HandS.Wide
import HandS.Style
import HandS.Iter
import HandS.Conv
import KE.KTurns
import KE.GoesMore
import HandS.Set
import HandS.SetFor
import HandS.Strs
import HandS.NoneIn
import HandS.Finally
import HandS.TupMul
import HandS.DictComp
import KE.KDictList
import PySem.Challenge.RW_neverhappens_k30_is_key
set_option Elab.async false
set_option linter.all false
set_option maxRecDepth 100000
set_option maxHeartbeats 4000000
namespace LRv
open PySem PySem.Spec PyProof.Rows L2 RT PySem.W
/-! ### list(reversed(x)), x a list -/
section
variable {prog : Program} {w : World} {A : Around} {E : Value → Shared → Prop} {s : Shared}
theorem list_init_rev {R : Result → Shared → Prop} {it l : Addr} {items : Array Value} (hh : A.handled = none) (hit : s.heap.IsRevIter it l ((items.size : Int) - 1)) (hl : s.heap.IsList l items) (hne : l ≠ it) (hn : items.size ≤ sizeLine)
    (S : Addr) (hSi : S ≠ it) (hSl : S ≠ l) (hS : s.heap.get? S = some { cls := .type "list", data := .seq #[] })
    (hR : ∀ h' tk acc' c', (∀ b o, b ≠ S → b ≠ it → s.heap.get? b = some o → h'.get? b = some o) → h'.get? S = some { cls := .type "list", dict := none, data := .seq acc' c', slots := #[] } → ItemsOf (fun i v => items[items.size - 1 - i]? = some v) acc' items.size → R (.ok (.ret .none)) { s with heap := h', toks := tk }) :
    wpAny (model prog w) A.in1 (Builtin.«list.__init__» ⟨[.ref S, .ref it], []⟩)
      (fun fin s' => match fin with | .done f => R (.ok f) s' | .again c' => c'.quiet = true ∧ codeAny (model prog w) A c' R s') (fun e s' => R (.error e) s') s := by
  show wpAny _ _ (do let old ← Builtin.List.listItems (.ref S); Builtin.List.listUpdate (.ref S) (fun _ => #[]); letGo old.toList.reverse; Builtin.List.listExtendWith (.ref S) (.ref it) .none) _ _ s
  refine wpAny_bind ?_
  unfold Builtin.List.listItems
  refine wpAny_bind (wpAny_seqItems hS rfl (wpAny_pure ?_))
  show wpAny _ _ (updateSeq S (fun _ => #[]) >>= fun _ => letGo (#[] : Array Value).toList.reverse >>= fun _ => Builtin.List.listExtendWith (.ref S) (.ref it) .none) _ _ s
  refine wpAny_bind (wpAny_updateSeq hS rfl ?_)
  have hS₂ := Heap.get?_update_self (Obj.mapSeq (fun _ => (#[] : Array Value))) hS rfl
  have oth : ∀ b o, b ≠ S → s.heap.get? b = some o → (s.heap.update S (Obj.mapSeq (fun _ => (#[] : Array Value)))).get? b = some o :=
    fun b o hb e => (Heap.get?_update_other _ _ (Ne.symm hb)).trans e
  refine wpAny_bind (wpAny_letGo ?_)
  have W := (Walks.listRev (prog := prog) (w := w) (A := A.in1) hh it l hne items).toS
  have hSf : S ∉ [it, l] := by simp only [List.mem_cons, List.not_mem_nil, or_false, not_or]; exact ⟨hSi, hSl⟩
  have hit1 : (s.heap.update S (Obj.mapSeq (fun _ => (#[] : Array Value)))).IsRevIter it l ((items.size : Int) - 1) := hit.at fun o e => oth it o hSi.symm e
  have hl1 : (s.heap.update S (Obj.mapSeq (fun _ => (#[] : Array Value)))).IsList l items := by
    obtain ⟨o, ho, hc, n, hd⟩ := hl
    exact ⟨o, oth l o hSl.symm ho, hc, n, hd⟩
  generalize hs1 : ({ s with heap := s.heap.update S (Obj.mapSeq (fun _ => (#[] : Array Value))) } : Shared) = s1
  have es1 : s1.heap = s.heap.update S (Obj.mapSeq (fun _ => (#[] : Array Value))) := by rw [← hs1]
  rw [← es1] at hit1 hl1 hS₂ oth
  have hT : s1.TypeIs (.ref it) "list_reverseiterator" := Heap.IsRevIter.typeIs hit1
  have h1 : Builtin.List.listSameRef (.ref S) (.ref it) = false := by simp [Builtin.List.listSameRef, hSi]
  unfold Builtin.List.listExtendWith
  refine wpAny_bind (wpAny_typeOf hT ?_)
  rw [if_neg (by rw [h1]; decide)]
  refine wpAny_bind (wpAny_pyIter_revIter hit1 ?_)
  refine wpAny_bind (wpAny_holding ?_)
  unfold Builtin.List.listLengthHint
  refine wpAny_bind (wpAny_specialOf hT nolen_lri ?_)
  show wpAny _ A.in1 (specialOf (Value.ref it) (Str.ofString "__length_hint__") >>= _) _ _ _
  refine wpAny_bind (wpAny_specialOf hT hint_lri ?_)
  generalize hid : ("list_reverseiterator.__length_hint__" : String) = id0
  wp_delta
  rw [show splitId id0 = some ("list_reverseiterator", "__length_hint__") from by subst hid; decide +kernel]
  subst hid
  refine wpAny_bind (wpAny_isInstance (b := true) hT (by rw [isSubtype_type]; kernel_rfl) ?_)
  refine wpAny_pure ?_
  rw [if_neg (by decide)]
  have e0 : ((items.size : Nat) : Int) - 1 - ((0 : Nat) : Int) = (items.size : Int) - 1 := by omega
  have hS3 : s1.heap.get? S = some { cls := .type "list", data := .seq #[] 1 } ∨ True := .inr trivial
  refine wpAny_pure ⟨plainId_quiet F.plain_extend_loop _, codeAny_extend_loopS W hn _ hSf _ items.size 0 _ _ _ rfl (Nat.zero_le _) ⟨Nat.zero_le _, by rw [e0]; exact hit1, hl1⟩ hS₂ (ItemsOf.nil _) fun s' acc' c' hm hS' hacc => ?_⟩
  rw [Moved.eq_with hm, ← hs1]
  refine hR s'.heap s'.toks acc' c' (fun b o hb hbi e => hm.heap b o (fun hmem => ?_) (oth b o hb e)) hS' hacc
  rcases List.mem_cons.mp hmem with e' | hmem
  · exact hb e'
  · exact hbi (List.mem_singleton.mp hmem)
theorem call_list_rev {it l : Addr} {items : Array Value} {Q : Value → Shared → Prop} (hh : A.handled = none) (hit : s.heap.IsRevIter it l ((items.size : Int) - 1)) (hl : s.heap.IsList l items) (hne : l ≠ it) (hn : items.size ≤ sizeLine)
    (hQ : ∀ h' tk acc' c', (∀ b o, b ≠ it → s.heap.get? b = some o → h'.get? b = some o) → h'.get? s.heap.objs.size = some { cls := .type "list", dict := none, data := .seq acc' c', slots := #[] } → ItemsOf (fun i v => items[items.size - 1 - i]? = some v) acc' items.size → Q (.ref s.heap.objs.size) { s with heap := h', toks := tk }) :
    wpAny (model prog w) A (call (.type "list") [.ref it]) Q E s := by
  refine callType_codes (Q₁ := fun obj s₁ => obj = .ref s.heap.objs.size ∧ s₁ = { s with heap := s.heap.push { cls := .type "list", data := .seq #[] } }) PySem.F.called_list (PySem.F.typeCall_list_1 _) PySem.F.entry_list_init
    (code_list_new _ ⟨rfl, rfl⟩) fun obj s₁ h₁ => ?_
  obtain ⟨rfl, rfl⟩ := h₁
  have hS : (s.heap.push { cls := .type "list", data := .seq #[] }).get? s.heap.objs.size = some { cls := .type "list", data := .seq #[] } := Heap.get?_push_size _ rfl
  obtain ⟨oi, hoi, _⟩ := id hit
  obtain ⟨ol, hol, _⟩ := id hl
  refine ⟨⟨_, hS, rfl⟩, PySem.F.args_list_init_2 _ _, list_init_rev (A := A.in1) hh (hit.at fun o e => Heap.get?_push_of_some _ e) (hl.push _) hne hn _ (Nat.ne_of_gt (Heap.lt_size hoi)) (Nat.ne_of_gt (Heap.lt_size hol)) hS (fun h' tk acc' c' hk hS' hacc => ?_)⟩
  exact ⟨rfl, hQ h' tk acc' c' (fun b o hb e => hk b o (Nat.ne_of_lt (Heap.lt_size e)) hb (Heap.get?_push_of_some _ e)) hS' hacc⟩
end
def tLstRev (K : PySem.W.Frag) (te : TE) : TE := fun σ H Q => te σ H fun v H1 => ∃ (a : Addr) (xs : List V), v = .ref a ∧ SqL K H1 a xs ∧ ∀ q, H1 q = none → Q (.ref q) (upd H1 q (.lst xs.reverse))
theorem pe_listRev {X : Cx} {e : Expr} {te : TE} {p p2 pos pos2 : Pos} (hc : X.calm = true) (hg : Gl X "list") (hm : X.mg "list" = none) (hg2 : Gl X "reversed") (hm2 : X.mg "reversed" = none) (he : PE X e te)
    (hs : starEach [e] X.env = (false, eval e X.env) :: starEach [] X.env := by rfl)
    (hs2 : starEach [.Call (.Name "reversed" p2) [e] [] pos2] X.env = (false, eval (.Call (.Name "reversed" p2) [e] [] pos2) X.env) :: starEach [] X.env := by rfl) :
    PE X (.Call (.Name "list" p) [.Call (.Name "reversed" p2) [e] [] pos2] [] pos) (tLstRev X.K te) := by
  refine ⟨fun pins s σ H Q I h => ?_⟩
  refine Call_ (ld_blt I hg hm boot_list (PyProof.Rows.callWith_type1 (args_cons (Call_ (ld_blt I hg2 hm2 PyProof.Rows.boot_reversed (PyProof.Rows.callWith_type1 (args_cons (thn (he.run pins s σ H _ I h) fun u s1 ⟨v, H1, I1, r1, q1⟩ => args_nil ?_) hs) hs rfl))) hs2) hs2 rfl))
  obtain ⟨a, xs, ev, hq, q⟩ := q1
  subst ev
  obtain rfl : u = Value.ref a := r1
  obtain ⟨its, rv, p', hz⟩ := I1.list hq
  refine call_reversed_list p'.isList (args_nil ?_)
  have hl := p'.isList
  obtain ⟨ol, hol, _⟩ := id hl
  have hne : a ≠ s1.heap.objs.size := Nat.ne_of_lt (Heap.lt_size hol)
  have hn : its.toArray.size ≤ sizeLine := by rw [List.size_toArray, ← rv.length]; exact hz
  refine call_list_rev (s := { s1 with heap := s1.heap.push (revObj a ((its.toArray.size : Int) - 1)) }) (I1.ok.hd hc) ⟨_, Heap.get?_push_size _ rfl, rfl, rfl⟩ (hl.push _) hne hn fun h' tk acc c' hk hS hi => ?_
  have hS2 : s1.heap.objs.size ≤ (s1.heap.push (revObj a ((its.toArray.size : Int) - 1))).objs.size := by
    rw [Heap.size_push]
    exact Nat.le_succ _
  have nT : H1 (s1.heap.push (revObj a ((its.toArray.size : Int) - 1))).objs.size = none := I1.hok.fresh hS2
  have I2 := I1.turnedNew (h' := h') (t' := tk) (ch := [s1.heap.objs.size]) (T := (s1.heap.push (revObj a ((its.toArray.size : Int) - 1))).objs.size) (ob := .lst xs.reverse) (fun b o hb e => hk b o (fun z => hb (by rw [z]; exact List.mem_cons_self)) (Heap.get?_push_of_some _ e)) (fun b hb => by
    rw [List.mem_singleton.mp hb]
    exact I1.fpOk (Nat.le_refl _) (I1.hok.fresh (Nat.le_refl _))) hS2 ⟨by rw [List.length_reverse]; exact hz, acc.toList, c', vals_rev rv hi, by rw [Array.toArray_toList]; exact hS⟩
  exact ⟨.ref _, _, I2, rfl, q _ nT⟩
end LRv
namespace DcS
open PySem PySem.Spec PyProof.Rows L2
/-! ### dict comprehensions: over any walk; name = {..} on one line, the name a local -/
theorem dc_it {J : It} {n : Nat} {G : Hp → Prop} {Y : Nat → Hp → V → Hp → Prop} (w : Walk J n G Y) {g : TG} {tt : TT} {tk tv : TE} {vs : List Nat} {σ : L2.St} {H1 : Hp} {D : Addr} {Qd : Hp → Prop} (Pv : Nat → Hp → Prop) (h0 : Pv 0 (upd H1 D (.dK []))) (hG : ∀ i H, i ≤ n → Pv i H → G H)
    (hs : ∀ i x H H', i < n → Pv i H → Y i H x H' → g x (wipe σ vs) H' fun σ2 H2 => wipe σ2 vs = wipe σ vs ∧ tt σ2 H2 fun b H3 =>
      if b = true then tk σ2 H3 fun y H4 => tv σ2 H4 fun z H5 => ∃ kvs k, y = kV k ∧ H5 D = some (.dK kvs) ∧ kvs.length < sizeLine ∧ Pv (i + 1) (upd H5 D (.dK (putK kvs k z))) else Pv (i + 1) H3) (hd : ∀ H, Pv n H → Qd H) :
    ∃ W : Nat → Nat → Hp → Prop, (∃ m, W 0 m (upd H1 D (.dK []))) ∧ ∀ i m H, W i m H →
      (J.stop i H ∧ Qd H) ∨ (J.go i H ∧ ∃ Nx : Hp → Prop, (∀ H', Nx H' → ∃ m', m' < m ∧ W (i + 1) m' H') ∧ ∀ x H', J.yld i H x H' → g x (wipe σ vs) H' fun σ2 H2 => wipe σ2 vs = wipe σ vs ∧ tt σ2 H2 fun b H3 =>
        if b = true then tk σ2 H3 fun y H4 => tv σ2 H4 fun z H5 => ∃ kvs k, y = kV k ∧ H5 D = some (.dK kvs) ∧ kvs.length < sizeLine ∧ Nx (upd H5 D (.dK (putK kvs k z))) else Nx H3) := by
  refine ⟨fun i m H => m = n - i ∧ i ≤ n ∧ Pv i H, ⟨n, by simp, Nat.zero_le _, h0⟩, ?_⟩
  rintro i m H ⟨rfl, hi, p⟩
  have q := hG i H hi p
  by_cases hlt : i < n
  · exact .inr ⟨w.goes i H hlt q, Pv (i + 1), fun H' p' => ⟨n - (i + 1), by omega, rfl, hlt, p'⟩, fun x H' y => hs i x H H' hlt p (w.yields i H x H' hlt q y)⟩
  · have e : i = n := by omega
    subst e
    exact .inl ⟨w.stops H q, hd H p⟩
section
variable {X : Cx}
theorem ps_setDc {i : Nat} {y : Str} {py : Pos} {kx vx tg iter : Expr} {ifs : List Expr} {scope : Scope} {own : List (Str × Nat)} {pos spos : Pos} {wi : TI} {g : TG} {tt : TT} {tk tv : TE} (hc : X.calm = true) (hN : X.N.Nodup) (hy : X.N[i]? = some y) (hyl : X.env.scope.names.lookup y = some .local)
    (hsw : swapsWith (.DictComp kx vx [⟨tg, iter, ifs, 0⟩] scope pos) (some (.Name y py)) spos.line X.env = pure true) (hi : PI X tg iter wi) (ok : BlkOk X.N X.env.scope scope own)
    (hg : ∀ (s : Shared) (H : Hp) (C : Addr) (cl : List (Str × Addr)) (fp : List Addr), PG (X.blk s H scope (compEnvC scope cl C X.env) fp) tg g) (ht : ∀ (s : Shared) (H : Hp) (C : Addr) (cl : List (Str × Addr)) (fp : List Addr), PTs (X.blk s H scope (compEnvC scope cl C X.env) fp) ifs tt)
    (hk : ∀ (s : Shared) (H : Hp) (C : Addr) (cl : List (Str × Addr)) (fp : List Addr), PE (X.blk s H scope (compEnvC scope cl C X.env) fp) kx tk)
    (he : ∀ (s : Shared) (H : Hp) (C : Addr) (cl : List (Str × Addr)) (fp : List Addr), PE (X.blk s H scope (compEnvC scope cl C X.env) fp) vx tv) (hs : ∀ x, foldedSetIterable iter X.env x = pure x := by intro _; rfl) :
    PS X (.Assign [.Name y py] (.DictComp kx vx [⟨tg, iter, ifs, 0⟩] scope pos) spos) (tAsg (tDc wi g tt tk tv (own.map (·.2))) (gName i)) := by
  refine ⟨fun pins s σ H D I h => ?_⟩
  rw [exec_Assign_Name_used _ _ _ _ hsw]
  refine wpAny_bind (wpAny_standAt (wpAny_bind ?_))
  show wpAny _ X.A (do let _ ← comprehension (.DictComp kx vx [⟨tg, iter, ifs, 0⟩] scope pos) scope X.env (firstIterPos [⟨tg, iter, ifs, 0⟩] pos) newDict false (eval iter X.env) (some (assign (.Name y py) X.env))) _ _ s
  have h : tDc wi g tt tk tv (own.map (·.2)) σ H (fun x H1 => gName i x σ H1 D.nx) := h
  refine wpAny_bind (thn (dc_core (Qf := fun _ s' => SP X pins D .next s') hc hN I hi ok hg ht hk he hs h fun L C s' m H' I' q hn f => ?_) fun _ s' hq => wpAny_pure (wpAny_pure hq))
  show wpAny _ _ (assign (.Name y py) X.env (.ref L)) _ _ _
  refine wpAny_assign_Name (store_ok2 (v := V.ref L) I' hN hy (.inl hyl) rfl (fun s2 I2 ⟨a, sb, ha⟩ => ?_) (.inr hyl))
  obtain ⟨f0, f1, f2, f3, f4, f5⟩ := f
  have haC : C ≠ a := by
    rcases ha with z | z
    · rw [z]; exact f1
    · exact fun e => f4 y a z e.symm
  refine ⟨m, hn.sameBut sb haC, fun h3 sb3 => ?_⟩
  exact ⟨_, H', I2.turned (t' := s2.toks) (fun b o hb e => (sb3.2 b hb).trans e) f0 f1 f3 f4 f5, q⟩
theorem sw_trueD {kx vx : Expr} {gs : List Comprehension} {scope : Scope} {pos py : Pos} {y : Str} {l : Nat} {env : Env} (hk : env.scope.kind = .function) (hy : env.scope.names.lookup y = some .local) (hl : (py.line == pos.line) = true)
    (ha : (scope.names.any fun (n, k) => n == y && (k == .local || k == .cell)) = false) : swapsWith (.DictComp kx vx gs scope pos) (some (.Name y py)) l env = pure true := by
  have ky : env.kindOf y = some .local := hy
  have hb : env.blockKind = .function := by unfold Env.blockKind; rw [hk]; rfl
  unfold swapsWith
  simp only [hb, ky, ha, Expr.pos, hl]
  rfl
end
end DcS
namespace ZG
open PySem PySem.Spec PyProof.Rows L2
/-! ### zip of two rows, each a list or a tuple; the target any -/
def ItAt (t : Bool) (h : Heap) (i l : Addr) (k : Nat) : Prop := match t with
  | true => h.IsTupleIter i l k
  | false => h.IsListIter i l k
def SeqIs (t : Bool) (h : Heap) (l : Addr) (xs : Array Value) : Prop := match t with
  | true => h.IsTuple l xs
  | false => h.IsList l xs
def Sq (t : Bool) (K : PySem.W.Frag) (H : Hp) (a : Addr) (xs : List V) : Prop := match t with
  | true => SqT K H a xs
  | false => SqL K H a xs
theorem ItAt.on {t : Bool} {h h' : Heap} {i l : Addr} {k : Nat} (x : ItAt t h i l k) (e : ∀ o, h.get? i = some o → h'.get? i = some o) : ItAt t h' i l k := by
  cases t
  · exact Heap.IsListIter.at x e
  · exact Heap.IsTupleIter.at x e
theorem ItAt.get {t : Bool} {h : Heap} {i l : Addr} {k : Nat} (x : ItAt t h i l k) : ∃ o fs, h.get? i = some o ∧ o.data = .fields fs := by
  cases t <;> (obtain ⟨o, e, _, d⟩ := x; exact ⟨o, _, e, d⟩)
theorem SeqIs.on {t : Bool} {h h' : Heap} {b l : Addr} {xs : Array Value} (x : SeqIs t h l xs) (hs : Heap.ExtBut b h h') (ne : l ≠ b) : SeqIs t h' l xs := by
  cases t
  · exact Heap.IsList.extBut x hs ne
  · exact Heap.IsTuple.extBut x hs ne
theorem SeqIs.push {t : Bool} {h : Heap} {l : Addr} {xs : Array Value} (x : SeqIs t h l xs) (o : Obj) : SeqIs t (h.push o) l xs := by
  cases t
  · exact Heap.IsList.push x o
  · exact Heap.IsTuple.push x o
theorem SeqIs.lt {t : Bool} {h : Heap} {l : Addr} {xs : Array Value} (x : SeqIs t h l xs) : l < h.objs.size := by
  cases t <;> (obtain ⟨o, e, _⟩ := x; exact Heap.lt_size e)
abbrev itObj (t : Bool) (l : Addr) : Obj := { cls := .type (if t then "tuple_iterator" else "list_iterator"), data := .fields #[.ref l, .int 0 0] }
theorem itAt_new (t : Bool) {h : Heap} {i l : Addr} (e : h.get? i = some (itObj t l)) : ItAt t h i l 0 := by
  cases t <;> exact ⟨_, e, rfl, rfl⟩
section
variable {prog : Program} {w : World} {A : Around} {E : Value → Shared → Prop} {s : Shared}
theorem nextIn_item {t : Bool} {i l : Addr} {k : Nat} {xs : Array Value} {x : Value} {Q : Value → Shared → Prop} (h1 : ItAt t s.heap i l k) (h2 : SeqIs t s.heap l xs) (hx : xs[k]? = some x)
    (q : ∀ h', ItAt t h' i l (k + 1) → Heap.SameBut i s.heap h' → Q x { s with heap := h' }) : wpAny (model prog w) A (Builtin.SmallTypes.nextOf (.ref i)) Q E s := by
  cases t
  · exact wpAny_nextOf_list_item h1 h2 hx q
  · exact RZ.nextOf_tuple_item h1 h2 hx q
theorem nextIn_end {t : Bool} {i l : Addr} {k : Nat} {xs : Array Value} {Q : Value → Shared → Prop} (hh : A.handled = none) (h1 : ItAt t s.heap i l k) (h2 : SeqIs t s.heap l xs) (hx : xs[k]? = none)
    (q : ∀ h' e, Heap.ExtBut i s.heap h' → (∃ o, h'.get? e = some o ∧ o.cls = .type "StopIteration") → E (.ref e) { s with heap := h' }) : wpAny (model prog w) A (Builtin.SmallTypes.nextOf (.ref i)) Q E s := by
  cases t
  · exact wpAny_nextOf_list_end hh h1 h2 hx q
  · exact RZ.nextOf_tuple_end hh h1 h2 hx q
/-- the zip at z: f0 tells which tuple it gave out -/
abbrev ZipSt (h : Heap) (z TI TO : Addr) (f0 : Value) (f : Bool) : Prop :=
  h.get? z = some { cls := .type "zip", dict := none, data := .fields #[f0, .bool f, .bool false, .ref TI, .ref TO], slots := #[] }
def Gave (f0 : Value) : Prop := f0 = .none ∨ ∃ T : Addr, f0 = rawInt T
theorem gave_free {z TI TO : Addr} {f0 : Value} {f : Bool} {Q : Bool → Shared → Prop} (hz : ZipSt s.heap z TI TO f0 f) (g : Gave f0) (q1 : Q true s)
    (q2 : ∀ h', ZipSt h' z TI TO f0 true → Heap.SameBut z s.heap h' → Q false { s with heap := h' }) : wpAny (model prog w) A (Builtin.SmallTypes.ownedTupleIsFree (.ref z)) Q E s := by
  unfold Builtin.SmallTypes.ownedTupleIsFree
  rcases g with rfl | ⟨T, rfl⟩
  · exact wpAny_bind (wpAny_field hz rfl (x := .none) rfl (wpAny_pure q1))
  refine wpAny_bind (wpAny_field hz rfl (x := rawInt T) rfl ?_)
  show wpAny _ _ (loadIfAlive ((T : Int).toNat) >>= _) _ _ _
  rw [Int.toNat_natCast]
  have k : ∀ {Q' : Option Obj → Shared → Prop}, Q' (s.heap.get? T) s → wpAny (model prog w) A (loadIfAlive T) Q' E s := fun h => fun _ _ _ => h
  refine wpAny_bind (k ?_)
  cases s.heap.get? T with
  | none =>
    simp only [Option.isNone_none, if_true]
    exact wpAny_pure q1
  | some oT =>
    simp only [Option.isNone_some, Bool.false_eq_true, if_false]
    refine wpAny_bind (wpAny_field hz rfl (x := .bool f) rfl ?_)
    cases f with
    | true =>
      rw [if_neg (show ¬ ((Value.bool true != Value.bool true) = true) from Bool.false_ne_true)]
      exact wpAny_pure (q2 s.heap hz (Heap.SameBut.refl _ _))
    | false =>
      rw [if_pos (show (Value.bool false != Value.bool true) = true from rfl)]
      exact wpAny_bind (wpAny_setField_rec hz (by simp) fun h₁ z1 s1 => wpAny_pure (q2 h₁ z1 s1))
/-- a zip that has an item left -/
theorem zipG_item {t1 t2 : Bool} {z TI TO i1 i2 l1 l2 : Addr} {f0 : Value} {f : Bool} {k1 k2 : Nat} {xs ys : Array Value} {x y a b : Value} {Q : Option Value → Shared → Prop} (D : ZipApart z TI TO i1 i2 l1 l2)
    (hz : ZipSt s.heap z TI TO f0 f) (g : Gave f0) (hTI : IsPair s.heap TI (.ref i1) (.ref i2)) (hTO : IsPair s.heap TO a b)
    (h1 : ItAt t1 s.heap i1 l1 k1) (h2 : ItAt t2 s.heap i2 l2 k2) (hl1 : SeqIs t1 s.heap l1 xs) (hl2 : SeqIs t2 s.heap l2 ys) (hx : xs[k1]? = some x) (hy : ys[k2]? = some y)
    (hQ : ∀ h' f0' f', ZipSt h' z TI TO f0' f' → Gave f0' → (∃ a b, IsPair h' TO a b) → ItAt t1 h' i1 l1 (k1 + 1) → ItAt t2 h' i2 l2 (k2 + 1) → IsPair h' s.heap.objs.size x y → h'.objs.size = s.heap.objs.size + 1 →
      (∀ c o, c ≠ z → c ≠ TO → c ≠ i1 → c ≠ i2 → s.heap.get? c = some o → h'.get? c = some o) → Q (some (.ref s.heap.objs.size)) { s with heap := h' }) :
    wpAny (model prog w) A (pyNext (.ref z)) Q E s := by
  have hT : s.TypeIs (.ref z) "zip" := ⟨_, hz, rfl⟩
  unfold pyNext
  refine wpAny_bind (wpAny_attempt (wpAny_callSpecial?_slot (name := Str.ofString "__next__") hT F.slot_zip_next (wpAny_call_entry F.slot_zip_next hT F.entry_zip_next ?_ (F.args_zip_next_1 _))))
  show wpAny _ _ (field (.ref z) 2 >>= _) _ _ _
  refine wpAny_bind (wpAny_field hz rfl (x := .bool false) rfl ?_)
  show wpAny _ _ (field (.ref z) 3 >>= _) _ _ _
  refine wpAny_bind (wpAny_field hz rfl (x := .ref TI) rfl ?_)
  refine wpAny_bind (wpAny_seqItems hTI rfl ?_)
  refine wpAny_bind (gave_free (z := z) hz g ?free fun u1 z1 s1 => ?held)
  case free =>
    simp only [if_true]
    refine wpAny_bind (wpAny_rule ?_)
    refine wpAny_bind (wpAny_field hz rfl (x := .ref TO) rfl ?_)
    refine wpAny_bind (wpAny_setField_rec hz (by simp) fun u1 z1 s1 => ?_)
    replace z1 : ZipSt u1 z TI TO .ellipsis f := z1
    refine wpAny_bind ?_
    simp only [List.zipIdx_cons, List.zipIdx_nil, List.forIn_cons, List.forIn_nil]
    refine wpAny_bind (wpAny_bind (wpAny_onRaise ?_))
    show wpAny _ _ (Builtin.SmallTypes.nextOf (.ref i1) >>= _) _ _ _
    refine wpAny_bind (nextIn_item (h1.on fun o e => s1.extBut _ _ D.i1z e) (hl1.on s1.extBut D.l1z) hx fun u2 a2 s2 => wpAny_pure ?_)
    have p2 : IsPair u2 TO a b := s2.extBut _ _ D.TOi1 (s1.extBut _ _ D.TOz hTO)
    refine wpAny_bind (wpAny_seqItems p2 rfl ?_)
    refine wpAny_bind (wpAny_updateSeq_pair p2 fun u3 p3 s3 => ?_)
    replace p3 : IsPair u3 TO x b := p3
    refine wpAny_bind (wpAny_letGo (wpAny_pure ?_))
    refine wpAny_bind (wpAny_bind (wpAny_onRaise ?_))
    show wpAny _ _ (Builtin.SmallTypes.nextOf (.ref i2) >>= _) _ _ _
    refine wpAny_bind (nextIn_item (h2.on fun o e => s3.extBut _ _ D.TOi2.symm (s2.extBut _ _ D.i12.symm (s1.extBut _ _ D.i2z e)))
      (((hl2.on s1.extBut D.l2z).on s2.extBut D.l2i1).on s3.extBut D.l2TO) hy fun u4 a4 s4 => wpAny_pure ?_)
    have p4 : IsPair u4 TO x b := s4.extBut _ _ D.TOi2 p3
    refine wpAny_bind (wpAny_seqItems p4 rfl ?_)
    refine wpAny_bind (wpAny_updateSeq_pair p4 fun u5 p5 s5 => ?_)
    replace p5 : IsPair u5 TO x y := p5
    refine wpAny_bind (wpAny_letGo (wpAny_pure (wpAny_pure ?_)))
    refine wpAny_bind (wpAny_seqItems p5 rfl ?_)
    refine wpAny_bind (wpAny_newTuple ?_)
    have sz : u5.objs.size = s.heap.objs.size := by rw [s5.1, s4.1, s3.1, s2.1, s1.1]
    have z5 : ZipSt u5 z TI TO .ellipsis f := s5.extBut _ _ D.TOz.symm (s4.extBut _ _ D.i2z.symm (s3.extBut _ _ D.TOz.symm (s2.extBut _ _ D.i1z.symm z1)))
    have k5 : ∀ c o, c ≠ z → c ≠ TO → c ≠ i1 → c ≠ i2 → s.heap.get? c = some o → u5.get? c = some o := fun c o c1 c2 c3 c4 e =>
      s5.extBut _ _ c2 (s4.extBut _ _ c4 (s3.extBut _ _ c2 (s2.extBut _ _ c3 (s1.extBut _ _ c1 e))))
    have b1 : ItAt t1 u5 i1 l1 (k1 + 1) := a2.on fun o e => s5.extBut _ _ D.TOi1.symm (s4.extBut _ _ D.i12 (s3.extBut _ _ D.TOi1.symm e))
    have b2 : ItAt t2 u5 i2 l2 (k2 + 1) := a4.on fun o e => s5.extBut _ _ D.TOi2.symm e
    have zl : z < u5.objs.size := Heap.lt_size z5
    show wpAny _ _ (Builtin.SmallTypes.ownedTupleHandOut (.ref z) (.ref u5.objs.size) >>= _) _ _ _
    refine wpAny_bind ?_
    unfold Builtin.SmallTypes.ownedTupleHandOut
    have z6 : ZipSt (u5.push { cls := .type "tuple", data := .seq #[x, y] }) z TI TO .ellipsis f := Heap.get?_push_of_some _ z5
    refine wpAny_bind (wpAny_setField_rec z6 (by simp) fun u7 z7 s7 => ?_)
    replace z7 : ZipSt u7 z TI TO (rawInt u5.objs.size) f := z7
    refine wpAny_setField_rec z7 (by simp) fun u8 z8 s8 => ?_
    replace z8 : ZipSt u8 z TI TO (rawInt u5.objs.size) false := z8
    have up : ∀ c o, c ≠ z → u5.get? c = some o → u8.get? c = some o := fun c o c1 e => s8.extBut _ _ c1 (s7.extBut _ _ c1 (Heap.get?_push_of_some _ e))
    have t8 : IsPair u8 u5.objs.size x y := s8.extBut _ _ (Nat.ne_of_gt zl) (s7.extBut _ _ (Nat.ne_of_gt zl) (Heap.get?_push_size _ rfl))
    have n8 : u8.objs.size = u5.objs.size + 1 := by rw [s8.1, s7.1, Heap.size_push]
    rw [sz] at z8 t8 n8
    refine wpAny_pure ⟨_, rfl, wpAny_pure ?_⟩
    show Q (some (.ref u5.objs.size)) _
    rw [sz]
    exact hQ u8 _ _ z8 (.inr ⟨_, rfl⟩) ⟨_, _, up _ _ D.TOz p5⟩ (b1.on fun o e => up _ o D.i1z e) (b2.on fun o e => up _ o D.i2z e) t8 n8 fun c o c1 c2 c3 c4 e => up c o c1 (k5 c o c1 c2 c3 c4 e)
  case held =>
    simp only [Bool.false_eq_true, if_false]
    refine wpAny_bind ?_
    rw [← Array.forIn_toList]
    simp only [List.forIn_cons, List.forIn_nil]
    refine wpAny_bind (wpAny_bind (wpAny_holding ?_))
    show wpAny _ _ (Builtin.SmallTypes.nextOf (.ref i1) >>= _) _ _ _
    refine wpAny_bind (nextIn_item (s := { s with heap := u1 }) (h1.on fun o e => s1.extBut _ _ D.i1z e) (hl1.on s1.extBut D.l1z) hx fun u2 a2 s2 => wpAny_pure ?_)
    refine wpAny_pure ?_
    refine wpAny_bind (wpAny_bind (wpAny_holding ?_))
    show wpAny _ _ (Builtin.SmallTypes.nextOf (.ref i2) >>= _) _ _ _
    refine wpAny_bind (nextIn_item (s := { s with heap := u2 }) (h2.on fun o e => s2.extBut _ _ D.i12.symm (s1.extBut _ _ D.i2z e)) ((hl2.on s1.extBut D.l2z).on s2.extBut D.l2i1) hy fun u3 a3 s3 => wpAny_pure ?_)
    refine wpAny_pure (wpAny_pure ?_)
    show wpAny _ _ (newTuple [x, y] >>= _) _ _ _
    refine wpAny_bind (wpAny_newTuple ?_)
    have sz : u3.objs.size = s.heap.objs.size := by rw [s3.1, s2.1, s1.1]
    have z3 : ZipSt u3 z TI TO f0 true := s3.extBut _ _ D.i2z.symm (s2.extBut _ _ D.i1z.symm z1)
    have k3 : ∀ c o, c ≠ z → c ≠ TO → c ≠ i1 → c ≠ i2 → s.heap.get? c = some o → u3.get? c = some o := fun c o c1 _ c2 c3 e => s3.extBut _ _ c3 (s2.extBut _ _ c2 (s1.extBut _ _ c1 e))
    have b1 : ItAt t1 u3 i1 l1 (k1 + 1) := a2.on fun o e => s3.extBut _ _ D.i12 e
    refine wpAny_pure ⟨_, rfl, wpAny_pure ?_⟩
    show Q (some (.ref u3.objs.size)) _
    have hp : IsPair (u3.push { cls := .type "tuple", data := .seq #[x, y] }) u3.objs.size x y := Heap.get?_push_size _ rfl
    have n4 : (u3.push { cls := .type "tuple", data := .seq #[x, y] }).objs.size = u3.objs.size + 1 := Heap.size_push ..
    have pTO : IsPair u3 TO a b := s3.extBut _ _ D.TOi2 (s2.extBut _ _ D.TOi1 (s1.extBut _ _ D.TOz hTO))
    rw [sz] at hp n4 ⊢
    exact hQ _ _ _ (Heap.get?_push_of_some _ z3) g ⟨a, b, Heap.get?_push_of_some _ pTO⟩ (b1.on fun o e => Heap.get?_push_of_some _ e) (a3.on fun o e => Heap.get?_push_of_some _ e) hp n4 fun c o c1 c2 c3 c4 e => Heap.get?_push_of_some _ (k3 c o c1 c2 c3 c4 e)
/-- a zip that is through -/
theorem zipG_end {t1 t2 : Bool} {z TI TO i1 i2 l1 l2 : Addr} {f0 : Value} {f : Bool} {k1 k2 : Nat} {xs ys : Array Value} {a b : Value} {Q : Option Value → Shared → Prop} (hh : A.handled = none) (D : ZipApart z TI TO i1 i2 l1 l2)
    (hz : ZipSt s.heap z TI TO f0 f) (g : Gave f0) (hTI : IsPair s.heap TI (.ref i1) (.ref i2)) (hTO : IsPair s.heap TO a b)
    (h1 : ItAt t1 s.heap i1 l1 k1) (h2 : ItAt t2 s.heap i2 l2 k2) (hl1 : SeqIs t1 s.heap l1 xs) (hl2 : SeqIs t2 s.heap l2 ys) (hend : xs[k1]? = none ∨ ys[k2]? = none)
    (hQ : ∀ h', (∀ c o, c ≠ z → c ≠ TO → c ≠ i1 → c ≠ i2 → s.heap.get? c = some o → h'.get? c = some o) → Q none { s with heap := h' }) :
    wpAny (model prog w) A (pyNext (.ref z)) Q E s := by
  have hT : s.TypeIs (.ref z) "zip" := ⟨_, hz, rfl⟩
  have fin : ∀ (h' : Heap) (e : Addr), (∀ c o, c ≠ z → c ≠ TO → c ≠ i1 → c ≠ i2 → s.heap.get? c = some o → h'.get? c = some o) → (∃ o, h'.get? e = some o ∧ o.cls = .type "StopIteration") →
      wpAny (model prog w) A (isInstance (.ref e) (.type "StopIteration")) (fun v s' => v = true ∧ s' = { s with heap := h' }) E { s with heap := h' } := fun h' e _ he => by
    obtain ⟨o, ho, hc⟩ := he
    exact wpAny_isInstance (T := "StopIteration") (b := true) ⟨o, ho, hc⟩ isSubtype_stop ⟨rfl, rfl⟩
  unfold pyNext
  refine wpAny_bind (wpAny_attempt (wpAny_callSpecial?_slot (name := Str.ofString "__next__") hT F.slot_zip_next (wpAny_call_entry F.slot_zip_next hT F.entry_zip_next ?_ (F.args_zip_next_1 _))))
  show wpAny _ _ (field (.ref z) 2 >>= _) _ _ _
  refine wpAny_bind (wpAny_field hz rfl (x := .bool false) rfl ?_)
  show wpAny _ _ (field (.ref z) 3 >>= _) _ _ _
  refine wpAny_bind (wpAny_field hz rfl (x := .ref TI) rfl ?_)
  refine wpAny_bind (wpAny_seqItems hTI rfl ?_)
  refine wpAny_bind (gave_free (z := z) hz g ?free fun u1 z1 s1 => ?held)
  case free =>
    simp only [if_true]
    refine wpAny_bind (wpAny_rule ?_)
    refine wpAny_bind (wpAny_field hz rfl (x := .ref TO) rfl ?_)
    refine wpAny_bind (wpAny_setField_rec hz (by simp) fun u1 z1 s1 => ?_)
    replace z1 : ZipSt u1 z TI TO .ellipsis f := z1
    refine wpAny_bind ?_
    simp only [List.zipIdx_cons, List.zipIdx_nil, List.forIn_cons, List.forIn_nil]
    refine wpAny_bind (wpAny_bind (wpAny_onRaise ?_))
    show wpAny _ _ (Builtin.SmallTypes.nextOf (.ref i1) >>= _) _ _ _
    cases hx : xs[k1]? with
    | none =>
      refine wpAny_bind (nextIn_end hh (h1.on fun o e => s1.extBut _ _ D.i1z e) (hl1.on s1.extBut D.l1z) hx fun u2 e s2 he => ?_)
      obtain ⟨oe, hoe, hce⟩ := he
      have z2 : ZipSt u2 z TI TO .ellipsis f := s2 _ _ D.i1z.symm z1
      have hez : e ≠ z := fun x => by subst x; rw [z2] at hoe; cases hoe; simp at hce
      refine wpAny_setField_rec z2 (by simp) fun u3 _ s3 => ?_
      refine wpAny_bind (wpAny_isInstance (T := "StopIteration") (b := true) ⟨oe, s3.extBut _ _ hez hoe, hce⟩ isSubtype_stop ?_)
      exact wpAny_pure (hQ u3 fun c o c1 _ c3 _ x => s3.extBut _ _ c1 (s2 _ _ c3 (s1.extBut _ _ c1 x)))
    | some x =>
      have hy : ys[k2]? = none := by rcases hend with h | h; rw [hx] at h; cases h; exact h
      refine wpAny_bind (nextIn_item (h1.on fun o e => s1.extBut _ _ D.i1z e) (hl1.on s1.extBut D.l1z) hx fun u2 a2 s2 => wpAny_pure ?_)
      have p2 : IsPair u2 TO a b := s2.extBut _ _ D.TOi1 (s1.extBut _ _ D.TOz hTO)
      refine wpAny_bind (wpAny_seqItems p2 rfl ?_)
      refine wpAny_bind (wpAny_updateSeq_pair p2 fun u3 p3 s3 => ?_)
      refine wpAny_bind (wpAny_letGo (wpAny_pure ?_))
      refine wpAny_bind (wpAny_bind (wpAny_onRaise ?_))
      show wpAny _ _ (Builtin.SmallTypes.nextOf (.ref i2) >>= _) _ _ _
      refine wpAny_bind (nextIn_end hh (h2.on fun o e => s3.extBut _ _ D.TOi2.symm (s2.extBut _ _ D.i12.symm (s1.extBut _ _ D.i2z e)))
        (((hl2.on s1.extBut D.l2z).on s2.extBut D.l2i1).on s3.extBut D.l2TO) hy fun u4 e s4 he => ?_)
      obtain ⟨oe, hoe, hce⟩ := he
      have z4 : ZipSt u4 z TI TO .ellipsis f := s4 _ _ D.i2z.symm (s3.extBut _ _ D.TOz.symm (s2.extBut _ _ D.i1z.symm z1))
      have hez : e ≠ z := fun x => by subst x; rw [z4] at hoe; cases hoe; simp at hce
      refine wpAny_setField_rec z4 (by simp) fun u5 _ s5 => ?_
      refine wpAny_bind (wpAny_isInstance (T := "StopIteration") (b := true) ⟨oe, s5.extBut _ _ hez hoe, hce⟩ isSubtype_stop ?_)
      exact wpAny_pure (hQ u5 fun c o c1 c2 c3 c4 x => s5.extBut _ _ c1 (s4 _ _ c4 (s3.extBut _ _ c2 (s2.extBut _ _ c3 (s1.extBut _ _ c1 x)))))
  case held =>
    simp only [Bool.false_eq_true, if_false]
    refine wpAny_bind ?_
    rw [← Array.forIn_toList]
    simp only [List.forIn_cons, List.forIn_nil]
    refine wpAny_bind (wpAny_bind (wpAny_holding ?_))
    show wpAny _ _ (Builtin.SmallTypes.nextOf (.ref i1) >>= _) _ _ _
    cases hx : xs[k1]? with
    | none =>
      refine wpAny_bind (nextIn_end (s := { s with heap := u1 }) hh (h1.on fun o e => s1.extBut _ _ D.i1z e) (hl1.on s1.extBut D.l1z) hx fun u2 e s2 he => ?_)
      obtain ⟨oe, hoe, hce⟩ := he
      refine wpAny_bind (wpAny_isInstance (T := "StopIteration") (b := true) ⟨oe, hoe, hce⟩ isSubtype_stop ?_)
      exact wpAny_pure (hQ u2 fun c o c1 _ c3 _ x => s2 _ _ c3 (s1.extBut _ _ c1 x))
    | some x =>
      have hy : ys[k2]? = none := by rcases hend with h | h; rw [hx] at h; cases h; exact h
      refine wpAny_bind (nextIn_item (s := { s with heap := u1 }) (h1.on fun o e => s1.extBut _ _ D.i1z e) (hl1.on s1.extBut D.l1z) hx fun u2 a2 s2 => wpAny_pure ?_)
      refine wpAny_pure ?_
      refine wpAny_bind (wpAny_bind (wpAny_holding ?_))
      show wpAny _ _ (Builtin.SmallTypes.nextOf (.ref i2) >>= _) _ _ _
      refine wpAny_bind (nextIn_end (s := { s with heap := u2 }) hh (h2.on fun o e => s2.extBut _ _ D.i12.symm (s1.extBut _ _ D.i2z e)) ((hl2.on s1.extBut D.l2z).on s2.extBut D.l2i1) hy fun u3 e s3 he => ?_)
      obtain ⟨oe, hoe, hce⟩ := he
      refine wpAny_bind (wpAny_isInstance (T := "StopIteration") (b := true) ⟨oe, hoe, hce⟩ isSubtype_stop ?_)
      exact wpAny_pure (hQ u3 fun c o c1 _ c3 c4 x => s3 _ _ c4 (s2.extBut _ _ c3 (s1.extBut _ _ c1 x)))
/-- what is done with the tuple that it gave out ahead of a target -/
theorem goG {tg : Expr} {z TI TO T : Addr} {f0 : Value} {f : Bool} {Q : Unit → Shared → Prop} (hz : ZipSt s.heap z TI TO f0 f) (g : Gave f0)
    (hQ : ∀ h' f0', ZipSt h' z TI TO f0' f → Gave f0' → Heap.SameBut z s.heap h' → Q () { s with heap := h' }) : wpAny (model prog w) A (letOwnedTupleGo tg (.ref z) (.ref T)) Q E s := by
  have q0 : Q () s := hQ s.heap f0 hz g (Heap.SameBut.refl _ _)
  unfold letOwnedTupleGo
  cases tg <;> first
    | exact wpAny_pure q0
    | (refine wpAny_bind (wpAny_load hz ?_)
       show wpAny _ _ (if (["enumerate", "zip", "dict_itemiterator", "dict_reverseitemiterator", "odict_iterator", "itertools.zip_longest", "itertools.pairwise"].contains "zip" && (#[f0, .bool f, .bool false, .ref TI, .ref TO] : Array Value)[0]? == some (rawInt T)) = true then _ else _) Q E s
       split
       · refine wpAny_bind (wpAny_rule ?_)
         show wpAny _ _ (setField (.ref z) 0 .none) Q E s
         exact wpAny_setField_rec hz (by simp) fun h' z' s' => hQ h' .none z' (.inl rfl) s'
       · exact wpAny_pure q0)
abbrev zG1 (t : Bool) (h : Heap) (l1 : Addr) : Heap := h.push (itObj t l1)
abbrev zG2 (t1 t2 : Bool) (h : Heap) (l1 l2 : Addr) : Heap := (zG1 t1 h l1).push (itObj t2 l2)
abbrev zG3 (t1 t2 : Bool) (h : Heap) (l1 l2 : Addr) : Heap := (zG2 t1 t2 h l1 l2).push { cls := .type "tuple", data := .seq #[.ref h.objs.size, .ref (zG1 t1 h l1).objs.size] }
abbrev zG4 (t1 t2 : Bool) (h : Heap) (l1 l2 : Addr) : Heap := (zG3 t1 t2 h l1 l2).push { cls := .type "tuple", data := .seq #[.none, .none] }
abbrev zG5 (t1 t2 : Bool) (h : Heap) (l1 l2 : Addr) : Heap := (zG4 t1 t2 h l1 l2).push { cls := .type "zip", data := .fields #[.none, .bool false, .bool false, .ref (zG2 t1 t2 h l1 l2).objs.size, .ref (zG3 t1 t2 h l1 l2).objs.size] }
theorem iterG {t : Bool} {l : Addr} {xs : Array Value} {Q : Value → Shared → Prop} (hl : SeqIs t s.heap l xs) (q : Q (.ref s.heap.objs.size) { s with heap := s.heap.push (itObj t l) }) : wpAny (model prog w) A (pyIter (.ref l)) Q E s := by
  cases t
  · exact wpAny_pyIter_list hl q
  · exact wpAny_pyIter_tuple hl q
end
theorem meets_zipG (t1 t2 : Bool) (l1 l2 : Addr) (xs ys : Array Value) :
    Meets (Builtin.«zip.__new__» ⟨[.type "zip", .ref l1, .ref l2], []⟩) (fun _ R s => SeqIs t1 s.heap l1 xs ∧ SeqIs t2 s.heap l2 ys ∧
      R (.ok (.ret (.ref (zG4 t1 t2 s.heap l1 l2).objs.size))) { s with heap := zG5 t1 t2 s.heap l1 l2 }) :=
  .of_wp fun prog w A R s h => by
    obtain ⟨hp, g, d, tk, os⟩ := s
    obtain ⟨hl1, hl2, h⟩ := h
    have hsub := sub_zip
    have q1 : SeqIs t1 (Shared.heap ⟨hp, g, d, tk, os⟩) l1 xs := hl1
    have q2 : SeqIs t2 (Shared.heap ⟨hp.push (itObj t1 l1), g, d, tk, os⟩) l2 ys := SeqIs.push hl2 _
    wp_walk using iterG q1, iterG q2
    exact ⟨_, rfl, h⟩
theorem call_zipG {prog : Program} {w : World} {A : Around} {E : Value → Shared → Prop} {s : Shared} {t1 t2 : Bool} {l1 l2 : Addr} {xs ys : Array Value} {Q : Value → Shared → Prop} (hl1 : SeqIs t1 s.heap l1 xs) (hl2 : SeqIs t2 s.heap l2 ys)
    (h : ∀ h', ZipSt h' (s.heap.objs.size + 4) (s.heap.objs.size + 2) (s.heap.objs.size + 3) .none false → IsPair h' (s.heap.objs.size + 2) (.ref s.heap.objs.size) (.ref (s.heap.objs.size + 1)) →
      IsPair h' (s.heap.objs.size + 3) .none .none → ItAt t1 h' s.heap.objs.size l1 0 → ItAt t2 h' (s.heap.objs.size + 1) l2 0 →
      (∀ c o, s.heap.get? c = some o → h'.get? c = some o) → Q (.ref (s.heap.objs.size + 4)) { s with heap := h' }) :
    wpAny (model prog w) A (call (.type "zip") [.ref l1, .ref l2]) Q E s := by
  refine callType_new F.called_zip (by decide) (F.typeCall_zip_2 _ _) (F.newCall_zip_2 _ _) (fun obj => F.args_object_init_3 obj _ _) F.entry_zip_new (meets_zipG t1 t2 l1 l2 xs ys) ⟨hl1, hl2, ?_⟩
  have z1 : (zG1 t1 s.heap l1).objs.size = s.heap.objs.size + 1 := Heap.size_push ..
  have z2 : (zG2 t1 t2 s.heap l1 l2).objs.size = s.heap.objs.size + 2 := by rw [Heap.size_push, z1]
  have z3 : (zG3 t1 t2 s.heap l1 l2).objs.size = s.heap.objs.size + 3 := by rw [Heap.size_push, z2]
  have z4 : (zG4 t1 t2 s.heap l1 l2).objs.size = s.heap.objs.size + 4 := by rw [Heap.size_push, z3]
  have g5 : (zG5 t1 t2 s.heap l1 l2).get? (zG4 t1 t2 s.heap l1 l2).objs.size = some _ := Heap.get?_push_size _ rfl
  have g4 : (zG5 t1 t2 s.heap l1 l2).get? (zG3 t1 t2 s.heap l1 l2).objs.size = some _ := Heap.get?_push_of_some _ (Heap.get?_push_size _ rfl)
  have g3 : (zG5 t1 t2 s.heap l1 l2).get? (zG2 t1 t2 s.heap l1 l2).objs.size = some _ := Heap.get?_push_of_some _ (Heap.get?_push_of_some _ (Heap.get?_push_size _ rfl))
  have g2 : (zG5 t1 t2 s.heap l1 l2).get? (zG1 t1 s.heap l1).objs.size = some (itObj t2 l2) := Heap.get?_push_of_some _ (Heap.get?_push_of_some _ (Heap.get?_push_of_some _ (Heap.get?_push_size _ (by cases t2 <;> rfl))))
  have g1 : (zG5 t1 t2 s.heap l1 l2).get? s.heap.objs.size = some (itObj t1 l1) := Heap.get?_push_of_some _ (Heap.get?_push_of_some _ (Heap.get?_push_of_some _ (Heap.get?_push_of_some _ (Heap.get?_push_size _ (by cases t1 <;> rfl)))))
  show _ ∧ _
  rw [z2, z3, z4] at g5
  rw [z1, z2] at g3
  rw [z3] at g4
  rw [z1] at g2
  rw [z4]
  exact ⟨⟨_, g5, rfl⟩, h _ g5 g3 g4 (itAt_new t1 g1) (itAt_new t2 g2) fun c o x =>
    Heap.get?_push_of_some _ (Heap.get?_push_of_some _ (Heap.get?_push_of_some _ (Heap.get?_push_of_some _ (Heap.get?_push_of_some _ x))))⟩
theorem Sq.at {X : Cx} {pins : List (Addr × Obj)} {σ : L2.St} {H : Hp} {s : Shared} {t : Bool} {a : Addr} {xs : List V} (I : Inv X pins σ H s) (h : Sq t X.K H a xs) : ∃ its : List Value, Vals xs its ∧ SeqIs t s.heap a its.toArray := by
  cases t
  · obtain ⟨its, r, p, _⟩ := I.list h
    exact ⟨its, r, p.isList⟩
  · obtain ⟨its, r, p, _⟩ := I.tuple h
    exact ⟨its, r, p⟩
theorem Sq.inj {X : Cx} {pins : List (Addr × Obj)} {σ : L2.St} {H : Hp} {s : Shared} {t : Bool} {a : Addr} {xs ys : List V} (I : Inv X pins σ H s) (h : Sq t X.K H a xs) (h' : Sq t X.K H a ys) : xs = ys := by
  cases t
  · exact I.list_inj h h'
  · exact I.tuple_inj h h'
/-- the rows at a and b as they stand at each turn, the items in new pairs -/
def ItzG (K : PySem.W.Frag) (t1 t2 : Bool) (a b : Addr) : It :=
  ⟨fun i H => ∃ (xs ys : List V) (x y : V), Sq t1 K H a xs ∧ Sq t2 K H b ys ∧ xs[i]? = some x ∧ ys[i]? = some y,
    fun i H v H' => ∃ T x y, v = .ref T ∧ H T = none ∧ H' = upd H T (.tup [x, y]) ∧ (∀ xs, Sq t1 K H a xs → xs[i]? = some x) ∧ ∀ ys, Sq t2 K H b ys → ys[i]? = some y,
    fun i H => ∃ xs ys : List V, Sq t1 K H a xs ∧ Sq t2 K H b ys ∧ (xs.length ≤ i ∨ ys.length ≤ i)⟩
theorem turn_zipG {P : Program} {w : World} {K : PySem.W.Frag} {tg : Expr} {t1 t2 : Bool} {a b z TI TO i1 i2 : Addr} (D : ZipApart z TI TO i1 i2 a b) :
    Turn P w K tg (ItzG K t1 t2 a b) [z, TI, TO, i1, i2] z (fun i h => (∃ f0 f, ZipSt h z TI TO f0 f ∧ Gave f0) ∧ IsPair h TI (.ref i1) (.ref i2) ∧ (∃ x y, IsPair h TO x y) ∧ ItAt t1 h i1 a i ∧ ItAt t2 h i2 b i) where
  mem := by simp
  obj := fun i h st c hc => by
    obtain ⟨⟨f0, f, hz, _⟩, hTI, ⟨x, y, hTO⟩, h1, h2⟩ := st
    obtain ⟨o1, fs1, e1, d1⟩ := h1.get
    obtain ⟨o2, fs2, e2, d2⟩ := h2.get
    have e' : c = z ∨ c = TI ∨ c = TO ∨ c = i1 ∨ c = i2 := by simpa using hc
    rcases e' with q | q | q | q | q
    · rw [q]; exact ⟨_, hz, fun v q => nomatch q⟩
    · rw [q]; exact ⟨_, hTI, fun v q => nomatch q⟩
    · rw [q]; exact ⟨_, hTO, fun v q => nomatch q⟩
    · rw [q]; exact ⟨o1, e1, fun v q => by rw [d1] at q; cases q⟩
    · rw [q]; exact ⟨o2, e2, fun v q => by rw [d2] at q; cases q⟩
  keep := fun i h h' st k => by
    obtain ⟨⟨f0, f, hz, g⟩, hTI, ⟨x, y, hTO⟩, h1, h2⟩ := st
    exact ⟨⟨f0, f, k z (by simp) _ hz, g⟩, k TI (by simp) _ hTI, ⟨x, y, k TO (by simp) _ hTO⟩, h1.on fun o q => k i1 (by simp) o q, h2.on fun o q => k i2 (by simp) o q⟩
  item := by
    intro X hP hw hK hc i pins s σ H E I hf st hg
    subst hP hw hK
    obtain ⟨⟨f0, f, hz, g⟩, hTI, ⟨x0, y0, hTO⟩, h1, h2⟩ := st
    obtain ⟨xs, ys, x, y, hqx, hqy, hx, hy⟩ := hg
    obtain ⟨its, rv, p⟩ := hqx.at I
    obtain ⟨its2, rv2, p2⟩ := hqy.at I
    obtain ⟨u, hu, ru⟩ := rv.get hx
    obtain ⟨u2, hu2, ru2⟩ := rv2.get hy
    have hzl : z < s.heap.objs.size := Heap.lt_size hz
    refine zipG_item D hz g hTI hTO h1 h2 p p2 (x := u) (y := u2) (by simpa using hu) (by simpa using hu2) fun h' f0' f' z' g' TO' h1' h2' hT hsz hk => ?_
    refine ⟨_, rfl, goG (s := { s with heap := h' }) z' g' fun h'' f0'' z'' g'' sb => ?_⟩
    have hT2 : h''.get? s.heap.objs.size = some { cls := .type "tuple", data := .seq #[u, u2] } := (sb.2 _ (Nat.ne_of_gt hzl)).trans hT
    have new : ObjOk X.prog X.w (upd H s.heap.objs.size (.tup [x, y])) h'' s.heap.objs.size (.tup [x, y]) :=
      ⟨by show 2 ≤ sizeLine; decide, [u, u2], .cons ru (.cons ru2 .nil), ⟨_, hT2, rfl, _, rfl⟩⟩
    have I1 : Inv X pins σ (upd H s.heap.objs.size (.tup [x, y])) { s with heap := h'' } :=
      I.turnedNew (t' := s.toks) (ch := [z, TI, TO, i1, i2]) (fun c o hb q => (sb.2 c (fun q' => hb (by simp [q']))).trans (hk c o (fun q' => hb (by simp [q'])) (fun q' => hb (by simp [q'])) (fun q' => hb (by simp [q'])) (fun q' => hb (by simp [q'])) q)) hf (Nat.le_refl _) new
    have TI' : IsPair h' TI (.ref i1) (.ref i2) := hk _ _ D.TIz D.TITO D.TIi1 D.TIi2 hTI
    obtain ⟨x1, y1, TO'⟩ := TO'
    refine ⟨.ref s.heap.objs.size, _, I1, rfl, ⟨_, x, y, rfl, I.hok.fresh (Nat.le_refl _), rfl, fun l hl => by rw [hl.inj I hqx]; exact hx, fun l hl => by rw [hl.inj I hqy]; exact hy⟩, ⟨⟨_, _, z'', g''⟩, ?_, ⟨x1, y1, ?_⟩, ?_, ?_⟩, fun c hcm => ?_⟩
    · exact (sb.2 _ D.TIz).trans TI'
    · exact (sb.2 _ D.TOz).trans TO'
    · exact h1'.on fun o q => (sb.2 _ D.i1z).trans q
    · exact h2'.on fun o q => (sb.2 _ D.i2z).trans q
    · have hlt : c < s.heap.objs.size := by
        obtain ⟨o1, _, e1, _⟩ := h1.get
        obtain ⟨o2, _, e2, _⟩ := h2.get
        have e' : c = z ∨ c = TI ∨ c = TO ∨ c = i1 ∨ c = i2 := by simpa using hcm
        rcases e' with q | q | q | q | q
        · rw [q]; exact hzl
        · rw [q]; exact Heap.lt_size hTI
        · rw [q]; exact Heap.lt_size hTO
        · rw [q]; exact Heap.lt_size e1
        · rw [q]; exact Heap.lt_size e2
      rw [upd_ne (Nat.ne_of_lt hlt)]
      exact (hf c hcm).1
  done := by
    intro X hP hw hK hc i pins s σ H E I hf st hg
    subst hP hw hK
    obtain ⟨⟨f0, f, hz, g⟩, hTI, ⟨x0, y0, hTO⟩, h1, h2⟩ := st
    obtain ⟨xs, ys, hqx, hqy, hend⟩ := hg
    obtain ⟨its, rv, p⟩ := hqx.at I
    obtain ⟨its2, rv2, p2⟩ := hqy.at I
    have l1 := rv.length
    have l2 := rv2.length
    have he : its.toArray[i]? = none ∨ its2.toArray[i]? = none := by
      rcases hend with q | q
      · exact .inl (by simp; omega)
      · exact .inr (by simp; omega)
    exact zipG_end (I.ok.hd hc) D hz g hTI hTO h1 h2 p p2 he fun h' hk => ⟨rfl, I.turnedL (t' := s.toks) (ch := [z, TI, TO, i1, i2]) (fun c o hb q =>
      hk c o (fun q' => hb (by simp [q'])) (fun q' => hb (by simp [q'])) (fun q' => hb (by simp [q'])) (fun q' => hb (by simp [q'])) q) hf⟩
  self := fun A i s Q E st h => by
    obtain ⟨⟨f0, f, hz, g⟩, _⟩ := st
    have hT : s.TypeIs (.ref z) "zip" := ⟨_, hz, rfl⟩
    refine wpAny_pyIter_slot hT F.slot_zip_iter (wpAny_call_entry F.slot_zip_iter hT F.entry_zip_iter ?_ (F.args_zip_iter_1 _))
    show wpAny _ _ (ret (.ref z)) _ _ s
    exact wpAny_pure ⟨_, rfl, "zip", _, hT, F.slot_zip_next.lookup, h⟩
def iZipG (K : PySem.W.Frag) (ta : TA) : TI := fun σ H R => ta σ H fun vs H1 => ∃ (t1 t2 : Bool) (a b : Addr) (xs ys : List V), vs = [.ref a, .ref b] ∧ Sq t1 K H1 a xs ∧ Sq t2 K H1 b ys ∧ R (ItzG K t1 t2 a b) H1
theorem pi_zipG {X : Cx} {tg e e2 : Expr} {ta : TA} {p pos : Pos} (hg : Gl X "zip") (hm : X.mg "zip" = none) (ha : PA X [e, e2] ta)
    (hs : starEach [e, e2] X.env = (false, eval e X.env) :: starEach [e2] X.env := by rfl) (hpl : (backTo pos (starEach [e2] X.env)).any (·.1) = false := by rfl) :
    PI X tg (.Call (.Name "zip" p) [e, e2] [] pos) (iZipG X.K ta) := by
  refine ⟨fun pins s σ H R I h => ?_⟩
  refine Call_ (ld_blt I hg hm PyProof.Rows.boot_zip (PyProof.Rows.callWith_type1 (thn (ha.run pos pins s σ H _ I h) fun us s1 ⟨vs, H1, I1, r1, q1⟩ => ?_) hs hpl))
  obtain ⟨t1, t2, a, b, xs, ys, ex, hqx, hqy, q⟩ := q1
  subst ex
  cases r1 with
  | cons r rr =>
    cases rr with
    | cons r' rr =>
      cases rr
      cases r
      cases r'
      obtain ⟨its, rv, p1⟩ := hqx.at I1
      obtain ⟨its2, rv2, p2⟩ := hqy.at I1
      refine call_zipG p1 p2 fun h' hz hTI hTO h1 h2 hk => ?_
      have hT : Shared.TypeIs { s1 with heap := h' } (.ref (s1.heap.objs.size + 4)) "zip" := ⟨_, hz, rfl⟩
      refine wpAny_pyIter_slot hT F.slot_zip_iter (wpAny_call_entry F.slot_zip_iter hT F.entry_zip_iter ?_ (F.args_zip_iter_1 _))
      show wpAny _ _ (ret (.ref _)) _ _ _
      refine wpAny_pure ⟨_, rfl, "zip", _, hT, F.slot_zip_next.lookup, ?_⟩
      have I2 : Inv X pins σ H1 { s1 with heap := h' } := I1.kept (t' := s1.toks) hk
      refine ⟨s1.heap.objs.size + 4, [s1.heap.objs.size + 4, s1.heap.objs.size + 2, s1.heap.objs.size + 3, s1.heap.objs.size, s1.heap.objs.size + 1], _, _, H1, rfl, I2, turn_zipG (PySem.W.ktu_apart s1.heap.objs.size a b p1.lt p2.lt), ⟨⟨_, _, hz, .inl rfl⟩, hTI, ⟨_, _, hTO⟩, h1, h2⟩, fun c hcm => ?_, q⟩
      have e' : c = s1.heap.objs.size + 4 ∨ c = s1.heap.objs.size + 2 ∨ c = s1.heap.objs.size + 3 ∨ c = s1.heap.objs.size ∨ c = s1.heap.objs.size + 1 := by simpa using hcm
      have hle : s1.heap.objs.size ≤ c := by
        rcases e' with z | z | z | z | z <;> (rw [z]; omega)
      exact I1.fpOk hle (I1.hok.fresh hle)
theorem walk_zipG {K : PySem.W.Frag} {t1 t2 : Bool} {a b : Addr} {xs ys : List V} {n : Nat} (hn : n = min xs.length ys.length) : Walk (ItzG K t1 t2 a b) n (fun H => Sq t1 K H a xs ∧ Sq t2 K H b ys) (YPair (fun i => xs[i]?) (fun i => ys[i]?)) := by
  subst hn
  refine ⟨fun i _ hi q => ?_, fun _ q => ⟨xs, ys, q.1, q.2, by omega⟩, fun i H v H' _ q y => ?_⟩
  · have h1 : i < xs.length := by omega
    have h2 : i < ys.length := by omega
    exact ⟨xs, ys, xs[i], ys[i], q.1, q.2, by simp [h1], by simp [h2]⟩
  · obtain ⟨T, x, z, h1, h2, h3, h4, h5⟩ := y
    exact ⟨T, x, z, h1, h2, h3, h4 xs q.1, h5 ys q.2⟩
end ZG
namespace EnT
open PySem PySem.Spec PyProof.Rows L2
/-! ### enumerate over a tuple -/
theorem meets_enumT (l : Addr) (items : Array Value) :
    Meets (Builtin.«enumerate.__new__» ⟨[.type "enumerate", .ref l], []⟩) (fun _ R s => s.heap.IsTuple l items ∧
      R (.ok (.ret (.ref (s.heap.push { cls := .type "tuple_iterator", data := .fields #[.ref l, .int 0 0] }).objs.size)))
        { s with heap := (s.heap.push { cls := .type "tuple_iterator", data := .fields #[.ref l, .int 0 0] }).push { cls := .type "enumerate", data := .fields #[.none, .bool false, .ref s.heap.objs.size, rawInt 0, .none, .none] } }) :=
  .of_wp fun prog w A R s h => by
    obtain ⟨hp, g, d, tk, os⟩ := s; obtain ⟨hl, h⟩ := h
    have hsub := sub_enumerate
    have q1 : ∀ {A' : Around} {E : Value → Shared → Prop} {Q : Value → Shared → Prop}, Q (.ref hp.objs.size) ⟨hp.push { cls := .type "tuple_iterator", data := .fields #[.ref l, .int 0 0] }, g, d, tk, os⟩ → wpAny (model prog w) A' (pyIter (.ref l)) Q E ⟨hp, g, d, tk, os⟩ :=
      fun q => wpAny_pyIter_tuple (s := ⟨hp, g, d, tk, os⟩) hl q
    wp_walk using q1
    refine wpAny_stack_any fun st => wpAny_pure ?_
    split
    · rename_i c _ _ _ _ _
      cases (c == Value.type "enumerate")
      · wp_walk using q1
        exact ⟨_, rfl, h⟩
      · wp_walk using q1
        exact ⟨_, rfl, h⟩
    · wp_walk using q1
      exact ⟨_, rfl, h⟩
theorem call_enumT {prog : Program} {w : World} {A : Around} {E : Value → Shared → Prop} {s : Shared} {l : Addr} {items : Array Value} {Q : Value → Shared → Prop} (hL : s.heap.IsTuple l items)
    (h : ∀ h', IsEnum h' (s.heap.objs.size + 1) s.heap.objs.size 0 .none → h'.IsTupleIter s.heap.objs.size l 0 → h'.objs.size = s.heap.objs.size + 2 →
      (∀ b o, s.heap.get? b = some o → h'.get? b = some o) → Q (.ref (s.heap.objs.size + 1)) { s with heap := h' }) :
    wpAny (model prog w) A (call (.type "enumerate") [.ref l]) Q E s := by
  refine callType_new F.called_enumerate (by decide) (F.typeCall_enumerate_1 _) (F.newCall_enumerate_1 _) (fun obj => F.args_object_init_2 obj _) F.entry_enumerate_new
    (meets_enumT l items) ⟨hL, ?_⟩
  have hz : (s.heap.push { cls := .type "tuple_iterator", data := .fields #[.ref l, .int 0 0] }).objs.size = s.heap.objs.size + 1 := Heap.size_push ..
  show _ ∧ _
  rw [hz]
  have he : IsEnum ((s.heap.push { cls := .type "tuple_iterator", data := .fields #[.ref l, .int 0 0] }).push
      { cls := .type "enumerate", data := .fields #[.none, .bool false, .ref s.heap.objs.size, rawInt 0, .none, .none] }) (s.heap.objs.size + 1) s.heap.objs.size 0 .none := by
    have := Heap.get?_push_size (s.heap.push { cls := .type "tuple_iterator", data := .fields #[.ref l, .int 0 0] })
      (o := { cls := .type "enumerate", data := .fields #[.none, .bool false, .ref s.heap.objs.size, rawInt 0, .none, .none] }) rfl
    rw [hz] at this; exact this
  refine ⟨⟨_, he, rfl⟩, h _ he ⟨_, Heap.get?_push_of_some _ (Heap.get?_push_size _ rfl), rfl, rfl⟩ (by rw [Heap.size_push, hz]) fun b o x => Heap.get?_push_of_some _ (Heap.get?_push_of_some _ x)⟩
/-- the tuple at a as it stands at each turn, each item in a new pair -/
def IteT (K : PySem.W.Frag) (a : Addr) : It :=
  ⟨fun i H => ∃ (xs : List V) (x : V), SqT K H a xs ∧ xs[i]? = some x, fun i H v H' => ∃ T x, v = .ref T ∧ H T = none ∧ H' = upd H T (.tup [.int (i : Nat), x]) ∧ ∀ xs, SqT K H a xs → xs[i]? = some x, fun i H => ∃ xs : List V, SqT K H a xs ∧ xs.length ≤ i⟩
theorem enumT_end {prog : Program} {w : World} {A : Around} {E : Value → Shared → Prop} {s : Shared} {e it t : Addr} {i : Nat} {items : Array Value} {old : Value} {Q : Option Value → Shared → Prop} (hh : A.handled = none)
    (he : IsEnum s.heap e it i old) (hit : s.heap.IsTupleIter it t i) (ht : s.heap.IsTuple t items) (hx : items[i]? = none)
    (hQ : ∀ h', Heap.ExtBut it s.heap h' → Q none { s with heap := h' }) : wpAny (model prog w) A (pyNext (.ref e)) Q E s := by
  have hT : s.TypeIs (.ref e) "enumerate" := ⟨_, he, rfl⟩
  unfold pyNext
  refine wpAny_bind (wpAny_attempt (wpAny_callSpecial?_slot (name := Str.ofString "__next__") hT F.slot_enumerate_next
    (wpAny_call_entry F.slot_enumerate_next hT F.entry_enumerate_next ?_ (F.args_enumerate_next_1 _))))
  show wpAny _ _ (field (.ref e) 2 >>= _) _ _ _
  refine wpAny_bind (wpAny_field he rfl (x := .ref it) rfl ?_)
  refine wpAny_bind (wpAny_nextOf_tuple_end (A := A.in1) hh hit ht hx fun h' x he' hx' => ?_)
  obtain ⟨o, ho, hc⟩ := hx'
  refine wpAny_bind (wpAny_isInstance (T := "StopIteration") (b := true) ⟨o, ho, hc⟩ isSubtype_stop ?_)
  exact wpAny_pure (hQ _ he')
theorem turn_enumT {P : Program} {w : World} {K : PySem.W.Frag} {elts : List Expr} {kk : Nat} {tpos : Pos} (a e it : Addr) :
    Turn P w K (.Tuple elts kk tpos) (IteT K a) [e, it] e (fun i h => (∃ old, IsEnum h e it ((i : Nat) : Int) old) ∧ h.IsTupleIter it a i ∧ e ≠ it) where
  mem := by simp
  obj := fun i h st b hb => by
    obtain ⟨⟨old, he⟩, ⟨o, ho, hc, hd⟩, _⟩ := st
    have e' : b = e ∨ b = it := by simpa using hb
    rcases e' with z | z
    · rw [z]; exact ⟨_, he, fun v q => nomatch q⟩
    · rw [z]; exact ⟨o, ho, fun v q => by rw [hd] at q; cases q⟩
  keep := fun i h h' st k => let ⟨⟨old, he⟩, hi, hne⟩ := st; ⟨⟨old, k e (by simp) _ he⟩, hi.at fun o q => k it (by simp) o q, hne⟩
  item := by
    intro X hP hw hK hc i pins s σ H E I hf st hg
    subst hP hw hK
    obtain ⟨⟨old, he⟩, hit, hne⟩ := st
    obtain ⟨xs, x, hq, hx⟩ := hg
    obtain ⟨its, rv, p, hz⟩ := I.tuple hq
    obtain ⟨u, hu, ru⟩ := rv.get hx
    have hel : e < s.heap.objs.size := Heap.lt_size he
    have hil : it < s.heap.objs.size := by obtain ⟨_, q, _⟩ := hit; exact Heap.lt_size q
    have hT0 : s.heap.IsTuple a its.toArray := p
    have nae : e ≠ a := fun z => by
      obtain ⟨o, ho, hcl, _⟩ := hT0
      rw [← z, he] at ho
      obtain rfl := Option.some.inj ho
      exact absurd (show Value.type "enumerate" = Value.type "tuple" from hcl) (by decide)
    have nai : a ≠ it := fun z => by
      obtain ⟨o, ho, hcl, _⟩ := hT0
      obtain ⟨o2, ho2, hcl2, _⟩ := hit
      rw [z, ho2] at ho
      obtain rfl := Option.some.inj ho
      rw [hcl2] at hcl
      exact absurd (show Value.type "tuple_iterator" = Value.type "tuple" from hcl) (by decide)
    refine wpAny_pyNext_enum_itemD (i := i) (Draws.tuple (A := X.A.in1) (I.ok.hd hc) it a nai its.toArray) he ⟨hit, hT0⟩ (by
      have := (List.getElem?_eq_some_iff.mp hu).1
      simpa using this) hne (by simp [hne, nae]) fun y h' tk hy ho hst' hT hsz hk => ?_
    have ey : y = u := by
      have hy' : its[i]? = some y := by simpa using hy
      rw [hu] at hy'
      exact (Option.some.inj hy').symm
    subst ey
    refine ⟨_, rfl, wpAny_letOwnedTupleGo_enum (s := { s with heap := h', toks := tk + 1 }) ho fun h'' he' sb => ?_⟩
    have hT2 : h''.get? s.heap.objs.size = some { cls := .type "tuple", data := .seq #[.int i tk, y] } := (sb.2 _ (Nat.ne_of_gt hel)).trans hT
    have new : ObjOk X.prog X.w (upd H s.heap.objs.size (.tup [.int (i : Nat), x])) h'' s.heap.objs.size (.tup [.int (i : Nat), x]) :=
      ⟨by show 2 ≤ sizeLine; decide, [.int i tk, y], .cons ⟨_, rfl⟩ (.cons ru .nil), ⟨_, hT2, rfl, _, rfl⟩⟩
    have I1 : Inv X pins σ (upd H s.heap.objs.size (.tup [.int (i : Nat), x])) { s with heap := h'', toks := tk + 1 } :=
      I.turnedNew (ch := [e, it]) (fun b ob hb q => (sb.2 b (fun z => hb (by simp [z]))).trans (hk b ob (fun z => hb (by simp [z])) (fun z => hb (by simp [z])) q)) hf (Nat.le_refl _) new
    refine ⟨.ref s.heap.objs.size, _, I1, rfl, ⟨_, x, rfl, I.hok.fresh (Nat.le_refl _), rfl, fun ys hy => by rw [I.tuple_inj hy hq]; exact hx⟩, ⟨⟨y, ?_⟩, hst'.1.at fun o q => (sb.2 it (Ne.symm hne)).trans q, hne⟩, fun b hb => ?_⟩
    · have e1 : ((i + 1 : Nat) : Int) = (i : Int) + 1 := by omega
      rw [e1]; exact he'
    · have hb' : b < s.heap.objs.size := by
        have e' : b = e ∨ b = it := by simpa using hb
        rcases e' with z | z
        · rw [z]; exact hel
        · rw [z]; exact hil
      rw [upd_ne (Nat.ne_of_lt hb')]
      exact (hf b hb).1
  done := by
    intro X hP hw hK hc i pins s σ H E I hf st hg
    subst hP hw hK
    obtain ⟨⟨old, he⟩, hit, hne⟩ := st
    obtain ⟨xs, hq, hx⟩ := hg
    obtain ⟨its, rv, p, hz⟩ := I.tuple hq
    obtain ⟨f0, f1, f2, f3, f4, f5⟩ := hf it (by simp)
    have hl := rv.length
    exact enumT_end (I.ok.hd hc) he hit p (by simp; omega) fun h' eb => ⟨rfl, I.turned (t' := s.toks) (fun b o hb q => eb b o hb q) f0 f1 f3 f4 f5⟩
  self := fun A i s Q E st h => let ⟨⟨_, he⟩, _⟩ := st; wpAny_pyIter_enum he h
def iEnumT (K : PySem.W.Frag) (ta : TA) : TI := fun σ H R => ta σ H fun vs H1 => ∃ a xs, vs = [.ref a] ∧ SqT K H1 a xs ∧ R (IteT K a) H1
theorem pi_enumT {X : Cx} {e : Expr} {ta : TA} {p pos tpos : Pos} {elts : List Expr} {kk : Nat} (hg : Gl X "enumerate") (hm : X.mg "enumerate" = none) (ha : PA X [e] ta) (hs : starEach [e] X.env = [(false, eval e X.env)] := by rfl) :
    PI X (.Tuple elts kk tpos) (.Call (.Name "enumerate" p) [e] [] pos) (iEnumT X.K ta) := by
  refine ⟨fun pins s σ H R I h => ?_⟩
  refine Call_ (ld_blt I hg hm boot_enumerate (PyProof.Rows.callWith_type1 (thn (ha.run pos pins s σ H _ I h) fun us s1 ⟨vs, H1, I1, r1, q1⟩ => ?_) hs rfl))
  obtain ⟨a, xs, ex, hq, q⟩ := q1
  subst ex
  cases r1 with
  | cons r rr =>
    cases rr
    cases r
    obtain ⟨its, rv, p', hz⟩ := I1.tuple hq
    refine call_enumT (show s1.heap.IsTuple a its.toArray from p') fun h' he hit hsz hk => wpAny_pyIter_enum he ?_
    have I2 : Inv X pins σ H1 { s1 with heap := h' } := I1.kept (t' := s1.toks) hk
    refine ⟨s1.heap.objs.size + 1, [s1.heap.objs.size + 1, s1.heap.objs.size], _, _, H1, rfl, I2, turn_enumT a (s1.heap.objs.size + 1) s1.heap.objs.size, ⟨⟨.none, he⟩, hit, Nat.succ_ne_self _⟩, fun b hb => ?_, q⟩
    have e' : b = s1.heap.objs.size + 1 ∨ b = s1.heap.objs.size := by simpa using hb
    have hle : s1.heap.objs.size ≤ b := by
      rcases e' with z | z
      · rw [z]; exact Nat.le_add_right _ _
      · rw [z]; exact Nat.le_refl _
    exact I1.fpOk hle (I1.hok.fresh hle)
/-- a loop over enumerate of a tuple -/
theorem for_enumT {K : PySem.W.Frag} {a : Addr} {xs : List V} {g : TG} {tb : TS} {D : Ends} {σ : L2.St} {H : Hp} (Pv : Nat → L2.St → Hp → Prop) (h0 : Pv 0 σ H) (hq : ∀ i σ H, Pv i σ H → SqT K H a xs)
    (hs : ∀ (i : Nat) (x : V) (T : Addr) (σ : L2.St) (H : Hp), xs[i]? = some x → Pv i σ H → H T = none → g (.ref T) σ (upd H T (.tup [.int (i : Nat), x])) fun σ2 H2 => tb { D with nx := Pv (i + 1), ct := Pv (i + 1), bk := D.nx } σ2 H2) (hd : ∀ σ H, Pv xs.length σ H → D.nx σ H) :
    ∃ W : Nat → Nat → L2.St → Hp → Prop, (∃ m, W 0 m σ H) ∧ ∀ i m σ H, W i m σ H →
      ((IteT K a).stop i H ∧ D.nx σ H) ∨ ((IteT K a).go i H ∧ ∃ N : L2.St → Hp → Prop, (∀ σ' H', N σ' H' → ∃ m', m' < m ∧ W (i + 1) m' σ' H') ∧ ∀ v H', (IteT K a).yld i H v H' → g v σ H' fun σ2 H2 => tb { D with nx := N, ct := N, bk := D.nx } σ2 H2) := by
  refine ⟨fun i m σ H => m = xs.length - i ∧ i ≤ xs.length ∧ Pv i σ H, ⟨xs.length, rfl, Nat.zero_le _, h0⟩, ?_⟩
  rintro i m σ H ⟨rfl, hi, p⟩
  have q := hq i σ H p
  rcases Nat.lt_or_ge i xs.length with hlt | hge
  · have ex := List.getElem?_eq_getElem hlt
    refine .inr ⟨⟨xs, _, q, ex⟩, Pv (i + 1), fun σ' H' p' => ⟨xs.length - (i + 1), by omega, rfl, hlt, p'⟩, ?_⟩
    rintro v H' ⟨T, x, rfl, hT, rfl, f1⟩
    exact hs i x T σ H (f1 xs q) p hT
  · have e : i = xs.length := by omega
    subst e
    exact .inl ⟨⟨xs, q, hge⟩, hd σ H p⟩
/-! ### enumerate over a list or a tuple -/
def ItEG (K : PySem.W.Frag) (t : Bool) (a : Addr) : It := match t with
  | true => IteT K a
  | false => Ite K a
def iEnumG (K : PySem.W.Frag) (ta : TA) : TI := fun σ H R => ta σ H fun vs H1 => ∃ (t : Bool) (a : Addr) (xs : List V), vs = [.ref a] ∧ ZG.Sq t K H1 a xs ∧ R (ItEG K t a) H1
theorem pi_enumG {X : Cx} {e : Expr} {ta : TA} {p pos tpos : Pos} {elts : List Expr} {kk : Nat} (hg : Gl X "enumerate") (hm : X.mg "enumerate" = none) (ha : PA X [e] ta) (hs : starEach [e] X.env = [(false, eval e X.env)] := by rfl) :
    PI X (.Tuple elts kk tpos) (.Call (.Name "enumerate" p) [e] [] pos) (iEnumG X.K ta) := by
  refine ⟨fun pins s σ H R I h => ?_⟩
  refine Call_ (ld_blt I hg hm boot_enumerate (PyProof.Rows.callWith_type1 (thn (ha.run pos pins s σ H _ I h) fun us s1 ⟨vs, H1, I1, r1, q1⟩ => ?_) hs rfl))
  obtain ⟨t, a, xs, ex, hq, q⟩ := q1
  subst ex
  have hle : ∀ b, b ∈ [s1.heap.objs.size + 1, s1.heap.objs.size] → s1.heap.objs.size ≤ b := fun b hb => by
    have e' : b = s1.heap.objs.size + 1 ∨ b = s1.heap.objs.size := by simpa using hb
    rcases e' with z | z
    · rw [z]; exact Nat.le_add_right _ _
    · rw [z]; exact Nat.le_refl _
  cases r1 with
  | cons r rr =>
    cases rr
    cases r
    cases t with
    | true =>
      obtain ⟨its, rv, p', hz⟩ := I1.tuple hq
      refine call_enumT (show s1.heap.IsTuple a its.toArray from p') fun h' he hit hsz hk => wpAny_pyIter_enum he ?_
      have I2 : Inv X pins σ H1 { s1 with heap := h' } := I1.kept (t' := s1.toks) hk
      exact ⟨s1.heap.objs.size + 1, [s1.heap.objs.size + 1, s1.heap.objs.size], _, _, H1, rfl, I2, turn_enumT a (s1.heap.objs.size + 1) s1.heap.objs.size, ⟨⟨.none, he⟩, hit, Nat.succ_ne_self _⟩, fun b hb => I1.fpOk (hle b hb) (I1.hok.fresh (hle b hb)), q⟩
    | false =>
      obtain ⟨its, rv, p', hz⟩ := I1.list hq
      refine call_enumerate_list p'.isList fun h' he hit hsz hk => wpAny_pyIter_enum he ?_
      have I2 : Inv X pins σ H1 { s1 with heap := h' } := I1.kept (t' := s1.toks) hk
      exact ⟨s1.heap.objs.size + 1, [s1.heap.objs.size + 1, s1.heap.objs.size], _, _, H1, rfl, I2, turn_enum a (s1.heap.objs.size + 1) s1.heap.objs.size, ⟨⟨.none, he⟩, hit, Nat.succ_ne_self _⟩, fun b hb => I1.fpOk (hle b hb) (I1.hok.fresh (hle b hb)), q⟩
theorem walk_enumG {K : PySem.W.Frag} {t : Bool} {a : Addr} {xs : List V} : Walk (ItEG K t a) xs.length (fun H => ZG.Sq t K H a xs) (YPair (fun i => some (.int (i : Nat))) (fun i => xs[i]?)) := by
  cases t with
  | false => exact walk_enum
  | true =>
    refine ⟨fun i H hi q => ⟨xs, xs[i], q, List.getElem?_eq_getElem hi⟩, fun H q => ⟨xs, q, Nat.le_refl _⟩, fun i H v H' _ q y => ?_⟩
    obtain ⟨T, x, h1, h2, h3, h4⟩ := y
    exact ⟨T, .int (i : Nat), x, h1, h2, h3, rfl, h4 xs q⟩
end EnT
namespace RpT
open PySem PySem.Spec PyProof.Rows L2
/-! ### tuple * int, for any int from 0 on (the library has it from 2 on) -/
theorem tuple_mul1 (l : Addr) (items : Array Value) (n : Nat) (dd : Option Addr) (sl : Array (Option Value)) (u : Tok) :
    Meets (Builtin.«tuple.__mul__» ⟨[.ref l, .int 1 u], []⟩) (fun _ R s => s.heap.get? l = some { cls := .type "tuple", dict := dd, data := .seq items n, slots := sl } ∧
      R (.ok (.ret (Value.ref l))) s) :=
  .of_wp fun prog w A R s h => by
    obtain ⟨hp, g, d, tk, os⟩ := s
    obtain ⟨hl, h⟩ := h
    have f1 := AutoSeq1.idx_int
    have c0 : (decide ((1 : Int) < -(2 ^ 63)) || decide ((1 : Int) ≥ 2 ^ 63)) = false := by decide
    have c1 : (items.isEmpty || (1 : Int) == 1) = true := by rw [show ((1 : Int) == 1) = true from rfl, Bool.or_true]
    wp_walk using wpAny_loadPart' hl
    repeat (first
      | (refine wpAny_ite_false (decide_eq_false (by rw [c0]; exact Bool.false_ne_true)) ?_; wp_walk using wpAny_loadPart' hl)
      | (refine wpAny_ite_true (decide_eq_true c1) ?_; wp_walk using wpAny_loadPart' hl))
    exact ⟨_, rfl, h⟩
theorem tuple_mul0 (l : Addr) (items : Array Value) (n : Nat) (dd : Option Addr) (sl : Array (Option Value)) (u : Tok) (hne : items.isEmpty = false) :
    Meets (Builtin.«tuple.__mul__» ⟨[.ref l, .int 0 u], []⟩) (fun _ R s => s.heap.get? l = some { cls := .type "tuple", dict := dd, data := .seq items n, slots := sl } ∧
      R (.ok (.ret (Value.ref s.heap.objs.size))) { s with heap := s.heap.push { cls := Value.type "tuple", data := Data.seq #[] }, toks := s.toks }) :=
  .of_wp fun prog w A R s h => by
    obtain ⟨hp, g, d, tk, os⟩ := s
    obtain ⟨hl, h⟩ := h
    have f1 := AutoSeq1.idx_int
    have c0 : (decide ((0 : Int) < -(2 ^ 63)) || decide ((0 : Int) ≥ 2 ^ 63)) = false := by decide
    have c1 : (items.isEmpty || (0 : Int) == 1) = false := by rw [hne]; rfl
    have c2 : (decide ((0 : Int) ≤ 0) || items.isEmpty) = true := by rw [decide_eq_true (Int.le_refl 0)]; rfl
    wp_walk using wpAny_loadPart' hl
    repeat (first
      | (refine wpAny_ite_false (decide_eq_false (by rw [c0]; exact Bool.false_ne_true)) ?_; wp_walk using wpAny_loadPart' hl)
      | (refine wpAny_ite_false (decide_eq_false (by rw [c1]; exact Bool.false_ne_true)) ?_; wp_walk using wpAny_loadPart' hl)
      | (refine wpAny_ite_true (decide_eq_true c2) ?_; wp_walk using wpAny_loadPart' hl))
    exact ⟨_, rfl, h⟩
def rRepTA (K : PySem.W.Frag) : R2 := fun x y H Q => ∃ l k xs, x = .ref l ∧ y = .int k ∧ SqT K H l xs ∧ xs ≠ [] ∧ 0 ≤ k ∧ k ≤ 1000 ∧ xs.length ≤ 1000 ∧ (k = 1 → Q (.ref l) H) ∧ (k ≠ 1 → ∀ p, H p = none → Q (.ref p) (upd H p (.tup (List.replicate k.toNat xs).flatten)))
theorem op_repTA {X : Cx} : OpR X (binaryOp .Mult) (rRepTA X.K) := by
  intro pins s σ H x y v u Q I rx ry h
  obtain ⟨l, k, xs, rfl, rfl, hT, hne, h0, h1, hz, q1, q⟩ := h
  by_cases k2 : 2 ≤ k
  · exact op_repT pins s σ H _ _ v u Q I rx ry ⟨l, k, xs, rfl, rfl, hT, hne, k2, h1, hz, q (by omega)⟩
  cases rx
  obtain ⟨t, rfl⟩ := ry
  obtain ⟨its, r, ⟨⟨cls, dd, data, sl⟩, ho, hc, n, hd⟩, hs⟩ := I.tuple hT
  simp only at hc hd
  subst hc hd
  have hle : its.length = xs.length := r.length.symm
  have hi : its.toArray.isEmpty = false := by
    cases its with
    | nil => exact absurd (List.eq_nil_of_length_eq_zero hle.symm) hne
    | cons a b => rfl
  by_cases k1 : k = 1
  · subst k1
    exact wpAny_binaryOp_repeat_ref (T := "tuple") (U := "int") (by decide) ⟨_, ho, rfl⟩ (fun s' => typeIs_int s' 1 t) noFill_tuple_mul F.fills_int_mul F.slot_int_rmul repeat_tuple F.slot_int_index.lookup
      (call_meets F.slot_int_rmul (typeIs_int s 1 t) F.entry_int_rmul (F.args_int_rmul_2 _ _) (int_rmul_tuple 1 t l its.toArray n dd sl)
        ⟨ho, rfl, ⟨_, ho, rfl⟩, call_meets F.slot_tuple_mul ⟨_, ho, rfl⟩ F.entry_tuple_mul (F.args_tuple_mul_2 _ _) (tuple_mul1 l its.toArray n dd sl t) ⟨ho, ⟨.ref l, H, I, rfl, q1 rfl⟩⟩⟩)
  · have k0 : k = 0 := by omega
    subst k0
    refine wpAny_binaryOp_repeat_ref (T := "tuple") (U := "int") (by decide) ⟨_, ho, rfl⟩ (fun s' => typeIs_int s' 0 t) noFill_tuple_mul F.fills_int_mul F.slot_int_rmul repeat_tuple F.slot_int_index.lookup
      (call_meets F.slot_int_rmul (typeIs_int s 0 t) F.entry_int_rmul (F.args_int_rmul_2 _ _) (int_rmul_tuple 0 t l its.toArray n dd sl)
        ⟨ho, rfl, ⟨_, ho, rfl⟩, call_meets F.slot_tuple_mul ⟨_, ho, rfl⟩ F.entry_tuple_mul (F.args_tuple_mul_2 _ _) (tuple_mul0 l its.toArray n dd sl t hi) ⟨ho, ?_⟩⟩)
    refine ⟨.ref s.heap.objs.size, _, I.laid (t' := s.toks) (o := .tup []) (fun b ob q => Heap.get?_push_of_some _ q) (Nat.le_refl _) ?_, rfl, q (by decide) _ (I.hok.fresh (Nat.le_refl _))⟩
    exact ⟨by rw [sizeLine_eq]; decide, _, .nil, IsTup.new _ _⟩
/-! ### a method of a tuple that was made on the way (and stays as it is) -/
section
variable {X : Cx}
def TupFz (H : Hp) (p : Addr) : Prop := ∃ o ys, H p = some (.frz o (.tup ys)) ∧ o.dict = none
def tBMT (r : V → List V → Hp → VK → Prop) (to : TE) (t : TA) : TE := fun σ H Q => to σ H fun x H1 => (∃ p, x = .ref p ∧ TupFz H1 p) ∧ t σ H1 fun xs H2 => r x xs H2 Q
variable {o e : Expr} {es : List Expr} {to : TE} {t : TA} {name : Str} {apos cpos : Pos} {id : String} {r : V → List V → Hp → VK → Prop}
theorem pe_bmT (pa : PlainAttrs "tuple") (slot : Slot "tuple" name id) (hty : typeOf (.builtin id) = pure (.type "method_descriptor")) (hm : MtR X id r) (ho : PE X o to) (ha : PA X (e :: es) t)
    (hbase : attributeBase o name X.env (eval o X.env) = eval o X.env := by rfl)
    (hfew : ((backTo cpos (starEach (e :: es) X.env)).all (fun x => !x.1) && (backToKw cpos (keywordEach [] X.env)).all (fun x => x.1.isSome)
      && decide ((e :: es).length + ([] : List Keyword).length + (if ([] : List Keyword).isEmpty then 0 else 1) < 30)) = true := by rfl)
    (hline : (apos.endLine == cpos.line) = true := by rfl) (hs : starEach (e :: es) X.env = (false, eval e X.env) :: starEach es X.env := by rfl) (hplain : (backTo cpos (starEach es X.env)).any (·.1) = false := by rfl) :
    PE X (.Call (.Attribute o name apos) (e :: es) [] cpos) (tBMT r to t) := by
  refine ⟨fun pins s σ H Q I h => ?_⟩
  refine wpAny_Call_method_late hbase hfew hline rfl (thn (ho.run pins s σ H _ I h) fun v s1 ⟨x, H1, I1, r1, ⟨p, ex, o, ys, hp, hd⟩, q1⟩ => ?_)
  subst ex
  cases r1
  obtain ⟨e1, _, its, _, ob, e2, hc, _⟩ := (show ObjOk X.prog X.w H1 s1.heap p (.frz o (.tup ys)) from I1.hok _ _ hp)
  rw [e1] at e2
  cases e2
  refine ⟨"tuple", id, pa, slot, hty, ⟨o, e1, hc⟩, fun a e => ?_, ?_⟩
  · cases e
    exact ⟨o, e1, hd⟩
  have hA := ha.run cpos pins s1 σ H1 _ I1 q1
  rw [hs] at hA ⊢
  refine Calls.callWith_builtin (by show (false || (backTo cpos (starEach es X.env)).any (·.1)) = false; rw [hplain] <;> rfl) (Calls.evalArgs_plain ?_)
  exact thn hA fun us s2 ⟨vs, H2, I2, r2, q2⟩ => hm pins s2 σ H2 (.ref p) vs _ us Q I2 rfl r2 q2
end
end RpT
namespace TZ
open PySem PySem.Spec PyProof.Rows L2
/-! ### tuple(list): a tuple whose object is told -/
variable {X : Cx}
theorem call_tuple_fz : CallR X (.type "tuple") (fun xs H Q => ∃ p ys, xs = [.ref p] ∧ SqL X.K H p ys ∧ ∀ l o, H l = none → o.cls = .type "tuple" → o.dict = none → Q (.ref l) (upd H l (.frz o (.tup ys)))) := by
  intro pins s σ H xs us Q I r h
  obtain ⟨p, ys, rfl, hq, q⟩ := h
  obtain ⟨u, rfl, rx⟩ := vals1 r
  cases rx
  obtain ⟨its, r', pl, hz⟩ := I.list hq
  have hlen := r'.length
  refine call_tuple_list pl.isList (fun h' kp => ?_) (by simp only [List.size_toArray] <;> omega)
  have I1 : Inv X pins σ H { s with heap := h' } := I.kept (t' := s.toks) kp
  have I2 : Inv X pins σ (upd H h'.objs.size (.frz { cls := .type "tuple", data := .seq its.toArray } (.tup ys))) { s with heap := h'.push { cls := .type "tuple", data := .seq its.toArray } } :=
    I1.laid (t' := s.toks) (fun b o e => Heap.get?_push_of_some _ e) (Nat.le_refl _) (show ObjOk X.prog X.w _ _ _ (.frz _ (.tup ys)) from ⟨Heap.get?_push_size _ rfl, hz, its, r', IsTup.new _ _⟩)
  exact ⟨.ref h'.objs.size, _, I2, rfl, q _ _ (I1.hok.fresh (Nat.le_refl _)) rfl rfl⟩
end TZ
namespace MxT
open PySem PySem.Spec PyProof.Rows L2
/-! ### max and min of a tuple of whole numbers -/
section
variable {prog : Program} {w : World} {A : Around} {E : Value → Shared → Prop} {s : Shared} {l : Addr} {its : List Value} {ns : List Int} {Q : Value → Shared → Prop}
theorem old_keptT {h' : Heap} (hk : ∀ b o, b ∉ [s.heap.objs.size] → (s.heap.push { cls := .type "tuple_iterator", data := .fields #[.ref l, .int 0 0] }).get? b = some o → h'.get? b = some o) :
    ∀ b o, s.heap.get? b = some o → h'.get? b = some o := fun b o e =>
  hk b o (fun z => absurd (Heap.lt_size e) ((List.mem_singleton.mp z) ▸ Nat.lt_irrefl _)) (Heap.get?_push_of_some _ e)
theorem maxT_raw (hh : A.handled = none) (hl : s.heap.IsTuple l its.toArray) (hi : IntsAre its ns) (hne : 0 < ns.length)
    (h : ∀ h' tk M t', (∀ b o, s.heap.get? b = some o → h'.get? b = some o) → M ∈ ns → (∀ a, a ∈ ns → a ≤ M) → Q (.int M t') { s with heap := h', toks := tk }) : wpAny (model prog w) A (call (.builtin "max") [.ref l]) Q E s := by
  obtain ⟨xs, e⟩ := hi.allInts.items
  have hn : numsOf (intItems xs).toList = ns := by rw [← e]; exact hi.numsOf
  rw [nums_intItems] at hn
  subst hn
  rw [e] at hl
  have hsz : 0 < xs.size := by simpa using hne
  have hlt : l < s.heap.objs.size := by
    obtain ⟨_, e, _⟩ := hl
    exact Heap.lt_size e
  refine PySem.call_max_walk (wpAny_pyIter_tuple hl ?_)
  refine ⟨_, _, _, _, _, _, _, rfl, Walks.tuple (A := A.in1) hh _ l (Nat.ne_of_lt hlt) (intItems xs), ⟨⟨_, Heap.get?_push_size _ rfl, rfl, rfl⟩, hl.push _⟩, fun b hb => ?_, by simpa [intItems] using hsz, CmpOf.ints_gt (numAt xs) (fun _ _ => intItems_at), fun v h' tk hv hk => ?_⟩
  · show b < (s.heap.push _).objs.size
    rw [Heap.size_push]
    have hb' : b = s.heap.objs.size ∨ b = l := by simpa using hb
    rcases hb' with z | z
    · rw [z]; exact Nat.lt_succ_self _
    · rw [z]; exact Nat.lt_succ_of_lt hlt
  · have hv' : (intItems xs)[argBest (fun i j => decide (numAt xs i > numAt xs j)) (xs.size - 1)]? = some v := by simpa [intItems] using hv
    obtain ⟨t, rfl⟩ := intItems_at hv'
    obtain ⟨h1, h2⟩ := argBest_gt (numAt xs) (xs.size - 1)
    refine h h' tk _ t (old_keptT hk) ?_ fun a ha => ?_
    · rw [numAt_eq]; exact PySem.getD_mem (by rw [List.length_map, Array.length_toList]; omega)
    · obtain ⟨j, hj, rfl⟩ := mem_getD ha
      have hj2 : j < xs.size := by simpa using hj
      rw [← numAt_eq]; exact h2 j (by omega)
theorem minT_raw (hh : A.handled = none) (hl : s.heap.IsTuple l its.toArray) (hi : IntsAre its ns) (hne : 0 < ns.length)
    (h : ∀ h' tk M t', (∀ b o, s.heap.get? b = some o → h'.get? b = some o) → M ∈ ns → (∀ a, a ∈ ns → M ≤ a) → Q (.int M t') { s with heap := h', toks := tk }) : wpAny (model prog w) A (call (.builtin "min") [.ref l]) Q E s := by
  obtain ⟨xs, e⟩ := hi.allInts.items
  have hn : numsOf (intItems xs).toList = ns := by rw [← e]; exact hi.numsOf
  rw [nums_intItems] at hn
  subst hn
  rw [e] at hl
  have hsz : 0 < xs.size := by simpa using hne
  have hlt : l < s.heap.objs.size := by
    obtain ⟨_, e, _⟩ := hl
    exact Heap.lt_size e
  refine PySem.call_min_walk (wpAny_pyIter_tuple hl ?_)
  refine ⟨_, _, _, _, _, _, _, rfl, Walks.tuple (A := A.in1) hh _ l (Nat.ne_of_lt hlt) (intItems xs), ⟨⟨_, Heap.get?_push_size _ rfl, rfl, rfl⟩, hl.push _⟩, fun b hb => ?_, by simpa [intItems] using hsz, CmpOf.ints_lt (numAt xs) (fun _ _ => intItems_at), fun v h' tk hv hk => ?_⟩
  · show b < (s.heap.push _).objs.size
    rw [Heap.size_push]
    have hb' : b = s.heap.objs.size ∨ b = l := by simpa using hb
    rcases hb' with z | z
    · rw [z]; exact Nat.lt_succ_self _
    · rw [z]; exact Nat.lt_succ_of_lt hlt
  · have hv' : (intItems xs)[argBest (fun i j => decide (numAt xs i < numAt xs j)) (xs.size - 1)]? = some v := by simpa [intItems] using hv
    obtain ⟨t, rfl⟩ := intItems_at hv'
    obtain ⟨h1, h2⟩ := argBest_lt (numAt xs) (xs.size - 1)
    refine h h' tk _ t (old_keptT hk) ?_ fun a ha => ?_
    · rw [numAt_eq]; exact PySem.getD_mem (by rw [List.length_map, Array.length_toList]; omega)
    · obtain ⟨j, hj, rfl⟩ := mem_getD ha
      have hj2 : j < xs.size := by simpa using hj
      rw [← numAt_eq]; exact h2 j (by omega)
end
section
variable {X : Cx}
def rMaxT (K : PySem.W.Frag) : List V → Hp → VK → Prop := fun vs H Q => ∃ (a : Addr) (ns : List Int), vs = [V.ref a] ∧ SqT K H a (ns.map V.int) ∧ 0 < ns.length ∧ ∀ m, m ∈ ns → (∀ y, y ∈ ns → y ≤ m) → Q (.int m) H
def rMinT (K : PySem.W.Frag) : List V → Hp → VK → Prop := fun vs H Q => ∃ (a : Addr) (ns : List Int), vs = [V.ref a] ∧ SqT K H a (ns.map V.int) ∧ 0 < ns.length ∧ ∀ m, m ∈ ns → (∀ y, y ∈ ns → m ≤ y) → Q (.int m) H
theorem call_maxT (hc : X.calm = true) : CallR X (.builtin "max") (rMaxT X.K) := by
  intro pins s σ H vs us Q I r h
  obtain ⟨a, ns, rfl, hs, hne, q⟩ := h
  obtain ⟨its, rv, hl, _⟩ := I.tuple hs
  rw [Vals.ref1 r]
  exact maxT_raw (I.ok.hd hc) hl rv.ints hne fun h' tk m t' hk h1 h2 => ⟨.int _, H, I.kept hk, ⟨_, rfl⟩, q m h1 h2⟩
theorem call_minT (hc : X.calm = true) : CallR X (.builtin "min") (rMinT X.K) := by
  intro pins s σ H vs us Q I r h
  obtain ⟨a, ns, rfl, hs, hne, q⟩ := h
  obtain ⟨its, rv, hl, _⟩ := I.tuple hs
  rw [Vals.ref1 r]
  exact minT_raw (I.ok.hd hc) hl rv.ints hne fun h' tk m t' hk h1 h2 => ⟨.int _, H, I.kept hk, ⟨_, rfl⟩, q m h1 h2⟩
end
end MxT
namespace Mine
open PySem L2
def top (i : Nat) : Stmt := PySem.Challenge.pw_neverhappens_k30_is_key.main.body.getD i (.Pass ⟨0, 0, 0, 0⟩)
abbrev s_reference_places : Stmt := top 1
abbrev s_places_in_records : Stmt := top 2
abbrev s_referred : Stmt := top 3
abbrev s_translated : Stmt := top 4
abbrev s_translated_record : Stmt := top 5
abbrev s_neighbours : Stmt := top 6
abbrev s_visit_records : Stmt := top 7
abbrev s_number_key : Stmt := top 8
abbrev s_is_key : Stmt := top 9
abbrev s_has_record_form : Stmt := top 10
abbrev s_all_fit : Stmt := top 11
abbrev s_has_kind : Stmt := top 12
abbrev s_l_cell : Stmt := top 14
abbrev s_l_source : Stmt := top 15
abbrev s_l_pick : Stmt := top 16
abbrev s_l_one : Stmt := top 17
abbrev s_l_names : Stmt := top 18
abbrev s_l_follow : Stmt := top 19
abbrev s_l_meet : Stmt := top 20
abbrev s_l_renumbered : Stmt := top 21
abbrev s_l_key : Stmt := top 22
abbrev s_l_drawn_value : Stmt := top 23
abbrev s_l_number_kind : Stmt := top 24
abbrev s_l_world : Stmt := top 25
abbrev s_l_shuffled : Stmt := top 26
abbrev s_l_moved : Stmt := top 27
abbrev s_l_heap : Stmt := top 28
abbrev s_l_variables : Stmt := top 29
abbrev s_l_case : Stmt := top 30
abbrev s_l_frozen : Stmt := top 31
abbrev s_l_strange : Stmt := top 32
abbrev s_l_with_other_part : Stmt := top 33
abbrev s_l_with_other_records : Stmt := top 34
abbrev s_l_with_other_form : Stmt := top 35
abbrev s_l_garbage : Stmt := top 36
abbrev s_l_asked : Stmt := top 37
abbrev s_l_fits : Stmt := top 38
abbrev s_l_formed : Stmt := top 39
abbrev s_l_judge : Stmt := top 40
abbrev s_law : Stmt := top 41
abbrev p_reference_places : List Str := ["kinds"]
abbrev p_places_in_records : List Str := ["program"]
abbrev p_referred : List Str := ["values", "places"]
abbrev p_translated : List Str := ["values", "places", "numbers"]
abbrev p_translated_record : List Str := ["record", "places", "numbers"]
abbrev p_neighbours : List Str := ["record", "places"]
abbrev p_visit_records : List Str := ["places", "first", "records", "fixed"]
abbrev p_number_key : List Str := ["program", "kinds", "values", "records", "fixed"]
abbrev p_is_key : List Str := ["program", "kinds", "key", "fixed"]
abbrev p_has_record_form : List Str := ["record", "field_kinds"]
abbrev p_all_fit : List Str := ["values", "kinds", "names"]
abbrev p_has_kind : List Str := ["value", "kind", "names"]
abbrev p_l_cell : List Str := ["_law_script", "_law_at"]
abbrev p_l_source : List Str := ["_law_cell_here"]
abbrev p_l_pick : List Str := ["_law_source_here", "_law_size"]
abbrev p_l_one : List Str := ["_law_source_here", "_law_row"]
abbrev p_l_names : List Str := ["_law_source_here"]
abbrev p_l_follow : List Str := ["_law_run", "_law_where", "_law_order"]
abbrev p_l_meet : List Str := ["_law_run", "_law_where", "_law_order"]
abbrev p_l_renumbered : List Str := ["_law_kind", "_law_value", "_law_order"]
abbrev p_l_key : List Str := ["_law_run", "_law_kinds", "_law_values", "_law_fixed"]
abbrev p_l_drawn_value : List Str := ["_law_source_here", "_law_run", "_law_kind"]
abbrev p_l_number_kind : List Str := ["_law_source_here"]
abbrev p_l_world : List Str := ["_law_source_here", "_law_shape"]
abbrev p_l_shuffled : List Str := ["_law_source_here", "_law_size"]
abbrev p_l_moved : List Str := ["_law_run", "_law_order"]
abbrev p_l_heap : List Str := ["_law_source_here", "_law_program", "_law_size", "_law_times"]
abbrev p_l_variables : List Str := ["_law_source_here", "_law_program", "_law_longest"]
abbrev p_l_case : List Str := ["_law_source_here", "_law_program"]
abbrev p_l_frozen : List Str := ["_law_values", "_law_records"]
abbrev p_l_strange : List Str := ["_law_source_here", "_law_value", "_law_size"]
abbrev p_l_with_other_part : List Str := ["_law_source_here", "_law_program", "_law_values", "_law_records"]
abbrev p_l_with_other_records : List Str := ["_law_source_here", "_law_program", "_law_kinds", "_law_values", "_law_records"]
abbrev p_l_with_other_form : List Str := ["_law_source_here", "_law_values", "_law_records"]
abbrev p_l_garbage : List Str := ["_law_source_here", "_law_depth"]
abbrev p_l_asked : List Str := ["_law_source_here", "_law_program", "_law_case_here", "_law_key_here"]
abbrev p_l_fits : List Str := ["_law_kind", "_law_value", "_law_records"]
abbrev p_l_formed : List Str := ["_law_fields", "_law_record"]
abbrev p_l_judge : List Str := ["_law_program", "_law_kinds", "_law_key_here", "_law_fixed"]
abbrev p_law : List Str := ["_law_script"]
/-- what the program's top leaves: where each def stands -/
structure Txt (w : World) (K : PySem.W.Frag) (mg : Str → Option Value) where
  a_reference_places : Addr
  d_reference_places : FuncData
  F_reference_places : Fun K "reference_places" "reference_places" s_reference_places a_reference_places d_reference_places
  b_reference_places : Binds K d_reference_places p_reference_places []
  m_reference_places : mg "reference_places" = some (.ref a_reference_places)
  a_places_in_records : Addr
  d_places_in_records : FuncData
  F_places_in_records : Fun K "places_in_records" "places_in_records" s_places_in_records a_places_in_records d_places_in_records
  b_places_in_records : Binds K d_places_in_records p_places_in_records []
  m_places_in_records : mg "places_in_records" = some (.ref a_places_in_records)
  a_referred : Addr
  d_referred : FuncData
  F_referred : Fun K "referred" "referred" s_referred a_referred d_referred
  b_referred : Binds K d_referred p_referred []
  m_referred : mg "referred" = some (.ref a_referred)
  a_translated : Addr
  d_translated : FuncData
  F_translated : Fun K "translated" "translated" s_translated a_translated d_translated
  b_translated : Binds K d_translated p_translated []
  m_translated : mg "translated" = some (.ref a_translated)
  a_translated_record : Addr
  d_translated_record : FuncData
  F_translated_record : Fun K "translated_record" "translated_record" s_translated_record a_translated_record d_translated_record
  b_translated_record : Binds K d_translated_record p_translated_record []
  m_translated_record : mg "translated_record" = some (.ref a_translated_record)
  a_neighbours : Addr
  d_neighbours : FuncData
  F_neighbours : Fun K "neighbours" "neighbours" s_neighbours a_neighbours d_neighbours
  b_neighbours : Binds K d_neighbours p_neighbours []
  m_neighbours : mg "neighbours" = some (.ref a_neighbours)
  a_visit_records : Addr
  d_visit_records : FuncData
  F_visit_records : Fun K "visit_records" "visit_records" s_visit_records a_visit_records d_visit_records
  b_visit_records : Binds K d_visit_records p_visit_records []
  m_visit_records : mg "visit_records" = some (.ref a_visit_records)
  a_number_key : Addr
  d_number_key : FuncData
  F_number_key : Fun K "number_key" "number_key" s_number_key a_number_key d_number_key
  b_number_key : Binds K d_number_key p_number_key []
  m_number_key : mg "number_key" = some (.ref a_number_key)
  a_is_key : Addr
  d_is_key : FuncData
  F_is_key : Fun K "is_key" "is_key" s_is_key a_is_key d_is_key
  b_is_key : Binds K d_is_key p_is_key []
  m_is_key : mg "is_key" = some (.ref a_is_key)
  a_has_record_form : Addr
  d_has_record_form : FuncData
  F_has_record_form : Fun K "has_record_form" "has_record_form" s_has_record_form a_has_record_form d_has_record_form
  b_has_record_form : Binds K d_has_record_form p_has_record_form []
  m_has_record_form : mg "has_record_form" = some (.ref a_has_record_form)
  a_all_fit : Addr
  d_all_fit : FuncData
  F_all_fit : Fun K "all_fit" "all_fit" s_all_fit a_all_fit d_all_fit
  b_all_fit : Binds K d_all_fit p_all_fit []
  m_all_fit : mg "all_fit" = some (.ref a_all_fit)
  a_has_kind : Addr
  d_has_kind : FuncData
  F_has_kind : Fun K "has_kind" "has_kind" s_has_kind a_has_kind d_has_kind
  b_has_kind : Binds K d_has_kind p_has_kind []
  m_has_kind : mg "has_kind" = some (.ref a_has_kind)
  a_l_cell : Addr
  d_l_cell : FuncData
  F_l_cell : Fun K "_law_cell" "_law_cell" s_l_cell a_l_cell d_l_cell
  b_l_cell : Binds K d_l_cell p_l_cell []
  m_l_cell : mg "_law_cell" = some (.ref a_l_cell)
  a_l_source : Addr
  d_l_source : FuncData
  F_l_source : Fun K "_law_source" "_law_source" s_l_source a_l_source d_l_source
  b_l_source : Binds K d_l_source p_l_source []
  m_l_source : mg "_law_source" = some (.ref a_l_source)
  a_l_pick : Addr
  d_l_pick : FuncData
  F_l_pick : Fun K "_law_pick" "_law_pick" s_l_pick a_l_pick d_l_pick
  b_l_pick : Binds K d_l_pick p_l_pick []
  m_l_pick : mg "_law_pick" = some (.ref a_l_pick)
  a_l_one : Addr
  d_l_one : FuncData
  F_l_one : Fun K "_law_one" "_law_one" s_l_one a_l_one d_l_one
  b_l_one : Binds K d_l_one p_l_one []
  m_l_one : mg "_law_one" = some (.ref a_l_one)
  a_l_names : Addr
  d_l_names : FuncData
  F_l_names : Fun K "_law_names" "_law_names" s_l_names a_l_names d_l_names
  b_l_names : Binds K d_l_names p_l_names []
  m_l_names : mg "_law_names" = some (.ref a_l_names)
  a_l_follow : Addr
  d_l_follow : FuncData
  F_l_follow : Fun K "_law_follow" "_law_follow" s_l_follow a_l_follow d_l_follow
  b_l_follow : Binds K d_l_follow p_l_follow []
  m_l_follow : mg "_law_follow" = some (.ref a_l_follow)
  a_l_meet : Addr
  d_l_meet : FuncData
  F_l_meet : Fun K "_law_meet" "_law_meet" s_l_meet a_l_meet d_l_meet
  b_l_meet : Binds K d_l_meet p_l_meet []
  m_l_meet : mg "_law_meet" = some (.ref a_l_meet)
  a_l_renumbered : Addr
  d_l_renumbered : FuncData
  F_l_renumbered : Fun K "_law_renumbered" "_law_renumbered" s_l_renumbered a_l_renumbered d_l_renumbered
  b_l_renumbered : Binds K d_l_renumbered p_l_renumbered []
  m_l_renumbered : mg "_law_renumbered" = some (.ref a_l_renumbered)
  a_l_key : Addr
  d_l_key : FuncData
  F_l_key : Fun K "_law_key" "_law_key" s_l_key a_l_key d_l_key
  b_l_key : Binds K d_l_key p_l_key []
  m_l_key : mg "_law_key" = some (.ref a_l_key)
  a_l_drawn_value : Addr
  d_l_drawn_value : FuncData
  F_l_drawn_value : Fun K "_law_drawn_value" "_law_drawn_value" s_l_drawn_value a_l_drawn_value d_l_drawn_value
  b_l_drawn_value : Binds K d_l_drawn_value p_l_drawn_value []
  m_l_drawn_value : mg "_law_drawn_value" = some (.ref a_l_drawn_value)
  a_l_number_kind : Addr
  d_l_number_kind : FuncData
  F_l_number_kind : Fun K "_law_number_kind" "_law_number_kind" s_l_number_kind a_l_number_kind d_l_number_kind
  b_l_number_kind : Binds K d_l_number_kind p_l_number_kind []
  m_l_number_kind : mg "_law_number_kind" = some (.ref a_l_number_kind)
  a_l_world : Addr
  d_l_world : FuncData
  F_l_world : Fun K "_law_world" "_law_world" s_l_world a_l_world d_l_world
  b_l_world : Binds K d_l_world p_l_world []
  m_l_world : mg "_law_world" = some (.ref a_l_world)
  a_l_shuffled : Addr
  d_l_shuffled : FuncData
  F_l_shuffled : Fun K "_law_shuffled" "_law_shuffled" s_l_shuffled a_l_shuffled d_l_shuffled
  b_l_shuffled : Binds K d_l_shuffled p_l_shuffled []
  m_l_shuffled : mg "_law_shuffled" = some (.ref a_l_shuffled)
  a_l_moved : Addr
  d_l_moved : FuncData
  F_l_moved : Fun K "_law_moved" "_law_moved" s_l_moved a_l_moved d_l_moved
  b_l_moved : Binds K d_l_moved p_l_moved []
  m_l_moved : mg "_law_moved" = some (.ref a_l_moved)
  a_l_heap : Addr
  d_l_heap : FuncData
  F_l_heap : Fun K "_law_heap" "_law_heap" s_l_heap a_l_heap d_l_heap
  b_l_heap : Binds K d_l_heap p_l_heap []
  m_l_heap : mg "_law_heap" = some (.ref a_l_heap)
  a_l_variables : Addr
  d_l_variables : FuncData
  F_l_variables : Fun K "_law_variables" "_law_variables" s_l_variables a_l_variables d_l_variables
  b_l_variables : Binds K d_l_variables p_l_variables []
  m_l_variables : mg "_law_variables" = some (.ref a_l_variables)
  a_l_case : Addr
  d_l_case : FuncData
  F_l_case : Fun K "_law_case" "_law_case" s_l_case a_l_case d_l_case
  b_l_case : Binds K d_l_case p_l_case []
  m_l_case : mg "_law_case" = some (.ref a_l_case)
  a_l_frozen : Addr
  d_l_frozen : FuncData
  F_l_frozen : Fun K "_law_frozen" "_law_frozen" s_l_frozen a_l_frozen d_l_frozen
  b_l_frozen : Binds K d_l_frozen p_l_frozen []
  m_l_frozen : mg "_law_frozen" = some (.ref a_l_frozen)
  a_l_strange : Addr
  d_l_strange : FuncData
  F_l_strange : Fun K "_law_strange" "_law_strange" s_l_strange a_l_strange d_l_strange
  b_l_strange : Binds K d_l_strange p_l_strange []
  m_l_strange : mg "_law_strange" = some (.ref a_l_strange)
  a_l_with_other_part : Addr
  d_l_with_other_part : FuncData
  F_l_with_other_part : Fun K "_law_with_other_part" "_law_with_other_part" s_l_with_other_part a_l_with_other_part d_l_with_other_part
  b_l_with_other_part : Binds K d_l_with_other_part p_l_with_other_part []
  m_l_with_other_part : mg "_law_with_other_part" = some (.ref a_l_with_other_part)
  a_l_with_other_records : Addr
  d_l_with_other_records : FuncData
  F_l_with_other_records : Fun K "_law_with_other_records" "_law_with_other_records" s_l_with_other_records a_l_with_other_records d_l_with_other_records
  b_l_with_other_records : Binds K d_l_with_other_records p_l_with_other_records []
  m_l_with_other_records : mg "_law_with_other_records" = some (.ref a_l_with_other_records)
  a_l_with_other_form : Addr
  d_l_with_other_form : FuncData
  F_l_with_other_form : Fun K "_law_with_other_form" "_law_with_other_form" s_l_with_other_form a_l_with_other_form d_l_with_other_form
  b_l_with_other_form : Binds K d_l_with_other_form p_l_with_other_form []
  m_l_with_other_form : mg "_law_with_other_form" = some (.ref a_l_with_other_form)
  a_l_garbage : Addr
  d_l_garbage : FuncData
  F_l_garbage : Fun K "_law_garbage" "_law_garbage" s_l_garbage a_l_garbage d_l_garbage
  b_l_garbage : Binds K d_l_garbage p_l_garbage []
  m_l_garbage : mg "_law_garbage" = some (.ref a_l_garbage)
  a_l_asked : Addr
  d_l_asked : FuncData
  F_l_asked : Fun K "_law_asked" "_law_asked" s_l_asked a_l_asked d_l_asked
  b_l_asked : Binds K d_l_asked p_l_asked []
  m_l_asked : mg "_law_asked" = some (.ref a_l_asked)
  a_l_fits : Addr
  d_l_fits : FuncData
  F_l_fits : Fun K "_law_fits" "_law_fits" s_l_fits a_l_fits d_l_fits
  b_l_fits : Binds K d_l_fits p_l_fits []
  m_l_fits : mg "_law_fits" = some (.ref a_l_fits)
  a_l_formed : Addr
  d_l_formed : FuncData
  F_l_formed : Fun K "_law_formed" "_law_formed" s_l_formed a_l_formed d_l_formed
  b_l_formed : Binds K d_l_formed p_l_formed []
  m_l_formed : mg "_law_formed" = some (.ref a_l_formed)
  a_l_judge : Addr
  d_l_judge : FuncData
  F_l_judge : Fun K "_law_judge" "_law_judge" s_l_judge a_l_judge d_l_judge
  b_l_judge : Binds K d_l_judge p_l_judge []
  m_l_judge : mg "_law_judge" = some (.ref a_l_judge)
  a_law : Addr
  d_law : FuncData
  F_law : Fun K "law" "law" s_law a_law d_law
  b_law : Binds K d_law p_law []
  m_law : mg "law" = some (.ref a_law)
  z_all : mg "all" = none
  z_bool : mg "bool" = none
  z_enumerate : mg "enumerate" = none
  z_int : mg "int" = none
  z_isinstance : mg "isinstance" = none
  z_len : mg "len" = none
  z_list : mg "list" = none
  z_max : mg "max" = none
  z_min : mg "min" = none
  z_range : mg "range" = none
  z_reversed : mg "reversed" = none
  z_sorted : mg "sorted" = none
  z_str : mg "str" = none
  z_tuple : mg "tuple" = none
  z_zip : mg "zip" = none
abbrev n_reference_places : List Str := ["kinds", "at", "kind"]
theorem sc_reference_places : FnScope n_reference_places p_reference_places (defScope s_reference_places) := ⟨rfl, rfl, rfl, by decide +kernel, rfl, by decide +kernel, by decide +kernel⟩
abbrev n_places_in_records : List Str := ["program", "_", "kind", "name", "fields"]
theorem sc_places_in_records : FnScope n_places_in_records p_places_in_records (defScope s_places_in_records) := ⟨rfl, rfl, rfl, by decide +kernel, rfl, by decide +kernel, by decide +kernel⟩
abbrev n_referred : List Str := ["values", "places", "at"]
theorem sc_referred : FnScope n_referred p_referred (defScope s_referred) := ⟨rfl, rfl, rfl, by decide +kernel, rfl, by decide +kernel, by decide +kernel⟩
abbrev n_translated : List Str := ["values", "places", "numbers", "changed", "at"]
theorem sc_translated : FnScope n_translated p_translated (defScope s_translated) := ⟨rfl, rfl, rfl, by decide +kernel, rfl, by decide +kernel, by decide +kernel⟩
abbrev n_translated_record : List Str := ["record", "places", "numbers", "name", "live", "fields"]
theorem sc_translated_record : FnScope n_translated_record p_translated_record (defScope s_translated_record) := ⟨rfl, rfl, rfl, by decide +kernel, rfl, by decide +kernel, by decide +kernel⟩
abbrev n_neighbours : List Str := ["record", "places", "name", "live", "fields"]
theorem sc_neighbours : FnScope n_neighbours p_neighbours (defScope s_neighbours) := ⟨rfl, rfl, rfl, by decide +kernel, rfl, by decide +kernel, by decide +kernel⟩
abbrev n_visit_records : List Str := ["places", "first", "records", "fixed", "order", "seen", "index", "starts", "found", "pending"]
theorem sc_visit_records : FnScope n_visit_records p_visit_records (defScope s_visit_records) := ⟨rfl, rfl, rfl, by decide +kernel, rfl, by decide +kernel, by decide +kernel⟩
abbrev n_number_key : List Str := ["program", "kinds", "values", "records", "fixed", "own", "places", "order", "numbers", "at", "index", "kept"]
theorem sc_number_key : FnScope n_number_key p_number_key (defScope s_number_key) := ⟨rfl, rfl, rfl, by decide +kernel, rfl, by decide +kernel, by decide +kernel⟩
abbrev n_is_key : List Str := ["program", "kinds", "key", "fixed", "values", "records", "field_kinds", "_", "kind", "name", "fields", "record", "names", "live"]
theorem sc_is_key : FnScope n_is_key p_is_key (defScope s_is_key) := ⟨rfl, rfl, rfl, by decide +kernel, rfl, by decide +kernel, by decide +kernel⟩
abbrev n_has_record_form : List Str := ["record", "field_kinds", "name", "live", "fields"]
theorem sc_has_record_form : FnScope n_has_record_form p_has_record_form (defScope s_has_record_form) := ⟨rfl, rfl, rfl, by decide +kernel, rfl, by decide +kernel, by decide +kernel⟩
abbrev n_all_fit : List Str := ["values", "kinds", "names", "value", "kind"]
theorem sc_all_fit : FnScope n_all_fit p_all_fit (defScope s_all_fit) := ⟨rfl, rfl, rfl, by decide +kernel, rfl, by decide +kernel, by decide +kernel⟩
abbrev n_has_kind : List Str := ["value", "kind", "names"]
theorem sc_has_kind : FnScope n_has_kind p_has_kind (defScope s_has_kind) := ⟨rfl, rfl, rfl, by decide +kernel, rfl, by decide +kernel, by decide +kernel⟩
abbrev n_l_cell : List Str := ["_law_script", "_law_at"]
theorem sc_l_cell : FnScope n_l_cell p_l_cell (defScope s_l_cell) := ⟨rfl, rfl, rfl, by decide +kernel, rfl, by decide +kernel, by decide +kernel⟩
abbrev n_l_source : List Str := ["_law_cell_here"]
theorem sc_l_source : FnScope n_l_source p_l_source (defScope s_l_source) := ⟨rfl, rfl, rfl, by decide +kernel, rfl, by decide +kernel, by decide +kernel⟩
abbrev n_l_pick : List Str := ["_law_source_here", "_law_size", "_law_k", "_law_digit", "_law_mixed"]
theorem sc_l_pick : FnScope n_l_pick p_l_pick (defScope s_l_pick) := ⟨rfl, rfl, rfl, by decide +kernel, rfl, by decide +kernel, by decide +kernel⟩
abbrev n_l_one : List Str := ["_law_source_here", "_law_row"]
theorem sc_l_one : FnScope n_l_one p_l_one (defScope s_l_one) := ⟨rfl, rfl, rfl, by decide +kernel, rfl, by decide +kernel, by decide +kernel⟩
abbrev n_l_names : List Str := ["_law_source_here", "_law_style", "_law_names_here", "_law_k", "_law_word"]
theorem sc_l_names : FnScope n_l_names p_l_names (defScope s_l_names) := ⟨rfl, rfl, rfl, by decide +kernel, rfl, by decide +kernel, by decide +kernel⟩
abbrev n_l_follow : List Str := ["_law_run", "_law_where", "_law_order", "_law_record", "_law_fields", "_law_k"]
theorem sc_l_follow : FnScope n_l_follow p_l_follow (defScope s_l_follow) := ⟨rfl, rfl, rfl, by decide +kernel, rfl, by decide +kernel, by decide +kernel⟩
abbrev n_l_meet : List Str := ["_law_run", "_law_where", "_law_order"]
theorem sc_l_meet : FnScope n_l_meet p_l_meet (defScope s_l_meet) := ⟨rfl, rfl, rfl, by decide +kernel, rfl, by decide +kernel, by decide +kernel⟩
abbrev n_l_renumbered : List Str := ["_law_kind", "_law_value", "_law_order"]
theorem sc_l_renumbered : FnScope n_l_renumbered p_l_renumbered (defScope s_l_renumbered) := ⟨rfl, rfl, rfl, by decide +kernel, rfl, by decide +kernel, by decide +kernel⟩
abbrev n_l_key : List Str := ["_law_run", "_law_kinds", "_law_values", "_law_fixed", "_law_order", "_law_where", "_law_k", "_law_records", "_law_record", "_law_told", "_law_fields", "_law_shown"]
theorem sc_l_key : FnScope n_l_key p_l_key (defScope s_l_key) := ⟨rfl, rfl, rfl, by decide +kernel, rfl, by decide +kernel, by decide +kernel⟩
abbrev n_l_drawn_value : List Str := ["_law_source_here", "_law_run", "_law_kind", "_law_pool", "_law_k"]
theorem sc_l_drawn_value : FnScope n_l_drawn_value p_l_drawn_value (defScope s_l_drawn_value) := ⟨rfl, rfl, rfl, by decide +kernel, rfl, by decide +kernel, by decide +kernel⟩
abbrev n_l_number_kind : List Str := ["_law_source_here", "_law_low"]
theorem sc_l_number_kind : FnScope n_l_number_kind p_l_number_kind (defScope s_l_number_kind) := ⟨rfl, rfl, rfl, by decide +kernel, rfl, by decide +kernel, by decide +kernel⟩
abbrev n_l_world : List Str := ["_law_source_here", "_law_shape", "_law_names_here", "_law_turn", "_law_records", "_law_at", "_law_earlier", "_law_record", "_law_size", "_law_fields", "_law_k", "_law_kind", "_law_choice"]
theorem sc_l_world : FnScope n_l_world p_l_world (defScope s_l_world) := ⟨rfl, rfl, rfl, by decide +kernel, rfl, by decide +kernel, by decide +kernel⟩
abbrev n_l_shuffled : List Str := ["_law_source_here", "_law_size", "_law_order", "_law_k"]
theorem sc_l_shuffled : FnScope n_l_shuffled p_l_shuffled (defScope s_l_shuffled) := ⟨rfl, rfl, rfl, by decide +kernel, rfl, by decide +kernel, by decide +kernel⟩
abbrev n_l_moved : List Str := ["_law_run", "_law_order", "_law_moved_here", "_law_where", "_law_row", "_law_told", "_law_fields", "_law_k"]
theorem sc_l_moved : FnScope n_l_moved p_l_moved (defScope s_l_moved) := ⟨rfl, rfl, rfl, by decide +kernel, rfl, by decide +kernel, by decide +kernel⟩
abbrev n_l_heap : List Str := ["_law_source_here", "_law_program", "_law_size", "_law_times", "_law_run", "_law_record", "_law_wanted", "_law_k", "_law_at", "_law_name", "_law_row", "_law_field"]
theorem sc_l_heap : FnScope n_l_heap p_l_heap (defScope s_l_heap) := ⟨rfl, rfl, rfl, by decide +kernel, rfl, by decide +kernel, by decide +kernel⟩
abbrev n_l_variables : List Str := ["_law_source_here", "_law_program", "_law_longest", "_law_kinds", "_law_k", "_law_choice"]
theorem sc_l_variables : FnScope n_l_variables p_l_variables (defScope s_l_variables) := ⟨rfl, rfl, rfl, by decide +kernel, rfl, by decide +kernel, by decide +kernel⟩
abbrev n_l_case : List Str := ["_law_source_here", "_law_program", "_law_style", "_law_size", "_law_longest", "_law_times", "_law_run", "_law_kinds", "_law_values", "_law_kind", "_law_fixed"]
theorem sc_l_case : FnScope n_l_case p_l_case (defScope s_l_case) := ⟨rfl, rfl, rfl, by decide +kernel, rfl, by decide +kernel, by decide +kernel⟩
abbrev n_l_frozen : List Str := ["_law_values", "_law_records", "_law_row"]
theorem sc_l_frozen : FnScope n_l_frozen p_l_frozen (defScope s_l_frozen) := ⟨rfl, rfl, rfl, by decide +kernel, rfl, by decide +kernel, by decide +kernel⟩
abbrev n_l_strange : List Str := ["_law_source_here", "_law_value", "_law_size", "_law_near", "_law_row"]
theorem sc_l_strange : FnScope n_l_strange p_l_strange (defScope s_l_strange) := ⟨rfl, rfl, rfl, by decide +kernel, rfl, by decide +kernel, by decide +kernel⟩
abbrev n_l_with_other_part : List Str := ["_law_source_here", "_law_program", "_law_values", "_law_records", "_law_choice", "_law_at", "_law_row", "_law_record"]
theorem sc_l_with_other_part : FnScope n_l_with_other_part p_l_with_other_part (defScope s_l_with_other_part) := ⟨rfl, rfl, rfl, by decide +kernel, rfl, by decide +kernel, by decide +kernel⟩
abbrev n_l_with_other_records : List Str := ["_law_source_here", "_law_program", "_law_kinds", "_law_values", "_law_records", "_law_choice", "_law_size", "_law_fields", "_law_record", "_law_order", "_law_at", "_law_k", "_law_moved_here"]
theorem sc_l_with_other_records : FnScope n_l_with_other_records p_l_with_other_records (defScope s_l_with_other_records) := ⟨rfl, rfl, rfl, by decide +kernel, rfl, by decide +kernel, by decide +kernel⟩
abbrev n_l_with_other_form : List Str := ["_law_source_here", "_law_values", "_law_records", "_law_last", "_law_rows", "_law_row", "_law_keys"]
theorem sc_l_with_other_form : FnScope n_l_with_other_form p_l_with_other_form (defScope s_l_with_other_form) := ⟨rfl, rfl, rfl, by decide +kernel, rfl, by decide +kernel, by decide +kernel⟩
abbrev n_l_garbage : List Str := ["_law_source_here", "_law_depth", "_law_k"]
theorem sc_l_garbage : FnScope n_l_garbage p_l_garbage (defScope s_l_garbage) := ⟨rfl, rfl, rfl, by decide +kernel, rfl, by decide +kernel, by decide +kernel⟩
abbrev n_l_asked : List Str := ["_law_source_here", "_law_program", "_law_case_here", "_law_key_here", "_law_fixed", "_law_choice", "_law_values", "_law_records", "_law_row"]
theorem sc_l_asked : FnScope n_l_asked p_l_asked (defScope s_l_asked) := ⟨rfl, rfl, rfl, by decide +kernel, rfl, by decide +kernel, by decide +kernel⟩
abbrev n_l_fits : List Str := ["_law_kind", "_law_value", "_law_records"]
theorem sc_l_fits : FnScope n_l_fits p_l_fits (defScope s_l_fits) := ⟨rfl, rfl, rfl, by decide +kernel, rfl, by decide +kernel, by decide +kernel⟩
abbrev n_l_formed : List Str := ["_law_fields", "_law_record"]
theorem sc_l_formed : FnScope n_l_formed p_l_formed (defScope s_l_formed) := ⟨rfl, rfl, rfl, by decide +kernel, rfl, by decide +kernel, by decide +kernel⟩
abbrev n_l_judge : List Str := ["_law_program", "_law_kinds", "_law_key_here", "_law_fixed", "_law_fields", "_law_record", "_law_k", "_law_run"]
theorem sc_l_judge : FnScope n_l_judge p_l_judge (defScope s_l_judge) := ⟨rfl, rfl, rfl, by decide +kernel, rfl, by decide +kernel, by decide +kernel⟩
abbrev n_law : List Str := ["_law_script", "_law_source_here", "_law_program", "_law_case_here", "_law_kinds", "_law_key_here", "_law_asked_here", "_law_turn", "_law_pair", "_law_told"]
theorem sc_law : FnScope n_law p_law (defScope s_law) := ⟨rfl, rfl, rfl, by decide +kernel, rfl, by decide +kernel, by decide +kernel⟩
/-! ### a list against the empty one -/
def rEqL0 (K : PySem.W.Frag) (neg : Bool) : R2 := fun x y H Q => ∃ (a b : Addr) (xs : List V), x = .ref a ∧ y = .ref b ∧ SqL K H a xs ∧ SqL K H b [] ∧ Q (.bl (if neg then !xs.isEmpty else xs.isEmpty)) H
theorem op_neL0 {X : Cx} (hu : X.A.units < cLine) : OpR X (compareOp .NotEq) (rEqL0 X.K true) := by
  intro pins s σ H x y v u Q I rx ry h
  obtain ⟨a, b, xs, rfl, rfl, ha, hb, q⟩ := h
  obtain rfl : v = Value.ref a := rx
  obtain rfl : u = Value.ref b := ry
  obtain ⟨its, r1, t1, _⟩ := I.list ha
  obtain ⟨its2, r2, t2, _⟩ := I.list hb
  cases r2
  cases r1 with
  | nil => exact SeqAt.RcNeAt.lists (e := fun _ => true) t1.isList t2.isList rfl hu (fun j h1 h2 => absurd h2 (by simp)) _ _ _ _ ⟨.bl _, H, I, rfl, q⟩
  | cons _ _ => exact SeqAt.RcNeAt.lists_lengths t1.isList t2.isList (by simp) hu _ _ _ _ ⟨.bl _, H, I, rfl, q⟩
theorem op_eqL0 {X : Cx} (hu : X.A.units < cLine) : OpR X (compareOp .Eq) (rEqL0 X.K false) := by
  intro pins s σ H x y v u Q I rx ry h
  obtain ⟨a, b, xs, rfl, rfl, ha, hb, q⟩ := h
  obtain rfl : v = Value.ref a := rx
  obtain rfl : u = Value.ref b := ry
  obtain ⟨its, r1, t1, _⟩ := I.list ha
  obtain ⟨its2, r2, t2, _⟩ := I.list hb
  cases r2
  cases r1 with
  | nil => exact SeqAt.eq_listAt (e := fun _ => true) t1.isList t2.isList rfl hu (fun j h1 h2 => absurd h2 (by simp)) ⟨.bl _, H, I, rfl, q⟩
  | cons _ _ => exact SeqAt.eq_list_lengthsAt t1.isList t2.isList (by simp) hu ⟨.bl _, H, I, rfl, q⟩
/-! ### built-in names -/
theorem bt_int : bootBuiltins "int" = some (.type "int") := by decide +kernel
theorem bt_str : bootBuiltins "str" = some (.type "str") := by decide +kernel
theorem bt_bool : bootBuiltins "bool" = some (.type "bool") := by decide +kernel
theorem bt_tuple : bootBuiltins "tuple" = some (.type "tuple") := by decide +kernel
theorem bt_list : bootBuiltins "list" = some (.type "list") := by decide +kernel
theorem bt_dict : bootBuiltins "dict" = some (.type "dict") := by decide +kernel
theorem bb_max : bootBuiltins "max" = some (.builtin "max") := by decide +kernel
theorem bb_min : bootBuiltins "min" = some (.builtin "min") := by decide +kernel
theorem bb_isinstance : bootBuiltins "isinstance" = some (.builtin "isinstance") := by decide +kernel
/-! ### a source of draws: a list of three ints, which draws alone change -/
def Src (H : Hp) (a : Addr) : Prop := ∃ c m k : Int, H a = some (.lst [.int c, .int m, .int k])
/-- a source stands at a, and nothing else that was tracked has changed -/
structure Stp (a : Addr) (H H' : Hp) : Prop where
  s : Src H' a
  k : ∀ b o, b ≠ a → H b = some o → H' b = some o
theorem Stp.refl {a : Addr} {H : Hp} (h : Src H a) : Stp a H H := ⟨h, fun _ _ _ e => e⟩
theorem Stp.trans {a : Addr} {H H1 H2 : Hp} (x : Stp a H H1) (y : Stp a H1 H2) : Stp a H H2 := ⟨y.s, fun b o hb e => y.k b o hb (x.k b o hb e)⟩
theorem Src.ne {a p : Addr} {H : Hp} (h : Src H a) (n : H p = none) : a ≠ p := by
  obtain ⟨c, m, k, h⟩ := h
  exact ne_of_none h n
theorem Stp.free {a p : Addr} {H H' : Hp} (x : Stp a H H') (n : H' p = none) : H p = none := by
  cases q : H p with
  | none => rfl
  | some o =>
    have ne : p ≠ a := fun z => x.s.ne n z.symm
    rw [x.k p o ne q] at n
    cases n
/-- a new object beside the source -/
theorem Stp.new {a p : Addr} {H H' : Hp} {o : HO} (x : Stp a H H') (n : H' p = none) : Stp a H (upd H' p o) := by
  have ne := x.s.ne n
  obtain ⟨c, m, k, h⟩ := x.s
  refine ⟨⟨c, m, k, by rw [upd_ne ne]; exact h⟩, fun b u hb e => ?_⟩
  have e' := x.k b u hb e
  rw [upd_ne (ne_of_none e' n)]
  exact e'
theorem Stp.same {a : Addr} {H H' H2 : Hp} (x : Stp a H H') (s : Same H' H2) : Stp a H H2 := by
  obtain ⟨c, m, k, h⟩ := x.s
  exact ⟨⟨c, m, k, s _ _ h⟩, fun b o hb e => s b o (x.k b o hb e)⟩
theorem Stp.of_same {a : Addr} {H H' : Hp} (h : Src H a) (s : Same H H') : Stp a H H' := (Stp.refl h).same s
theorem Same.new {H : Hp} {p : Addr} (h : H p = none) (o : HO) : Same H (upd H p o) := fun b u q => by rw [upd_ne (ne_of_none q h)]; exact q
/-- a source that is new ahead of its draws: all that was tracked stands -/
theorem Stp.fresh {a : Addr} {H H1 H2 : Hp} (s : Same H H1) (n : H a = none) (x : Stp a H1 H2) : Same H H2 := fun b o e => x.k b o (ne_of_none e n) (s b o e)
theorem Stp.rd {K : PySem.W.Frag} {a p : Addr} {H H' : Hp} {xs : List V} (x : Stp a H H') (h : SqT K H p xs) (hs : Src H a) : SqT K H' p xs := by
  obtain ⟨c, m, k, hs⟩ := hs
  rcases h with (h | ⟨o, h⟩) | h
  · exact .inl (.inl (x.k _ _ (ne_of h hs (by intro z; cases z)) h))
  · exact .inl (.inr ⟨o, x.k _ _ (ne_of h hs (by intro z; cases z)) h⟩)
  · exact .inr h
theorem Stp.rdL {K : PySem.W.Frag} {a p : Addr} {H H' : Hp} {xs : List V} (x : Stp a H H') (h : SqL K H p xs) (ne : p ≠ a) : SqL K H' p xs := by
  rcases h with (h | ⟨o, h⟩) | h
  · exact .inl (.inl (x.k _ _ ne h))
  · exact .inl (.inr ⟨o, x.k _ _ ne h⟩)
  · exact .inr h
theorem Same.tup {K : PySem.W.Frag} {p : Addr} {H H' : Hp} {xs : List V} (x : Same H H') (h : SqT K H p xs) : SqT K H' p xs := by
  rcases h with (h | ⟨o, h⟩) | h
  · exact .inl (.inl (x _ _ h))
  · exact .inl (.inr ⟨o, x _ _ h⟩)
  · exact .inr h
/-! ### numbers -/
theorem ifT {c : Bool} {A B : Prop} (h : c = true) (a : A) : if c = true then A else B := by rw [if_pos h]; exact a
theorem ifF {c : Bool} {A B : Prop} (h : c = false) (b : B) : if c = true then A else B := by rw [h]; exact iteF b
theorem fmod_bd {x m : Int} (h : 0 < m) : 0 ≤ x.fmod m ∧ x.fmod m < m := ⟨Int.fmod_nonneg_of_pos x h, Int.fmod_lt_of_pos x h⟩
theorem fm64 {x m : Int} (h : 0 < m) (h2 : m ≤ 2 ^ 64) : -(2 ^ 64) < x.fmod m ∧ x.fmod m < 2 ^ 64 :=
  ⟨Int.lt_of_lt_of_le (by decide) (fmod_bd h).1, Int.lt_of_lt_of_le (fmod_bd h).2 h2⟩
theorem atI_int {α : Type} {xs : List α} {r : Int} (h0 : 0 ≤ r) (h : r.toNat < xs.length) : atI xs r = some xs[r.toNat] := by
  have e := atI_nat (xs := xs) (j := r.toNat) (List.getElem?_eq_getElem h)
  rwa [Int.toNat_of_nonneg h0] at e
/-! ### the promises of the draws -/
def spCell (K : PySem.W.Frag) : Sp := fun vs H Q _ => ∃ (l : Addr) (ns : List Int) (j : Int), vs = [.ref l, .int j] ∧ SqL K H l (ns.map V.int) ∧ 0 ≤ j ∧ ∀ i : Int, Q (.int i) H
def spSource : Sp := fun vs H Q _ => ∃ c : Int, vs = [.int c] ∧ ∀ p H', H p = none → Same H H' → Src H' p → Q (.ref p) H'
def spPick : Sp := fun vs H Q _ => ∃ (a : Addr) (n : Int), vs = [.ref a, .int n] ∧ Src H a ∧ n < 1073741824 ∧ ∀ (r : Int) (H' : Hp), Stp a H H' → 0 ≤ r → (r < n ∨ r = 0) → Q (.int r) H'
def spOne (K : PySem.W.Frag) : Sp := fun vs H Q _ => ∃ (a : Addr) (row : V), vs = [.ref a, row] ∧ Src H a ∧
  ((∃ (p : Addr) (xs : List V), row = .ref p ∧ p ≠ a ∧ SqL K H p xs ∧ 0 < xs.length ∧ xs.length < 1000 ∧ ∀ v H', v ∈ xs → Stp a H H' → Q v H') ∨
   (∃ z : Str, row = .str z ∧ 0 < z.length ∧ z.length < 1000 ∧ ∀ (c : Nat) H', c ∈ z.cps.toList → Stp a H H' → Q (.str ⟨#[c]⟩) H'))
section
variable {P : Program} {w : World} {K : PySem.W.Frag} {mg : Str → Option Value} {base : Heap}
theorem ok_l_cell (T : Txt w K mg) : FnOk P w K mg base CX0 1 T.a_l_cell T.d_l_cell p_l_cell (spCell K) := by
  refine T.F_l_cell.ok sc_l_cell (fun vs H Q E h => ?_) (fun cdv A outer s H vs Q E hr h => ?_)
  · obtain ⟨l, ns, j, rfl, _⟩ := h
    rfl
  obtain ⟨l, ns, j, rfl, hS, h0, q⟩ := h
  refine ⟨_, (pss_cons (ps_if (pt_cmpR op_lt (pv 1) (pe_callB call_len_seq rfl T.z_len PySem.boot_len (pa_cons (pv 0) pa_nil)) (nomark _)) (pss_one (ps_ret (pe_ix ix_list (pv 0) (pv 1) (fun _ _ => rfl)))) pss_nil)
      (pss_one (ps_ret pe_int))), ?_⟩
  have hl : (ns.map V.int).length = ns.length := List.length_map _
  refine ⟨_, rfl, _, rfl, l, _, rfl, .inl hS, _, _, rfl, rfl, _, rfl, ?_⟩
  refine ite2 (fun c => ?_) (fun c => ?_)
  · have c' : j < (((ns.map V.int).length : Nat) : Int) := of_decide_eq_true c
    rw [hl] at c'
    have hk : j.toNat < ns.length := by omega
    have e := atI_int (xs := ns.map V.int) h0 (by omega)
    rw [List.getElem_map] at e
    exact ⟨_, rfl, _, rfl, l, _, _, _, rfl, rfl, hS, e, q _⟩
  · exact q 0
theorem ok_l_source (T : Txt w K mg) : FnOk P w K mg base CX0 1 T.a_l_source T.d_l_source p_l_source spSource := by
  refine T.F_l_source.ok sc_l_source (fun vs H Q E h => ?_) (fun cdv A outer s H vs Q E hr h => ?_)
  · obtain ⟨c, rfl, _⟩ := h
    rfl
  obtain ⟨c, rfl, q⟩ := h
  refine ⟨_, (pss_one (ps_ret (pe_lst (pa_cons (pv 0) (pa_cons (pv 0) (pa_cons pe_int pa_nil)))))), ?_⟩
  refine ⟨_, rfl, _, rfl, (by show 3 ≤ sizeLine; decide), fun p hp => ?_⟩
  exact q p _ hp (Same.new hp _) ⟨c, c, 0, upd_same⟩
theorem ok_l_pick (T : Txt w K mg) : FnOk P w K mg base CX0 1 T.a_l_pick T.d_l_pick p_l_pick spPick := by
  refine T.F_l_pick.ok sc_l_pick (fun vs H Q E h => ?_) (fun cdv A outer s H vs Q E hr h => ?_)
  · obtain ⟨a, n, rfl, _⟩ := h
    rfl
  obtain ⟨a, n, rfl, ⟨c, m, k, hS⟩, hn, q⟩ := h
  refine ⟨_, (pss_cons (ps_set (i := 2) sc_l_pick.nd rfl (Or.inl rfl) (pe_ix ix_list (pv 0) pe_int (fun _ _ => rfl)))
      (pss_cons (ps_asg (pe_op op_add (pv 2) pe_int) (pg_sub (pv 0) pe_int set_list))
      (pss_cons (ps_if (pt_cmpR op_lt (pv 1) pe_int (nomark _)) (pss_one (ps_ret pe_int)) pss_nil)
      (pss_cons (ps_if (PW.pt (pw_and (pt_cmpR op_ge (pe_ix ix_list (pv 0) pe_int (fun _ _ => rfl)) (pe_op op_pow pe_int pe_int) (nomark _)) (pw_and1 (pt_cmpR op_gt (pe_ix ix_list (pv 0) pe_int (fun _ _ => rfl)) pe_int (nomark _))))) (pss_cons (ps_set (i := 3) sc_l_pick.nd rfl (Or.inl rfl) (pe_op op_modN (pe_callTy call_int1 rfl T.z_int bt_int (pa_cons (pe_ix ix_list (pv 0) pe_int (fun _ _ => rfl)) pa_nil)) (pv 1)))
      (pss_cons (ps_asg (pe_op op_fdivN (pe_ix ix_list (pv 0) pe_int (fun _ _ => rfl)) (pv 1)) (pg_sub (pv 0) pe_int set_list))
      (pss_one (ps_ret (pv 3))))) pss_nil)
      (pss_cons (ps_set (i := 4) sc_l_pick.nd rfl (Or.inl rfl) (pe_op op_modN (pe_callTy call_int1 rfl T.z_int bt_int (pa_cons (pe_op op_add (pe_op op_add (pe_ix ix_list (pv 0) pe_int (fun _ _ => rfl)) (pe_op op_mul pe_int (pv 2))) pe_int) pa_nil)) pe_int))
      (pss_cons (ps_set (i := 4) sc_l_pick.nd rfl (Or.inl rfl) (pe_op op_modN (pe_callTy call_int1 rfl T.z_int bt_int (pa_cons (pe_op op_mul (pv 4) (pe_op op_add (pv 4) pe_int)) pa_nil)) pe_int))
      (pss_cons (ps_set (i := 4) sc_l_pick.nd rfl (Or.inl rfl) (pe_op op_modN (pe_callTy call_int1 rfl T.z_int bt_int (pa_cons (pe_op op_add (pe_op op_mul (pv 4) (pe_op op_add (pv 4) pe_int)) (pe_op op_mul pe_int (pv 2))) pa_nil)) pe_int))
      (pss_one (ps_ret (pe_op op_modN (pe_callTy call_int1 rfl T.z_int bt_int (pa_cons (pe_op op_fdivN (pv 4) pe_int) pa_nil)) (pv 1))))))))))), ?_⟩
  refine ⟨_, rfl, a, _, 2, _, rfl, rfl, SqL.of hS, rfl, ?_⟩
  refine ⟨_, rfl, k, 1, rfl, rfl, _, rfl, a, _, 2, 2, rfl, rfl, hS, rfl, ?_⟩
  have h1 : (upd H a (.lst [.int c, .int m, .int (k + 1)])) a = some (.lst [.int c, .int m, .int (k + 1)]) := upd_same
  have st : Stp a H (upd H a (.lst [.int c, .int m, .int (k + 1)])) := ⟨⟨c, m, k + 1, upd_same⟩, fun b o hb e => by rw [upd_ne hb]; exact e⟩
  refine ⟨_, rfl, n, 2, rfl, rfl, _, rfl, ?_⟩
  refine ite2 (fun _ => ?_) (fun c2 => ?_)
  · exact q 0 _ st (Int.le_refl 0) (.inr rfl)
  have hn2 : ¬ n < 2 := of_decide_eq_false (Bool.eq_false_iff.mpr c2)
  refine ⟨_, rfl, a, _, 0, _, rfl, rfl, SqL.of h1, rfl, 10, 18, rfl, rfl, ⟨by decide, by decide, by decide⟩, _, _, rfl, rfl, _, rfl, ?_⟩
  refine ite2 (fun _ => ⟨_, rfl, a, _, 1, _, rfl, rfl, SqL.of h1, rfl, _, _, rfl, rfl, _, rfl, ite2 (fun _ => ?first) (fun _ => ?second)⟩) (fun _ => iteF ?third)
  case first =>
    refine ⟨_, rfl, a, _, 1, _, rfl, rfl, SqL.of h1, rfl, .inl ⟨_, rfl, ?_⟩⟩
    refine ⟨_, rfl, _, _, rfl, rfl, by omega, ?_⟩
    refine ⟨_, rfl, a, _, 1, _, rfl, rfl, SqL.of h1, rfl, _, rfl, m, n, rfl, rfl, ⟨by omega, by omega⟩, _, rfl, a, _, 1, 1, rfl, rfl, h1, rfl, ?_⟩
    refine ⟨_, rfl, ?_⟩
    have b := fmod_bd (x := m) (m := n) (by omega)
    refine q _ _ ⟨⟨c, m.fdiv n, k + 1, upd_same⟩, fun b o hb e => ?_⟩ b.1 (.inl b.2)
    rw [upd_ne hb]
    exact st.k b o hb e
  all_goals
    refine ⟨_, rfl, a, _, 0, _, rfl, rfl, SqL.of h1, rfl, _, rfl, 7919, k, rfl, rfl, .inl ⟨by decide, by decide⟩, _, _, rfl, rfl, _, _, rfl, rfl, .inl ⟨_, rfl, ?_⟩⟩
    refine ⟨_, _, rfl, rfl, (by intro z; cases z), ?_⟩
    refine ⟨_, rfl, _, rfl, _, _, rfl, rfl, _, _, rfl, rfl, .inl (fm64 (by decide) (by decide)), .inl ⟨_, rfl, ?_⟩⟩
    refine ⟨_, _, rfl, rfl, (by intro z; cases z), ?_⟩
    refine ⟨_, rfl, _, rfl, _, _, rfl, rfl, _, _, rfl, rfl, .inl (fm64 (by decide) (by decide)), _, rfl, 31, k, rfl, rfl, .inl ⟨by decide, by decide⟩, _, _, rfl, rfl, .inl ⟨_, rfl, ?_⟩⟩
    refine ⟨_, _, rfl, rfl, (by intro z; cases z), ?_⟩
    refine ⟨_, rfl, _, _, rfl, rfl, ⟨by decide, by decide⟩, .inl ⟨_, rfl, ?_⟩⟩
    refine ⟨_, rfl, _, _, rfl, rfl, (by omega), ?_⟩
    exact q _ _ st (fmod_bd (by omega)).1 (.inl (fmod_bd (by omega)).2)
theorem ok_l_one (T : Txt w K mg) : FnOk P w K mg base CX0 2 T.a_l_one T.d_l_one p_l_one (spOne K) := by
  have g_l_pick := ok_l_pick (P := P) (w := w) (base := base) T
  refine T.F_l_one.ok sc_l_one (fun vs H Q E h => ?_) (fun cdv A outer s H vs Q E hr h => ?_)
  · obtain ⟨a, row, rfl, _⟩ := h
    rfl
  obtain ⟨a, row, rfl, hS, h⟩ := h
  refine ⟨_, (pss_one (ps_ret (pe_ix ix_seq (pv 1) (pe_call g_l_pick (hr.mono (by first | decide | omega)) rfl T.m_l_pick T.F_l_pick.kp T.b_l_pick .nil pass0 (pa_cons (pv 0) (pa_cons (pe_callB call_len rfl T.z_len PySem.boot_len (pa_cons (pv 1) pa_nil)) pa_nil))) (fun _ _ => rfl)))), ?_⟩
  rcases h with ⟨p, xs, rfl, ne, hx, h0, h9, q⟩ | ⟨z, rfl, h0, h9, q⟩
  · refine ⟨_, rfl, _, rfl, _, rfl, .ref p, xs.length, rfl, .inl ⟨_, hx, rfl⟩, ?_⟩
    refine ⟨a, _, rfl, hS, by omega, fun r H' st r0 r1 => ?_⟩
    have hr' : r.toNat < xs.length := by omega
    have e := atI_int (xs := xs) r0 hr'
    exact .inl ⟨p, xs, r, _, rfl, rfl, st.rdL hx ne, e, q _ _ (List.getElem_mem hr') st⟩
  · refine ⟨_, rfl, _, rfl, _, rfl, .str z, z.length, rfl, ⟨Nat.le_of_lt (small1000 (by omega)), rfl⟩, ?_⟩
    refine ⟨a, _, rfl, hS, by omega, fun r H' st r0 r1 => ?_⟩
    have ez : z.length = z.cps.toList.length := by simp [Str.length]
    have hr' : r.toNat < z.cps.toList.length := by omega
    have e := atI_int (xs := z.cps.toList) r0 hr'
    exact .inr (.inr ⟨z, r, _, rfl, rfl, Nat.le_of_lt (small1000 (by omega)), e, q _ _ (List.getElem_mem hr') st⟩)
end
/-! ### data: equal data are the same to _law_same -/
def Dok : Nat → PyData → Prop
  | 0, _ => False
  | _ + 1, .none => True
  | _ + 1, .bool _ => True
  | _ + 1, .int _ => True
  | _ + 1, .str _ => True
  | n + 1, .tuple ds => ds.length ≤ 100000 ∧ ∀ d ∈ ds, Dok n d
  | n + 1, .list ds => ds.length ≤ 100000 ∧ ∀ d ∈ ds, Dok n d
  | _ + 1, .dict _ => False
theorem dpAll_len {K : PySem.W.Frag} {H : Hp} : ∀ {vs : List V} {ds : List PyData}, DpAll K H vs ds → vs.length = ds.length
  | _, _, .nil => rfl
  | _, _, .cons _ r => congrArg (· + 1) (dpAll_len r)
theorem dpAll_get {K : PySem.W.Frag} {H : Hp} : ∀ {vs : List V} {ds : List PyData} {i : Nat} {d : PyData}, DpAll K H vs ds → ds[i]? = some d → ∃ v, vs[i]? = some v ∧ Dp K H v d
  | _, _, _, _, .nil, e => by simp at e
  | _, _, 0, d, .cons h _, e => by
    simp at e
    subst e
    exact ⟨_, rfl, h⟩
  | _, _, i + 1, d, .cons _ r, e => by
    obtain ⟨v, h1, h2⟩ := dpAll_get (i := i) r (by simpa using e)
    exact ⟨v, by simpa using h1, h2⟩
theorem tyL {K : PySem.W.Frag} {H : Hp} {a : Addr} {xs : List V} (h : SqL K H a xs) : TyX K H (.ref a) (.type "list") := by
  rcases h with (h | ⟨o, h⟩) | ⟨o, its, n, h, c, _⟩
  · exact .base (.lst h)
  · exact .base (.frz h)
  · exact .kList h c
theorem tyT {K : PySem.W.Frag} {H : Hp} {a : Addr} {xs : List V} (h : SqT K H a xs) : TyX K H (.ref a) (.type "tuple") := by
  rcases h with (h | ⟨o, h⟩) | ⟨o, its, n, h, c, _⟩
  · exact .base (.tup h)
  · exact .fTuple h
  · exact .kTuple h c
theorem isi {K : PySem.W.Frag} {H : Hp} {Q : VK} {x : V} {t c : String} (b : Bool) (ty : TyX K H x (.type t)) (kb : kitB t c = some b) (q : Q (.bl b) H) : rIsi K [x, .ty c] H Q := ⟨x, .ty c, _, _, b, rfl, .ty c, ty, kit_ty kb, q⟩
theorem kb_nt : kitB "NoneType" "tuple" = some false := by decide +kernel
theorem kb_nl : kitB "NoneType" "list" = some false := by decide +kernel
theorem kb_bt : kitB "bool" "tuple" = some false := by decide +kernel
theorem kb_bl : kitB "bool" "list" = some false := by decide +kernel
theorem kb_bb : kitB "bool" "bool" = some true := by decide +kernel
theorem kb_it : kitB "int" "tuple" = some false := by decide +kernel
theorem kb_il : kitB "int" "list" = some false := by decide +kernel
theorem kb_ib : kitB "int" "bool" = some false := by decide +kernel
theorem kb_ii : kitB "int" "int" = some true := by decide +kernel
theorem kb_st : kitB "str" "tuple" = some false := by decide +kernel
theorem kb_sl : kitB "str" "list" = some false := by decide +kernel
theorem kb_sb : kitB "str" "bool" = some false := by decide +kernel
theorem kb_si : kitB "str" "int" = some false := by decide +kernel
theorem kb_ss : kitB "str" "str" = some true := by decide +kernel
theorem kb_tt : kitB "tuple" "tuple" = some true := by decide +kernel
theorem kb_tl : kitB "tuple" "list" = some false := by decide +kernel
theorem kb_lt : kitB "list" "tuple" = some false := by decide +kernel
theorem kb_ll : kitB "list" "list" = some true := by decide +kernel
def spSame (K : PySem.W.Frag) (n : Nat) : Sp := fun vs H Q _ => ∃ (x y : V) (d : PyData), vs = [x, y] ∧ Dp K H x d ∧ Dp K H y d ∧ Dok n d ∧ Q (.bl true) H
section
variable {P : Program} {w : World} {K : PySem.W.Frag} {mg : Str → Option Value} {base : Heap}
end
open ZG (Sq ItzG walk_zipG)
open DcS (dc_it)
/-! ### rows and matrices of whole numbers -/
open ZG (Sq ItzG walk_zipG)
theorem Sq.same {K : PySem.W.Frag} {t : Bool} {p : Addr} {H H' : Hp} {xs : List V} (s : Same H H') (h : Sq t K H p xs) : Sq t K H' p xs := by
  cases t
  · exact s.seq h
  · exact Same.tup s h
theorem Sq.upd_same {K : PySem.W.Frag} {p : Addr} {H : Hp} {xs : List V} : Sq false K (upd H p (.lst xs)) p xs := SqL.of L2.upd_same
theorem Sq.upd_sameT {K : PySem.W.Frag} {p : Addr} {H : Hp} {xs : List V} : Sq true K (upd H p (.tup xs)) p xs := SqT.of L2.upd_same
/-- what stood stands but at D -/
def But (D : Addr) (H H' : Hp) : Prop := ∀ b o, b ≠ D → H b = some o → H' b = some o
theorem But.of_same {D : Addr} {H H' : Hp} (s : Same H H') : But D H H' := fun b o _ e => s b o e
theorem But.upd {D : Addr} {H : Hp} (o : HO) : But D H (upd H D o) := fun b u ne e => by rw [upd_ne ne]; exact e
theorem But.trans {D : Addr} {H H1 H2 : Hp} (a : But D H H1) (b : But D H1 H2) : But D H H2 := fun c o ne e => b c o ne (a c o ne e)
theorem Sq.but {K : PySem.W.Frag} {t : Bool} {p D : Addr} {H H' : Hp} {xs : List V} (s : But D H H') (ne : p ≠ D) (h : Sq t K H p xs) : Sq t K H' p xs := by
  cases t
  · rcases h with (h | ⟨o, h⟩) | h
    · exact .inl (.inl (s _ _ ne h))
    · exact .inl (.inr ⟨o, s _ _ ne h⟩)
    · exact .inr h
  · rcases h with (h | ⟨o, h⟩) | h
    · exact .inl (.inl (s _ _ ne h))
    · exact .inl (.inr ⟨o, s _ _ ne h⟩)
    · exact .inr h
/-- a matrix at p: rows of kind t2 in a row of kind t1 -/
def Mx (t1 t2 : Bool) (K : PySem.W.Frag) (H : Hp) (p : Addr) (M : List (List Int)) : Prop :=
  ∃ as : List Addr, Sq t1 K H p (as.map V.ref) ∧ as.length = M.length ∧ ∀ (i : Nat) (a : Addr) (r : List Int), as[i]? = some a → M[i]? = some r → Sq t2 K H a (r.map V.int)
theorem Mx.same {t1 t2 : Bool} {K : PySem.W.Frag} {H H' : Hp} {p : Addr} {M : List (List Int)} (s : Same H H') (h : Mx t1 t2 K H p M) : Mx t1 t2 K H' p M := by
  obtain ⟨as, h1, h2, h3⟩ := h
  exact ⟨as, Sq.same s h1, h2, fun i a r e1 e2 => Sq.same s (h3 i a r e1 e2)⟩
/-- its i-th row -/
theorem Mx.row {t1 t2 : Bool} {K : PySem.W.Frag} {H : Hp} {p : Addr} {M : List (List Int)} (h : Mx t1 t2 K H p M) : ∃ vs : List V, Sq t1 K H p vs ∧ vs.length = M.length ∧ ∀ (i : Nat) (v : V), vs[i]? = some v → ∃ (a : Addr) (r : List Int), v = .ref a ∧ M[i]? = some r ∧ Sq t2 K H a (r.map V.int) := by
  obtain ⟨as, h1, h2, h3⟩ := h
  refine ⟨as.map V.ref, h1, by rw [List.length_map]; exact h2, fun i v e => ?_⟩
  rw [List.getElem?_map] at e
  cases ea : as[i]? with
  | none => rw [ea] at e; cases e
  | some a =>
    rw [ea] at e
    cases e
    have hi : i < M.length := by
      have := (List.getElem?_eq_some_iff.mp ea).1
      omega
    exact ⟨a, M[i], rfl, List.getElem?_eq_getElem hi, h3 i a _ ea (List.getElem?_eq_getElem hi)⟩
theorem refs_of {K : PySem.W.Frag} {t2 : Bool} {H : Hp} : ∀ {ys : List V} {M : List (List Int)}, ys.length = M.length → (∀ (j : Nat) (y : V), ys[j]? = some y → ∃ (a : Addr) (r : List Int), y = .ref a ∧ M[j]? = some r ∧ Sq t2 K H a (r.map V.int)) →
    ∃ as : List Addr, ys = as.map V.ref ∧ as.length = M.length ∧ ∀ (i : Nat) (a : Addr) (r : List Int), as[i]? = some a → M[i]? = some r → Sq t2 K H a (r.map V.int)
  | [], [], _, _ => ⟨[], rfl, rfl, fun i a r e => by simp at e⟩
  | [], _ :: _, h, _ => by simp at h
  | _ :: _, [], h, _ => by simp at h
  | y :: ys, r :: M, h, k => by
    obtain ⟨as, e1, e2, e3⟩ := refs_of (ys := ys) (M := M) (by simpa using h) (fun j z e => by
      obtain ⟨a, r', h1, h2, h3⟩ := k (j + 1) z (by simpa using e)
      exact ⟨a, r', h1, by simpa using h2, h3⟩)
    obtain ⟨a, r', h1, h2, h3⟩ := k 0 y rfl
    have er : r = r' := by simpa using h2
    subst er
    subst h1 e1
    refine ⟨a :: as, rfl, by simp [e2], fun i b q e4 e5 => ?_⟩
    cases i with
    | zero =>
      cases e4
      cases e5
      exact h3
    | succ i => exact e3 i b q (by simpa using e4) (by simpa using e5)
theorem Mx.of {t1 t2 : Bool} {K : PySem.W.Frag} {H : Hp} {p : Addr} {ys : List V} {M : List (List Int)} (h : Sq t1 K H p ys) (l : ys.length = M.length) (k : ∀ (j : Nat) (y : V), ys[j]? = some y → ∃ (a : Addr) (r : List Int), y = .ref a ∧ M[j]? = some r ∧ Sq t2 K H a (r.map V.int)) : Mx t1 t2 K H p M := by
  obtain ⟨as, rfl, e2, e3⟩ := refs_of l k
  exact ⟨as, h, e2, e3⟩
theorem ys_ints {ns : List Int} : ∀ {ys : List V}, ys.length = ns.length → (∀ (j : Nat) (y : V), ys[j]? = some y → ∃ c, ns[j]? = some c ∧ y = .int c) → ys = ns.map V.int := by
  induction ns with
  | nil =>
    intro ys l _
    cases ys with
    | nil => rfl
    | cons _ _ => simp at l
  | cons n ns ih =>
    intro ys l k
    cases ys with
    | nil => simp at l
    | cons y ys =>
      obtain ⟨c, h1, h2⟩ := k 0 y rfl
      have e : n = c := by simpa using h1
      subst e h2
      rw [ih (ys := ys) (by simpa using l) (fun j z e => by
        obtain ⟨c, h1, h2⟩ := k (j + 1) z (by simpa using e)
        exact ⟨c, by simpa using h1, h2⟩)]
      rfl
/-- tuple(..) of a list or a tuple -/
def rTupOf (K : PySem.W.Frag) : List V → Hp → VK → Prop := fun xs H Q => ∃ p ys, xs = [.ref p] ∧ ((SqL K H p ys ∧ ∀ l, H l = none → Q (.ref l) (upd H l (.tup ys))) ∨ (SqT K H p ys ∧ Q (.ref p) H))
def rLenOf (K : PySem.W.Frag) : List V → Hp → VK → Prop := fun xs H Q => ∃ p ys, xs = [.ref p] ∧ (SqL K H p ys ∨ SqT K H p ys) ∧ Q (.int ys.length) H
/-- as data -/
def rowD (r : List Int) : PyData := .tuple (r.map PyData.int)
def matD (M : List (List Int)) : PyData := .tuple (M.map rowD)
theorem dp_ints {K : PySem.W.Frag} {H : Hp} : ∀ r : List Int, DpAll K H (r.map V.int) (r.map PyData.int)
  | [] => .nil
  | _ :: r => .cons (.int _) (dp_ints r)
theorem dp_rows {K : PySem.W.Frag} {H : Hp} : ∀ {as : List Addr} {M : List (List Int)}, as.length = M.length → (∀ (i : Nat) (a : Addr) (r : List Int), as[i]? = some a → M[i]? = some r → Sq true K H a (r.map V.int)) → DpAll K H (as.map V.ref) (M.map rowD)
  | [], [], _, _ => .nil
  | [], _ :: _, h, _ => by simp at h
  | _ :: _, [], h, _ => by simp at h
  | a :: as, r :: M, h, k => .cons (.tup (k 0 a r rfl rfl) (dp_ints r)) (dp_rows (by simpa using h) fun i b q e1 e2 => k (i + 1) b q (by simpa using e1) (by simpa using e2))
theorem Mx.dp {K : PySem.W.Frag} {H : Hp} {p : Addr} {M : List (List Int)} (h : Mx true true K H p M) : Dp K H (.ref p) (matD M) := by
  obtain ⟨as, h1, h2, h3⟩ := h
  exact .tup h1 (dp_rows h2 h3)
/-- all its rows have n numbers, n of them -/
def Sz (n : Nat) (M : List (List Int)) : Prop := M.length = n ∧ ∀ r ∈ M, r.length = n
theorem Sz.dok {n : Nat} {M : List (List Int)} (h : Sz n M) (hn : n ≤ 1000) : Dok 3 (matD M) := by
  refine ⟨by rw [List.length_map, h.1]; omega, fun d hd => ?_⟩
  obtain ⟨r, hr, rfl⟩ := List.mem_map.mp hd
  refine ⟨by rw [List.length_map, h.2 r hr]; omega, fun d hd => ?_⟩
  obtain ⟨c, _, rfl⟩ := List.mem_map.mp hd
  trivial
/-- a box: None, or a matrix -/
def BoxAt (K : PySem.W.Frag) (H : Hp) (v : V) : Option (List (List Int)) → Prop
  | none => v = .non
  | some M => ∃ p, v = .ref p ∧ Mx true true K H p M
def boxD : Option (List (List Int)) → PyData
  | none => .none
  | some M => matD M
theorem BoxAt.same {K : PySem.W.Frag} {H H' : Hp} {v : V} {B : Option (List (List Int))} (s : Same H H') (h : BoxAt K H v B) : BoxAt K H' v B := by
  cases B with
  | none => exact h
  | some M =>
    obtain ⟨p, e, h⟩ := h
    exact ⟨p, e, h.same s⟩
theorem BoxAt.dp {K : PySem.W.Frag} {H : Hp} {v : V} {B : Option (List (List Int))} (h : BoxAt K H v B) : Dp K H v (boxD B) := by
  cases B with
  | none =>
    obtain rfl : v = .non := h
    exact .non
  | some M =>
    obtain ⟨p, rfl, h⟩ := h
    exact h.dp
def BSz (n : Nat) (B : Option (List (List Int))) : Prop := ∀ M, B = some M → Sz n M
theorem BSz.dok {n : Nat} {B : Option (List (List Int))} (h : BSz n B) (hn : n ≤ 1000) : Dok 3 (boxD B) := by
  cases B with
  | none => trivial
  | some M => exact (h M rfl).dok hn
/-! ### comprehensions that leave what stood -/
def LcP (S : Hp → Prop) (R : Nat → V → Hp → Prop) (D : Addr) (i : Nat) (H : Hp) : Prop := S H ∧ ∃ acc : List V, H D = some (.lst acc) ∧ acc.length = i ∧ ∀ (j : Nat) (y : V), acc[j]? = some y → R j y H
theorem lcp_step {S : Hp → Prop} {R : Nat → V → Hp → Prop} {D : Addr} {i : Nat} {H H4 : Hp} {y : V} (P : LcP S R D i H) (e : ∀ o, H D = some o → H4 D = some o) (hi : i < sizeLine) (s : ∀ o, S (upd H4 D o)) (m : ∀ (j : Nat) (z : V) (o : HO), R j z H → R j z (upd H4 D o)) (r : ∀ o, R i y (upd H4 D o)) :
    ∃ acc, H4 D = some (.lst acc) ∧ acc.length < sizeLine ∧ LcP S R D (i + 1) (upd H4 D (.lst (acc ++ [y]))) := by
  obtain ⟨_, acc, h1, h2, h3⟩ := P
  refine ⟨acc, e _ h1, by omega, s _, _, upd_same, by simp [h2], fun j z ez => ?_⟩
  by_cases hj : j < i
  · rw [List.getElem?_append_left (by omega)] at ez
    exact m j z _ (h3 j z ez)
  · rw [List.getElem?_append_right (by omega)] at ez
    have ej : j = i := by
      have := (List.getElem?_eq_some_iff.mp ez).1
      simp at this
      omega
    subst ej
    rw [h2, Nat.sub_self] at ez
    have ez' : y = z := by simpa using ez
    rw [← ez']
    exact r _
/-- what the step of a comprehension that only makes new objects is to reach -/
theorem lcp_same {R : Nat → V → Hp → Prop} {D : Addr} {i : Nat} {H1 H H4 : Hp} {y : V} (P : LcP (Same H1) R D i H) (hD : H1 D = none) (s : Same H H4) (hi : i < sizeLine) (mono : ∀ (j : Nat) (z : V) (G G' : Hp), R j z G → But D G G' → R j z G') (r : R i y H4) :
    ∃ acc, H4 D = some (.lst acc) ∧ acc.length < sizeLine ∧ LcP (Same H1) R D (i + 1) (upd H4 D (.lst (acc ++ [y]))) :=
  lcp_step P (fun o e => s _ _ e) hi (fun o b u e => by rw [upd_ne (ne_of_none e hD)]; exact s _ _ (P.1 _ _ e)) (fun j z o q => mono j z _ _ q ((But.of_same s).trans (But.upd o))) fun o => mono i y _ _ r (But.upd o)
theorem lcp_start {R : Nat → V → Hp → Prop} {D : Addr} {H1 : Hp} (hD : H1 D = none) : LcP (Same H1) R D 0 (upd H1 D (.lst [])) :=
  ⟨fun b u e => by rw [upd_ne (ne_of_none e hD)]; exact e, [], upd_same, rfl, fun j y e => by simp at e⟩
/-- its numbers -/
def RInt (ns : List Int) : Nat → V → Hp → Prop := fun j y _ => ∃ c, ns[j]? = some c ∧ y = .int c
theorem RInt.mono {ns : List Int} {D : Addr} : ∀ (j : Nat) (z : V) (G G' : Hp), RInt ns j z G → But D G G' → RInt ns j z G' := fun _ _ _ _ h _ => h
/-- its rows -/
def RRow (K : PySem.W.Frag) (t : Bool) (M : List (List Int)) (D : Addr) : Nat → V → Hp → Prop := fun j y H => ∃ (a : Addr) (r : List Int), y = .ref a ∧ M[j]? = some r ∧ a ≠ D ∧ Sq t K H a (r.map V.int)
theorem RRow.mono {K : PySem.W.Frag} {t : Bool} {M : List (List Int)} {D : Addr} : ∀ (j : Nat) (z : V) (G G' : Hp), RRow K t M D j z G → But D G G' → RRow K t M D j z G' := by
  rintro j z G G' ⟨a, r, h1, h2, h3, h4⟩ b
  exact ⟨a, r, h1, h2, h3, Sq.but b h3 h4⟩
theorem lcp_ints {K : PySem.W.Frag} {S : Hp → Prop} {ns : List Int} {D : Addr} {n : Nat} {H : Hp} (P : LcP S (RInt ns) D n H) (hn : n = ns.length) : H D = some (.lst (ns.map V.int)) := by
  obtain ⟨_, acc, h1, h2, h3⟩ := P
  rw [h1, ys_ints (ns := ns) (by omega) h3]
theorem lcp_rows {K : PySem.W.Frag} {S : Hp → Prop} {t : Bool} {M : List (List Int)} {D : Addr} {n : Nat} {H : Hp} (P : LcP S (RRow K t M D) D n H) (hn : n = M.length) : Mx false t K H D M := by
  obtain ⟨_, acc, h1, h2, h3⟩ := P
  exact Mx.of (t1 := false) (SqL.of h1) (by omega) fun j y e => by
    obtain ⟨a, r, q1, q2, _, q3⟩ := h3 j y e
    exact ⟨a, r, q1, q2, q3⟩
theorem LcP.ne {S : Hp → Prop} {R : Nat → V → Hp → Prop} {D l : Addr} {i : Nat} {H : Hp} (P : LcP S R D i H) (hl : H l = none) : l ≠ D := by
  obtain ⟨_, acc, h, _⟩ := P
  exact fun z => absurd (z ▸ hl) (by rw [h]; intro z; cases z)
theorem lt_line {n : Nat} (h : n ≤ 10000000) : n < sizeLine := by rw [sizeLine_eq]; omega
/-- a comprehension without a test -/
theorem tyes {σ : L2.St} {H : Hp} {A B : Hp → Prop} (h : A H) : tYes σ H (fun b H3 => if b = true then A H3 else B H3) := by
  show if true = true then A H else B H
  rw [if_pos rfl]
  exact h
theorem get_int {r : List Int} {j : Nat} {v : V} (e : (r.map V.int)[j]? = some v) : ∃ k, r[j]? = some k ∧ v = .int k := by
  rw [List.getElem?_map] at e
  cases h : r[j]? with
  | none => rw [h] at e; cases e
  | some k => rw [h] at e; cases e; exact ⟨k, rfl, rfl⟩
theorem Sz.get {n i : Nat} {M : List (List Int)} {r : List Int} (h : Sz n M) (e : M[i]? = some r) : r.length = n := h.2 r (List.mem_of_getElem? e)
theorem zw_get {α β γ : Type} {f : α → β → γ} {xs : List α} {ys : List β} {i : Nat} {x : α} {y : β} (e1 : xs[i]? = some x) (e2 : ys[i]? = some y) : (List.zipWith f xs ys)[i]? = some (f x y) := by
  rw [List.getElem?_zipWith, e1, e2]
theorem lcp_put {R : Nat → V → Hp → Prop} {D : Addr} {i : Nat} {H1 H H4 : Hp} {y : V} {acc : List V} (P : LcP (Same H1) R D i H) (e : H D = some (.lst acc)) (hD : H1 D = none) (s : Same H H4) (hi : i < sizeLine) (mono : ∀ (j : Nat) (z : V) (G G' : Hp), R j z G → But D G G' → R j z G') (r : R i y H4) :
    LcP (Same H1) R D (i + 1) (upd H4 D (.lst (acc ++ [y]))) := by
  obtain ⟨acc', h1, _, h3⟩ := lcp_same P hD s hi mono r
  have := s _ _ e
  rw [this] at h1
  cases h1
  exact h3
/-- (0,) and the numbers of a row -/
theorem cat0 {K : PySem.W.Frag} {H : Hp} {t a : Addr} {r : List Int} {Q : VK} (h1 : SqT K H t [.int 0]) (h2 : SqT K H a (r.map V.int)) (hz : r.length ≤ 1000) (q : ∀ z H', Same H H' → SqT K H' z ((0 :: r).map V.int) → Q (.ref z) H') : rCatT K (.ref t) (.ref a) H Q := by
  refine ⟨t, a, _, _, rfl, rfl, h1, h2, by simp, ?_, fun e => ?_, fun ne p hp => ?_⟩
  · rw [List.length_map, sizeLine_eq]
    simp
    omega
  · have e' : r = [] := List.map_eq_nil_iff.mp e
    subst e'
    exact q t H (Same.refl H) h1
  · exact q p _ (Same.new hp _) (SqT.of upd_same)
theorem atI_row {r : List Int} {i : Nat} (h : i < r.length) : atI (r.map V.int) (0 + (i : Int)) = some (.int (r.getD i 0)) := by
  rw [Int.zero_add]
  refine atI_nat ?_
  rw [List.getElem?_map, List.getElem?_eq_getElem h]
  simp [List.getD, h]
theorem LcP.acc {S : Hp → Prop} {R : Nat → V → Hp → Prop} {D : Addr} {i : Nat} {H : Hp} (P : LcP S R D i H) : ∃ acc : List V, H D = some (.lst acc) ∧ acc.length = i := by
  obtain ⟨_, acc, h1, h2, _⟩ := P
  exact ⟨acc, h1, h2⟩
theorem map_get {α β : Type} {f : α → β} {xs : List α} {i : Nat} {x : α} (e : xs[i]? = some x) : (xs.map f)[i]? = some (f x) := by rw [List.getElem?_map, e]; rfl
/-! ### the length of a dict after a write -/
theorem putK_lenle {κ : Type} [DecidableEq κ] {kvs : List (κ × V)} {k : κ} {y : V} : (putK kvs k y).length ≤ kvs.length + 1 := by
  unfold putK
  split
  · rw [List.length_map]
    omega
  · rw [List.length_append]
    exact Nat.le_refl _
/-! ### keys: the model -/
def natsV (cs : List Nat) : List V := cs.map fun c : Nat => V.int (c : Int)
inductive Kd where
  | flag | ref (s : Str) | num (lo hi : Int)
def Kd.vals : Kd → List V
  | .flag => [.str "flag"]
  | .ref s => [.str "ref", .str s]
  | .num lo hi => [.str "num", .int lo, .int hi]
def Kd.isRef : Kd → Bool
  | .ref _ => true
  | _ => false
def KdAt (K : PySem.W.Frag) (H : Hp) (v : V) (k : Kd) : Prop := ∃ p, v = .ref p ∧ SqT K H p k.vals
def KdsAt (K : PySem.W.Frag) (H : Hp) (xs : List V) (ks : List Kd) : Prop := xs.length = ks.length ∧ ∀ (i : Nat) (v : V) (k : Kd), xs[i]? = some v → ks[i]? = some k → KdAt K H v k
def KeepT (K : PySem.W.Frag) (H H' : Hp) : Prop := ∀ p xs, SqT K H p xs → SqT K H' p xs
theorem KeepT.of {K : PySem.W.Frag} {H H' : Hp} (s : Same H H') : KeepT K H H' := fun _ _ h => Same.tup s h
theorem KdAt.keep {K : PySem.W.Frag} {H H' : Hp} {v : V} {k : Kd} (s : KeepT K H H') (h : KdAt K H v k) : KdAt K H' v k := by
  obtain ⟨p, e, h⟩ := h
  exact ⟨p, e, s _ _ h⟩
theorem KdsAt.keep {K : PySem.W.Frag} {H H' : Hp} {xs : List V} {ks : List Kd} (s : KeepT K H H') (h : KdsAt K H xs ks) : KdsAt K H' xs ks := ⟨h.1, fun i v k e1 e2 => (h.2 i v k e1 e2).keep s⟩
def refTo (ks : List Kd) (i : Nat) : List Nat := (List.range i).filter fun k => (ks.getD k .flag).isRef
def refPl (ks : List Kd) : List Nat := refTo ks ks.length
theorem refTo_succ {ks : List Kd} {i : Nat} : refTo ks (i + 1) = if (ks.getD i .flag).isRef then refTo ks i ++ [i] else refTo ks i := by
  unfold refTo
  rw [List.range_succ, List.filter_append]
  by_cases h : (ks.getD i .flag).isRef = true
  · rw [if_pos h, List.filter_cons_of_pos (p := fun k => (ks.getD k .flag).isRef) h]
    rfl
  · rw [if_neg h, List.filter_cons_of_neg (p := fun k => (ks.getD k .flag).isRef) h, List.filter_nil, List.append_nil]
theorem refTo_len {ks : List Kd} {i : Nat} : (refTo ks i).length ≤ i := by
  unfold refTo
  have := List.length_filter_le (fun k => (ks.getD k .flag).isRef) (List.range i)
  rwa [List.length_range] at this
theorem mem_refPl {ks : List Kd} {i : Nat} : i ∈ refPl ks ↔ i < ks.length ∧ (ks.getD i .flag).isRef = true := by
  unfold refPl refTo
  rw [List.mem_filter, List.mem_range]
/-- the record kinds of a program -/
abbrev Rk := Str × List (Str × Kd)
def FdAt (K : PySem.W.Frag) (H : Hp) (p : Addr) (fs : List (Str × Kd)) : Prop := ∃ bs : List Addr, SqT K H p (bs.map V.ref) ∧ bs.length = fs.length ∧ ∀ (i : Nat) (b : Addr) (f : Str × Kd), bs[i]? = some b → fs[i]? = some f → ∃ kv, SqT K H b [.str f.1, kv] ∧ KdAt K H kv f.2
def RkAt (K : PySem.W.Frag) (H : Hp) (a : Addr) (r : Rk) : Prop := ∃ pf, SqT K H a [.str r.1, .ref pf] ∧ FdAt K H pf r.2
def PgAt (K : PySem.W.Frag) (H : Hp) (p : Addr) (rs : List Rk) : Prop := ∃ (pr : Addr) (x y z : V) (as : List Addr), SqT K H p [.ref pr, x, y, z] ∧ SqT K H pr (as.map V.ref) ∧ as.length = rs.length ∧ ∀ (i : Nat) (a : Addr) (r : Rk), as[i]? = some a → rs[i]? = some r → RkAt K H a r
theorem FdAt.keep {K : PySem.W.Frag} {H H' : Hp} {p : Addr} {fs : List (Str × Kd)} (s : KeepT K H H') (h : FdAt K H p fs) : FdAt K H' p fs := by
  obtain ⟨bs, h1, h2, h3⟩ := h
  exact ⟨bs, s _ _ h1, h2, fun i b f e1 e2 => by
    obtain ⟨kv, g1, g2⟩ := h3 i b f e1 e2
    exact ⟨kv, s _ _ g1, g2.keep s⟩⟩
theorem RkAt.keep {K : PySem.W.Frag} {H H' : Hp} {a : Addr} {r : Rk} (s : KeepT K H H') (h : RkAt K H a r) : RkAt K H' a r := by
  obtain ⟨pf, h1, h2⟩ := h
  exact ⟨pf, s _ _ h1, h2.keep s⟩
theorem PgAt.keep {K : PySem.W.Frag} {H H' : Hp} {p : Addr} {rs : List Rk} (s : KeepT K H H') (h : PgAt K H p rs) : PgAt K H' p rs := by
  obtain ⟨pr, x, y, z, as, h1, h2, h3, h4⟩ := h
  exact ⟨pr, x, y, z, as, s _ _ h1, s _ _ h2, h3, fun i a r e1 e2 => (h4 i a r e1 e2).keep s⟩
structure PgOk (rs : List Rk) : Prop where
  nd : (rs.map (·.1)).Nodup
  ln : rs.length ≤ 20
  lf : ∀ r ∈ rs, r.2.length ≤ 20
def flOf (rs : List Rk) (z : Str) : List Kd := match rs.find? fun r => r.1 = z with
  | some r => r.2.map (·.2)
  | none => []
theorem flOf_mem {rs : List Rk} (nd : (rs.map (·.1)).Nodup) {r : Rk} (h : r ∈ rs) : flOf rs r.1 = r.2.map (·.2) := by
  unfold flOf
  induction rs with
  | nil => simp at h
  | cons a l ih =>
    rw [List.map_cons, List.nodup_cons] at nd
    rw [List.find?_cons]
    by_cases e : a.1 = r.1
    · rw [decide_eq_true e]
      rcases List.mem_cons.mp h with rfl | h
      · rfl
      · exact absurd (List.mem_map.mpr ⟨r, h, e.symm⟩) nd.1
    · rw [decide_eq_false e]
      rcases List.mem_cons.mp h with rfl | h
      · exact absurd rfl e
      · exact ih nd.2 h
def PlAt (H : Hp) (d : Addr) (rs : List Rk) : Prop := ∃ kvs, H d = some (.dK kvs) ∧ ∀ r ∈ rs, ∃ l, valV kvs (Sum.inr r.1) = some (.ref l) ∧ H l = some (.lst (natsV (refPl (r.2.map (·.2)))))
theorem PlAt.same {H H' : Hp} {d : Addr} {rs : List Rk} (s : Same H H') (h : PlAt H d rs) : PlAt H' d rs := by
  obtain ⟨kvs, h1, h2⟩ := h
  exact ⟨kvs, s _ _ h1, fun r hr => by
    obtain ⟨l, g1, g2⟩ := h2 r hr
    exact ⟨l, g1, s _ _ g2⟩⟩
def asNat : V → Option Nat
  | .int j => some j.toNat
  | _ => none
def refsAt (vs : List V) (pl : List Nat) : List Nat := pl.filterMap fun i => asNat (vs.getD i .non)
def trAt (o : List Nat) : V → V
  | .int j => .int (o.idxOf j.toNat : Nat)
  | v => v
def trL (ks : List Kd) (vs : List V) (o : List Nat) : List V := (List.range vs.length).map fun k => if (ks.getD k .flag).isRef then trAt o (vs.getD k .non) else vs.getD k .non
structure Rc where
  nm : Str
  live : Bool
  vals : List V
def RcAt (K : PySem.W.Frag) (H : Hp) (v : V) (r : Rc) : Prop := ∃ p t, v = .ref p ∧ SqT K H p [.str r.nm, .bl r.live, .ref t] ∧ SqT K H t r.vals
theorem RcAt.keep {K : PySem.W.Frag} {H H' : Hp} {v : V} {r : Rc} (s : KeepT K H H') (h : RcAt K H v r) : RcAt K H' v r := by
  obtain ⟨p, t, e, h1, h2⟩ := h
  exact ⟨p, t, e, s _ _ h1, s _ _ h2⟩
/-- values in reference places: none, or a number below n -/
def RefV (n : Nat) (v : V) : Prop := v = .non ∨ ∃ j : Nat, v = .int (j : Int) ∧ j < n
def Flat3 (v : V) : Prop := v = .non ∨ (∃ b, v = .bl b) ∨ ∃ i, v = .int i
structure RcOk (rs : List Rk) (n : Nat) (r : Rc) : Prop where
  m : ∃ k ∈ rs, k.1 = r.nm
  l : r.live = true → r.vals.length = (flOf rs r.nm).length
  d : r.live = false → r.vals = []
  v : ∀ k, k < r.vals.length → ((flOf rs r.nm).getD k .flag).isRef = true → RefV n (r.vals.getD k .non)
  f : ∀ v ∈ r.vals, Flat3 v
def nbR (rs : List Rk) (R : List Rc) (i : Nat) : List Nat := match R[i]? with
  | some r => if r.live then refsAt r.vals (refPl (flOf rs r.nm)) else []
  | none => []
def spRefPl (K : PySem.W.Frag) : Sp := fun vs H Q _ => ∃ (t : Bool) (p : Addr) (xs : List V) (ks : List Kd), vs = [.ref p] ∧ ZG.Sq t K H p xs ∧ KdsAt K H xs ks ∧ ks.length ≤ 100 ∧ ∀ l H', Same H H' → H' l = some (.lst (natsV (refPl ks))) → Q (.ref l) H'
def spPlaces (K : PySem.W.Frag) : Sp := fun vs H Q _ => ∃ (p : Addr) (rs : List Rk), vs = [.ref p] ∧ PgAt K H p rs ∧ PgOk rs ∧ ∀ d H', Same H H' → PlAt H' d rs → Q (.ref d) H'
def spReferred (K : PySem.W.Frag) : Sp := fun vs H Q _ => ∃ (p l : Addr) (xs : List V) (pl : List Nat) (n : Nat), vs = [.ref p, .ref l] ∧ SqT K H p xs ∧ H l = some (.lst (natsV pl)) ∧ pl.length ≤ 100 ∧ (∀ i ∈ pl, i < xs.length ∧ RefV n (xs.getD i .non)) ∧ ∀ q H', H q = none → Same H H' → H' q = some (.lst (natsV (refsAt xs pl))) → Q (.ref q) H'
theorem getD_get {α : Type} {xs : List α} {i : Nat} {d x : α} (e : xs[i]? = some x) : xs.getD i d = x := by
  rw [List.getD_eq_getElem?_getD, e]
  rfl
section
variable {P : Program} {w : World} {K : PySem.W.Frag} {mg : Str → Option Value} {base : Heap}
theorem ok_reference_places (T : Txt w K mg) : FnOk P w K mg base CX0 1 T.a_reference_places T.d_reference_places p_reference_places (spRefPl K) := by
  refine T.F_reference_places.ok sc_reference_places (fun vs H Q E h => ?_) (fun cdv A outer s H vs Q E hr h => ?_)
  · obtain ⟨t, p, xs, ks, rfl, _⟩ := h
    rfl
  obtain ⟨t, p, xs, ks, rfl, hp, hk, lk, q⟩ := h
  refine ⟨_, (pss_one (ps_ret (pe_lc (own := [("at", 1), ("kind", 2)]) (g := gTup K 2 (gCons (gName 1) (gCons (gName 2) gNil))) rfl sc_reference_places.nd (EnT.pi_enumG (by rfl) T.z_enumerate (pa_cons (pv 0) pa_nil)) (blkOk_by (own := [("at", 1), ("kind", 2)]) (N := n_reference_places) (sc := defScope s_reference_places) (by decide +kernel)) (fun _ _ _ _ _ => (pg_tup rfl (pgs_cons (pg_name (i := 1) sc_reference_places.nd rfl (Or.inl rfl)) (pgs_cons (pg_name (i := 2) sc_reference_places.nd rfl (Or.inl rfl)) pgs_nil)))) (fun _ _ _ _ _ => (pts_one (pt_cmpR op_eq (pe_ix (show IxR _ (rIxT K) from ix_tup) (pv 2) pe_int (fun _ _ => rfl)) pe_str (nomark _)))) (fun _ _ _ _ _ => (pv 1))))), ?_⟩
  refine ⟨_, rfl, t, p, _, rfl, hp, fun D hD => ?_⟩
  refine lc_it EnT.walk_enumG (fun i G => Same H G ∧ G D = some (.lst (natsV (refTo ks i)))) ⟨Same.new hD _, upd_same⟩ (fun i G _ P => Sq.same P.1 hp) ?_ ?_
  · rintro i x G G' hi P ⟨t1, u, v, rfl, ht, rfl, eu, ev⟩
    cases eu
    have hi2 : i < ks.length := by rw [← hk.1]; exact hi
    have ek : ks[i]? = some ks[i] := List.getElem?_eq_getElem hi2
    obtain ⟨pk, rfl, hpk⟩ := hk.2 i v _ ev ek
    have gk : ks.getD i .flag = ks[i] := getD_get ek
    generalize ks[i] = kd at ek hpk gk
    have s1 : Same G (upd G t1 (.tup [.int i, .ref pk])) := Same.new ht _
    have eD := s1 _ _ P.2
    have sA := P.1.trans s1
    have hpk1 := Same.tup sA hpk
    refine ⟨t1, _, rfl, SqT.of upd_same, rfl, _, _, rfl, _, _, rfl, rfl, ?_⟩
    refine ⟨rfl, ?_⟩
    have yes : kd.isRef = true → ∃ acc, (upd G t1 (.tup [.int i, .ref pk])) D = some (.lst acc) ∧ acc.length < sizeLine ∧ (Same H (upd (upd G t1 (.tup [.int i, .ref pk])) D (.lst (acc ++ [.int i]))) ∧ (upd (upd G t1 (.tup [.int i, .ref pk])) D (.lst (acc ++ [.int i]))) D = some (.lst (natsV (refTo ks (i + 1))))) := fun h => by
      refine ⟨_, eD, lt_line (by simp only [natsV, List.length_map]; have := refTo_len (ks := ks) (i := i); omega), fun b o e => ?_, ?_⟩
      · rw [upd_ne (ne_of_none e hD)]
        exact sA _ _ e
      · rw [refTo_succ, gk, if_pos h]
        simp only [natsV, List.map_append]
        exact upd_same
    have no : kd.isRef = false → (Same H (upd G t1 (.tup [.int i, .ref pk])) ∧ (upd G t1 (.tup [.int i, .ref pk])) D = some (.lst (natsV (refTo ks (i + 1))))) := fun h => by
      rw [refTo_succ, gk, if_neg (by rw [h]; decide)]
      exact ⟨sA, eD⟩
    cases kd with
    | flag => exact ⟨_, rfl, pk, _, _, _, rfl, rfl, hpk1, rfl, rfl, _, rfl, ifF (by decide +kernel) (no rfl)⟩
    | ref s => exact ⟨_, rfl, pk, _, _, _, rfl, rfl, hpk1, rfl, rfl, _, rfl, ifT (by decide +kernel) ⟨_, rfl, yes rfl⟩⟩
    | num lo hi => exact ⟨_, rfl, pk, _, _, _, rfl, rfl, hpk1, rfl, rfl, _, rfl, ifF (by decide +kernel) (no rfl)⟩
  · rintro G ⟨sG, eG⟩
    rw [hk.1] at eG
    exact q D G sG eG
theorem ok_places_in_records (T : Txt w K mg) : FnOk P w K mg base CX0 2 T.a_places_in_records T.d_places_in_records p_places_in_records (spPlaces K) := by
  have g_reference_places := ok_reference_places (P := P) (w := w) (K := K) (base := base) T
  refine T.F_places_in_records.ok sc_places_in_records (fun vs H Q E h => ?_) (fun cdv A outer s H vs Q E hr h => ?_)
  · obtain ⟨p, rs, rfl, _⟩ := h
    rfl
  obtain ⟨p, rs, rfl, hp, ok, q⟩ := h
  refine ⟨_, (pss_one (ps_ret (pe_dc (own := [("name", 3), ("fields", 4)]) (g := gTup K 2 (gCons (gName 3) (gCons (gName 4) gNil))) (tt := tYes) rfl sc_places_in_records.nd (pi_tup (pe_ix ix_tup (pv 0) pe_int (fun _ _ => rfl))) (blkOk_by (own := [("name", 3), ("fields", 4)]) (N := n_places_in_records) (sc := defScope s_places_in_records) (by decide +kernel)) (fun _ _ _ _ _ => (pg_tup rfl (pgs_cons (pg_name (i := 3) sc_places_in_records.nd rfl (Or.inl rfl)) (pgs_cons (pg_name (i := 4) sc_places_in_records.nd rfl (Or.inl rfl)) pgs_nil)))) (fun _ _ _ _ _ => pts_nil) (fun _ _ _ _ _ => (pv 3)) (fun _ _ _ _ _ => (pe_call g_reference_places (hr.mono (by first | decide | omega)) rfl T.m_reference_places T.F_reference_places.kp T.b_reference_places .nil pass0 (pa_cons (pe_lc (own := [("_", 1), ("kind", 2)]) (g := gTup K 2 (gCons (gName 1) (gCons (gName 2) gNil))) (tt := tYes) rfl sc_places_in_records.nd (show PI _ _ _ (iTup K _) from (pi_tup (pv 4))) (blkOk_by (own := [("_", 1), ("kind", 2)]) (N := n_places_in_records) (sc := relS _ (defScope s_places_in_records)) (by decide +kernel)) (fun _ _ _ _ _ => (pg_tup rfl (pgs_cons (pg_name (i := 1) sc_places_in_records.nd rfl (Or.inl rfl)) (pgs_cons (pg_name (i := 2) sc_places_in_records.nd rfl (Or.inl rfl)) pgs_nil)))) (fun _ _ _ _ _ => pts_nil) (fun _ _ _ _ _ => (pv 2))) pa_nil)))))), ?_⟩
  obtain ⟨pr, x, y, z, as, hp, hpr, las, has⟩ := hp
  refine ⟨_, rfl, p, _, _, _, rfl, rfl, hp, rfl, pr, rfl, ⟨_, hpr⟩, fun D hD => ?_⟩
  refine dc_it (walk_tup (xs := as.map V.ref)) (fun i G => Same H G ∧ ∃ kvs, G D = some (.dK kvs) ∧ kvs.length ≤ i ∧ ∀ r ∈ rs.take i, ∃ l, valV kvs (Sum.inr r.1) = some (.ref l) ∧ l ≠ D ∧ G l = some (.lst (natsV (refPl (r.2.map (·.2)))))) ⟨Same.new hD _, [], upd_same, Nat.le_refl _, fun r hr => by simp at hr⟩ (fun i G _ P => Same.tup P.1 hpr) ?_ ?_
  · rintro i x G G' hi ⟨sG, kvs, eD, lk, hk⟩ ⟨rfl, ex⟩
    rw [List.length_map] at hi
    have hi2 : i < rs.length := by omega
    have er : rs[i]? = some rs[i] := List.getElem?_eq_getElem hi2
    have mr := List.getElem_mem hi2
    have ea : as[i]? = some as[i] := List.getElem?_eq_getElem hi
    obtain ⟨pf, h1, bs, h2, lb, hb⟩ := has i _ _ ea er
    rw [map_get ea] at ex
    obtain rfl := Option.some.inj ex
    generalize as[i] = a at ea h1
    have tk : rs.take (i + 1) = rs.take i ++ [rs[i]] := by
      rw [List.take_add_one, er]
      rfl
    generalize rs[i] = r at er mr h1 h2 lb hb tk
    have h1G := Same.tup sG h1
    have h2G := Same.tup sG h2
    have lf := ok.lf r mr
    have ln := ok.ln
    refine ⟨a, _, rfl, h1G, rfl, _, _, rfl, _, _, rfl, rfl, ?_⟩
    refine ⟨rfl, tyes ?_⟩
    refine ⟨_, rfl, ?_⟩
    refine ⟨_, rfl, pf, rfl, ⟨_, h2G⟩, fun D2 hD2 => ?_⟩
    refine lc_it (walk_tup (xs := bs.map V.ref)) (fun j F => Same G' F ∧ ∃ vs : List V, F D2 = some (.lst vs) ∧ vs.length = j ∧ ∀ (k : Nat) (v : V) (f : Str × Kd), vs[k]? = some v → r.2[k]? = some f → KdAt K H v f.2) ⟨Same.new hD2 _, [], upd_same, rfl, fun k v f e => by simp at e⟩ (fun j F _ P => Same.tup P.1 h2G) ?_ ?_
    · rintro j y F F' hj ⟨sF, vs, eD2, lv, hv⟩ ⟨rfl, ey⟩
      rw [List.length_map] at hj
      have hj2 : j < r.2.length := by omega
      have ef : r.2[j]? = some r.2[j] := List.getElem?_eq_getElem hj2
      have eb : bs[j]? = some bs[j] := List.getElem?_eq_getElem hj
      obtain ⟨kv, g1, g2⟩ := hb j _ _ eb ef
      rw [map_get eb] at ey
      obtain rfl := Option.some.inj ey
      refine ⟨bs[j], _, rfl, Same.tup (sG.trans sF) g1, rfl, _, _, rfl, _, _, rfl, rfl, ?_⟩
      refine ⟨rfl, tyes ?_⟩
      refine ⟨_, rfl, vs, eD2, lt_line (by omega), fun b o e => ?_, _, upd_same, by rw [List.length_append, lv]; rfl, fun k v f e1 e2 => ?_⟩
      · rw [upd_ne (ne_of_none e hD2)]
        exact sF _ _ e
      · by_cases hk2 : k < j
        · rw [List.getElem?_append_left (by omega)] at e1
          exact hv k v f e1 e2
        · rw [List.getElem?_append_right (by omega)] at e1
          have hkj : k = j := by
            have := (List.getElem?_eq_some_iff.mp e1).1
            simp at this
            omega
          subst hkj
          rw [lv, Nat.sub_self] at e1
          cases e1
          rw [ef] at e2
          cases e2
          exact g2
    · rintro F ⟨sF, vs, eD2, lv, hv⟩
      rw [List.length_map] at lv
      have sHF := sG.trans sF
      refine ⟨false, D2, vs, r.2.map (·.2), rfl, SqL.of eD2, ⟨by rw [List.length_map]; omega, fun k v kd e1 e2 => ?_⟩, by rw [List.length_map]; omega, fun l F2 s2 hl => ?_⟩
      · rw [List.getElem?_map] at e2
        cases e : r.2[k]? with
        | none => rw [e] at e2; cases e2
        | some f =>
          rw [e] at e2
          cases e2
          exact (hv k v f e1 e).keep (KeepT.of sHF)
      have eDF := s2 _ _ (sF _ _ eD)
      have nlD : l ≠ D := fun z => by rw [z, eDF] at hl; cases hl
      refine ⟨kvs, Sum.inr r.1, rfl, eDF, lt_line (by omega), fun b o e => ?_, _, upd_same, ?_, fun r' hr' => ?_⟩
      · rw [upd_ne (ne_of_none e hD)]
        exact s2 _ _ (sHF _ _ e)
      · have := putK_lenle (kvs := kvs) (k := Sum.inr r.1) (y := V.ref l)
        omega
      · rw [tk] at hr'
        by_cases en : r'.1 = r.1
        · have mr' : r' ∈ rs := by
            rcases List.mem_append.mp hr' with h | h
            · exact List.mem_of_mem_take h
            · rw [List.mem_singleton.mp h]; exact mr
          have e2 : r'.2.map (·.2) = r.2.map (·.2) := by
            rw [← flOf_mem ok.nd mr', ← flOf_mem ok.nd mr, en]
          refine ⟨l, by rw [valV_put, en, if_pos rfl], nlD, ?_⟩
          rw [upd_ne nlD, e2]
          exact hl
        · rcases List.mem_append.mp hr' with h | h
          · obtain ⟨l', g1, g2, g3⟩ := hk r' h
            refine ⟨l', by rw [valV_put, if_neg (fun e => en (Sum.inr.inj e))]; exact g1, g2, ?_⟩
            rw [upd_ne g2]
            exact s2 _ _ (sF _ _ g3)
          · exact absurd (by rw [List.mem_singleton.mp h]) en
  · rintro G ⟨sG, kvs, eD, _, hk⟩
    rw [List.length_map, las, List.take_length] at hk
    exact q D G sG ⟨kvs, eD, fun r hr => by
      obtain ⟨l, g1, _, g3⟩ := hk r hr
      exact ⟨l, g1, g3⟩⟩
theorem ok_referred (T : Txt w K mg) : FnOk P w K mg base CX0 1 T.a_referred T.d_referred p_referred (spReferred K) := by
  refine T.F_referred.ok sc_referred (fun vs H Q E h => ?_) (fun cdv A outer s H vs Q E hr h => ?_)
  · obtain ⟨p, l, xs, pl, n, rfl, _⟩ := h
    rfl
  obtain ⟨p, l, xs, pl, n, rfl, hp, hl, lp, hv, q⟩ := h
  refine ⟨_, (pss_one (ps_ret (pe_lc (own := [("at", 2)]) (g := gName 2) rfl sc_referred.nd (pi_list (pv 1)) (blkOk_by (own := [("at", 2)]) (N := n_referred) (sc := defScope s_referred) (by decide +kernel)) (fun _ _ _ _ _ => (pg_name (i := 2) sc_referred.nd rfl (Or.inl rfl))) (fun _ _ _ _ _ => (pts_one (pt_cmpR op_notN (pe_ix (show IxR _ (rIxT K) from ix_tup) (pv 0) (pv 2) (fun _ _ => rfl)) pe_non (nomark _)))) (fun _ _ _ _ _ => (pe_ix (show IxR _ (rIxT K) from ix_tup) (pv 0) (pv 2) (fun _ _ => rfl)))))), ?_⟩
  refine ⟨_, rfl, l, rfl, ⟨_, SqL.of hl⟩, fun D hD => ?_⟩
  refine lc_it (walk_list (xs := natsV pl)) (fun i G => Same H G ∧ G D = some (.lst (natsV (refsAt xs (pl.take i))))) ⟨Same.new hD _, upd_same⟩ (fun i G _ P => SqL.of (P.1 _ _ hl)) ?_ ?_
  · rintro i x G G' hi ⟨sG, eD⟩ ⟨rfl, ex⟩
    unfold natsV at hi ex
    rw [List.length_map] at hi
    have ei : pl[i]? = some pl[i] := List.getElem?_eq_getElem hi
    obtain ⟨h1, h2⟩ := hv _ (List.getElem_mem hi)
    rw [map_get ei] at ex
    obtain rfl := Option.some.inj ex
    have tk : pl.take (i + 1) = pl.take i ++ [pl[i]] := by
      rw [List.take_add_one, ei]
      rfl
    generalize pl[i] = k at ei h1 h2 tk
    have at1 : atI xs (k : Int) = some (xs.getD k .non) := atI_nat (by rw [List.getD_eq_getElem?_getD, List.getElem?_eq_getElem h1]; rfl)
    have hpG := Same.tup sG hp
    refine ⟨rfl, ?_⟩
    refine ⟨_, rfl, _, rfl, p, _, _, _, rfl, rfl, hpG, at1, rfl, _, rfl, ?_⟩
    have e1 : refsAt xs (pl.take (i + 1)) = refsAt xs (pl.take i) ++ refsAt xs [k] := by
      unfold refsAt
      rw [tk, List.filterMap_append]
    rcases h2 with h2 | ⟨j, h2, _⟩
    · rw [h2]
      refine ifF (by decide) ?_
      have e2 : refsAt xs [k] = [] := by
        unfold refsAt
        rw [List.filterMap_cons, h2]
        rfl
      rw [e1, e2, List.append_nil]
      exact ⟨sG, eD⟩
    · rw [h2] at at1 ⊢
      refine ifT (by rw [decide_eq_false (fun z => by cases z)]; rfl) ?_
      have e2 : refsAt xs [k] = [j] := by
        unfold refsAt
        rw [List.filterMap_cons, h2]
        rfl
      refine ⟨_, rfl, _, rfl, p, _, _, _, rfl, rfl, hpG, at1, _, eD, lt_line (by
        unfold natsV refsAt
        rw [List.length_map]
        have := List.length_filterMap_le (fun i => asNat (xs.getD i .non)) (pl.take i)
        rw [List.length_take] at this
        omega), fun b o e => ?_, ?_⟩
      · rw [upd_ne (ne_of_none e hD)]
        exact sG _ _ e
      · rw [e1, e2]
        unfold natsV
        rw [List.map_append]
        exact upd_same
  · rintro G ⟨sG, eG⟩
    unfold natsV at eG
    rw [List.length_map, List.take_length] at eG
    exact q D G hD sG eG
end
/-! ### keys: the walk -/
def meetF (nb : Nat → List Nat) : Nat → Nat → List Nat → List Nat
  | 0, _, o => o
  | d + 1, i, o => if i ∈ o then o else (nb i).foldl (fun o j => meetF nb d j o) (o ++ [i])
def mt (nb : Nat → List Nat) (o : List Nat) (i : Nat) : List Nat := meetF nb 8 i o
def orderF (nb : Nat → List Nat) (fx fst : List Nat) : List Nat := fst.foldl (mt nb) ((fx.flatMap nb).foldl (mt nb) fx)
structure Ranked (nb : Nat → List Nat) (N : Nat) (rk : Nat → Nat) : Prop where
  b : ∀ i, rk i < 8
  d : ∀ i, ∀ j ∈ nb i, rk j < rk i
  n : ∀ i, ∀ j ∈ nb i, j < N
  l : ∀ i, (nb i).length ≤ 20
theorem foldl_eq {α β : Type} {f g : β → α → β} : ∀ (l : List α) (b : β), (∀ b, ∀ a ∈ l, f b a = g b a) → l.foldl f b = l.foldl g b
  | [], _, _ => rfl
  | a :: l, b, h => by
    rw [List.foldl_cons, List.foldl_cons, h b a List.mem_cons_self]
    exact foldl_eq l _ fun b x hx => h b x (List.mem_cons_of_mem _ hx)
theorem meetF_stable {nb : Nat → List Nat} {N : Nat} {rk : Nat → Nat} (r : Ranked nb N rk) : ∀ {d e i : Nat} {o : List Nat}, rk i < d → rk i < e → meetF nb d i o = meetF nb e i o
  | 0, _, _, _, h, _ => absurd h (Nat.not_lt_zero _)
  | _ + 1, 0, _, _, _, h => absurd h (Nat.not_lt_zero _)
  | d + 1, e + 1, i, o, h1, h2 => by
    rw [meetF, meetF]
    split
    · rfl
    · refine foldl_eq _ _ fun b j hj => ?_
      have := r.d i j hj
      exact meetF_stable r (by omega) (by omega)
theorem mt_in {nb : Nat → List Nat} {o : List Nat} {i : Nat} (h : i ∈ o) : mt nb o i = o := if_pos h
theorem mt_out {nb : Nat → List Nat} {N : Nat} {rk : Nat → Nat} (r : Ranked nb N rk) {o : List Nat} {i : Nat} (h : i ∉ o) : mt nb o i = (nb i).foldl (mt nb) (o ++ [i]) := by
  show meetF nb (7 + 1) i o = _
  rw [meetF, if_neg h]
  refine foldl_eq _ _ fun b j hj => ?_
  have := r.d i j hj
  have := r.b i
  exact meetF_stable r (by omega) (r.b j)
/-- the order holds what it held, once each, below N -/
theorem meetF_ok {nb : Nat → List Nat} {N : Nat} {rk : Nat → Nat} (r : Ranked nb N rk) : ∀ (d : Nat) {i : Nat} {o : List Nat}, i < N → o.Nodup → (∀ k ∈ o, k < N) → (meetF nb d i o).Nodup ∧ (∀ k ∈ meetF nb d i o, k < N) ∧ (∀ k ∈ o, k ∈ meetF nb d i o) ∧ (0 < d → i ∈ meetF nb d i o)
  | 0, _, _, _, h, k => ⟨h, k, fun _ h => h, fun h => absurd h (Nat.lt_irrefl _)⟩
  | d + 1, i, o, hi, h, k => by
    rw [meetF]
    split
    · rename_i m
      exact ⟨h, k, fun _ h => h, fun _ => m⟩
    · rename_i m
      have gen : ∀ (l : List Nat) (b : List Nat), (∀ j ∈ l, j < N) → b.Nodup → (∀ k ∈ b, k < N) → (l.foldl (fun o j => meetF nb d j o) b).Nodup ∧ (∀ k ∈ l.foldl (fun o j => meetF nb d j o) b, k < N) ∧ ∀ k ∈ b, k ∈ l.foldl (fun o j => meetF nb d j o) b := by
        intro l
        induction l with
        | nil => intro b _ h k; exact ⟨h, k, fun _ h => h⟩
        | cons a l ih =>
          intro b hl hb kb
          rw [List.foldl_cons]
          have g := meetF_ok r d (hl a List.mem_cons_self) hb kb
          have g2 := ih _ (fun j hj => hl j (List.mem_cons_of_mem _ hj)) g.1 g.2.1
          exact ⟨g2.1, g2.2.1, fun k hk => g2.2.2 k (g.2.2.1 k hk)⟩
      have nd : (o ++ [i]).Nodup := List.nodup_append.mpr ⟨h, by simp, fun a ha b hb e => m (by rw [List.mem_singleton.mp hb] at e; rw [← e]; exact ha)⟩
      have bd : ∀ k ∈ o ++ [i], k < N := fun j hj => by
        rcases List.mem_append.mp hj with q | q
        · exact k j q
        · rw [List.mem_singleton.mp q]; exact hi
      have g := gen (nb i) (o ++ [i]) (r.n i) nd bd
      exact ⟨g.1, g.2.1, fun k hk => g.2.2 k (List.mem_append_left _ hk), fun _ => g.2.2 i (List.mem_append_right _ (List.mem_singleton.mpr rfl))⟩
theorem fold_ok {nb : Nat → List Nat} {N : Nat} {rk : Nat → Nat} (r : Ranked nb N rk) : ∀ (l : List Nat) {b : List Nat}, (∀ j ∈ l, j < N) → b.Nodup → (∀ k ∈ b, k < N) → (l.foldl (mt nb) b).Nodup ∧ (∀ k ∈ l.foldl (mt nb) b, k < N) ∧ (∀ k ∈ b, k ∈ l.foldl (mt nb) b) ∧ ∀ j ∈ l, j ∈ l.foldl (mt nb) b
  | [], _, _, h, k => ⟨h, k, fun _ h => h, fun j hj => by simp at hj⟩
  | a :: l, b, hl, hb, kb => by
    rw [List.foldl_cons]
    have g := meetF_ok r 8 (hl a List.mem_cons_self) hb kb
    have g2 := fold_ok r l (b := mt nb b a) (fun j hj => hl j (List.mem_cons_of_mem _ hj)) g.1 g.2.1
    refine ⟨g2.1, g2.2.1, fun k hk => g2.2.2.1 k (g.2.2.1 k hk), fun j hj => ?_⟩
    rcases List.mem_cons.mp hj with rfl | hj
    · exact g2.2.2.1 _ (g.2.2.2 (by decide))
    · exact g2.2.2.2 j hj
/-- what is reached stays within the order: neighbours of its members are members -/
def Closed (nb : Nat → List Nat) (o : List Nat) : Prop := ∀ i ∈ o, ∀ j ∈ nb i, j ∈ o
theorem len_le {o : List Nat} {N : Nat} (nd : o.Nodup) (h : ∀ k ∈ o, k < N) : o.length ≤ N := by
  induction N generalizing o with
  | zero =>
    cases o with
    | nil => exact Nat.le_refl _
    | cons a l => exact absurd (h a List.mem_cons_self) (Nat.not_lt_zero _)
  | succ N ih =>
    have g := ih (nd.erase N) fun k hk => by
      have m := (nd.mem_erase_iff).mp hk
      have := h k m.2
      have := m.1
      omega
    by_cases m : N ∈ o
    · have := List.length_erase_of_mem m
      omega
    · rw [List.erase_of_not_mem m] at g
      omega
theorem set_same {xs : List V} {k : Nat} {v : V} (e : xs[k]? = some v) : xs.set k v = xs := by
  refine List.ext_getElem? fun m => ?_
  by_cases h : m = k
  · subst h
    rw [List.getElem?_set_self (List.getElem?_eq_some_iff.mp e).1, e]
  · rw [List.getElem?_set_ne (fun z => h z.symm)]
theorem ixN_at {n j : Nat} (hj : j < n) : ixN n (j : Int) = some j := by
  unfold ixN
  rw [if_pos (by omega)]
  simp [hj]
def lenAt (H : Hp) (p : Addr) : Nat := match H p with
  | some (.lst xs) => xs.length
  | _ => 0
theorem lenAt_of {H : Hp} {p : Addr} {xs : List V} (h : H p = some (.lst xs)) : lenAt H p = xs.length := by
  unfold lenAt
  rw [h]
/-- records at a row of values -/
def RcsAt (K : PySem.W.Frag) (H : Hp) (xs : List V) (R : List Rc) : Prop := xs.length = R.length ∧ ∀ (i : Nat) (v : V) (r : Rc), xs[i]? = some v → R[i]? = some r → RcAt K H v r
theorem RcsAt.keep {K : PySem.W.Frag} {H H' : Hp} {xs : List V} {R : List Rc} (s : KeepT K H H') (h : RcsAt K H xs R) : RcsAt K H' xs R := ⟨h.1, fun i v r e1 e2 => (h.2 i v r e1 e2).keep s⟩
def NumAt (kvs : List (Key × V)) (o : List Nat) : Prop := ∀ j ∈ o, valV kvs (Sum.inl (j : Int)) = some (.int (o.idxOf j : Nat))
theorem DGet.at {H : Hp} {d : Addr} {kvs : List (Key × V)} {k : Key} {v : V} (h : H d = some (.dK kvs)) (e : valV kvs k = some v) : DGet H d (kV k) (some v) := by
  rw [← e]
  exact DGet.k (k := k) h
def RefO (o : List Nat) (v : V) : Prop := v = .non ∨ ∃ j : Nat, v = .int (j : Int) ∧ j ∈ o
def spTransl (K : PySem.W.Frag) : Sp := fun vs H Q _ => ∃ (p l dn : Addr) (xs : List V) (ks : List Kd) (o : List Nat) (kvs : List (Key × V)), vs = [.ref p, .ref l, .ref dn] ∧ SqT K H p xs ∧ H l = some (.lst (natsV (refPl ks))) ∧ xs.length = ks.length ∧ ks.length ≤ 100 ∧ H dn = some (.dK kvs) ∧ NumAt kvs o ∧
  (∀ i ∈ refPl ks, RefO o (xs.getD i .non)) ∧ ∀ q H', Same H H' → H' q = some (.tup (trL ks xs o)) → Q (.ref q) H'
def spTrRec (K : PySem.W.Frag) : Sp := fun vs H Q _ => ∃ (v : V) (dp dn : Addr) (r : Rc) (rs : List Rk) (o : List Nat) (kvs : List (Key × V)) (n : Nat), vs = [v, .ref dp, .ref dn] ∧ RcAt K H v r ∧ RcOk rs n r ∧ PgOk rs ∧ PlAt H dp rs ∧ H dn = some (.dK kvs) ∧ NumAt kvs o ∧
  (∀ k, k < r.vals.length → ((flOf rs r.nm).getD k .flag).isRef = true → RefO o (r.vals.getD k .non)) ∧ ∀ u H', Same H H' → RcAt K H' u ⟨r.nm, r.live, trL (flOf rs r.nm) r.vals o⟩ → Q u H'
def spNeigh (K : PySem.W.Frag) : Sp := fun vs H Q _ => ∃ (v : V) (dp : Addr) (r : Rc) (rs : List Rk) (n : Nat), vs = [v, .ref dp] ∧ RcAt K H v r ∧ RcOk rs n r ∧ PgOk rs ∧ PlAt H dp rs ∧ ∀ q H', H q = none → Same H H' → H' q = some (.lst (natsV (if r.live then refsAt r.vals (refPl (flOf rs r.nm)) else []))) → Q (.ref q) H'
theorem flOf_len {rs : List Rk} (ok : PgOk rs) {z : Str} : (flOf rs z).length ≤ 20 := by
  unfold flOf
  cases e : rs.find? fun r => decide (r.1 = z) with
  | none => exact Nat.zero_le _
  | some r =>
    show (r.2.map (·.2)).length ≤ 20
    rw [List.length_map]
    exact ok.lf r (List.mem_of_find?_eq_some e)
theorem PlAt.get {H : Hp} {d : Addr} {rs : List Rk} (ok : PgOk rs) (h : PlAt H d rs) {z : Str} (m : ∃ k ∈ rs, k.1 = z) : ∃ kvs l, H d = some (.dK kvs) ∧ valV kvs (Sum.inr z) = some (.ref l) ∧ H l = some (.lst (natsV (refPl (flOf rs z)))) := by
  obtain ⟨kvs, h1, h2⟩ := h
  obtain ⟨k, hk, rfl⟩ := m
  obtain ⟨l, g1, g2⟩ := h2 k hk
  exact ⟨kvs, l, h1, g1, by rw [flOf_mem ok.nd hk]; exact g2⟩
section
variable {P : Program} {w : World} {K : PySem.W.Frag} {mg : Str → Option Value} {base : Heap}
theorem ok_translated (T : Txt w K mg) : FnOk P w K mg base CX0 1 T.a_translated T.d_translated p_translated (spTransl K) := by
  refine T.F_translated.ok sc_translated (fun vs H Q E h => ?_) (fun cdv A outer s H vs Q E hr h => ?_)
  · obtain ⟨p, l, dn, xs, ks, o, kvs, rfl, _⟩ := h
    rfl
  obtain ⟨p, l, dn, xs, ks, o, kvs, rfl, hp, hl, lx, lk, hd, hn, hv, q⟩ := h
  refine ⟨_, (pss_cons (ps_set (i := 3) sc_translated.nd rfl (Or.inl rfl) (pe_callTy call_list_of rfl T.z_list bt_list (pa_cons (pv 0) pa_nil)))
      (pss_cons (ps_for PassesOwn.never rfl (pi_list (pv 1)) (pg_name (i := 4) sc_translated.nd rfl (Or.inl rfl))
        (pss_one (ps_if (pt_cmpR op_notN (pe_ix ix_list (pv 3) (pv 4) (fun _ _ => rfl)) pe_non (nomark _)) (pss_one (ps_asg (pe_dget (hu_of hr) (pv 2) (pe_ix ix_list (pv 3) (pv 4) (fun _ _ => rfl)) (fun _ _ => rfl)) (pg_sub (pv 3) (pv 4) set_list))) pss_nil)))
      (pss_one (ps_ret (pe_callTy call_tuple_of rfl T.z_tuple bt_tuple (pa_cons (pv 3) pa_nil)))))), ?_⟩
  refine ⟨_, rfl, p, _, rfl, .inr hp, fun c hc => ?_⟩
  have sc := Same.new hc (.lst xs)
  have st0 : (List.range xs.length).map (fun k => if k ∈ (refPl ks).take 0 then trAt o (xs.getD k .non) else xs.getD k .non) = xs := by
    refine List.ext_getElem? fun k => ?_
    rw [List.getElem?_map]
    by_cases hk : k < xs.length
    · rw [List.getElem?_range hk, List.getElem?_eq_getElem hk]
      show some (if k ∈ (refPl ks).take 0 then _ else _) = _
      rw [List.take_zero, if_neg (by simp), List.getD_eq_getElem?_getD, List.getElem?_eq_getElem hk]
      rfl
    · rw [List.getElem?_eq_none (by rw [List.length_range]; omega), List.getElem?_eq_none (by omega)]
      rfl
  refine ⟨_, rfl, l, rfl, ⟨_, SqL.of (sc _ _ hl)⟩, for_list (K := K) (a := l) (xs := natsV (refPl ks)) (fun i σ G => Same H G ∧ G c = some (.lst ((List.range xs.length).map fun k => if k ∈ (refPl ks).take i then trAt o (xs.getD k .non) else xs.getD k .non)) ∧ ∃ v4 : Option V, σ = [some (.ref p), some (.ref l), some (.ref dn), some (.ref c), v4])
    ⟨sc, by rw [st0]; exact upd_same, none, rfl⟩ (fun i σ G _ ⟨s, _⟩ => SqL.of (s _ _ hl)) ?_ ?_⟩
  · rintro i y σ G ey ⟨sG, hcG, v4, rfl⟩
    obtain ⟨k, ek, rfl⟩ : ∃ k, (refPl ks)[i]? = some k ∧ y = .int (k : Int) := by
      unfold natsV at ey
      rw [List.getElem?_map] at ey
      cases e : (refPl ks)[i]? with
      | none => rw [e] at ey; cases ey
      | some z => rw [e] at ey; exact ⟨z, rfl, (Option.some.inj ey).symm⟩
    have mk := List.mem_of_getElem? ek
    have hk := (mem_refPl.mp mk).1
    have tk : (refPl ks).take (i + 1) = (refPl ks).take i ++ [k] := by
      rw [List.take_add_one, ek]
      rfl
    have nk : k ∉ (refPl ks).take i := fun hm => by
      have nd : (refPl ks).Nodup := (List.nodup_range).filter _
      have nd2 := nd.sublist (List.take_sublist (i + 1) (refPl ks))
      rw [tk] at nd2
      exact (List.nodup_append.mp nd2).2.2 k hm k (List.mem_singleton.mpr rfl) rfl
    have hkx : k < xs.length := by omega
    have at1 : atI ((List.range xs.length).map fun k => if k ∈ (refPl ks).take i then trAt o (xs.getD k .non) else xs.getD k .non) (k : Int) = some (xs.getD k .non) := atI_nat (by
      rw [List.getElem?_map, List.getElem?_range hkx]
      show some (if k ∈ (refPl ks).take i then _ else _) = _
      rw [if_neg nk])
    refine ⟨_, rfl, _, rfl, c, _, _, _, rfl, rfl, SqL.of hcG, at1, rfl, _, rfl, ?_⟩
    have nxt : ∀ (u : V), u = trAt o (xs.getD k .non) → ((List.range xs.length).map fun k => if k ∈ (refPl ks).take i then trAt o (xs.getD k .non) else xs.getD k .non).set k u = (List.range xs.length).map fun k => if k ∈ (refPl ks).take (i + 1) then trAt o (xs.getD k .non) else xs.getD k .non := fun u hu => by
      refine List.ext_getElem? fun m => ?_
      by_cases hm : m < xs.length
      · rw [List.getElem?_map, List.getElem?_range hm]
        show _ = some (if m ∈ (refPl ks).take (i + 1) then _ else _)
        by_cases e : m = k
        · subst e
          rw [List.getElem?_set_self (by rw [List.length_map, List.length_range]; exact hm), tk, if_pos (List.mem_append_right _ (List.mem_singleton.mpr rfl)), hu]
        · rw [List.getElem?_set_ne (fun z => e z.symm), List.getElem?_map, List.getElem?_range hm, tk]
          show some (if m ∈ (refPl ks).take i then _ else _) = _
          by_cases h : m ∈ (refPl ks).take i
          · rw [if_pos h, if_pos (List.mem_append_left _ h)]
          · rw [if_neg h, if_neg (fun z => (List.mem_append.mp z).elim h fun z => e (List.mem_singleton.mp z))]
      · rw [List.getElem?_eq_none (by rw [List.length_set, List.length_map, List.length_range]; omega), List.getElem?_eq_none (by rw [List.length_map, List.length_range]; omega)]
    rcases hv k mk with h | ⟨j, h, hj⟩
    · rw [h]
      refine ifF (by decide) ⟨sG, ?_, _, rfl⟩
      rw [← nxt .non (by rw [h]; rfl), hcG]
      congr 2
      refine (set_same ?_).symm
      rw [List.getElem?_map, List.getElem?_range hkx]
      show some (if k ∈ (refPl ks).take i then _ else _) = _
      rw [if_neg nk, h]
    · rw [h] at at1 ⊢
      refine ifT (by rw [decide_eq_false (fun z => by cases z)]; rfl) ?_
      refine ⟨_, rfl, _, rfl, _, rfl, c, _, _, _, rfl, rfl, SqL.of hcG, at1, dn, _, rfl, DGet.at (k := Sum.inl (j : Int)) (sG _ _ hd) (hn j hj), ?_⟩
      refine ⟨_, rfl, _, rfl, c, _, _, k, rfl, rfl, hcG, ixN_at (by rw [List.length_map, List.length_range]; exact hkx), ?_⟩
      refine ⟨fun b u e => by rw [upd_ne (ne_of_none e hc)]; exact sG _ _ e, ?_, _, rfl⟩
      rw [nxt _ (by rw [h]; rfl)]
      exact upd_same
  · rintro σ G ⟨sG, hcG, v4, rfl⟩
    refine ⟨_, rfl, c, _, rfl, .inl ⟨SqL.of hcG, fun t ht => q t _ (sG.trans (Same.new ht _)) ?_⟩⟩
    rw [upd_same]
    unfold trL
    congr 2
    refine List.map_congr_left fun k hk => ?_
    rw [List.mem_range] at hk
    have e : (natsV (refPl ks)).length = (refPl ks).length := by
      unfold natsV
      rw [List.length_map]
    rw [e, List.take_length]
    by_cases h : (ks.getD k .flag).isRef = true
    · rw [if_pos h, if_pos (mem_refPl.mpr ⟨by omega, h⟩)]
    · rw [if_neg h, if_neg (fun z => h (mem_refPl.mp z).2)]
theorem ok_translated_record (T : Txt w K mg) : FnOk P w K mg base CX0 2 T.a_translated_record T.d_translated_record p_translated_record (spTrRec K) := by
  have g_translated := ok_translated (P := P) (w := w) (K := K) (base := base) T
  refine T.F_translated_record.ok sc_translated_record (fun vs H Q E h => ?_) (fun cdv A outer s H vs Q E hr h => ?_)
  · obtain ⟨v, dp, dn, r, rs, o, kvs, n, rfl, _⟩ := h
    rfl
  obtain ⟨v, dp, dn, r, rs, o, kvs, n, rfl, hv, ok, pok, hpl, hd, hn, hro, q⟩ := h
  refine ⟨_, (pss_cons (ps_asg (pv 0) (pg_tup rfl (pgs_cons (pg_name (i := 3) sc_translated_record.nd rfl (Or.inl rfl)) (pgs_cons (pg_name (i := 4) sc_translated_record.nd rfl (Or.inl rfl)) (pgs_cons (pg_name (i := 5) sc_translated_record.nd rfl (Or.inl rfl)) pgs_nil)))))
      (pss_one (ps_ret (pe_ifExp (pt_val (pv 4)) (pe_tup (pa_cons (pv 3) (pa_cons (pv 4) (pa_cons (pe_call g_translated (hr.mono (by first | decide | omega)) rfl T.m_translated T.F_translated.kp T.b_translated .nil pass0 (pa_cons (pv 5) (pa_cons (pe_dget (hu_of hr) (pv 1) (pv 3) (fun _ _ => rfl)) (pa_cons (pv 2) pa_nil)))) pa_nil)))) (pv 0))))), ?_⟩
  have hv0 := hv
  obtain ⟨p, t, rfl, hp, ht⟩ := hv
  refine ⟨_, rfl, p, _, rfl, hp, rfl, _, _, rfl, _, _, rfl, _, _, rfl, rfl, ?_⟩
  obtain ⟨nm, live, vals⟩ := r
  cases live with
  | true =>
    obtain ⟨kp, l, e1, e2, e3⟩ := hpl.get pok ok.m
    have lv := ok.l rfl
    refine ⟨_, rfl, _, rfl, iteT ?_⟩
    refine ⟨_, rfl, _, rfl, _, rfl, _, rfl, _, rfl, dp, _, rfl, DGet.at (k := Sum.inr nm) e1 e2, _, rfl, t, l, dn, vals, flOf rs nm, o, kvs, rfl, ht, e3, lv, by have := flOf_len pok (z := nm); omega, hd, hn, fun i hi => ?_, fun t2 H2 s2 ht2 => ?_⟩
    · have h := mem_refPl.mp hi
      exact hro i (by show i < vals.length; rw [lv]; exact h.1) h.2
    · refine ⟨by show 3 ≤ sizeLine; decide, fun u hu => ?_⟩
      exact q (.ref u) _ (s2.trans (Same.new hu _)) ⟨u, t2, rfl, SqT.of upd_same, SqT.of ((Same.new hu _) _ _ ht2)⟩
  | false =>
    refine ⟨_, rfl, _, rfl, iteF ?_⟩
    have ev : vals = [] := ok.d rfl
    subst ev
    exact ⟨_, rfl, q _ H (Same.refl _) hv0⟩
theorem ok_neighbours (T : Txt w K mg) : FnOk P w K mg base CX0 2 T.a_neighbours T.d_neighbours p_neighbours (spNeigh K) := by
  have g_referred := ok_referred (P := P) (w := w) (K := K) (base := base) T
  refine T.F_neighbours.ok sc_neighbours (fun vs H Q E h => ?_) (fun cdv A outer s H vs Q E hr h => ?_)
  · obtain ⟨v, dp, r, rs, n, rfl, _⟩ := h
    rfl
  obtain ⟨v, dp, r, rs, n, rfl, hv, ok, pok, hpl, q⟩ := h
  refine ⟨_, (pss_cons (ps_asg (pv 0) (pg_tup rfl (pgs_cons (pg_name (i := 2) sc_neighbours.nd rfl (Or.inl rfl)) (pgs_cons (pg_name (i := 3) sc_neighbours.nd rfl (Or.inl rfl)) (pgs_cons (pg_name (i := 4) sc_neighbours.nd rfl (Or.inl rfl)) pgs_nil)))))
      (pss_one (ps_ret (pe_ifExp (pt_val (pv 3)) (pe_call g_referred (hr.mono (by first | decide | omega)) rfl T.m_referred T.F_referred.kp T.b_referred .nil pass0 (pa_cons (pv 4) (pa_cons (pe_dget (hu_of hr) (pv 1) (pv 2) (fun _ _ => rfl)) pa_nil))) (pe_lst pa_nil))))), ?_⟩
  obtain ⟨p, t, rfl, hp, ht⟩ := hv
  refine ⟨_, rfl, p, _, rfl, hp, rfl, _, _, rfl, _, _, rfl, _, _, rfl, rfl, ?_⟩
  obtain ⟨nm, live, vals⟩ := r
  cases live with
  | true =>
    obtain ⟨kp, l, e1, e2, e3⟩ := hpl.get pok ok.m
    have lv := ok.l rfl
    refine ⟨_, rfl, _, rfl, iteT ?_⟩
    refine ⟨_, rfl, _, rfl, _, rfl, dp, _, rfl, DGet.at (k := Sum.inr nm) e1 e2, t, l, vals, refPl (flOf rs nm), n, rfl, ht, e3, ?_, fun i hi => ?_, fun t2 H2 n2 s2 ht2 => q t2 H2 n2 s2 ht2⟩
    · have := refTo_len (ks := flOf rs nm) (i := (flOf rs nm).length)
      have := flOf_len pok (z := nm)
      unfold refPl
      omega
    · have h := mem_refPl.mp hi
      have hi2 : i < vals.length := by rw [lv]; exact h.1
      exact ⟨hi2, ok.v i hi2 h.2⟩
  | false =>
    refine ⟨_, rfl, _, rfl, iteF ?_⟩
    exact ⟨by show 0 ≤ sizeLine; decide, fun l hl => q l _ hl (Same.new hl _) upd_same⟩
end
/-! ### comprehensions with two sources -/
/-- the inner source's loop -/
theorem lc2_in {J1 : It} {n1 : Nat} {G1 : Hp → Prop} {Y1 : Nat → Hp → V → Hp → Prop} (w : Walk J1 n1 G1 Y1) {g1 : TG} {tt1 : TT} {te : TE} {vs1 : List Nat} {σ2 : L2.St} {H4 : Hp} {D : Addr} {Nx : Hp → Prop} (Pw : Nat → Hp → Prop) (h0 : Pw 0 H4) (hG : ∀ j H, j ≤ n1 → Pw j H → G1 H)
    (hs : ∀ j x H H', j < n1 → Pw j H → Y1 j H x H' → g1 x (wipe σ2 vs1) H' fun σ3 H5 => wipe σ3 vs1 = wipe σ2 vs1 ∧ tt1 σ3 H5 fun b H6 =>
      if b = true then te σ3 H6 fun y H7 => ∃ acc, H7 D = some (.lst acc) ∧ acc.length < sizeLine ∧ Pw (j + 1) (upd H7 D (.lst (acc ++ [y]))) else Pw (j + 1) H6) (hd : ∀ H, Pw n1 H → Nx H) :
    ∃ W1 : Nat → Nat → Hp → Prop, (∃ m, W1 0 m H4) ∧ ∀ j k H, W1 j k H →
      (J1.stop j H ∧ Nx H) ∨ (J1.go j H ∧ ∃ Nx1 : Hp → Prop, (∀ H', Nx1 H' → ∃ k', k' < k ∧ W1 (j + 1) k' H') ∧ ∀ x H', J1.yld j H x H' → g1 x (wipe σ2 vs1) H' fun σ3 H5 => wipe σ3 vs1 = wipe σ2 vs1 ∧ tt1 σ3 H5 fun b H6 =>
        if b = true then te σ3 H6 fun y H7 => ∃ acc, H7 D = some (.lst acc) ∧ acc.length < sizeLine ∧ Nx1 (upd H7 D (.lst (acc ++ [y]))) else Nx1 H6) := by
  refine ⟨fun j k H => k = n1 - j ∧ j ≤ n1 ∧ Pw j H, ⟨n1, by simp, Nat.zero_le _, h0⟩, ?_⟩
  rintro j k H ⟨rfl, hj, p⟩
  have q := hG j H hj p
  by_cases hlt : j < n1
  · exact .inr ⟨w.goes j H hlt q, Pw (j + 1), fun H' p' => ⟨n1 - (j + 1), by omega, rfl, hlt, p'⟩, fun x H' y => hs j x H H' hlt p (w.yields j H x H' hlt q y)⟩
  · have e : j = n1 := by omega
    subst e
    exact .inl ⟨w.stops H q, hd H p⟩
/-- the outer source's loop -/
theorem lc2_out {J : It} {n : Nat} {G : Hp → Prop} {Y : Nat → Hp → V → Hp → Prop} (w : Walk J n G Y) {g g1 : TG} {tt tt1 : TT} {wi1 : TI} {te : TE} {vs vs1 : List Nat} {σ : L2.St} {H1 : Hp} {D : Addr} {Qd : Hp → Prop} (Pv : Nat → Hp → Prop) (h0 : Pv 0 (upd H1 D (.lst []))) (hG : ∀ i H, i ≤ n → Pv i H → G H)
    (hs : ∀ i x H H', i < n → Pv i H → Y i H x H' → g x (wipe σ vs) H' fun σ2 H2 => wipe σ2 vs = wipe σ vs ∧ tt σ2 H2 fun b H3 =>
      if b = true then wi1 σ2 H3 fun J1 H4 => ∃ W1 : Nat → Nat → Hp → Prop, (∃ m, W1 0 m H4) ∧ ∀ j k H, W1 j k H →
        (J1.stop j H ∧ Pv (i + 1) H) ∨ (J1.go j H ∧ ∃ Nx1 : Hp → Prop, (∀ H', Nx1 H' → ∃ k', k' < k ∧ W1 (j + 1) k' H') ∧ ∀ x H', J1.yld j H x H' → g1 x (wipe σ2 vs1) H' fun σ3 H5 => wipe σ3 vs1 = wipe σ2 vs1 ∧ tt1 σ3 H5 fun b H6 =>
          if b = true then te σ3 H6 fun y H7 => ∃ acc, H7 D = some (.lst acc) ∧ acc.length < sizeLine ∧ Nx1 (upd H7 D (.lst (acc ++ [y]))) else Nx1 H6)
      else Pv (i + 1) H3) (hd : ∀ H, Pv n H → Qd H) :
    ∃ W : Nat → Nat → Hp → Prop, (∃ m, W 0 m (upd H1 D (.lst []))) ∧ ∀ i m H, W i m H →
      (J.stop i H ∧ Qd H) ∨ (J.go i H ∧ ∃ Nx : Hp → Prop, (∀ H', Nx H' → ∃ m', m' < m ∧ W (i + 1) m' H') ∧ ∀ x H', J.yld i H x H' → g x (wipe σ vs) H' fun σ2 H2 => wipe σ2 vs = wipe σ vs ∧ tt σ2 H2 fun b H3 =>
        if b = true then wi1 σ2 H3 fun J1 H4 => ∃ W1 : Nat → Nat → Hp → Prop, (∃ m, W1 0 m H4) ∧ ∀ j k H, W1 j k H →
          (J1.stop j H ∧ Nx H) ∨ (J1.go j H ∧ ∃ Nx1 : Hp → Prop, (∀ H', Nx1 H' → ∃ k', k' < k ∧ W1 (j + 1) k' H') ∧ ∀ x H', J1.yld j H x H' → g1 x (wipe σ2 vs1) H' fun σ3 H5 => wipe σ3 vs1 = wipe σ2 vs1 ∧ tt1 σ3 H5 fun b H6 =>
            if b = true then te σ3 H6 fun y H7 => ∃ acc, H7 D = some (.lst acc) ∧ acc.length < sizeLine ∧ Nx1 (upd H7 D (.lst (acc ++ [y]))) else Nx1 H6)
        else Nx H3) := by
  refine ⟨fun i m H => m = n - i ∧ i ≤ n ∧ Pv i H, ⟨n, by simp, Nat.zero_le _, h0⟩, ?_⟩
  rintro i m H ⟨rfl, hi, p⟩
  have q := hG i H hi p
  by_cases hlt : i < n
  · exact .inr ⟨w.goes i H hlt q, Pv (i + 1), fun H' p' => ⟨n - (i + 1), by omega, rfl, hlt, p'⟩, fun x H' y => hs i x H H' hlt p (w.yields i H x H' hlt q y)⟩
  · have e : i = n := by omega
    subst e
    exact .inl ⟨w.stops H q, hd H p⟩
/-- a list of truth values at D: k of them, and all hold if and only if A -/
def AllP (H1 : Hp) (D : Addr) (k : Nat) (A : Prop) (H : Hp) : Prop := Same H1 H ∧ ∃ bs : List Bool, H D = some (.lst (bs.map V.bl)) ∧ bs.length = k ∧ (bs.all id = true ↔ A)
theorem AllP.start {H1 : Hp} {D : Addr} {A : Prop} (hD : H1 D = none) (a : A) : AllP H1 D 0 A (upd H1 D (.lst [])) :=
  ⟨Same.new hD _, [], upd_same, rfl, ⟨fun _ => a, fun _ => rfl⟩⟩
theorem AllP.imp {H1 H : Hp} {D : Addr} {k k' : Nat} {A A' : Prop} (h : AllP H1 D k A H) (ek : k = k') (e : A ↔ A') : AllP H1 D k' A' H := by
  obtain ⟨s, bs, h1, h2, h3⟩ := h
  exact ⟨s, bs, h1, by omega, h3.trans e⟩
theorem AllP.push {H1 H H4 : Hp} {D : Addr} {k : Nat} {A : Prop} {b : Bool} (h : AllP H1 D k A H) (hD : H1 D = none) (s : Same H H4) (hk : k < sizeLine) :
    ∃ acc, H4 D = some (.lst acc) ∧ acc.length < sizeLine ∧ AllP H1 D (k + 1) (A ∧ b = true) (upd H4 D (.lst (acc ++ [.bl b]))) := by
  obtain ⟨s1, bs, h1, h2, h3⟩ := h
  refine ⟨_, s _ _ h1, by rw [List.length_map]; omega, fun c u e => by rw [upd_ne (ne_of_none e hD)]; exact s _ _ (s1 _ _ e), bs ++ [b], by rw [List.map_append]; exact upd_same, by simp [h2], ?_⟩
  rw [List.all_append, Bool.and_eq_true, h3]
  simp
/-! ### keys: the program's walk and key -/
structure HpOk (rs : List Rk) (R : List Rc) (rk : Nat → Nat) : Prop where
  pok : PgOk rs
  rc : ∀ r ∈ R, RcOk rs R.length r
  rn : Ranked (nbR rs R) R.length rk
  ln : R.length ≤ 100
def spVisit (K : PySem.W.Frag) : Sp := fun vs H Q _ => ∃ (dp pf pr px : Addr) (fst fx : List Nat) (xs : List V) (rs : List Rk) (R : List Rc) (rk : Nat → Nat), vs = [.ref dp, .ref pf, .ref pr, .ref px] ∧ HpOk rs R rk ∧ PlAt H dp rs ∧ H pf = some (.lst (natsV fst)) ∧ SqT K H pr xs ∧ RcsAt K H xs R ∧ SqT K H px (natsV fx) ∧
  fx.Nodup ∧ (∀ i ∈ fx, i < R.length) ∧ (∀ i ∈ fst, i < R.length) ∧ fst.length ≤ 100 ∧ ∀ o H', Same H H' → H' o = some (.lst (natsV (orderF (nbR rs R) fx fst))) → Q (.ref o) H'
theorem nbR_at {rs : List Rk} {R : List Rc} {i : Nat} {r : Rc} (e : R[i]? = some r) : nbR rs R i = if r.live then refsAt r.vals (refPl (flOf rs r.nm)) else [] := by
  unfold nbR
  rw [e]
theorem natsV_len {l : List Nat} : (natsV l).length = l.length := List.length_map _
theorem natsV_app {a b : List Nat} : natsV (a ++ b) = natsV a ++ natsV b := List.map_append
theorem natsV_rev {a : List Nat} : (natsV a).reverse = natsV a.reverse := List.map_reverse.symm
theorem natsV_get {l : List Nat} {i k : Nat} (e : l[i]? = some k) : (natsV l)[i]? = some (.int (k : Int)) := map_get e
theorem natsV_inv {l : List Nat} {i : Nat} {y : V} (e : (natsV l)[i]? = some y) : ∃ k, l[i]? = some k ∧ y = .int (k : Int) := by
  unfold natsV at e
  rw [List.getElem?_map] at e
  cases h : l[i]? with
  | none => rw [h] at e; cases e
  | some z => rw [h] at e; exact ⟨z, rfl, (Option.some.inj e).symm⟩
theorem isSome_put {kvs : List (Key × V)} {k j : Nat} {v : V} : (valV (putK kvs (Sum.inl (k : Int)) v) (Sum.inl (j : Int))).isSome = true ↔ j = k ∨ (valV kvs (Sum.inl (j : Int))).isSome = true := by
  rw [valV_put]
  by_cases e : j = k
  · subst e
    rw [if_pos rfl]
    exact ⟨fun _ => .inl rfl, fun _ => rfl⟩
  · rw [if_neg (fun z => e (by have := Sum.inl.inj z; omega))]
    exact ⟨fun h => .inr h, fun h => h.resolve_left e⟩
theorem sum_le20 {f : Nat → List Nat} : ∀ l : List Nat, (∀ a ∈ l, (f a).length ≤ 20) → (l.map fun a => (f a).length).sum ≤ l.length * 20
  | [], _ => Nat.le_refl _
  | a :: l, h => by
    have h1 := h a List.mem_cons_self
    have h2 := sum_le20 l fun b hb => h b (List.mem_cons_of_mem _ hb)
    rw [List.map_cons, List.sum_cons, List.length_cons]
    omega
section
variable {P : Program} {w : World} {K : PySem.W.Frag} {mg : Str → Option Value} {base : Heap}
theorem ok_visit_records (T : Txt w K mg) : FnOk P w K mg base CX0 3 T.a_visit_records T.d_visit_records p_visit_records (spVisit K) := by
  have g_neighbours := ok_neighbours (P := P) (w := w) (K := K) (base := base) T
  refine T.F_visit_records.ok sc_visit_records (fun vs H Q E h => ?_) (fun cdv A outer s H vs Q E hr h => ?_)
  · obtain ⟨dp, pf, pr, px, fst, fx, xs, rs, R, rk, rfl, _⟩ := h
    rfl
  obtain ⟨dp, pf, pr, px, fst, fx, xs, rs, R, rk, rfl, ok, hpl, hf, hpr, hrs, hx, ndx, bx, bf, lf, q⟩ := h
  refine ⟨_, (pss_cons (ps_set (i := 4) sc_visit_records.nd rfl (Or.inl rfl) (pe_callTy call_list_of rfl T.z_list bt_list (pa_cons (pv 3) pa_nil)))
      (pss_cons (DcS.ps_setDc (i := 5) (own := [("index", 6)]) (g := gName 6) (tt := tYes) rfl sc_visit_records.nd rfl rfl (DcS.sw_trueD rfl rfl rfl (by decide +kernel)) (pi_tup (pv 3)) (blkOk_by (own := [("index", 6)]) (N := n_visit_records) (sc := defScope s_visit_records) (by decide +kernel)) (fun _ _ _ _ _ => (pg_name (i := 6) sc_visit_records.nd rfl (Or.inl rfl))) (fun _ _ _ _ _ => pts_nil) (fun _ _ _ _ _ => (pv 6)) (fun _ _ _ _ _ => pe_bl))
      (pss_cons (ps_setLc2 (i := 7) (own := [("index", 6), ("found", 8)]) (vs1 := [8]) (g := gName 6) (g1 := gName 8) (tt := tYes) (tt1 := tYes) rfl sc_visit_records.nd rfl rfl (sw_true rfl rfl rfl (by decide +kernel)) (pi_tup (pv 3)) (blkOk_by (own := [("index", 6), ("found", 8)]) (N := n_visit_records) (sc := defScope s_visit_records) (by decide +kernel)) (by decide) (fun _ _ _ _ _ => (pg_name (i := 6) sc_visit_records.nd rfl (Or.inl rfl))) (fun _ _ _ _ _ => pts_nil) (fun _ _ _ _ _ => (show PI _ _ _ (iList K _) from (pi_list (pe_call g_neighbours (hr.mono (by first | decide | omega)) rfl T.m_neighbours T.F_neighbours.kp T.b_neighbours .nil pass0 (pa_cons (pe_ix (show IxR _ (rIxT K) from ix_tup) (pv 2) (pv 6) (fun _ _ => rfl)) (pa_cons (pv 0) pa_nil)))))) (fun _ _ _ _ _ => (pg_name (i := 8) sc_visit_records.nd rfl (Or.inl rfl))) (fun _ _ _ _ _ => pts_nil) (fun _ _ _ _ _ => (pv 8)))
      (pss_cons (ps_set (i := 9) sc_visit_records.nd rfl (Or.inl rfl) (pe_lst (StX.pa_star (pv 7) (StX.pa_star (pv 1) pa_nil))))
      (pss_cons (ps_expr (pe_bm0 PySem.F.plainAttrs_list PySem.F.slot_list_reverse PySem.F.type_list_reverse mt_reverse (pv 9)))
      (pss_cons (ps_while PassesOwn.never (pt_truth (pv 9) (by intro _; rfl)) (pss_cons (ps_set (i := 6) sc_visit_records.nd rfl (Or.inl rfl) (pe_bm0 PySem.F.plainAttrs_list PySem.F.slot_list_pop PySem.F.type_list_pop mt_pop (pv 9)))
      (pss_one (ps_if (pt_cmp (pc_dnotin (hu_of hr) (pv 6) (pv 5))) (pss_cons (ps_dput (hu_of hr) (pv 5) (pv 6) pe_bl rfl)
      (pss_cons (ps_expr (pe_bm PySem.F.plainAttrs_list PySem.F.slot_list_append PySem.F.type_list_append mt_append (pv 4) (pa_cons (pv 6) pa_nil)))
      (pss_one (ps_expr (pe_bm PySem.F.plainAttrs_list PySem.F.slot_list_extend PySem.F.type_list_extend mt_extend (pv 9) (pa_cons (LRv.pe_listRev rfl rfl T.z_list rfl T.z_reversed (pe_call g_neighbours (hr.mono (by first | decide | omega)) rfl T.m_neighbours T.F_neighbours.kp T.b_neighbours .nil pass0 (pa_cons (pe_ix ix_tup (pv 2) (pv 6) (fun _ _ => rfl)) (pa_cons (pv 0) pa_nil)))) pa_nil)))))) pss_nil))))
      (pss_one (ps_ret (pv 4))))))))), ?_⟩
  have lR := ok.ln
  have lfx := len_le ndx bx
  generalize hnb : nbR rs R = nb at q
  have rn := ok.rn
  rw [hnb] at rn
  -- order
  refine ⟨_, rfl, px, _, rfl, .inr hx, fun lo hlo => ?_⟩
  have s1 := Same.new hlo (.lst (natsV fx))
  have eo : (upd H lo (.lst (natsV fx))) lo = some (.lst (natsV fx)) := upd_same
  generalize (upd H lo (.lst (natsV fx))) = H1 at s1 eo
  -- seen
  refine ⟨_, rfl, px, rfl, ⟨_, Same.tup s1 hx⟩, fun ds hds => ?_⟩
  refine dc_it (walk_tup (xs := natsV fx)) (fun i G => Same H1 G ∧ ∃ kvs, G ds = some (.dK kvs) ∧ kvs.length ≤ i ∧ ∀ k : Nat, (valV kvs (Sum.inl (k : Int))).isSome = true ↔ k ∈ fx.take i) ⟨Same.new hds _, [], upd_same, Nat.le_refl _, fun k => ⟨fun h => (by cases h), fun h => by simp at h⟩⟩ (fun i G _ P => Same.tup (s1.trans P.1) hx) ?_ ?_
  · rintro i x G G' hi ⟨sG, kvs, eD, lk, hk⟩ ⟨rfl, ex⟩
    obtain ⟨k, ek, rfl⟩ := natsV_inv ex
    have hi2 := (List.getElem?_eq_some_iff.mp ek).1
    refine ⟨rfl, tyes ?_⟩
    refine ⟨_, rfl, kvs, Sum.inl (k : Int), rfl, eD, lt_line (by omega), fun b u e => by rw [upd_ne (ne_of_none e hds)]; exact sG _ _ e, _, upd_same, ?_, fun j => ?_⟩
    · have := putK_lenle (kvs := kvs) (k := Sum.inl (k : Int)) (y := V.bl true)
      omega
    · rw [isSome_put, hk, List.take_add_one, ek, List.mem_append]
      show _ ↔ _ ∨ j ∈ [k]
      rw [List.mem_singleton]
      exact or_comm
  rintro H2 ⟨s12, kv2, ed2, lk2, hk2⟩
  rw [natsV_len] at lk2
  have hk2 : ∀ k : Nat, (valV kv2 (Sum.inl (k : Int))).isSome = true ↔ k ∈ fx := fun k => by
    have := hk2 k
    rwa [natsV_len, List.take_length] at this
  have s2 := s1.trans s12
  have eo2 := s12 _ _ eo
  -- starts
  have nodeAt : ∀ {G : Hp} {i : Nat}, Same H G → i < R.length → ∃ r v, R[i]? = some r ∧ atI xs (i : Int) = some v ∧ RcAt K G v r ∧ RcOk rs R.length r ∧ nb i = (if r.live then refsAt r.vals (refPl (flOf rs r.nm)) else []) := fun {G i} sG hi => by
    have e1 : R[i]? = some R[i] := List.getElem?_eq_getElem hi
    have hi2 : i < xs.length := by rw [hrs.1]; exact hi
    have e2 : xs[i]? = some xs[i] := List.getElem?_eq_getElem hi2
    exact ⟨_, _, e1, atI_nat e2, (hrs.2 i _ _ e2 e1).keep (KeepT.of sG), ok.rc _ (List.getElem_mem hi), by rw [← hnb]; exact nbR_at e1⟩
  refine ⟨_, rfl, px, rfl, ⟨_, Same.tup s2 hx⟩, fun D hD => ?_⟩
  refine lc2_out (walk_tup (xs := natsV fx)) (fun i G => Same H2 G ∧ G D = some (.lst (natsV ((fx.take i).flatMap nb)))) ⟨Same.new hD _, upd_same⟩ (fun i G _ P => Same.tup (s2.trans P.1) hx) ?_ ?_
  · rintro i x G G' hi ⟨sG, eD⟩ ⟨rfl, ex⟩
    obtain ⟨k, ek, rfl⟩ := natsV_inv ex
    have hk := bx k (List.mem_of_getElem? ek)
    obtain ⟨r, v, e1, e2, e3, e4, e5⟩ := nodeAt (s2.trans sG) hk
    have tk : fx.take (i + 1) = fx.take i ++ [k] := by
      rw [List.take_add_one, ek]
      rfl
    refine ⟨rfl, tyes ?_⟩
    refine ⟨_, rfl, _, rfl, pr, _, _, _, rfl, rfl, Same.tup (s2.trans sG) hpr, e2, _, rfl, v, dp, r, rs, R.length, rfl, e3, e4, ok.pok, hpl.same (s2.trans sG), fun l3 H3 n3 s3 hl3 => ?_⟩
    rw [← e5] at hl3
    have nlD : l3 ≠ D := (ne_of_none eD n3).symm
    refine ⟨l3, rfl, ⟨_, SqL.of hl3⟩, ?_⟩
    refine lc2_in (walk_list (xs := natsV (nb k))) (fun j F => Same H2 F ∧ F l3 = some (.lst (natsV (nb k))) ∧ F D = some (.lst (natsV ((fx.take i).flatMap nb ++ (nb k).take j)))) ⟨sG.trans s3, hl3, by rw [List.take_zero, List.append_nil]; exact s3 _ _ eD⟩ (fun j F _ P => SqL.of P.2.1) ?_ ?_
    · rintro j y F F' hj ⟨sF, hlF, eDF⟩ ⟨rfl, ey⟩
      obtain ⟨m, em, rfl⟩ := natsV_inv ey
      have lnb := rn.l k
      refine ⟨rfl, tyes ?_⟩
      refine ⟨_, rfl, _, eDF, lt_line (by
        rw [natsV_len, List.length_append, List.length_take, List.length_flatMap]
        have : ((fx.take i).map fun a => (nb a).length).sum ≤ (fx.take i).length * 20 := sum_le20 _ fun a _ => rn.l a
        rw [List.length_take] at this
        omega), fun b u e => by rw [upd_ne (ne_of_none e hD)]; exact sF _ _ e, by rw [upd_ne nlD]; exact hlF, ?_⟩
      have tj : (nb k).take (j + 1) = (nb k).take j ++ [m] := by
        rw [List.take_add_one, em]
        rfl
      have e9 : natsV ((fx.take i).flatMap nb ++ (nb k).take j ++ [m]) = natsV ((fx.take i).flatMap nb ++ (nb k).take j) ++ [.int (m : Int)] := natsV_app
      rw [tj, ← List.append_assoc, e9]
      exact upd_same
    · rintro F ⟨sF, hlF, eDF⟩
      rw [natsV_len, List.take_length] at eDF
      refine ⟨sF, ?_⟩
      rw [tk, List.flatMap_append, List.flatMap_singleton]
      exact eDF
  rintro H3 ⟨s23, ed3⟩
  rw [natsV_len, List.take_length] at ed3
  have s3 := s2.trans s23
  have eo3 := s23 _ _ eo2
  have es3 := s23 _ _ ed2
  generalize hst : fx.flatMap nb = stt at ed3
  have lst1 : stt.length ≤ 2000 := by
    rw [← hst, List.length_flatMap]
    have := sum_le20 (f := nb) fx fun a _ => rn.l a
    omega
  have bst : ∀ i ∈ stt, i < R.length := fun i hi => by
    rw [← hst] at hi
    obtain ⟨a, _, h⟩ := List.mem_flatMap.mp hi
    exact rn.n a i h
  have q : ∀ o H', Same H H' → H' o = some (.lst (natsV (fst.foldl (mt nb) (stt.foldl (mt nb) fx)))) → Q (.ref o) H' := fun o H' s e => q o H' s (by
    unfold orderF
    rw [hst]
    exact e)
  -- pending
  refine ⟨_, rfl, D, _, rfl, .inr (SqL.of ed3), _, rfl, pf, _, rfl, .inr (SqL.of (s3 _ _ hf)), by
    rw [List.length_append, List.length_append, natsV_len, natsV_len, sizeLine_eq]
    show stt.length + (fst.length + 0) ≤ _
    omega, fun lp hlp => ?_⟩
  have nlp : H lp = none := by
    cases e : H lp with
    | none => rfl
    | some u => rw [s3 _ _ e] at hlp; cases hlp
  have nds : H ds = none := by
    cases e : H ds with
    | none => rfl
    | some u => rw [s1 _ _ e] at hds; cases hds
  have lolp : lo ≠ lp := ne_of_none eo3 hlp
  have dslp : ds ≠ lp := ne_of_none es3 hlp
  have s4 := Same.new hlp (.lst (natsV stt ++ (natsV fst ++ [])))
  refine ⟨_, rfl, .inl ⟨rfl, _, SqL.of upd_same⟩, lp, _, rfl, rfl, upd_same, ?_⟩
  have e4 : (upd (upd H3 lp (.lst (natsV stt ++ (natsV fst ++ [])))) lp (.lst (natsV stt ++ (natsV fst ++ [])).reverse)) lp = some (.lst (natsV (stt ++ fst).reverse)) := by
    rw [upd_same, List.append_nil, ← natsV_app, natsV_rev]
  have s04 : Same H (upd (upd H3 lp (.lst (natsV stt ++ (natsV fst ++ [])))) lp (.lst (natsV stt ++ (natsV fst ++ [])).reverse)) := fun b u e => by
    rw [upd_ne (ne_of_none e nlp)]
    exact s4 _ _ (s3 _ _ e)
  have eo4 : (upd (upd H3 lp (.lst (natsV stt ++ (natsV fst ++ [])))) lp (.lst (natsV stt ++ (natsV fst ++ [])).reverse)) lo = some (.lst (natsV fx)) := by
    rw [upd_ne lolp]
    exact s4 _ _ eo3
  have es4 : (upd (upd H3 lp (.lst (natsV stt ++ (natsV fst ++ [])))) lp (.lst (natsV stt ++ (natsV fst ++ [])).reverse)) ds = some (.dK kv2) := by
    rw [upd_ne dslp]
    exact s4 _ _ es3
  generalize (upd (upd H3 lp (.lst (natsV stt ++ (natsV fst ++ [])))) lp (.lst (natsV stt ++ (natsV fst ++ [])).reverse)) = G0 at e4 s04 eo4 es4
  clear s4 s3 s23 s12 s2 s1 ed3 es3 eo3 eo2 ed2 eo hlp hst
  dsimp only
  unfold tSeq
  refine while_by (fun σ G => ∃ (o p : List Nat) (kvs : List (Key × V)) (v6 v8 : Option V), σ = [some (.ref dp), some (.ref pf), some (.ref pr), some (.ref px), some (.ref lo), some (.ref ds), v6, some (.ref D), v8, some (.ref lp)] ∧ Same H G ∧ G lo = some (.lst (natsV o)) ∧ G ds = some (.dK kvs) ∧ G lp = some (.lst (natsV p)) ∧ kvs.length ≤ o.length ∧
    (∀ k : Nat, (valV kvs (Sum.inl (k : Int))).isSome = true ↔ k ∈ o) ∧ o.Nodup ∧ (∀ k ∈ o, k < R.length) ∧ (∀ k ∈ p, k < R.length) ∧ p.length ≤ 3000 + 20 * o.length ∧ p.reverse.foldl (mt nb) o = fst.foldl (mt nb) (stt.foldl (mt nb) fx)) (fun _ G => (R.length - lenAt G lo) * 25 + lenAt G lp)
    ⟨fx, (stt ++ fst).reverse, kv2, none, none, rfl, s04, eo4, es4, e4, lk2, hk2, ndx, bx, (fun k hk => (List.mem_append.mp (List.mem_reverse.mp hk)).elim (bst k) (bf k)), by rw [List.length_reverse, List.length_append]; omega, by rw [List.reverse_reverse, List.foldl_append]⟩ ?_ ?_
  · rintro σ G ⟨o, p, kvs, v6, v8, rfl, sG, eo, es, ep, lk, hk, ndo, bo, bp, lpp, hfold⟩
    have lo100 := len_le ndo bo
    rcases List.eq_nil_or_concat p with rfl | ⟨p', i, epp⟩
    · refine ⟨_, rfl, false, .inl ⟨_, SqL.of ep, rfl⟩, iteF ⟨_, rfl, q lo G sG ?_⟩⟩
      have hfold : o = _ := hfold
      rw [eo, hfold]
    · rw [List.concat_eq_append] at epp
      subst epp
      have e0 : true = !(natsV (p' ++ [i])).isEmpty := by
        rw [show natsV (p' ++ [i]) = natsV p' ++ [.int (i : Int)] from natsV_app]
        cases natsV p' <;> rfl
      refine ⟨_, rfl, true, .inl ⟨_, SqL.of ep, e0⟩, iteT ?_⟩
      have hi : i < R.length := bp i (List.mem_append_right _ (List.mem_singleton.mpr rfl))
      have bp' : ∀ k ∈ p', k < R.length := fun k h => bp k (List.mem_append_left _ h)
      have e1 : natsV (p' ++ [i]) = natsV p' ++ [.int (i : Int)] := natsV_app
      have lpl : p'.length + 1 ≤ 3000 + 20 * o.length := by
        rw [List.length_append] at lpp
        exact lpp
      rw [List.reverse_append] at hfold
      have hfold : p'.reverse.foldl (mt nb) (mt nb o i) = _ := hfold
      have m0 : lenAt G lp = p'.length + 1 := by
        rw [lenAt_of ep, natsV_len, List.length_append]
        rfl
      have m1 : lenAt G lo = o.length := by rw [lenAt_of eo, natsV_len]
      refine ⟨_, rfl, .inl ⟨rfl, _, SqL.of ep⟩, lp, _, .int (i : Int), rfl, rfl, ep, by rw [e1, List.length_append]; simp, ?_⟩
      rw [e1, List.dropLast_concat]
      have sG1 : Same H (upd G lp (.lst (natsV p'))) := fun b u e => by rw [upd_ne (ne_of_none e nlp)]; exact sG _ _ e
      have eo1 : (upd G lp (.lst (natsV p'))) lo = some (.lst (natsV o)) := by rw [upd_ne lolp]; exact eo
      have es1 : (upd G lp (.lst (natsV p'))) ds = some (.dK kvs) := by rw [upd_ne dslp]; exact es
      have ep1 : (upd G lp (.lst (natsV p'))) lp = some (.lst (natsV p')) := upd_same
      generalize (upd G lp (.lst (natsV p'))) = G1 at sG1 eo1 es1 ep1
      by_cases m : i ∈ o
      · obtain ⟨v, ev⟩ := Option.isSome_iff_exists.mp ((hk i).mpr m)
        refine ⟨_, rfl, _, rfl, ds, _, rfl, DGet.at (k := Sum.inl (i : Int)) es1 ev, _, rfl, iteF ?_⟩
        rw [mt_in m] at hfold
        refine ⟨⟨o, p', kvs, _, v8, rfl, sG1, eo1, es1, ep1, lk, hk, ndo, bo, bp', by omega, hfold⟩, ?_⟩
        rw [lenAt_of eo1, lenAt_of ep1, natsV_len, natsV_len, m0, m1]
        omega
      · have ev : valV kvs (Sum.inl (i : Int)) = none := by
          cases e : valV kvs (Sum.inl (i : Int)) with
          | none => rfl
          | some v => exact absurd ((hk i).mp (by rw [e]; rfl)) m
        have dg : DGet G1 ds (kV (Sum.inl (i : Int))) none := by
          rw [← ev]
          exact DGet.k (k := Sum.inl (i : Int)) es1
        refine ⟨_, rfl, _, rfl, ds, _, rfl, dg, _, rfl, iteT ?_⟩
        refine ⟨_, rfl, _, rfl, ds, _, rfl, DPut.k (k := Sum.inl (i : Int)) es1 (lt_line (by omega)), ?_⟩
        have lods : lo ≠ ds := fun z => by rw [z, es] at eo; cases eo
        have sG2 : Same H (upd G1 ds (.dK (putK kvs (Sum.inl (i : Int)) (.bl true)))) := fun b u e => by rw [upd_ne (ne_of_none e nds)]; exact sG1 _ _ e
        have eo2 : (upd G1 ds (.dK (putK kvs (Sum.inl (i : Int)) (.bl true)))) lo = some (.lst (natsV o)) := by rw [upd_ne lods]; exact eo1
        have es2 : (upd G1 ds (.dK (putK kvs (Sum.inl (i : Int)) (.bl true)))) ds = some (.dK (putK kvs (Sum.inl (i : Int)) (.bl true))) := upd_same
        have ep2 : (upd G1 ds (.dK (putK kvs (Sum.inl (i : Int)) (.bl true)))) lp = some (.lst (natsV p')) := by rw [upd_ne dslp.symm]; exact ep1
        generalize (upd G1 ds (.dK (putK kvs (Sum.inl (i : Int)) (.bl true)))) = G2 at sG2 eo2 es2 ep2
        refine ⟨_, rfl, .inl ⟨rfl, _, SqL.of eo2⟩, _, rfl, lo, _, _, rfl, rfl, eo2, lt_line (by rw [natsV_len]; omega), ?_⟩
        have e9 : natsV (o ++ [i]) = natsV o ++ [.int (i : Int)] := natsV_app
        rw [← e9]
        have sG3 : Same H (upd G2 lo (.lst (natsV (o ++ [i])))) := fun b u e => by rw [upd_ne (ne_of_none e hlo)]; exact sG2 _ _ e
        have eo3 : (upd G2 lo (.lst (natsV (o ++ [i])))) lo = some (.lst (natsV (o ++ [i]))) := upd_same
        have es3 : (upd G2 lo (.lst (natsV (o ++ [i])))) ds = some (.dK (putK kvs (Sum.inl (i : Int)) (.bl true))) := by rw [upd_ne lods.symm]; exact es2
        have ep3 : (upd G2 lo (.lst (natsV (o ++ [i])))) lp = some (.lst (natsV p')) := by rw [upd_ne lolp.symm]; exact ep2
        generalize (upd G2 lo (.lst (natsV (o ++ [i])))) = G3 at sG3 eo3 es3 ep3
        obtain ⟨r, v, x1, x2, x3, x4, x5⟩ := nodeAt sG3 hi
        refine ⟨_, rfl, .inl ⟨rfl, _, SqL.of ep3⟩, ?_⟩
        refine ⟨_, rfl, _, rfl, pr, _, _, _, rfl, rfl, Same.tup sG3 hpr, x2, _, rfl, v, dp, r, rs, R.length, rfl, x3, x4, ok.pok, hpl.same sG3, fun l3 G4 n3 s34 hl3 => ?_⟩
        rw [← x5] at hl3
        refine ⟨l3, _, rfl, SqL.of hl3, fun l4 hl4 => ?_⟩
        have s45 := Same.new hl4 (.lst (natsV (nb i)).reverse)
        have sG5 := (sG3.trans s34).trans s45
        have eo5 := s45 _ _ (s34 _ _ eo3)
        have es5 := s45 _ _ (s34 _ _ es3)
        have ep5 := s45 _ _ (s34 _ _ ep3)
        have lnb := rn.l i
        refine ⟨lp, l4, _, _, rfl, rfl, ep5, upd_same, by rw [natsV_len, List.length_reverse, natsV_len, sizeLine_eq]; omega, ?_⟩
        generalize (upd G4 l4 (.lst (natsV (nb i)).reverse)) = G5 at sG5 eo5 es5 ep5 ⊢
        rw [natsV_rev, ← natsV_app]
        have nd2 : (o ++ [i]).Nodup := List.nodup_append.mpr ⟨ndo, by simp, fun a ha b hb e => m (by rw [List.mem_singleton.mp hb] at e; rw [← e]; exact ha)⟩
        have bd2 : ∀ k ∈ o ++ [i], k < R.length := fun j hj => by
          rcases List.mem_append.mp hj with q | q
          · exact bo j q
          · rw [List.mem_singleton.mp q]; exact hi
        have l2 := len_le nd2 bd2
        rw [List.length_append] at l2
        have l2 : o.length + 1 ≤ R.length := l2
        rw [mt_out rn m] at hfold
        have eo6 : (upd G5 lp (.lst (natsV (p' ++ (nb i).reverse)))) lo = some (.lst (natsV (o ++ [i]))) := by rw [upd_ne lolp]; exact eo5
        have ep6 : (upd G5 lp (.lst (natsV (p' ++ (nb i).reverse)))) lp = some (.lst (natsV (p' ++ (nb i).reverse))) := upd_same
        refine ⟨⟨o ++ [i], p' ++ (nb i).reverse, _, _, v8, rfl, fun b u e => by rw [upd_ne (ne_of_none e nlp)]; exact sG5 _ _ e, eo6, by rw [upd_ne dslp]; exact es5, ep6, ?_, fun k => ?_, nd2, bd2, fun k hk => ?_, ?_, ?_⟩, ?_⟩
        · have := putK_lenle (kvs := kvs) (k := Sum.inl (i : Int)) (y := V.bl true)
          rw [List.length_append]
          show _ ≤ o.length + 1
          omega
        · rw [isSome_put, hk, List.mem_append, List.mem_singleton]
          exact or_comm
        · rcases List.mem_append.mp hk with q | q
          · exact bp' k q
          · exact rn.n i k (List.mem_reverse.mp q)
        · rw [List.length_append, List.length_append, List.length_reverse]
          show _ ≤ 3000 + 20 * (o.length + 1)
          omega
        · rw [List.reverse_append, List.reverse_reverse, List.foldl_append]
          exact hfold
        · rw [lenAt_of eo6, lenAt_of ep6, natsV_len, natsV_len, m0, m1, List.length_append, List.length_append, List.length_reverse]
          show (R.length - (o.length + 1)) * 25 + (p'.length + (nb i).length) < _
          omega
  · rintro σ G Q1 Q2 h ⟨v, e, k, t, z⟩
    exact ⟨v, e, k, t, h _ _ z⟩
end
/-! ### keys: what is reached stays within the order; the program's key -/
theorem foldl_mono {nb : Nat → List Nat} {f : List Nat → Nat → List Nat} (hf : ∀ b a, ∀ k ∈ b, k ∈ f b a) : ∀ (l b : List Nat), ∀ k ∈ b, k ∈ l.foldl f b
  | [], _, _, h => h
  | a :: l, b, k, h => foldl_mono (nb := nb) hf l (f b a) k (hf b a k h)
theorem meetF_mono {nb : Nat → List Nat} : ∀ (d i : Nat) (o : List Nat), ∀ k ∈ o, k ∈ meetF nb d i o
  | 0, _, _, _, h => h
  | d + 1, i, o, k, h => by
    rw [meetF]
    split
    · exact h
    · exact foldl_mono (nb := nb) (fun b a => meetF_mono d a b) _ _ k (List.mem_append_left _ h)
theorem meetF_mem {nb : Nat → List Nat} {d i : Nat} {o : List Nat} (h : 0 < d) : i ∈ meetF nb d i o := by
  cases d with
  | zero => exact absurd h (Nat.lt_irrefl _)
  | succ d =>
    rw [meetF]
    split
    · assumption
    · exact foldl_mono (nb := nb) (fun b a => meetF_mono d a b) _ _ i (List.mem_append_right _ (List.mem_singleton.mpr rfl))
theorem fold_mem {nb : Nat → List Nat} {d : Nat} (h : 0 < d) : ∀ (l b : List Nat), ∀ j ∈ l, j ∈ l.foldl (fun o j => meetF nb d j o) b
  | [], _, _, hj => by simp at hj
  | a :: l, b, j, hj => by
    rw [List.foldl_cons]
    rcases List.mem_cons.mp hj with rfl | hj
    · exact foldl_mono (nb := nb) (fun b a => meetF_mono d a b) _ _ _ (meetF_mem h)
    · exact fold_mem h l _ j hj
theorem fold_cl {nb : Nat → List Nat} {d : Nat} (hm : ∀ (i : Nat) (o : List Nat), ∀ k ∈ meetF nb d i o, k ∈ o ∨ ∀ j ∈ nb k, j ∈ meetF nb d i o) : ∀ (l b : List Nat), ∀ k ∈ l.foldl (fun o j => meetF nb d j o) b, k ∈ b ∨ ∀ j ∈ nb k, j ∈ l.foldl (fun o j => meetF nb d j o) b
  | [], _, _, h => .inl h
  | a :: l, b, k, h => by
    rw [List.foldl_cons] at h ⊢
    rcases fold_cl hm l _ k h with h | h
    · rcases hm a b k h with h | h
      · exact .inl h
      · exact .inr fun j hj => foldl_mono (nb := nb) (fun b a => meetF_mono d a b) _ _ j (h j hj)
    · exact .inr h
theorem meetF_cl {nb : Nat → List Nat} {N : Nat} {rk : Nat → Nat} (r : Ranked nb N rk) : ∀ (d i : Nat) (o : List Nat), rk i < d → ∀ k ∈ meetF nb d i o, k ∈ o ∨ ∀ j ∈ nb k, j ∈ meetF nb d i o
  | 0, _, _, h, _, _ => absurd h (Nat.not_lt_zero _)
  | d + 1, i, o, h, k, hk => by
    rw [meetF] at hk ⊢
    split at hk
    · rename_i m
      exact .inl hk
    · rename_i m
      rw [if_neg m]
      have gen : ∀ (l b : List Nat), (∀ j ∈ l, rk j < d) → ∀ k ∈ l.foldl (fun o j => meetF nb d j o) b, k ∈ b ∨ ∀ j ∈ nb k, j ∈ l.foldl (fun o j => meetF nb d j o) b := by
        intro l
        induction l with
        | nil => intro b _ k h; exact .inl h
        | cons a l ih =>
          intro b hl k h
          rw [List.foldl_cons] at h ⊢
          rcases ih _ (fun j hj => hl j (List.mem_cons_of_mem _ hj)) k h with h | h
          · rcases meetF_cl r d a b (hl a List.mem_cons_self) k h with h | h
            · exact .inl h
            · exact .inr fun j hj => foldl_mono (nb := nb) (fun b a => meetF_mono d a b) _ _ j (h j hj)
          · exact .inr h
      have hd : ∀ j ∈ nb i, rk j < d := fun j hj => by
        have := r.d i j hj
        omega
      rcases gen (nb i) (o ++ [i]) hd k hk with h | h
      · rcases List.mem_append.mp h with h | h
        · exact .inl h
        · rw [List.mem_singleton.mp h]
          refine .inr fun j hj => ?_
          have := hd j hj
          exact fold_mem (by omega) (nb i) _ j hj
      · exact .inr h
theorem order_closed {nb : Nat → List Nat} {N : Nat} {rk : Nat → Nat} (r : Ranked nb N rk) (fx fst : List Nat) : Closed nb (orderF nb fx fst) := by
  have c8 : ∀ (i : Nat) (o : List Nat), ∀ k ∈ meetF nb 8 i o, k ∈ o ∨ ∀ j ∈ nb k, j ∈ meetF nb 8 i o := fun i o => meetF_cl r 8 i o (r.b i)
  have c1 : Closed nb ((fx.flatMap nb).foldl (mt nb) fx) := fun i hi j hj => by
    rcases fold_cl c8 (fx.flatMap nb) fx i hi with h | h
    · exact fold_mem (by decide) (fx.flatMap nb) fx j (List.mem_flatMap.mpr ⟨i, h, hj⟩)
    · exact h j hj
  intro i hi j hj
  rcases fold_cl c8 fst _ i hi with h | h
  · exact foldl_mono (nb := nb) (fun b a => meetF_mono 8 a b) fst _ j (c1 i h j hj)
  · exact h j hj
theorem order_ok {nb : Nat → List Nat} {N : Nat} {rk : Nat → Nat} (r : Ranked nb N rk) {fx fst : List Nat} (nd : fx.Nodup) (b1 : ∀ i ∈ fx, i < N) (b2 : ∀ i ∈ fst, i < N) : (orderF nb fx fst).Nodup ∧ (∀ k ∈ orderF nb fx fst, k < N) ∧ ∀ k ∈ fst, k ∈ orderF nb fx fst := by
  have g1 := fold_ok r (fx.flatMap nb) (b := fx) (fun j hj => by
    obtain ⟨a, _, h⟩ := List.mem_flatMap.mp hj
    exact r.n a j h) nd b1
  have g2 := fold_ok r fst (b := (fx.flatMap nb).foldl (mt nb) fx) b2 g1.1 g1.2.1
  exact ⟨g2.1, g2.2.1, g2.2.2.2⟩
def vD : V → PyData
  | .bl b => .bool b
  | .int i => .int i
  | .str s => .str s
  | _ => .none
theorem vD_dp {K : PySem.W.Frag} {H : Hp} {v : V} (h : Flat3 v) : Dp K H v (vD v) := by
  rcases h with rfl | ⟨b, rfl⟩ | ⟨i, rfl⟩
  · exact .non
  · exact .bl _
  · exact .int _
theorem vD_dpAll {K : PySem.W.Frag} {H : Hp} : ∀ {vs : List V}, (∀ v ∈ vs, Flat3 v) → DpAll K H vs (vs.map vD)
  | [], _ => .nil
  | v :: vs, h => .cons (vD_dp (h v List.mem_cons_self)) (vD_dpAll fun u hu => h u (List.mem_cons_of_mem _ hu))
theorem nats_dpAll {K : PySem.W.Frag} {H : Hp} : ∀ ns : List Nat, DpAll K H (natsV ns) (ns.map fun k : Nat => PyData.int (k : Int))
  | [] => .nil
  | n :: ns => .cons (.int _) (nats_dpAll ns)
def recD (rs : List Rk) (R : List Rc) (o : List Nat) (k : Nat) : PyData := match R[k]? with
  | some r => .tuple [.str r.nm, .bool r.live, .tuple ((trL (flOf rs r.nm) r.vals o).map vD)]
  | none => .none
def keyD (rs : List Rk) (R : List Rc) (ks : List Kd) (vs : List V) (o : List Nat) : PyData :=
  .tuple [.tuple [.tuple ((trL ks vs o).map vD), .tuple (o.map (recD rs R o))], .tuple (o.map fun k : Nat => PyData.int (k : Int))]
theorem tr_flat {o : List Nat} {v : V} (h : Flat3 v) : Flat3 (trAt o v) := by
  rcases h with rfl | ⟨b, rfl⟩ | ⟨i, rfl⟩
  · exact .inl rfl
  · exact .inr (.inl ⟨b, rfl⟩)
  · exact .inr (.inr ⟨_, rfl⟩)
theorem trL_flat {ks : List Kd} {vs : List V} {o : List Nat} (h : ∀ v ∈ vs, Flat3 v) : ∀ v ∈ trL ks vs o, Flat3 v := fun v hv => by
  unfold trL at hv
  obtain ⟨k, hk, rfl⟩ := List.mem_map.mp hv
  rw [List.mem_range] at hk
  have g : Flat3 (vs.getD k .non) := by
    rw [List.getD_eq_getElem?_getD, List.getElem?_eq_getElem hk]
    exact h _ (List.getElem_mem hk)
  split
  · exact tr_flat g
  · exact g
theorem rc_dp {K : PySem.W.Frag} {H : Hp} {rs : List Rk} {R : List Rc} {o : List Nat} {k : Nat} {r : Rc} {v : V} (e : R[k]? = some r) (hf : ∀ v ∈ r.vals, Flat3 v) (h : RcAt K H v ⟨r.nm, r.live, trL (flOf rs r.nm) r.vals o⟩) : Dp K H v (recD rs R o k) := by
  obtain ⟨p, t, rfl, h1, h2⟩ := h
  unfold recD
  rw [e]
  exact .tup h1 (.cons (.str _) (.cons (.bl _) (.cons (.tup h2 (vD_dpAll (trL_flat hf))) .nil)))
theorem dpAll_of {K : PySem.W.Frag} {H : Hp} : ∀ {vs : List V} {ds : List PyData}, vs.length = ds.length → (∀ (i : Nat) (v : V) (d : PyData), vs[i]? = some v → ds[i]? = some d → Dp K H v d) → DpAll K H vs ds
  | [], [], _, _ => .nil
  | [], _ :: _, h, _ => by simp at h
  | _ :: _, [], h, _ => by simp at h
  | v :: vs, d :: ds, h, k => .cons (k 0 v d rfl rfl) (dpAll_of (by simpa using h) fun i v d e1 e2 => k (i + 1) v d (by simpa using e1) (by simpa using e2))
theorem mem_refsAt {vs : List V} {pl : List Nat} {i j : Nat} (hi : i ∈ pl) (e : vs.getD i .non = .int (j : Int)) : j ∈ refsAt vs pl := by
  unfold refsAt
  exact List.mem_filterMap.mpr ⟨i, hi, by rw [e]; rfl⟩
theorem refsAt_lt {vs : List V} {pl : List Nat} {n : Nat} (h : ∀ i ∈ pl, RefV n (vs.getD i .non)) : ∀ j ∈ refsAt vs pl, j < n := fun j hj => by
  unfold refsAt at hj
  obtain ⟨i, hi, e⟩ := List.mem_filterMap.mp hj
  rcases h i hi with h | ⟨m, h, hm⟩
  · rw [h] at e
    cases e
  · rw [h] at e
    have e : (m : Int).toNat = j := Option.some.inj e
    omega
structure VsOk (ks : List Kd) (n : Nat) (vs : List V) : Prop where
  l : vs.length = ks.length
  v : ∀ k, k < vs.length → (ks.getD k .flag).isRef = true → RefV n (vs.getD k .non)
  f : ∀ v ∈ vs, Flat3 v
  k : ks.length ≤ 100
theorem VsOk.pl {ks : List Kd} {n : Nat} {vs : List V} (h : VsOk ks n vs) : ∀ i ∈ refPl ks, i < vs.length ∧ RefV n (vs.getD i .non) := fun i hi => by
  have g := mem_refPl.mp hi
  exact ⟨by rw [h.l]; exact g.1, h.v i (by rw [h.l]; exact g.1) g.2⟩
theorem refPl_len {ks : List Kd} : (refPl ks).length ≤ ks.length := refTo_len
def spNumKey (K : PySem.W.Frag) : Sp := fun vs H Q _ => ∃ (p pk pv pr px : Addr) (rs : List Rk) (kxs us xs : List V) (ks : List Kd) (R : List Rc) (fx : List Nat) (rk : Nat → Nat), vs = [.ref p, .ref pk, .ref pv, .ref pr, .ref px] ∧ HpOk rs R rk ∧ PgAt K H p rs ∧ SqT K H pk kxs ∧ KdsAt K H kxs ks ∧ SqT K H pv us ∧ VsOk ks R.length us ∧ SqT K H pr xs ∧ RcsAt K H xs R ∧
  SqT K H px (natsV fx) ∧ fx.Nodup ∧ (∀ i ∈ fx, i < R.length) ∧ ∀ q H', Same H H' → Dp K H' (.ref q) (keyD rs R ks us (orderF (nbR rs R) fx (refsAt us (refPl ks)))) → Q (.ref q) H'
theorem keepT_lst {K : PySem.W.Frag} {H : Hp} {D : Addr} {acc : List V} {u : HO} (h : H D = some (.lst acc)) : KeepT K H (upd H D u) := fun p xs hp => by
  have ne : ∀ {w : HO}, H p = some w → (∀ ys, w ≠ .lst ys) → p ≠ D := fun e n z => by
    rw [z, h] at e
    exact n _ (Option.some.inj e).symm
  rcases hp with (q | ⟨o', q⟩) | q
  · exact .inl (.inl (by rw [upd_ne (ne q (fun _ z => nomatch z))]; exact q))
  · exact .inl (.inr ⟨o', by rw [upd_ne (ne q (fun _ z => nomatch z))]; exact q⟩)
  · exact .inr q
section
variable {P : Program} {w : World} {K : PySem.W.Frag} {mg : Str → Option Value} {base : Heap}
theorem ok_number_key (T : Txt w K mg) : FnOk P w K mg base CX0 4 T.a_number_key T.d_number_key p_number_key (spNumKey K) := by
  have g_reference_places := ok_reference_places (P := P) (w := w) (K := K) (base := base) T
  have g_places_in_records := ok_places_in_records (P := P) (w := w) (K := K) (base := base) T
  have g_visit_records := ok_visit_records (P := P) (w := w) (K := K) (base := base) T
  have g_referred := ok_referred (P := P) (w := w) (K := K) (base := base) T
  have g_translated_record := ok_translated_record (P := P) (w := w) (K := K) (base := base) T
  have g_translated := ok_translated (P := P) (w := w) (K := K) (base := base) T
  refine T.F_number_key.ok sc_number_key (fun vs H Q E h => ?_) (fun cdv A outer s H vs Q E hr h => ?_)
  · obtain ⟨p, pk, pvv, pr, px, rs, kxs, us, xs, ks, R, fx, rk, rfl, _⟩ := h
    rfl
  obtain ⟨p, pk, pvv, pr, px, rs, kxs, us, xs, ks, R, fx, rk, rfl, ok, hp, hpk, hk, hpv, vok, hpr, hrs, hpx, ndx, bx, q⟩ := h
  refine ⟨_, (pss_cons (ps_set (i := 5) sc_number_key.nd rfl (Or.inl rfl) (pe_call g_reference_places (hr.mono (by first | decide | omega)) rfl T.m_reference_places T.F_reference_places.kp T.b_reference_places .nil pass0 (pa_cons (pv 1) pa_nil)))
      (pss_cons (ps_set (i := 6) sc_number_key.nd rfl (Or.inr rfl) (pe_call g_places_in_records (hr.mono (by first | decide | omega)) rfl T.m_places_in_records T.F_places_in_records.kp T.b_places_in_records .nil pass0 (pa_cons (pv 0) pa_nil)))
      (pss_cons (ps_set (i := 7) sc_number_key.nd rfl (Or.inl rfl) (pe_call g_visit_records (hr.mono (by first | decide | omega)) rfl T.m_visit_records T.F_visit_records.kp T.b_visit_records .nil pass0 (pa_cons (pv 6) (pa_cons (pe_call g_referred (hr.mono (by first | decide | omega)) rfl T.m_referred T.F_referred.kp T.b_referred .nil pass0 (pa_cons (pv 2) (pa_cons (pv 5) pa_nil))) (pa_cons (pv 3) (pa_cons (pv 4) pa_nil))))))
      (pss_cons (ps_set (i := 8) sc_number_key.nd rfl (Or.inr rfl) (pe_dc (own := [("at", 9), ("index", 10)]) (g := gTup K 2 (gCons (gName 9) (gCons (gName 10) gNil))) (tt := tYes) rfl sc_number_key.nd (EnT.pi_enumG (by rfl) T.z_enumerate (pa_cons (pv 7) pa_nil)) (blkOk_by (own := [("at", 9), ("index", 10)]) (N := n_number_key) (sc := defScope s_number_key) (by decide +kernel)) (fun _ _ _ _ _ => (pg_tup rfl (pgs_cons (pg_name (i := 9) sc_number_key.nd rfl (Or.inl rfl)) (pgs_cons (pg_name (i := 10) sc_number_key.nd rfl (Or.inl rfl)) pgs_nil)))) (fun _ _ _ _ _ => pts_nil) (fun _ _ _ _ _ => (pv 10)) (fun _ _ _ _ _ => (pv 9))))
      (pss_cons (ps_setLc (i := 11) (own := [("index", 10)]) (g := gName 10) (tt := tYes) rfl sc_number_key.nd rfl rfl (sw_true rfl rfl rfl (by decide +kernel)) (pi_list (pv 7)) (blkOk_by (own := [("index", 10)]) (N := n_number_key) (sc := defScope s_number_key) (by decide +kernel)) (fun _ _ _ _ _ => (pg_name (i := 10) sc_number_key.nd rfl (Or.inl rfl))) (fun _ _ _ _ _ => pts_nil) (fun _ _ _ _ _ => (pe_call g_translated_record (hr.mono (by first | decide | omega)) rfl T.m_translated_record T.F_translated_record.kp T.b_translated_record .nil pass0 (pa_cons (pe_ix (show IxR _ (rIxT K) from ix_tup) (pv 3) (pv 10) (fun _ _ => rfl)) (pa_cons (pv 6) (pa_cons (pv 8) pa_nil))))))
      (pss_one (ps_ret (pe_tup (pa_cons (pe_tup (pa_cons (pe_call g_translated (hr.mono (by first | decide | omega)) rfl T.m_translated T.F_translated.kp T.b_translated .nil pass0 (pa_cons (pv 2) (pa_cons (pv 5) (pa_cons (pv 8) pa_nil)))) (pa_cons (pe_callTy call_tuple_of rfl T.z_tuple bt_tuple (pa_cons (pv 11) pa_nil)) pa_nil))) (pa_cons (pe_callTy call_tuple_of rfl T.z_tuple bt_tuple (pa_cons (pv 7) pa_nil)) pa_nil)))))))))), ?_⟩
  have lR := ok.ln
  refine ⟨_, rfl, true, pk, kxs, ks, rfl, hpk, hk, vok.k, fun l1 H1 s1 hl1 => ?_⟩
  refine ⟨_, rfl, p, rs, rfl, hp.keep (KeepT.of s1), ok.pok, fun dp H2 s2 hd2 => ?_⟩
  have s02 := s1.trans s2
  refine ⟨_, rfl, _, rfl, _, rfl, pvv, l1, us, refPl ks, R.length, rfl, Same.tup s02 hpv, s2 _ _ hl1, by have := refPl_len (ks := ks); have := vok.k; omega, vok.pl, fun l3 H3 n3 s3 hl3 => ?_⟩
  have s03 := s02.trans s3
  have bfst := refsAt_lt (vs := us) (pl := refPl ks) fun i hi => (vok.pl i hi).2
  have lfst : (refsAt us (refPl ks)).length ≤ 100 := by
    unfold refsAt
    have := List.length_filterMap_le (fun i => asNat (us.getD i .non)) (refPl ks)
    have := refPl_len (ks := ks)
    have := vok.k
    omega
  refine ⟨_, rfl, _, rfl, dp, l3, pr, px, refsAt us (refPl ks), fx, xs, rs, R, rk, rfl, ok, hd2.same s3, hl3, Same.tup s03 hpr, hrs.keep (KeepT.of s03), Same.tup s03 hpx, ndx, bx, bfst, lfst, fun lo H4 s4 hlo => ?_⟩
  have s04 := s03.trans s4
  have hl1 := s4 _ _ (s3 _ _ (s2 _ _ hl1))
  have hd4 := (hd2.same s3).same s4
  obtain ⟨ndo, bo, infst⟩ := order_ok ok.rn ndx bx bfst
  have clo := order_closed ok.rn fx (refsAt us (refPl ks))
  generalize orderF (nbR rs R) fx (refsAt us (refPl ks)) = o at *
  have lo100 := len_le ndo bo
  clear s4 s3 hl3 n3 hd2 s03 s2 s02 s1
  -- numbers
  refine ⟨_, rfl, false, lo, _, rfl, SqL.of hlo, fun D hD => ?_⟩
  refine dc_it EnT.walk_enumG (fun i G => Same H4 G ∧ ∃ kvs, G D = some (.dK kvs) ∧ kvs.length ≤ i ∧ ∀ j ∈ o.take i, valV kvs (Sum.inl (j : Int)) = some (.int (o.idxOf j : Nat))) ⟨Same.new hD _, [], upd_same, Nat.le_refl _, fun j hj => by simp at hj⟩ (fun i G _ P => Sq.same (t := false) P.1 (SqL.of hlo)) ?_ ?_
  · rintro i x G G' hi ⟨sG, kvs, eD, lk, hk2⟩ ⟨t1, u, v, rfl, ht, rfl, eu, ev⟩
    cases eu
    obtain ⟨k, ek, rfl⟩ := natsV_inv ev
    have hi2 := (List.getElem?_eq_some_iff.mp ek).1
    have st := Same.new ht (.tup [.int i, .int (k : Int)])
    have tk : o.take (i + 1) = o.take i ++ [k] := by
      rw [List.take_add_one, ek]
      rfl
    refine ⟨t1, _, rfl, SqT.of upd_same, rfl, _, _, rfl, _, _, rfl, rfl, ?_⟩
    refine ⟨rfl, tyes ?_⟩
    refine ⟨_, rfl, _, rfl, kvs, Sum.inl (k : Int), rfl, st _ _ eD, lt_line (by omega), fun b u e => by rw [upd_ne (ne_of_none e hD)]; exact st _ _ (sG _ _ e), _, upd_same, ?_, fun j hj => ?_⟩
    · have := putK_lenle (kvs := kvs) (k := Sum.inl (k : Int)) (y := V.int i)
      omega
    · rw [valV_put]
      by_cases e : j = k
      · subst e
        rw [if_pos rfl]
        have := (List.getElem?_eq_some_iff.mp ek).2
        rw [← this, ndo.idxOf_getElem i hi2]
      · rw [if_neg (fun z => e (by have := Sum.inl.inj z; omega))]
        rw [tk] at hj
        exact hk2 j ((List.mem_append.mp hj).resolve_right fun z => e (List.mem_singleton.mp z))
  rintro H5 ⟨s45, kvs, eD, lkv, hnum⟩
  rw [natsV_len, List.take_length] at hnum
  have hnum : NumAt kvs o := hnum
  have s05 := s04.trans s45
  -- kept
  refine ⟨_, rfl, lo, rfl, ⟨_, SqL.of (s45 _ _ hlo)⟩, fun D2 hD2 => ?_⟩
  refine lc_it (walk_list (xs := natsV o)) (fun i G => Same H5 G ∧ ∃ vs : List V, G D2 = some (.lst vs) ∧ vs.length = i ∧ ∀ (j : Nat) (v : V) (k : Nat) (r : Rc), vs[j]? = some v → o[j]? = some k → R[k]? = some r → RcAt K G v ⟨r.nm, r.live, trL (flOf rs r.nm) r.vals o⟩) ⟨Same.new hD2 _, [], upd_same, rfl, fun j v k r e => by simp at e⟩ (fun i G _ P => SqL.of (P.1 _ _ (s45 _ _ hlo))) ?_ ?_
  · rintro i x G G' hi ⟨sG, vs, eD2, lv, hv⟩ ⟨rfl, ex⟩
    obtain ⟨k, ek, rfl⟩ := natsV_inv ex
    have mk := List.mem_of_getElem? ek
    have hk := bo k mk
    have e1 : R[k]? = some R[k] := List.getElem?_eq_getElem hk
    have hk2 : k < xs.length := by rw [hrs.1]; exact hk
    have e2 : xs[k]? = some xs[k] := List.getElem?_eq_getElem hk2
    have sHG := s05.trans sG
    have hrc := (hrs.2 k _ _ e2 e1).keep (KeepT.of sHG)
    have rok := ok.rc _ (List.getElem_mem hk)
    have nbk := nbR_at (rs := rs) e1
    generalize R[k] = r at e1 hrc rok nbk
    generalize xs[k] = v at e2 hrc
    refine ⟨rfl, tyes ?_⟩
    refine ⟨_, rfl, _, rfl, pr, _, _, _, rfl, rfl, Same.tup sHG hpr, atI_nat e2, _, rfl, _, rfl, v, dp, D, r, rs, o, kvs, R.length, rfl, hrc, rok, ok.pok, hd4.same (s45.trans sG), sG _ _ eD, hnum, fun m hm hrm => ?_, fun u H6 s6 hu => ?_⟩
    · rcases rok.v m hm hrm with h | ⟨j, h, _⟩
      · exact .inl h
      · refine .inr ⟨j, h, clo k mk j ?_⟩
        rw [nbk]
        cases hl : r.live with
        | true =>
          rw [if_pos rfl]
          exact mem_refsAt (mem_refPl.mpr ⟨by rw [← rok.l hl]; exact hm, hrm⟩) h
        | false =>
          have := rok.d hl
          rw [this] at hm
          exact absurd hm (Nat.not_lt_zero _)
    · have eD6 := s6 _ _ eD2
      refine ⟨vs, eD6, lt_line (by rw [natsV_len] at hi; omega), fun b o e => by rw [upd_ne (ne_of_none e hD2)]; exact s6 _ _ (sG _ _ e), _, upd_same, by rw [List.length_append, lv]; rfl, fun j v k' r' e3 e4 e5 => ?_⟩
      by_cases hj : j < i
      · rw [List.getElem?_append_left (by omega)] at e3
        exact ((hv j v k' r' e3 e4 e5).keep (KeepT.of s6)).keep (keepT_lst eD6)
      · rw [List.getElem?_append_right (by omega)] at e3
        have hji : j = i := by
          have := (List.getElem?_eq_some_iff.mp e3).1
          simp at this
          omega
        subst hji
        rw [lv, Nat.sub_self] at e3
        cases e3
        rw [ek] at e4
        cases e4
        rw [e1] at e5
        cases e5
        exact hu.keep (keepT_lst eD6)
  rintro H6 ⟨s56, vs, eD2, lv, hv⟩
  rw [natsV_len] at lv
  have s06 := s05.trans s56
  have hlo6 := s56 _ _ (s45 _ _ hlo)
  -- the values
  refine ⟨_, rfl, _, rfl, _, rfl, pvv, l1, D, us, ks, o, kvs, rfl, Same.tup s06 hpv, s56 _ _ (s45 _ _ hl1), vok.l, vok.k, s56 _ _ eD, hnum, fun i hi => ?_, fun t1 H7 s7 ht1 => ?_⟩
  · rcases (vok.pl i hi).2 with h | ⟨j, h, _⟩
    · exact .inl h
    · exact .inr ⟨j, h, infst j (mem_refsAt hi h)⟩
  have eD7 := s7 _ _ eD2
  have s07 := s06.trans s7
  refine ⟨_, rfl, D2, _, rfl, .inl ⟨SqL.of eD7, fun t2 ht2 => ⟨by show 2 ≤ sizeLine; decide, fun t3 ht3 => ?_⟩⟩⟩
  have k2 := Same.new ht2 (.tup vs)
  have k3 := Same.new ht3 (.tup [.ref t1, .ref t2])
  have hlo9 := k3 _ _ (k2 _ _ (s7 _ _ hlo6))
  refine ⟨_, rfl, lo, _, rfl, .inl ⟨SqL.of hlo9, fun t4 ht4 => ⟨by show 2 ≤ sizeLine; decide, fun t5 ht5 => ?_⟩⟩⟩
  have k4 := Same.new ht4 (.tup (natsV o))
  have k5 := Same.new ht5 (.tup [.ref t3, .ref t4])
  have k35 := (k3.trans k4).trans k5
  have k25 := k2.trans k35
  refine q t5 _ (s07.trans k25) ?_
  have d1 : Dp K _ (.ref t1) (.tuple ((trL ks us o).map vD)) := .tup (SqT.of (k25 _ _ ht1)) (vD_dpAll (trL_flat vok.f))
  have d2 : Dp K _ (.ref t2) (.tuple (o.map (recD rs R o))) := .tup (SqT.of (k35 _ _ upd_same)) (dpAll_of (by rw [List.length_map]; exact lv) fun i v d e1 e2 => by
    rw [List.getElem?_map] at e2
    cases ei : o[i]? with
    | none => rw [ei] at e2; cases e2
    | some k =>
      rw [ei] at e2
      cases e2
      have hk := bo k (List.mem_of_getElem? ei)
      have er : R[k]? = some R[k] := List.getElem?_eq_getElem hk
      exact rc_dp er (ok.rc _ (List.getElem_mem hk)).f ((hv i v k _ e1 ei er).keep (KeepT.of (s7.trans k25))))
  have d4 : Dp K _ (.ref t4) (.tuple (o.map fun k : Nat => PyData.int (k : Int))) := .tup (SqT.of (k5 _ _ upd_same)) (nats_dpAll o)
  have d3 : Dp K _ (.ref t3) (.tuple [.tuple ((trL ks us o).map vD), .tuple (o.map (recD rs R o))]) := .tup (SqT.of ((k4.trans k5) _ _ upd_same)) (.cons d1 (.cons d2 .nil))
  exact .tup (SqT.of upd_same) (.cons d3 (.cons d4 .nil))
end
/-! ### keys: the law's own walk and key -/
theorem inV_nat {i : Nat} : ∀ o : List Nat, inV (.int (i : Int)) (natsV o) = decide (i ∈ o)
  | [] => rfl
  | x :: o => by
    have ih := inV_nat (i := i) o
    unfold inV natsV at *
    rw [List.map_cons, List.any_cons, ih]
    show (((x : Nat) : Int) == (i : Int) || decide (i ∈ o)) = decide (i ∈ x :: o)
    by_cases h : x = i
    · subst h
      simp
    · have h1 : (((x : Nat) : Int) == (i : Int)) = false := beq_eq_false_iff_ne.mpr fun z => h (by omega)
      have h2 : i ≠ x := fun e => h e.symm
      rw [h1, Bool.false_or]
      simp [h2]
theorem flatN (o : List Nat) : (natsV o).all flatV = true := by
  unfold natsV
  rw [List.all_eq_true]
  intro v hv
  obtain ⟨i, _, rfl⟩ := List.mem_map.mp hv
  rfl
theorem idx_firstN : ∀ (o : List Nat) {j i : Nat} {z : Nat}, j < o.idxOf i → o[j]? = some z → z ≠ i
  | [], _, _, _, _, h => by simp at h
  | a :: o, j, i, z, h, e => fun w => by
    rw [List.idxOf_cons] at h
    by_cases c : a = i
    · rw [c] at h
      simp at h
    · have c1 : (a == i) = false := beq_eq_false_iff_ne.mpr c
      rw [c1] at h
      cases j with
      | zero =>
        cases e
        exact c w
      | succ j => exact idx_firstN o (j := j) (i := i) (z := z) (by simpa using h) (by simpa using e) w
def RowAt (a : Addr) (H : Hp) (v : V) (r : Rc) : Prop := ∃ p l, v = .ref p ∧ p ≠ a ∧ l ≠ a ∧ H p = some (.lst [.str r.nm, .bl r.live, .ref l]) ∧ H l = some (.lst r.vals)
def FldAt (K : PySem.W.Frag) (H : Hp) (kf : List (Key × V)) (rs : List Rk) : Prop := ∀ r ∈ rs, ∃ p, valV kf (Sum.inr r.1) = some (.ref p) ∧ FdAt K H p r.2
structure RunE (K : PySem.W.Frag) (a : Addr) (H : Hp) (d : Addr) (rs : List Rk) (R : List Rc) (kvs kf : List (Key × V)) (lr df : Addr) (rows : List V) : Prop where
  nd : d ≠ a
  nl : lr ≠ a
  nf : df ≠ a
  hd : H d = some (.dK kvs)
  kr : valV kvs (Sum.inr "records") = some (.ref lr)
  kk : valV kvs (Sum.inr "fields") = some (.ref df)
  hl : H lr = some (.lst rows)
  lr : rows.length = R.length
  rw : ∀ (i : Nat) (v : V) (r : Rc), rows[i]? = some v → R[i]? = some r → RowAt a H v r
  hf : H df = some (.dK kf)
  fl : FldAt K H kf rs
def RunAt (K : PySem.W.Frag) (a : Addr) (H : Hp) (d : Addr) (rs : List Rk) (R : List Rc) : Prop := ∃ kvs kf lr df rows, RunE K a H d rs R kvs kf lr df rows
theorem RowAt.but {a : Addr} {H H' : Hp} {v : V} {r : Rc} (b : But a H H') (h : RowAt a H v r) : RowAt a H' v r := by
  obtain ⟨p, l, e, n1, n2, h1, h2⟩ := h
  exact ⟨p, l, e, n1, n2, b _ _ n1 h1, b _ _ n2 h2⟩
theorem FldAt.keep {K : PySem.W.Frag} {H H' : Hp} {kf : List (Key × V)} {rs : List Rk} (s : KeepT K H H') (h : FldAt K H kf rs) : FldAt K H' kf rs := fun r hr => by
  obtain ⟨p, e, g⟩ := h r hr
  exact ⟨p, e, g.keep s⟩
theorem RunE.but {K : PySem.W.Frag} {a : Addr} {H H' : Hp} {d : Addr} {rs : List Rk} {R : List Rc} {kvs kf : List (Key × V)} {lr df : Addr} {rows : List V} (b : But a H H') (k : KeepT K H H') (h : RunE K a H d rs R kvs kf lr df rows) : RunE K a H' d rs R kvs kf lr df rows :=
  ⟨h.nd, h.nl, h.nf, b _ _ h.nd h.hd, h.kr, h.kk, b _ _ h.nl h.hl, h.lr, fun i v r e1 e2 => (h.rw i v r e1 e2).but b, b _ _ h.nf h.hf, h.fl.keep k⟩
theorem RunAt.but {K : PySem.W.Frag} {a : Addr} {H H' : Hp} {d : Addr} {rs : List Rk} {R : List Rc} (b : But a H H') (k : KeepT K H H') (h : RunAt K a H d rs R) : RunAt K a H' d rs R := by
  obtain ⟨kvs, kf, lr, df, rows, h⟩ := h
  exact ⟨kvs, kf, lr, df, rows, h.but b k⟩
theorem RunAt.same {K : PySem.W.Frag} {a : Addr} {H H' : Hp} {d : Addr} {rs : List Rk} {R : List Rc} (s : Same H H') (h : RunAt K a H d rs R) : RunAt K a H' d rs R := h.but (But.of_same s) (KeepT.of s)
/-- another address that nothing stood at -/
theorem RunAt.avoid {K : PySem.W.Frag} {a b : Addr} {H : Hp} {d : Addr} {rs : List Rk} {R : List Rc} (n : H b = none) (h : RunAt K a H d rs R) : RunAt K b H d rs R := by
  obtain ⟨kvs, kf, lr, df, rows, h⟩ := h
  exact ⟨kvs, kf, lr, df, rows, ne_of_none h.hd n, ne_of_none h.hl n, ne_of_none h.hf n, h.hd, h.kr, h.kk, h.hl, h.lr, fun i v r e1 e2 => by
    obtain ⟨p, l, e, _, _, h1, h2⟩ := h.rw i v r e1 e2
    exact ⟨p, l, e, ne_of_none h1 n, ne_of_none h2 n, h1, h2⟩, h.hf, h.fl⟩
def spMeet (K : PySem.W.Frag) (d : Nat) : Sp := fun vs H Q _ => ∃ (dr lo : Addr) (i : Nat) (o : List Nat) (rs : List Rk) (R : List Rc) (rk : Nat → Nat), vs = [.ref dr, .int (i : Int), .ref lo] ∧ HpOk rs R rk ∧ RunAt K lo H dr rs R ∧ H lo = some (.lst (natsV o)) ∧ o.Nodup ∧ (∀ k ∈ o, k < R.length) ∧ i < R.length ∧ rk i < d ∧
  ∀ H', But lo H H' → H' lo = some (.lst (natsV (meetF (nbR rs R) d i o))) → Q .non H'
def spFollow (K : PySem.W.Frag) (d : Nat) : Sp := fun vs H Q _ => ∃ (dr lo : Addr) (i : Nat) (o : List Nat) (rs : List Rk) (R : List Rc) (rk : Nat → Nat), vs = [.ref dr, .int (i : Int), .ref lo] ∧ HpOk rs R rk ∧ RunAt K lo H dr rs R ∧ H lo = some (.lst (natsV o)) ∧ o.Nodup ∧ (∀ k ∈ o, k < R.length) ∧ i < R.length ∧ (∀ j ∈ nbR rs R i, rk j < d) ∧
  ∀ H', But lo H H' → H' lo = some (.lst (natsV ((nbR rs R i).foldl (fun o j => meetF (nbR rs R) d j o) o))) → Q .non H'
def spRenum (K : PySem.W.Frag) : Sp := fun vs H Q _ => ∃ (v u : V) (lo : Addr) (kd : Kd) (o : List Nat), vs = [v, u, .ref lo] ∧ KdAt K H v kd ∧ H lo = some (.lst (natsV o)) ∧ (kd.isRef = true → RefO o u) ∧ (kd.isRef = false → Flat3 u) ∧ Q (if kd.isRef then trAt o u else u) H
theorem But.keepT {K : PySem.W.Frag} {D : Addr} {H H' : Hp} {acc : List V} (b : But D H H') (h : H D = some (.lst acc)) : KeepT K H H' := fun p xs hp => by
  have ne : ∀ {w : HO}, H p = some w → (∀ ys, w ≠ .lst ys) → p ≠ D := fun e n z => by
    rw [z, h] at e
    exact n _ (Option.some.inj e).symm
  rcases hp with (q | ⟨o', q⟩) | q
  · exact .inl (.inl (b _ _ (ne q (fun _ z => nomatch z)) q))
  · exact .inl (.inr ⟨o', b _ _ (ne q (fun _ z => nomatch z)) q⟩)
  · exact .inr q
theorem refsAt_succ {vs : List V} {ks : List Kd} {k : Nat} : refsAt vs (refTo ks (k + 1)) = if (ks.getD k .flag).isRef then refsAt vs (refTo ks k) ++ (match asNat (vs.getD k .non) with | some j => [j] | none => []) else refsAt vs (refTo ks k) := by
  rw [refTo_succ]
  split
  · unfold refsAt
    rw [List.filterMap_append]
    congr 1
    rw [List.filterMap_cons]
    cases asNat (vs.getD k .non) <;> rfl
  · rfl
theorem foldd_ok {nb : Nat → List Nat} {N : Nat} {rk : Nat → Nat} (r : Ranked nb N rk) (d : Nat) : ∀ (l : List Nat) {b : List Nat}, (∀ j ∈ l, j < N) → b.Nodup → (∀ k ∈ b, k < N) → (l.foldl (fun o j => meetF nb d j o) b).Nodup ∧ (∀ k ∈ l.foldl (fun o j => meetF nb d j o) b, k < N) ∧ True
  | [], _, _, h, k => ⟨h, k, trivial⟩
  | a :: l, b, hl, hb, kb => by
    rw [List.foldl_cons]
    have g := meetF_ok r d (hl a List.mem_cons_self) hb kb
    exact foldd_ok r d l (fun j hj => hl j (List.mem_cons_of_mem _ hj)) g.1 g.2.1
theorem fn_vac {P : Program} {w : World} {K : PySem.W.Frag} {mg : Str → Option Value} {base : Heap} {k : Nat} {f : Addr} {fd : FuncData} {ps : List Str} {sp : Sp} (no : ∀ vs H Q E, ¬ sp vs H Q E) : FnOk P w K mg base CX0 k f fd ps sp :=
  ⟨fun vs H Q E h => absurd h (no vs H Q E), fun A outer s H args us vs Q E _ _ _ _ h => absurd h (no vs H Q E)⟩
section
variable {P : Program} {w : World} {K : PySem.W.Frag} {mg : Str → Option Value} {base : Heap}
theorem ok_l_follow_of (T : Txt w K mg) {d : Nat} (g_l_meet : FnOk P w K mg base CX0 (2 * d) T.a_l_meet T.d_l_meet p_l_meet (spMeet K d)) : FnOk P w K mg base CX0 (2 * d + 1) T.a_l_follow T.d_l_follow p_l_follow (spFollow K d) := by
  refine T.F_l_follow.ok sc_l_follow (fun vs H Q E h => ?_) (fun cdv A outer s H vs Q E hr h => ?_)
  · obtain ⟨dr, lo, i, o, rs, R, rk, rfl, _⟩ := h
    rfl
  obtain ⟨dr, lo, i, o, rs, R, rk, rfl, ok, hrun, ho, nd, bo, hi, hd, q⟩ := h
  refine ⟨_, (pss_cons (ps_set (i := 3) sc_l_follow.nd rfl (Or.inl rfl) (pe_ix ix_list (pe_dget (hu_of hr) (pv 0) pe_str (fun _ _ => rfl)) (pv 1) (fun _ _ => rfl)))
      (pss_one (ps_if (pt_val (pe_ix ix_list (pv 3) pe_int (fun _ _ => rfl))) (pss_cons (ps_set (i := 4) sc_l_follow.nd rfl (Or.inl rfl) (pe_dget (hu_of hr) (pe_dget (hu_of hr) (pv 0) pe_str (fun _ _ => rfl)) (pe_ix ix_list (pv 3) pe_int (fun _ _ => rfl)) (fun _ _ => rfl)))
      (pss_one (ps_for PassesOwn.never rfl (pi_range1 rfl T.z_range (pa_cons (pe_callB call_len_seq rfl T.z_len PySem.boot_len (pa_cons (pv 4) pa_nil)) pa_nil)) (pg_name (i := 5) sc_l_follow.nd rfl (Or.inl rfl))
        (pss_one (ps_if (PW.pt (pw_and (pt_cmpR op_eq (pe_ix ix_tup (pe_ix ix_tup (pe_ix ix_tup (pv 4) (pv 5) (fun _ _ => rfl)) pe_int (fun _ _ => rfl)) pe_int (fun _ _ => rfl)) pe_str (nomark _)) (pw_and1 (pt_cmpR op_notN (pe_ix ix_list (pe_ix ix_list (pv 3) pe_int (fun _ _ => rfl)) (pv 5) (fun _ _ => rfl)) pe_non (nomark _))))) (pss_one (ps_expr (pe_call g_l_meet (hr.mono (by first | decide | omega)) rfl T.m_l_meet T.F_l_meet.kp T.b_l_meet .nil pass0 (pa_cons (pv 0) (pa_cons (pe_ix ix_list (pe_ix ix_list (pv 3) pe_int (fun _ _ => rfl)) (pv 5) (fun _ _ => rfl)) (pa_cons (pv 2) pa_nil)))))) pss_nil))))) pss_nil))), ?_⟩
  obtain ⟨kvs, kf, lr, df, rows, hrun⟩ := hrun
  have er : R[i]? = some R[i] := List.getElem?_eq_getElem hi
  have hi2 : i < rows.length := by rw [hrun.lr]; exact hi
  have ev : rows[i]? = some rows[i] := List.getElem?_eq_getElem hi2
  obtain ⟨p, l, ep, np, nl, hp, hl⟩ := hrun.rw i _ _ ev er
  have rok := ok.rc _ (List.getElem_mem hi)
  have enb := nbR_at (rs := rs) er
  generalize R[i] = r at er hp hl rok enb
  rw [ep] at ev
  refine ⟨_, rfl, dr, _, rfl, DGet.at (k := Sum.inr "records") hrun.hd hrun.kr, _, rfl, lr, _, _, _, rfl, rfl, SqL.of hrun.hl, atI_nat ev, ?_⟩
  refine ⟨_, rfl, p, _, 1, _, rfl, rfl, SqL.of hp, rfl, _, rfl, ?_⟩
  cases hlv : r.live with
  | false =>
    refine iteF ?_
    have e0 : (nbR rs R i).foldl (fun o j => meetF (nbR rs R) d j o) o = o := by
      rw [enb, hlv]
      rfl
    exact q H (fun _ _ _ e => e) (by rw [e0]; exact ho)
  | true =>
    refine iteT ?_
    obtain ⟨rk0, mk0, ek0⟩ := rok.m
    obtain ⟨pf, ef, bs, hbs, lbs, hb⟩ := hrun.fl rk0 mk0
    rw [ek0] at ef
    have efl : flOf rs r.nm = rk0.2.map (·.2) := by rw [← ek0]; exact flOf_mem ok.pok.nd mk0
    have lv := rok.l hlv
    have l20 := flOf_len ok.pok (z := r.nm)
    have lbf : bs.length = (flOf rs r.nm).length := by rw [lbs, efl, List.length_map]
    refine ⟨_, rfl, dr, _, rfl, DGet.at (k := Sum.inr "fields") hrun.hd hrun.kk, _, rfl, p, _, 0, _, rfl, rfl, SqL.of hp, rfl, df, _, rfl, DGet.at (k := Sum.inr r.nm) hrun.hf ef, ?_⟩
    refine ⟨_, rfl, pf, _, rfl, .inr hbs, _, rfl, by rw [List.length_map]; omega, by rw [List.length_map]; omega, for_range (lo := 0) (fun k σ G => But lo H G ∧ G lo = some (.lst (natsV ((refsAt r.vals (refTo (flOf rs r.nm) k)).foldl (fun o j => meetF (nbR rs R) d j o) o))) ∧ ∃ v5 : Option V, σ = [some (.ref dr), some (.int (i : Int)), some (.ref lo), some (.ref p), some (.ref pf), v5])
      ⟨fun _ _ _ e => e, ho, none, rfl⟩ ?_ ?_⟩
    · rintro k σ G hk ⟨bG, hoG, v5, rfl⟩
      rw [List.length_map, lbf] at hk
      have hk : k < (flOf rs r.nm).length := by omega
      have kt := bG.keepT (K := K) ho
      have eb : bs[k]? = some (bs[k]'(by omega)) := List.getElem?_eq_getElem _
      have efk : rk0.2[k]? = some (rk0.2[k]'(by omega)) := List.getElem?_eq_getElem _
      obtain ⟨kv, h1, h2⟩ := hb k _ _ eb efk
      have ekd : (flOf rs r.nm).getD k .flag = (rk0.2[k]'(by omega)).2 := by
        rw [efl]
        exact getD_get (by rw [List.getElem?_map, efk]; rfl)
      generalize (rk0.2[k]'(by omega)) = fk at efk h1 h2 ekd
      generalize (bs[k]'(by omega)) = bk at eb h1
      obtain ⟨pk, rfl, hpk⟩ := h2
      have at1 : atI (bs.map V.ref) (0 + (k : Int)) = some (.ref bk) := by rw [Int.zero_add]; exact atI_nat (map_get eb)
      have hkv : k < r.vals.length := by omega
      have at2 : atI r.vals (0 + (k : Int)) = some (r.vals.getD k .non) := by rw [Int.zero_add]; exact atI_nat (by rw [List.getD_eq_getElem?_getD, List.getElem?_eq_getElem hkv]; rfl)
      have hpG := bG _ _ np hp
      have hlG := bG _ _ nl hl
      have nxt := refsAt_succ (vs := r.vals) (ks := flOf rs r.nm) (k := k)
      rw [ekd] at nxt
      have kind0 : ∃ s0 rest, fk.2.vals = .str s0 :: rest ∧ (decide (V.str s0 = V.str "ref") = fk.2.isRef) := by
        cases fk.2 with
        | flag => exact ⟨_, _, rfl, by decide +kernel⟩
        | ref s => exact ⟨_, _, rfl, show decide (V.str (Str.ofString "ref") = V.str (Str.ofString "ref")) = true by decide +kernel⟩
        | num lo hi => exact ⟨_, _, rfl, show decide (V.str (Str.ofString "num") = V.str (Str.ofString "ref")) = false by decide +kernel⟩
      obtain ⟨s0, rest, ev0, dec⟩ := kind0
      rw [ev0] at hpk
      refine ⟨_, rfl, _, rfl, pf, _, _, _, rfl, rfl, kt _ _ hbs, at1, bk, _, _, _, rfl, rfl, kt _ _ h1, rfl, pk, V.str s0 :: rest, _, V.str s0, rfl, rfl, kt _ _ hpk, atI_nat (j := 0) rfl, rfl, _, rfl, ?_⟩
      cases hrf : fk.2.isRef with
      | false =>
        rw [hrf] at dec nxt
        rw [if_neg (by decide)] at nxt
        refine ifF dec (iteF ⟨bG, ?_, _, rfl⟩)
        rw [nxt]
        exact hoG
      | true =>
        rw [hrf] at dec nxt
        rw [if_pos rfl] at nxt
        refine ifT dec ⟨_, rfl, p, _, 2, _, rfl, rfl, SqL.of hpG, rfl, _, rfl, l, _, _, _, rfl, rfl, SqL.of hlG, at2, rfl, _, rfl, ?_⟩
        have rv := rok.v k hkv (by rw [ekd]; exact hrf)
        rcases rv with hv | ⟨j, hv, hj⟩
        · rw [hv] at nxt ⊢
          refine ifF (by decide) ⟨bG, ?_, _, rfl⟩
          rw [nxt]
          show G lo = some (.lst (natsV ((refsAt r.vals (refTo (flOf rs r.nm) k) ++ []).foldl _ o)))
          rw [List.append_nil]
          exact hoG
        · rw [hv] at nxt at2 ⊢
          refine ifT (by rw [decide_eq_false (fun z => by cases z)]; rfl) ?_
          have mj : j ∈ nbR rs R i := by
            rw [enb, if_pos hlv]
            exact mem_refsAt (mem_refPl.mpr ⟨hk, by rw [ekd]; exact hrf⟩) hv
          have sub : ∀ x ∈ refsAt r.vals (refTo (flOf rs r.nm) k), x < R.length := fun x hx => by
            unfold refsAt at hx
            obtain ⟨y, hy, e⟩ := List.mem_filterMap.mp hx
            have hy2 := List.mem_filter.mp hy
            rw [List.mem_range] at hy2
            rcases rok.v y (by omega) hy2.2 with h | ⟨m, h, hm⟩
            · rw [h] at e; cases e
            · rw [h] at e
              have e : (m : Int).toNat = x := Option.some.inj e
              omega
          have g := foldd_ok ok.rn d (refsAt r.vals (refTo (flOf rs r.nm) k)) sub nd bo
          refine ⟨_, rfl, _, rfl, p, _, 2, _, rfl, rfl, SqL.of hpG, rfl, _, rfl, l, _, _, _, rfl, rfl, SqL.of hlG, at2, _, rfl, dr, lo, j, _, rs, R, rk, rfl, ok, ⟨kvs, kf, lr, df, rows, hrun.but bG kt⟩, hoG, g.1, g.2.1, hj, hd j mj, fun G2 b2 hG2 => ⟨fun c u n e => b2 c u n (bG c u n e), ?_, _, rfl⟩⟩
          rw [nxt]
          show G2 lo = some (.lst (natsV ((refsAt r.vals (refTo (flOf rs r.nm) k) ++ [j]).foldl _ o)))
          rw [List.foldl_append]
          exact hG2
    · rintro σ G ⟨bG, hoG, v5, rfl⟩
      refine q G bG ?_
      rw [List.length_map, lbf] at hoG
      have e0 : ((((flOf rs r.nm).length : Nat) : Int) - 0).toNat = (flOf rs r.nm).length := by omega
      rw [enb, if_pos hlv]
      unfold refPl
      first | exact hoG | (rw [e0] at hoG; exact hoG)
theorem ok_l_meet_of (T : Txt w K mg) {d : Nat} (g_l_follow : FnOk P w K mg base CX0 (2 * d + 1) T.a_l_follow T.d_l_follow p_l_follow (spFollow K d)) : FnOk P w K mg base CX0 (2 * (d + 1)) T.a_l_meet T.d_l_meet p_l_meet (spMeet K (d + 1)) := by
  show FnOk P w K mg base CX0 (2 * d + 1 + 1) T.a_l_meet T.d_l_meet p_l_meet (spMeet K (d + 1))
  refine T.F_l_meet.ok sc_l_meet (fun vs H Q E h => ?_) (fun cdv A outer s H vs Q E hr h => ?_)
  · obtain ⟨dr, lo, i, o, rs, R, rk, rfl, _⟩ := h
    rfl
  obtain ⟨dr, lo, i, o, rs, R, rk, rfl, ok, hrun, ho, nd, bo, hi, hd, q⟩ := h
  refine ⟨_, (pss_one (ps_if (pt_cmpR op_notIn_seq (pv 1) (pv 2) (by rfl)) (pss_cons (ps_expr (pe_bm PySem.F.plainAttrs_list PySem.F.slot_list_append PySem.F.type_list_append mt_append (pv 2) (pa_cons (pv 1) pa_nil)))
      (pss_one (ps_expr (pe_call g_l_follow (hr.mono (by first | decide | omega)) rfl T.m_l_follow T.F_l_follow.kp T.b_l_follow .nil pass0 (pa_cons (pv 0) (pa_cons (pv 1) (pa_cons (pv 2) pa_nil))))))) pss_nil)), ?_⟩
  rw [meetF] at q
  refine ⟨_, rfl, _, rfl, lo, _, rfl, .inl (SqL.of ho), rfl, flatN o, _, rfl, ?_⟩
  rw [inV_nat]
  by_cases m : i ∈ o
  · rw [if_pos m] at q
    exact ifF (by rw [decide_eq_true m]; rfl) (q H (fun _ _ _ e => e) ho)
  · rw [if_neg m] at q
    refine ifT (by rw [decide_eq_false m]; rfl) ?_
    have lo100 := len_le nd bo
    have lR := ok.ln
    refine ⟨_, rfl, .inl ⟨rfl, _, SqL.of ho⟩, _, rfl, lo, _, _, rfl, rfl, ho, lt_line (by rw [natsV_len]; omega), ?_⟩
    have e9 : natsV (o ++ [i]) = natsV o ++ [.int (i : Int)] := natsV_app
    rw [← e9]
    have b1 : But lo H (upd H lo (.lst (natsV (o ++ [i])))) := But.upd _
    have nd2 : (o ++ [i]).Nodup := List.nodup_append.mpr ⟨nd, by simp, fun a ha b hb e => m (by rw [List.mem_singleton.mp hb] at e; rw [← e]; exact ha)⟩
    have bd2 : ∀ k ∈ o ++ [i], k < R.length := fun j hj => by
      rcases List.mem_append.mp hj with q | q
      · exact bo j q
      · rw [List.mem_singleton.mp q]; exact hi
    refine ⟨_, rfl, _, rfl, _, rfl, dr, lo, i, o ++ [i], rs, R, rk, rfl, ok, hrun.but b1 (b1.keepT ho), upd_same, nd2, bd2, hi, fun j hj => ?_, fun G b2 hG => q G (b1.trans b2) hG⟩
    have := ok.rn.d i j hj
    omega
theorem ok_l_meet (T : Txt w K mg) : ∀ d : Nat, FnOk P w K mg base CX0 (2 * d) T.a_l_meet T.d_l_meet p_l_meet (spMeet K d)
  | 0 => fn_vac fun vs H Q E h => by
    obtain ⟨dr, lo, i, o, rs, R, rk, _, _, _, _, _, _, _, h, _⟩ := h
    exact absurd h (Nat.not_lt_zero _)
  | d + 1 => ok_l_meet_of T (ok_l_follow_of T (ok_l_meet T d))
theorem ok_l_follow (T : Txt w K mg) (d : Nat) : FnOk P w K mg base CX0 (2 * d + 1) T.a_l_follow T.d_l_follow p_l_follow (spFollow K d) := ok_l_follow_of T (ok_l_meet T d)
theorem ok_l_renumbered (T : Txt w K mg) : FnOk P w K mg base CX0 1 T.a_l_renumbered T.d_l_renumbered p_l_renumbered (spRenum K) := by
  refine T.F_l_renumbered.ok sc_l_renumbered (fun vs H Q E h => ?_) (fun cdv A outer s H vs Q E hr h => ?_)
  · obtain ⟨v, u, lo, kd, o, rfl, _⟩ := h
    rfl
  obtain ⟨v, u, lo, kd, o, rfl, ⟨p, rfl, hp⟩, ho, h1, h2, q⟩ := h
  refine ⟨_, (pss_cons (ps_if (PW.pt (pw_and (pt_cmpR op_eq (pe_ix ix_tup (pv 0) pe_int (fun _ _ => rfl)) pe_str (nomark _)) (pw_and1 (pt_cmpR op_notN (pv 1) pe_non (nomark _))))) (pss_one (ps_ret (pe_bm PySem.F.plainAttrs_list PySem.F.slot_list_index PySem.F.type_list_index mt_index (pv 2) (pa_cons (pv 1) pa_nil)))) pss_nil)
      (pss_one (ps_ret (pv 1)))), ?_⟩
  cases kd with
  | flag =>
    rw [if_neg (show ¬ Kd.flag.isRef = true by decide)] at q
    exact ⟨_, rfl, p, _, _, _, rfl, rfl, hp, rfl, rfl, _, rfl, ifF (by decide +kernel) (iteF ⟨_, rfl, q⟩)⟩
  | num a b =>
    rw [if_neg (show ¬ (Kd.num a b).isRef = true from fun z => by cases z)] at q
    exact ⟨_, rfl, p, _, _, _, rfl, rfl, hp, rfl, rfl, _, rfl, ifF (by decide +kernel) (iteF ⟨_, rfl, q⟩)⟩
  | ref s =>
    rw [if_pos (show (Kd.ref s).isRef = true from rfl)] at q
    refine ⟨_, rfl, p, _, _, _, rfl, rfl, hp, rfl, rfl, _, rfl, ifT (by decide +kernel) ?_⟩
    rcases h1 rfl with rfl | ⟨j, rfl, hj⟩
    · exact ⟨_, rfl, rfl, _, rfl, ifF (by decide) ⟨_, rfl, q⟩⟩
    · refine ⟨_, rfl, rfl, _, rfl, ifT (by rw [decide_eq_false (fun z => by cases z)]; rfl) ?_⟩
      have li := List.idxOf_lt_length_iff.mpr hj
      refine ⟨_, rfl, .inl ⟨rfl, _, SqL.of ho⟩, _, rfl, lo, _, .int (j : Int), o.idxOf j, .int (j : Int), rfl, rfl, SqL.of ho, rfl, flatN o, natsV_get (by rw [List.getElem?_eq_getElem li, List.getElem_idxOf]), beq_self_eq_true ((j : Int)), fun m z' hm hz' => ?_, q⟩
      obtain ⟨y, ey, rfl⟩ := natsV_inv hz'
      have := idx_firstN o hm ey
      exact beq_eq_false_iff_ne.mpr fun w => this (by omega)
end
namespace PiO
/-! ### a walk over a list or a tuple, an entry of either -/
theorem pi_or {X : Cx} {tg iter : Expr} {w1 w2 : TI} (h1 : PI X tg iter w1) (h2 : PI X tg iter w2) : PI X tg iter (fun σ H R => w1 σ H R ∨ w2 σ H R) :=
  ⟨fun pins s σ H R I h => h.elim (h1.run pins s σ H R I) (h2.run pins s σ H R I)⟩
theorem for_seq {K : PySem.W.Frag} {a : Addr} {xs : List V} {g : TG} {tb : TS} {D : Ends} {σ : L2.St} {H : Hp} (Pv : Nat → L2.St → Hp → Prop) (h0 : Pv 0 σ H) (hx : (∀ i σ H, Pv i σ H → SqL K H a xs) ∨ (∀ i σ H, Pv i σ H → SqT K H a xs))
    (hs : ∀ i x σ H, xs[i]? = some x → Pv i σ H → g x σ H fun σ2 H2 => tb { D with nx := Pv (i + 1), ct := Pv (i + 1), bk := D.nx } σ2 H2) (hd : ∀ σ H, Pv xs.length σ H → D.nx σ H) :
    (SqL K H a xs ∧ ∃ W : Nat → Nat → L2.St → Hp → Prop, (∃ m, W 0 m σ H) ∧ ∀ i m σ H, W i m σ H →
      ((Itl K a).stop i H ∧ D.nx σ H) ∨ ((Itl K a).go i H ∧ ∃ N : L2.St → Hp → Prop, (∀ σ' H', N σ' H' → ∃ m', m' < m ∧ W (i + 1) m' σ' H') ∧ ∀ x H', (Itl K a).yld i H x H' → g x σ H' fun σ2 H2 => tb { D with nx := N, ct := N, bk := D.nx } σ2 H2)) ∨
    (SqT K H a xs ∧ ∃ W : Nat → Nat → L2.St → Hp → Prop, (∃ m, W 0 m σ H) ∧ ∀ i m σ H, W i m σ H →
      ((Itt K a).stop i H ∧ D.nx σ H) ∨ ((Itt K a).go i H ∧ ∃ N : L2.St → Hp → Prop, (∀ σ' H', N σ' H' → ∃ m', m' < m ∧ W (i + 1) m' σ' H') ∧ ∀ x H', (Itt K a).yld i H x H' → g x σ H' fun σ2 H2 => tb { D with nx := N, ct := N, bk := D.nx } σ2 H2)) := by
  rcases hx with hx | hx
  · exact .inl ⟨hx _ _ _ h0, for_list Pv h0 (fun i σ H _ p => hx i σ H p) hs hd⟩
  · exact .inr ⟨hx _ _ _ h0, for_tup Pv h0 (fun i σ H _ p => hx i σ H p) hs hd⟩
theorem rIx_of {K : PySem.W.Frag} {a : Addr} {xs : List V} {k : Int} {v : V} {H : Hp} {Q : VK} (h : SqL K H a xs ∨ SqT K H a xs) (e : atI xs k = some v) (q : Q v H) : rIx K (.ref a) (.int k) H Q := by
  rcases h with h | h
  · exact .inl ⟨a, xs, k, v, rfl, rfl, h, e, q⟩
  · exact .inr (.inl ⟨a, xs, k, v, rfl, rfl, h, e, q⟩)
end PiO
/-! ### keys: the law's own key -/
def spLKey (K : PySem.W.Frag) : Sp := fun vs H Q _ => ∃ (dr kl vl xl a : Addr) (rs : List Rk) (R : List Rc) (kxs us : List V) (ks : List Kd) (fx : List Nat) (rk : Nat → Nat), vs = [.ref dr, .ref kl, .ref vl, .ref xl] ∧ HpOk rs R rk ∧ RunAt K a H dr rs R ∧ H kl = some (.lst kxs) ∧ KdsAt K H kxs ks ∧ (SqL K H vl us ∨ SqT K H vl us) ∧ VsOk ks R.length us ∧ (SqL K H xl (natsV fx) ∨ SqT K H xl (natsV fx)) ∧ fx.Nodup ∧ (∀ i ∈ fx, i < R.length) ∧
  ∀ q H', Same H H' → Dp K H' (.ref q) (keyD rs R ks us (orderF (nbR rs R) fx (refsAt us (refPl ks)))) → Q (.ref q) H'
theorem kd_head (kd : Kd) : ∃ s0 rest, kd.vals = .str s0 :: rest ∧ (decide (V.str s0 = V.str "ref") = kd.isRef) := by
  cases kd with
  | flag => exact ⟨_, _, rfl, by decide +kernel⟩
  | ref s => exact ⟨_, _, rfl, show decide (V.str (Str.ofString "ref") = V.str (Str.ofString "ref")) = true by decide +kernel⟩
  | num lo hi => exact ⟨_, _, rfl, show decide (V.str (Str.ofString "num") = V.str (Str.ofString "ref")) = false by decide +kernel⟩
theorem getD_some {xs : List V} {k : Nat} (h : k < xs.length) : xs[k]? = some (xs.getD k .non) := by
  rw [List.getD_eq_getElem?_getD, List.getElem?_eq_getElem h]
  rfl
def trTo (ks : List Kd) (vs : List V) (o : List Nat) (n : Nat) : List V := (List.range n).map fun k => if (ks.getD k .flag).isRef then trAt o (vs.getD k .non) else vs.getD k .non
theorem trTo_succ {ks : List Kd} {vs : List V} {o : List Nat} {n : Nat} : trTo ks vs o (n + 1) = trTo ks vs o n ++ [if (ks.getD n .flag).isRef then trAt o (vs.getD n .non) else vs.getD n .non] := by
  unfold trTo
  rw [List.range_succ, List.map_append]
  rfl
section
variable {P : Program} {w : World} {K : PySem.W.Frag} {mg : Str → Option Value} {base : Heap}
theorem ok_l_key (T : Txt w K mg) : FnOk P w K mg base CX0 18 T.a_l_key T.d_l_key p_l_key (spLKey K) := by
  have g_l_follow := ok_l_follow (P := P) (w := w) (K := K) (base := base) T 8
  have g_l_meet := ok_l_meet (P := P) (w := w) (K := K) (base := base) T 8
  have g_l_renumbered := ok_l_renumbered (P := P) (w := w) (K := K) (base := base) T
  refine T.F_l_key.ok sc_l_key (fun vs H Q E h => ?_) (fun cdv A outer s H vs Q E hr h => ?_)
  · obtain ⟨dr, kl, vl, xl, a, rs, R, kxs, us, ks, fx, rk, rfl, _⟩ := h
    rfl
  obtain ⟨dr, kl, vl, xl, a, rs, R, kxs, us, ks, fx, rk, rfl, ok, hrun, hkl, hk, hvl, vok, hxl, ndx, bx, q⟩ := h
  refine ⟨_, (pss_cons (ps_set (i := 4) sc_l_key.nd rfl (Or.inr rfl) (pe_callTy call_list_of rfl T.z_list bt_list (pa_cons (pv 3) pa_nil)))
      (pss_cons (ps_for PassesOwn.never rfl (PiO.pi_or (pi_list (pv 3)) (pi_tup (pv 3))) (pg_name (i := 5) sc_l_key.nd rfl (Or.inl rfl))
        (pss_one (ps_expr (pe_call g_l_follow (hr.mono (by first | decide | omega)) rfl T.m_l_follow T.F_l_follow.kp T.b_l_follow .nil pass0 (pa_cons (pv 0) (pa_cons (pv 5) (pa_cons (pv 4) pa_nil)))))))
      (pss_cons (ps_for PassesOwn.never rfl (pi_range1 rfl T.z_range (pa_cons (pe_callB call_len_seq rfl T.z_len PySem.boot_len (pa_cons (pv 1) pa_nil)) pa_nil)) (pg_name (i := 6) sc_l_key.nd rfl (Or.inl rfl))
        (pss_one (ps_if (PW.pt (pw_and (pt_cmpR op_eq (pe_ix ix_tup (pe_ix ix_list (pv 1) (pv 6) (fun _ _ => rfl)) pe_int (fun _ _ => rfl)) pe_str (nomark _)) (pw_and1 (pt_cmpR op_notN (pe_ix ix_seq (pv 2) (pv 6) (fun _ _ => rfl)) pe_non (nomark _))))) (pss_one (ps_expr (pe_call g_l_meet (hr.mono (by first | decide | omega)) rfl T.m_l_meet T.F_l_meet.kp T.b_l_meet .nil pass0 (pa_cons (pv 0) (pa_cons (pe_ix ix_seq (pv 2) (pv 6) (fun _ _ => rfl)) (pa_cons (pv 4) pa_nil)))))) pss_nil)))
      (pss_cons (ps_set (i := 7) sc_l_key.nd rfl (Or.inl rfl) (pe_lst pa_nil))
      (pss_cons (ps_for PassesOwn.never rfl (pi_list (pv 4)) (pg_name (i := 5) sc_l_key.nd rfl (Or.inl rfl))
        (pss_cons (ps_set (i := 8) sc_l_key.nd rfl (Or.inl rfl) (pe_ix ix_list (pe_dget (hu_of hr) (pv 0) pe_str (fun _ _ => rfl)) (pv 5) (fun _ _ => rfl)))
      (pss_cons (ps_set (i := 9) sc_l_key.nd rfl (Or.inl rfl) (pe_dget (hu_of hr) (pe_dget (hu_of hr) (pv 0) pe_str (fun _ _ => rfl)) (pe_ix ix_list (pv 8) pe_int (fun _ _ => rfl)) (fun _ _ => rfl)))
      (pss_cons (ps_set (i := 10) sc_l_key.nd rfl (Or.inl rfl) (pe_lst pa_nil))
      (pss_cons (ps_for PassesOwn.never rfl (pi_range1 rfl T.z_range (pa_cons (pe_callB call_len_seq rfl T.z_len PySem.boot_len (pa_cons (pe_ix ix_list (pv 8) pe_int (fun _ _ => rfl)) pa_nil)) pa_nil)) (pg_name (i := 6) sc_l_key.nd rfl (Or.inl rfl))
        (pss_one (ps_expr (pe_bm PySem.F.plainAttrs_list PySem.F.slot_list_append PySem.F.type_list_append mt_append (pv 10) (pa_cons (pe_call g_l_renumbered (hr.mono (by first | decide | omega)) rfl T.m_l_renumbered T.F_l_renumbered.kp T.b_l_renumbered .nil pass0 (pa_cons (pe_ix ix_tup (pe_ix ix_tup (pv 9) (pv 6) (fun _ _ => rfl)) pe_int (fun _ _ => rfl)) (pa_cons (pe_ix ix_list (pe_ix ix_list (pv 8) pe_int (fun _ _ => rfl)) (pv 6) (fun _ _ => rfl)) (pa_cons (pv 4) pa_nil)))) pa_nil)))))
      (pss_one (ps_expr (pe_bm PySem.F.plainAttrs_list PySem.F.slot_list_append PySem.F.type_list_append mt_append (pv 7) (pa_cons (pe_tup (pa_cons (pe_ix ix_list (pv 8) pe_int (fun _ _ => rfl)) (pa_cons (pe_ix ix_list (pv 8) pe_int (fun _ _ => rfl)) (pa_cons (pe_callTy call_tuple_of rfl T.z_tuple bt_tuple (pa_cons (pv 10) pa_nil)) pa_nil)))) pa_nil)))))))))
      (pss_cons (ps_setLc (i := 11) (own := [("_law_k", 6)]) (g := gName 6) (tt := tYes) rfl sc_l_key.nd rfl rfl (sw_true rfl rfl rfl (by decide +kernel)) (pi_range1 rfl T.z_range (pa_cons (pe_callB call_len_seq rfl T.z_len PySem.boot_len (pa_cons (pv 1) pa_nil)) pa_nil)) (blkOk_by (own := [("_law_k", 6)]) (N := n_l_key) (sc := defScope s_l_key) (by decide +kernel)) (fun _ _ _ _ _ => (pg_name (i := 6) sc_l_key.nd rfl (Or.inl rfl))) (fun _ _ _ _ _ => pts_nil) (fun _ _ _ _ _ => (pe_call g_l_renumbered (hr.mono (by first | decide | omega)) rfl T.m_l_renumbered T.F_l_renumbered.kp T.b_l_renumbered .nil pass0 (pa_cons (pe_ix (show IxR _ (rIxL K) from ix_list) (pv 1) (pv 6) (fun _ _ => rfl)) (pa_cons (pe_ix (show IxR _ (rIx K) from ix_seq) (pv 2) (pv 6) (fun _ _ => rfl)) (pa_cons (pv 4) pa_nil))))))
      (pss_one (ps_ret (pe_tup (pa_cons (pe_tup (pa_cons (pe_callTy call_tuple_of rfl T.z_tuple bt_tuple (pa_cons (pv 11) pa_nil)) (pa_cons (pe_callTy call_tuple_of rfl T.z_tuple bt_tuple (pa_cons (pv 7) pa_nil)) pa_nil))) (pa_cons (pe_callTy call_tuple_of rfl T.z_tuple bt_tuple (pa_cons (pv 4) pa_nil)) pa_nil))))))))))), ?_⟩
  have lR := ok.ln
  have bfst := refsAt_lt (vs := us) (pl := refPl ks) fun i hi => (vok.pl i hi).2
  obtain ⟨ndo, bo, infst⟩ := order_ok ok.rn ndx bx bfst
  have clo := order_closed ok.rn fx (refsAt us (refPl ks))
  refine ⟨_, rfl, xl, _, rfl, hxl, fun lo hlo => ?_⟩
  have s1 := Same.new hlo (.lst (natsV fx))
  have ho1 : (upd H lo (.lst (natsV fx))) lo = some (.lst (natsV fx)) := upd_same
  have nkl := ne_of_none hkl hlo
  have run1 := (hrun.avoid hlo).same s1
  generalize (upd H lo (.lst (natsV fx))) = H1 at s1 ho1 run1
  have sOf : ∀ {G : Hp}, But lo H1 G → Same H G := fun {G} b c u e => b c u (ne_of_none e hlo) (s1 _ _ e)
  -- the fixed ones
  refine Or.imp (fun h => ⟨_, rfl, xl, rfl, ⟨_, h.1⟩, h.2⟩) (fun h => ⟨_, rfl, xl, rfl, ⟨_, h.1⟩, h.2⟩) (PiO.for_seq (K := K) (a := xl) (xs := natsV fx) (fun i σ G => But lo H1 G ∧ G lo = some (.lst (natsV (((fx.take i).flatMap (nbR rs R)).foldl (mt (nbR rs R)) fx))) ∧ ∃ v5 : Option V, σ = [some (.ref dr), some (.ref kl), some (.ref vl), some (.ref xl), some (.ref lo), v5, none, none, none, none, none, none])
    ⟨fun _ _ _ e => e, ho1, none, rfl⟩ (hxl.imp (fun h i σ G P => Same.seq (sOf P.1) h) (fun h i σ G P => Same.tup (sOf P.1) h)) ?_ ?_)
  · rintro i y σ G ey ⟨bG, hoG, v5, rfl⟩
    obtain ⟨k, ek, rfl⟩ := natsV_inv ey
    have tk : fx.take (i + 1) = fx.take i ++ [k] := by
      rw [List.take_add_one, ek]
      rfl
    have sub : ∀ x ∈ (fx.take i).flatMap (nbR rs R), x < R.length := fun x hx => by
      obtain ⟨c, _, h⟩ := List.mem_flatMap.mp hx
      exact ok.rn.n c x h
    have g := fold_ok ok.rn ((fx.take i).flatMap (nbR rs R)) sub ndx bx
    refine ⟨_, rfl, _, rfl, _, rfl, dr, lo, k, _, rs, R, rk, rfl, ok, run1.but bG (bG.keepT ho1), hoG, g.1, g.2.1, bx k (List.mem_of_getElem? ek), fun j _ => ok.rn.b j, fun G2 b2 hG2 => ⟨fun c u n e => b2 c u n (bG c u n e), ?_, _, rfl⟩⟩
    rw [tk, List.flatMap_append, List.flatMap_singleton, List.foldl_append]
    exact hG2
  rintro σ G1 ⟨bG, hoG, v5, rfl⟩
  rw [natsV_len, List.take_length] at hoG
  -- the values
  have lk100 := vok.k
  have lus := vok.l
  refine ⟨_, rfl, kl, _, rfl, .inl (SqL.of (bG _ _ nkl (s1 _ _ hkl))), _, rfl, by omega, by rw [hk.1]; omega, for_range (lo := 0) (fun k σ G => But lo H1 G ∧ G lo = some (.lst (natsV ((refsAt us (refTo ks k)).foldl (mt (nbR rs R)) ((fx.flatMap (nbR rs R)).foldl (mt (nbR rs R)) fx)))) ∧ ∃ v6 : Option V, σ = [some (.ref dr), some (.ref kl), some (.ref vl), some (.ref xl), some (.ref lo), v5, v6, none, none, none, none, none])
    ⟨bG, hoG, none, rfl⟩ ?_ ?_⟩
  · clear hoG bG G1
    rintro k σ G hk2 ⟨bG, hoG, v6, rfl⟩
    rw [hk.1] at hk2
    have hk3 : k < ks.length := by omega
    have kt := bG.keepT (K := K) ho1
    have hk4 : k < kxs.length := by rw [hk.1]; exact hk3
    have e1 : kxs[k]? = some kxs[k] := List.getElem?_eq_getElem hk4
    have e2 : ks[k]? = some ks[k] := List.getElem?_eq_getElem hk3
    obtain ⟨pk, epk, hpk⟩ := ((hk.2 k _ _ e1 e2).keep (KeepT.of s1)).keep kt
    have ekd : ks.getD k .flag = ks[k] := getD_get e2
    have nxt := refsAt_succ (vs := us) (ks := ks) (k := k)
    rw [ekd] at nxt
    have vv := vok.v k (by omega)
    rw [ekd] at vv
    generalize ks[k] = kd at e2 hpk nxt vv ekd
    rw [epk] at e1
    have at1 : atI kxs (0 + (k : Int)) = some (.ref pk) := by rw [Int.zero_add]; exact atI_nat e1
    have at2 : atI us (0 + (k : Int)) = some (us.getD k .non) := by rw [Int.zero_add]; exact atI_nat (getD_some (by omega))
    obtain ⟨s0, rest, ev0, dec⟩ := kd_head kd
    rw [ev0] at hpk
    have hklG := bG _ _ nkl (s1 _ _ hkl)
    have hvlG := hvl.imp (Same.seq (sOf bG)) (Same.tup (sOf bG))
    refine ⟨_, rfl, _, rfl, kl, _, _, _, rfl, rfl, SqL.of hklG, at1, pk, V.str s0 :: rest, _, V.str s0, rfl, rfl, hpk, atI_nat (j := 0) rfl, rfl, _, rfl, ?_⟩
    cases hrf : kd.isRef with
    | false =>
      rw [hrf] at dec nxt
      rw [if_neg (by decide)] at nxt
      refine ifF dec (iteF ⟨bG, ?_, _, rfl⟩)
      rw [nxt]
      exact hoG
    | true =>
      rw [hrf] at dec nxt
      rw [if_pos rfl] at nxt
      refine ifT dec ⟨_, rfl, _, rfl, PiO.rIx_of hvlG at2 ⟨rfl, _, rfl, ?_⟩⟩
      rcases vv hrf with hv | ⟨j, hv, hj⟩
      · rw [hv] at nxt ⊢
        refine ifF (by decide) ⟨bG, ?_, _, rfl⟩
        rw [nxt]
        show G lo = some (.lst (natsV ((refsAt us (refTo ks k) ++ []).foldl _ _)))
        rw [List.append_nil]
        exact hoG
      · rw [hv] at nxt at2 ⊢
        refine ifT (by rw [decide_eq_false (fun z => by cases z)]; rfl) ?_
        have sub1 : ∀ x ∈ fx.flatMap (nbR rs R), x < R.length := fun x hx => by
          obtain ⟨c, _, h⟩ := List.mem_flatMap.mp hx
          exact ok.rn.n c x h
        have sub2 : ∀ x ∈ refsAt us (refTo ks k), x < R.length := fun x hx => by
          unfold refsAt at hx
          obtain ⟨y, hy, e⟩ := List.mem_filterMap.mp hx
          have hy2 := List.mem_filter.mp hy
          rw [List.mem_range] at hy2
          rcases vok.v y (by omega) hy2.2 with h | ⟨m, h, hm⟩
          · rw [h] at e; cases e
          · rw [h] at e
            have e : (m : Int).toNat = x := Option.some.inj e
            omega
        have g1 := fold_ok ok.rn _ sub1 ndx bx
        have g := fold_ok ok.rn _ sub2 g1.1 g1.2.1
        refine ⟨_, rfl, _, rfl, _, rfl, PiO.rIx_of hvlG at2 ⟨_, rfl, dr, lo, j, _, rs, R, rk, rfl, ok, run1.but bG kt, hoG, g.1, g.2.1, hj, ok.rn.b j, fun G2 b2 hG2 => ⟨fun c u n e => b2 c u n (bG c u n e), ?_, _, rfl⟩⟩⟩
        rw [nxt]
        show G2 lo = some (.lst (natsV ((refsAt us (refTo ks k) ++ [j]).foldl _ _)))
        rw [List.foldl_append]
        exact hG2
  clear hoG bG G1
  rintro σ G ⟨bG, hoG, v6, rfl⟩
  have hoG : G lo = some (.lst (natsV (orderF (nbR rs R) fx (refsAt us (refPl ks))))) := by
    have e0 : (((kxs.length : Nat) : Int) - 0).toNat = ks.length := by rw [hk.1]; omega
    unfold orderF refPl
    first | exact hoG | (rw [hk.1] at hoG; exact hoG) | (rw [e0] at hoG; exact hoG)
  generalize orderF (nbR rs R) fx (refsAt us (refPl ks)) = o at *
  have lo100 := len_le ndo bo
  have kt := bG.keepT (K := K) ho1
  have s0G : Same H G := fun b u e => bG b u (ne_of_none e hlo) (s1 _ _ e)
  have runG := run1.but bG kt
  clear kt bG ho1 s1 run1
  -- the records
  refine ⟨by show 0 ≤ sizeLine; decide, fun rl hrl => ?_⟩
  have sr := Same.new hrl (.lst [])
  have runR := runG.same sr
  refine ⟨_, rfl, lo, rfl, ⟨_, SqL.of (sr _ _ hoG)⟩, for_list (K := K) (a := lo) (xs := natsV o) (fun i σ F => Same G F ∧ (∃ vs : List V, F rl = some (.lst vs) ∧ vs.length = i ∧ ∀ (j : Nat) (v : V) (k : Nat) (r : Rc), vs[j]? = some v → o[j]? = some k → R[k]? = some r → RcAt K F v ⟨r.nm, r.live, trL (flOf rs r.nm) r.vals o⟩) ∧ ∃ v5 v6 v8 v9 v10 : Option V, σ = [some (.ref dr), some (.ref kl), some (.ref vl), some (.ref xl), some (.ref lo), v5, v6, some (.ref rl), v8, v9, v10, none])
    ⟨sr, ⟨[], upd_same, rfl, fun j v k r e => by simp at e⟩, _, _, none, none, none, rfl⟩ (fun i σ F _ ⟨s, _⟩ => SqL.of (s _ _ hoG)) ?_ ?_⟩
  · rintro i y σ F ey ⟨sF, ⟨vs, hrlF, lvs, hvs⟩, v5, v6, v8, v9, v10, rfl⟩
    obtain ⟨k, ek, rfl⟩ := natsV_inv ey
    have i100 : i < 100 := by
      have := (List.getElem?_eq_some_iff.mp ek).1
      omega
    have mk := List.mem_of_getElem? ek
    have hkR := bo k mk
    obtain ⟨kvs, kf, lr, df, rows, run⟩ := runG.same sF
    have er : R[k]? = some R[k] := List.getElem?_eq_getElem hkR
    have hi2 : k < rows.length := by rw [run.lr]; exact hkR
    have ev : rows[k]? = some rows[k] := List.getElem?_eq_getElem hi2
    obtain ⟨p, l, ep, np, nl, hp, hl⟩ := run.rw k _ _ ev er
    have rok := ok.rc _ (List.getElem_mem hkR)
    have nbk := nbR_at (rs := rs) er
    generalize R[k] = r at er hp hl rok nbk
    rw [ep] at ev
    obtain ⟨rk0, mk0, ek0⟩ := rok.m
    obtain ⟨pf, ef, bs, hbs, lbs, hb⟩ := run.fl rk0 mk0
    rw [ek0] at ef
    have efl : flOf rs r.nm = rk0.2.map (·.2) := by rw [← ek0]; exact flOf_mem ok.pok.nd mk0
    have l20 := flOf_len ok.pok (z := r.nm)
    have lbf : bs.length = (flOf rs r.nm).length := by rw [lbs, efl, List.length_map]
    have lvl : r.vals.length ≤ (flOf rs r.nm).length := by
      cases hlv : r.live with
      | true => rw [rok.l hlv]; exact Nat.le_refl _
      | false => rw [rok.d hlv]; exact Nat.zero_le _
    refine ⟨_, rfl, dr, _, rfl, DGet.at (k := Sum.inr "records") run.hd run.kr, _, rfl, lr, _, _, _, rfl, rfl, SqL.of run.hl, atI_nat ev, ?_⟩
    refine ⟨_, rfl, dr, _, rfl, DGet.at (k := Sum.inr "fields") run.hd run.kk, _, rfl, p, _, 0, _, rfl, rfl, SqL.of hp, rfl, df, _, rfl, DGet.at (k := Sum.inr r.nm) run.hf ef, ?_⟩
    refine ⟨by show 0 ≤ sizeLine; decide, fun fl hfl => ?_⟩
    have sf := Same.new hfl (.lst [])
    refine ⟨_, rfl, p, _, 2, _, rfl, rfl, SqL.of (sf _ _ hp), rfl, l, _, rfl, .inl (SqL.of (sf _ _ hl)), _, rfl, by omega, by omega, for_range (lo := 0) (fun m σ F2 => Same F F2 ∧ F2 fl = some (.lst (trTo (flOf rs r.nm) r.vals o m)) ∧ ∃ v6 : Option V, σ = [some (.ref dr), some (.ref kl), some (.ref vl), some (.ref xl), some (.ref lo), some (.int (k : Int)), v6, some (.ref rl), some (.ref p), some (.ref pf), some (.ref fl), none])
      ⟨sf, upd_same, _, rfl⟩ ?_ ?_⟩
    · rintro m σ F2 hm ⟨s2, hfl2, v6, rfl⟩
      have hm : m < r.vals.length := by omega
      have eb : bs[m]? = some (bs[m]'(by omega)) := List.getElem?_eq_getElem _
      have efk : rk0.2[m]? = some (rk0.2[m]'(by omega)) := List.getElem?_eq_getElem _
      obtain ⟨kv, h1, h2⟩ := hb m _ _ eb efk
      have ekd : (flOf rs r.nm).getD m .flag = (rk0.2[m]'(by omega)).2 := by
        rw [efl]
        exact getD_get (by rw [List.getElem?_map, efk]; rfl)
      generalize (rk0.2[m]'(by omega)) = fk at efk h1 h2 ekd
      generalize (bs[m]'(by omega)) = bk at eb h1
      have at1 : atI (bs.map V.ref) (0 + (m : Int)) = some (.ref bk) := by rw [Int.zero_add]; exact atI_nat (map_get eb)
      have at2 : atI r.vals (0 + (m : Int)) = some (r.vals.getD m .non) := by rw [Int.zero_add]; exact atI_nat (getD_some hm)
      refine ⟨_, rfl, .inl ⟨rfl, _, SqL.of hfl2⟩, ?_⟩
      refine ⟨_, rfl, _, rfl, pf, _, _, _, rfl, rfl, Same.tup s2 hbs, at1, bk, _, _, _, rfl, rfl, Same.tup s2 h1, rfl, ?_⟩
      refine ⟨_, rfl, p, _, 2, _, rfl, rfl, SqL.of (s2 _ _ hp), rfl, _, rfl, l, _, _, _, rfl, rfl, SqL.of (s2 _ _ hl), at2, _, rfl, kv, r.vals.getD m .non, lo, fk.2, o, rfl, h2.keep (KeepT.of s2), s2 _ _ (sF _ _ hoG), fun hrf => ?_, fun hrf => ?_, ?_⟩
      · rcases rok.v m hm (by rw [ekd]; exact hrf) with hv | ⟨j, hv, _⟩
        · exact .inl hv
        · refine .inr ⟨j, hv, clo k mk j ?_⟩
          rw [nbk]
          cases hlv : r.live with
          | true =>
            rw [if_pos rfl]
            exact mem_refsAt (mem_refPl.mpr ⟨by omega, by rw [ekd]; exact hrf⟩) hv
          | false =>
            rw [rok.d hlv] at hm
            exact absurd hm (Nat.not_lt_zero _)
      · have e := getD_some hm
        exact rok.f _ (List.mem_of_getElem? e)
      · refine ⟨fl, _, _, rfl, rfl, hfl2, lt_line (by unfold trTo; rw [List.length_map, List.length_range]; omega), fun b u e => by rw [upd_ne (ne_of_none e hfl)]; exact s2 _ _ e, ?_, _, rfl⟩
        rw [trTo_succ, ekd]
        exact upd_same
    · rintro σ F2 ⟨s2, hfl2, v6, rfl⟩
      have e0 : (((r.vals.length : Nat) : Int) - 0).toNat = r.vals.length := by omega
      have hfl2 : F2 fl = some (.lst (trL (flOf rs r.nm) r.vals o)) := by
        unfold trL
        unfold trTo at hfl2
        first | exact hfl2 | (rw [e0] at hfl2; exact hfl2)
      refine ⟨_, rfl, .inl ⟨rfl, _, SqL.of (s2 _ _ hrlF)⟩, ?_⟩
      refine ⟨_, rfl, p, _, 0, _, rfl, rfl, SqL.of (s2 _ _ hp), rfl, _, rfl, p, _, 1, _, rfl, rfl, SqL.of (s2 _ _ hp), rfl, _, rfl, fl, _, rfl, .inl ⟨SqL.of hfl2, fun t1 ht1 => ⟨by show 3 ≤ sizeLine; decide, fun t2 ht2 => ?_⟩⟩⟩
      have n1 := Same.new ht1 (.tup (trL (flOf rs r.nm) r.vals o))
      have n2 := Same.new ht2 (.tup [.str r.nm, .bl r.live, .ref t1])
      have sE := (s2.trans n1).trans n2
      have hrlE := sE _ _ hrlF
      have rcE : RcAt K (upd (upd F2 t1 (.tup (trL (flOf rs r.nm) r.vals o))) t2 (.tup [.str r.nm, .bl r.live, .ref t1])) (.ref t2) ⟨r.nm, r.live, trL (flOf rs r.nm) r.vals o⟩ := ⟨t2, t1, rfl, SqT.of upd_same, SqT.of (n2 _ _ upd_same)⟩
      generalize (upd (upd F2 t1 (.tup (trL (flOf rs r.nm) r.vals o))) t2 (.tup [.str r.nm, .bl r.live, .ref t1])) = F3 at sE hrlE rcE
      refine ⟨rl, _, _, rfl, rfl, hrlE, lt_line (by omega), fun b u e => by rw [upd_ne (ne_of_none e hrl)]; exact sE _ _ (sF _ _ e), ⟨_, upd_same, by rw [List.length_append, lvs]; rfl, fun j v k' r' e3 e4 e5 => ?_⟩, _, _, _, _, _, rfl⟩
      by_cases hj : j < i
      · rw [List.getElem?_append_left (by omega)] at e3
        exact ((hvs j v k' r' e3 e4 e5).keep (KeepT.of sE)).keep (keepT_lst hrlE)
      · rw [List.getElem?_append_right (by omega)] at e3
        have hji : j = i := by
          have := (List.getElem?_eq_some_iff.mp e3).1
          simp at this
          omega
        subst hji
        rw [lvs, Nat.sub_self] at e3
        cases e3
        rw [ek] at e4
        cases e4
        rw [er] at e5
        cases e5
        exact rcE.keep (keepT_lst hrlE)
  rintro σ F ⟨sF, ⟨vs, hrlF, lvs, hvs⟩, v5, v6, v8, v9, v10, rfl⟩
  rw [natsV_len] at lvs
  have s0F := s0G.trans sF
  -- the values shown
  refine ⟨_, rfl, kl, _, rfl, .inl (SqL.of (s0F _ _ hkl)), _, rfl, by omega, by rw [hk.1]; omega, fun D hD => ?_⟩
  refine lc_it walk_range (fun m F2 => Same F F2 ∧ F2 D = some (.lst (trTo ks us o m))) ⟨Same.new hD _, upd_same⟩ (fun _ _ _ _ => trivial) ?_ ?_
  · rintro m x F2 F3 hm ⟨s2, eD⟩ ⟨rfl, rfl⟩
    rw [hk.1] at hm
    have hm : m < ks.length := by omega
    have hm4 : m < kxs.length := by rw [hk.1]; exact hm
    have e1 : kxs[m]? = some kxs[m] := List.getElem?_eq_getElem hm4
    have e2 : ks[m]? = some ks[m] := List.getElem?_eq_getElem hm
    have hkd := (hk.2 m _ _ e1 e2).keep (KeepT.of (s0F.trans s2))
    have ekd : ks.getD m .flag = ks[m] := getD_get e2
    have vv := vok.v m (by omega)
    rw [ekd] at vv
    have pl := fun (h : (ks[m]).isRef = true) => mem_refPl (ks := ks) (i := m) |>.mpr ⟨hm, by rw [ekd]; exact h⟩
    generalize ks[m] = kd at e2 hkd vv ekd pl
    have hs0 := s0F.trans s2
    have at1 : atI kxs (0 + (m : Int)) = some kxs[m] := by rw [Int.zero_add]; exact atI_nat e1
    have at2 : atI us (0 + (m : Int)) = some (us.getD m .non) := by rw [Int.zero_add]; exact atI_nat (getD_some (by omega))
    refine ⟨rfl, tyes ?_⟩
    refine ⟨_, rfl, _, rfl, kl, _, _, _, rfl, rfl, SqL.of (hs0 _ _ hkl), at1, _, rfl, _, rfl, PiO.rIx_of (hvl.imp (Same.seq hs0) (Same.tup hs0)) at2 ⟨_, rfl, _, us.getD m .non, lo, kd, o, rfl, hkd, s2 _ _ (sF _ _ hoG), fun hrf => ?_, fun hrf => vok.f _ (List.mem_of_getElem? (getD_some (by omega))), ?_⟩⟩
    · rcases vv hrf with hv | ⟨j, hv, _⟩
      · exact .inl hv
      · exact .inr ⟨j, hv, infst j (mem_refsAt (pl hrf) hv)⟩
    · refine ⟨_, eD, lt_line (by unfold trTo; rw [List.length_map, List.length_range]; omega), fun b u e => by rw [upd_ne (ne_of_none e hD)]; exact s2 _ _ e, ?_⟩
      rw [trTo_succ, ekd]
      exact upd_same
  rintro F2 ⟨s2, eD⟩
  have eD : F2 D = some (.lst (trL ks us o)) := by
    have e0 : (((kxs.length : Nat) : Int) - 0).toNat = us.length := by rw [hk.1]; omega
    unfold trL
    unfold trTo at eD
    first | exact eD | (rw [hk.1, ← lus] at eD; exact eD) | (rw [e0] at eD; exact eD)
  have hoE := s2 _ _ (sF _ _ hoG)
  have hrlE := s2 _ _ hrlF
  refine ⟨_, rfl, D, _, rfl, .inl ⟨SqL.of eD, fun t1 ht1 => ?_⟩⟩
  have k1 := Same.new ht1 (.tup (trL ks us o))
  refine ⟨_, rfl, rl, _, rfl, .inl ⟨SqL.of (k1 _ _ hrlE), fun t2 ht2 => ⟨by show 2 ≤ sizeLine; decide, fun t3 ht3 => ?_⟩⟩⟩
  have k2 := Same.new ht2 (.tup vs)
  have k3 := Same.new ht3 (.tup [.ref t1, .ref t2])
  have hlo9 := k3 _ _ (k2 _ _ (k1 _ _ hoE))
  refine ⟨_, rfl, lo, _, rfl, .inl ⟨SqL.of hlo9, fun t4 ht4 => ⟨by show 2 ≤ sizeLine; decide, fun t5 ht5 => ?_⟩⟩⟩
  have k4 := Same.new ht4 (.tup (natsV o))
  have k5 := Same.new ht5 (.tup [.ref t3, .ref t4])
  have k35 := (k3.trans k4).trans k5
  have k25 := k2.trans k35
  have k15 := k1.trans k25
  refine q t5 _ ((s0F.trans s2).trans k15) ?_
  have d1 : Dp K _ (.ref t1) (.tuple ((trL ks us o).map vD)) := .tup (SqT.of (k25 _ _ upd_same)) (vD_dpAll (trL_flat vok.f))
  have d2 : Dp K _ (.ref t2) (.tuple (o.map (recD rs R o))) := .tup (SqT.of (k35 _ _ upd_same)) (dpAll_of (by rw [List.length_map]; exact lvs) fun i v d e1 e2 => by
    rw [List.getElem?_map] at e2
    cases ei : o[i]? with
    | none => rw [ei] at e2; cases e2
    | some k =>
      rw [ei] at e2
      cases e2
      have hk := bo k (List.mem_of_getElem? ei)
      have er : R[k]? = some R[k] := List.getElem?_eq_getElem hk
      exact rc_dp er (ok.rc _ (List.getElem_mem hk)).f ((hvs i v k _ e1 ei er).keep (KeepT.of (s2.trans k15))))
  have d4 : Dp K _ (.ref t4) (.tuple (o.map fun k : Nat => PyData.int (k : Int))) := .tup (SqT.of (k5 _ _ upd_same)) (nats_dpAll o)
  have d3 : Dp K _ (.ref t3) (.tuple [.tuple ((trL ks us o).map vD), .tuple (o.map (recD rs R o))]) := .tup (SqT.of ((k4.trans k5) _ _ upd_same)) (.cons d1 (.cons d2 .nil))
  exact .tup (SqT.of upd_same) (.cons d3 (.cons d4 .nil))
end
/-! ### the names of the draws: twenty texts in one of four styles -/
def numS (i : Int) : Str := Str.ofString (toString i)
theorem len_app (x y : Str) : (x ++ y).length = x.length + y.length := Array.size_append
def lettersL : List Nat := ("bcdeghijklmnopqrtuvw" : Str).cps.toList
def nmW (st : Int) (k : Nat) : Str :=
  if st = 3 then ("n" : Str) ++ numS ((k : Int) * (k : Int) + 3)
  else if st = 2 then ("zz" : Str) ++ ⟨#[lettersL.getD k 0]⟩
  else if st = 1 then (⟨#[lettersL.getD k 0]⟩ : Str) ++ ("q7" : Str)
  else ⟨#[lettersL.getD k 0]⟩
def namesOf (st : Int) : List Str := (List.range 20).map (nmW st)
theorem numS_short {i : Int} (h : -1000000000 ≤ i ∧ i ≤ 1000000000) : (numS i).length ≤ 11 := by
  have e := int_text_length_le10 (a := i) (k := 10) (by decide) (by omega)
  unfold numS
  rw [ofString_length]
  exact e
theorem log_short {i : Int} (h : -1000000000 ≤ i ∧ i ≤ 1000000000) : i.natAbs.log2 < 1920 := by
  by_cases z : i.natAbs = 0
  · rw [z]
    decide
  · refine (Nat.log2_lt z).mpr (Nat.lt_of_lt_of_le (m := 2 ^ 32) ?_ (Nat.pow_le_pow_right (by decide) (by decide)))
    omega
def spNames : Sp := fun vs H Q _ => ∃ a : Addr, vs = [.ref a] ∧ Src H a ∧ ∀ (st : Int) (p : Addr) (H' : Hp), Stp a H H' → H p = none → 0 ≤ st → st < 4 → H' p = some (.lst ((namesOf st).map V.str)) → Q (.ref p) H'
section
variable {P : Program} {w : World} {K : PySem.W.Frag} {mg : Str → Option Value} {base : Heap}
theorem ok_l_names (T : Txt w K mg) : FnOk P w K mg base CX0 2 T.a_l_names T.d_l_names p_l_names spNames := by
  have g_l_pick := ok_l_pick (P := P) (w := w) (base := base) T
  refine T.F_l_names.ok sc_l_names (fun vs H Q E h => ?_) (fun cdv A outer s H vs Q E hr h => ?_)
  · obtain ⟨a, rfl, _⟩ := h
    rfl
  obtain ⟨a, rfl, hS, q⟩ := h
  refine ⟨_, (pss_cons (ps_set (i := 1) sc_l_names.nd rfl (Or.inl rfl) (pe_call g_l_pick (hr.mono (by first | decide | omega)) rfl T.m_l_pick T.F_l_pick.kp T.b_l_pick .nil pass0 (pa_cons (pv 0) (pa_cons pe_int pa_nil))))
      (pss_cons (ps_set (i := 2) sc_l_names.nd rfl (Or.inl rfl) (pe_lst pa_nil))
      (pss_cons (ps_for PassesOwn.never rfl (pi_range1 rfl T.z_range (pa_cons pe_int pa_nil)) (pg_name (i := 3) sc_l_names.nd rfl (Or.inl rfl))
        (pss_cons (ps_set (i := 4) sc_l_names.nd rfl (Or.inl rfl) (pe_ix ix_str pe_str (pv 3) (fun _ _ => rfl)))
      (C8.pss_cut (ps_if (pt_cmpR op_eq (pv 1) pe_int (nomark _)) (pss_one (ps_set (i := 4) sc_l_names.nd rfl (Or.inl rfl) (pe_op op_add_str (pv 4) pe_str))) pss_nil)
      (C8.pss_cut (ps_if (pt_cmpR op_eq (pv 1) pe_int (nomark _)) (pss_one (ps_set (i := 4) sc_l_names.nd rfl (Or.inl rfl) (pe_op op_add_str pe_str (pv 4)))) pss_nil)
      (C8.pss_cut (ps_if (pt_cmpR op_eq (pv 1) pe_int (nomark _)) (pss_one (ps_set (i := 4) sc_l_names.nd rfl (Or.inl rfl) (pe_op op_add_str pe_str (pe_callTy call_str_int rfl T.z_str bt_str (pa_cons (pe_op op_add (pe_op op_mul (pv 3) (pv 3)) pe_int) pa_nil))))) pss_nil)
      (pss_one (ps_expr (pe_bm PySem.F.plainAttrs_list PySem.F.slot_list_append PySem.F.type_list_append mt_append (pv 2) (pa_cons (pv 4) pa_nil)))))))))
      (pss_one (ps_ret (pv 2)))))), ?_⟩
  refine ⟨_, rfl, a, 4, rfl, hS, by decide, fun st H1 st1 s0 s1 => ?_⟩
  refine ⟨by show 0 ≤ sizeLine; decide, fun l hl => ?_⟩
  have n0 : H l = none := st1.free hl
  refine ⟨20, rfl, by decide, by decide, for_range (lo := 0) (n := 20) (fun i σ H' => Stp a H H' ∧ H' l = some (.lst ((List.range i).map fun k => V.str (nmW st k))) ∧ ∃ v1 v2 : Option V, σ = [some (.ref a), some (.int st), some (.ref l), v1, v2]) ⟨st1.new hl, upd_same, none, none, rfl⟩ ?_ ?_⟩
  · rintro i σ H' hi ⟨sti, hli, v1, v2, rfl⟩
    have hi' : (0 + (i : Int)).toNat < ("bcdeghijklmnopqrtuvw" : Str).cps.toList.length := by
      show (0 + (i : Int)).toNat < 20
      omega
    have e0 := atI_int (xs := ("bcdeghijklmnopqrtuvw" : Str).cps.toList) (r := 0 + (i : Int)) (by omega) hi'
    have e1 : ("bcdeghijklmnopqrtuvw" : Str).cps.toList[(0 + (i : Int)).toNat] = lettersL.getD i 0 := by
      have z : (0 + (i : Int)).toNat = i := by omega
      have hi2 : i < lettersL.length := by show i < 20; exact hi
      show lettersL[(0 + (i : Int)).toNat]'_ = _
      rw [List.getD_eq_getElem?_getD, List.getElem?_eq_getElem hi2]
      show _ = lettersL[i]
      congr 1
    rw [e1] at e0
    refine ⟨_, rfl, _, _, _, rfl, rfl, by decide +kernel, e0, ?_⟩
    generalize ec : lettersL.getD i 0 = c
    refine ⟨fun σ H2 => H2 = H' ∧ σ = [some (.ref a), some (.int st), some (.ref l), some (.int (0 + (i : Int))), some (.str (if st = 1 then (⟨#[c]⟩ : Str) ++ ("q7" : Str) else ⟨#[c]⟩))], ⟨_, rfl, rfl, _, rfl, ?_⟩, ?_⟩
    · refine ite2 (fun h => ?_) (fun h => ?_)
      · have h1 : st = 1 := V.int.inj (of_decide_eq_true h)
        refine ⟨_, rfl, _, _, rfl, rfl, (by show 1 + 2 ≤ sizeLine; decide), rfl, ?_⟩
        rw [if_pos h1]
        rfl
      · have h1 : ¬ st = 1 := fun z => h (decide_eq_true (congrArg V.int z))
        refine ⟨rfl, ?_⟩
        rw [if_neg h1]
        rfl
    rintro σ H2 ⟨rfl, rfl⟩
    refine ⟨fun σ H3 => H3 = H2 ∧ σ = [some (.ref a), some (.int st), some (.ref l), some (.int (0 + (i : Int))), some (.str (if st = 2 then ("zz" : Str) ++ ⟨#[c]⟩ else if st = 1 then (⟨#[c]⟩ : Str) ++ ("q7" : Str) else ⟨#[c]⟩))], ⟨_, rfl, rfl, _, rfl, ?_⟩, ?_⟩
    · refine ite2 (fun h => ?_) (fun h => ?_)
      · have h1 : st = 2 := V.int.inj (of_decide_eq_true h)
        subst h1
        refine ⟨_, rfl, _, _, rfl, rfl, ?_, rfl, rfl⟩
        rw [if_neg (by decide)]
        show 2 + 1 ≤ sizeLine
        decide
      · have h1 : ¬ st = 2 := fun z => h (decide_eq_true (congrArg V.int z))
        refine ⟨rfl, ?_⟩
        rw [if_neg h1]
    rintro σ H3 ⟨rfl, rfl⟩
    refine ⟨fun σ H4 => H4 = H3 ∧ σ = [some (.ref a), some (.int st), some (.ref l), some (.int (0 + (i : Int))), some (.str (nmW st i))], ⟨_, rfl, rfl, _, rfl, ?_⟩, ?_⟩
    · refine ite2 (fun h => ?_) (fun h => ?_)
      · have h1 : st = 3 := V.int.inj (of_decide_eq_true h)
        subst h1
        have hb : ((0 + (i : Int)) * (0 + (i : Int)) + 3) = ((i : Int) * (i : Int) + 3) := by rw [Int.zero_add]
        have hsq : 0 ≤ (i : Int) * (i : Int) ∧ (i : Int) * (i : Int) ≤ 400 := by
          refine ⟨Int.mul_nonneg (by omega) (by omega), ?_⟩
          exact Int.le_trans (Int.mul_le_mul (by omega : (i : Int) ≤ 20) (by omega : (i : Int) ≤ 20) (by omega) (by decide)) (by decide)
        have hbd : -1000000000 ≤ (i : Int) * (i : Int) + 3 ∧ (i : Int) * (i : Int) + 3 ≤ 1000000000 := by omega
        refine ⟨_, rfl, _, rfl, _, _, rfl, rfl, .inl ⟨by omega, by omega⟩, _, _, rfl, rfl, _, rfl, ?_, _, _, rfl, rfl, ?_, rfl, ?_⟩
        · rw [hb]
          exact log_short hbd
        · rw [hb]
          have z := numS_short hbd
          show 1 + (numS ((i : Int) * (i : Int) + 3)).length ≤ sizeLine
          rw [sizeLine_eq]
          omega
        · rw [hb]
          rfl
      · have h1 : ¬ st = 3 := fun z => h (decide_eq_true (congrArg V.int z))
        refine ⟨rfl, ?_⟩
        unfold nmW
        rw [if_neg h1, ec]
    rintro σ H4 ⟨rfl, rfl⟩
    refine ⟨_, rfl, .inl ⟨rfl, _, SqL.of hli⟩, _, rfl, l, _, _, rfl, rfl, hli, ?_, ?_⟩
    · rw [List.length_map, List.length_range]
      exact small1000 (by omega)
    have nl : l ≠ a := (st1.s.ne hl).symm
    have st2 : Stp a H (upd H4 l (.lst ((List.range i).map (fun k => V.str (nmW st k)) ++ [.str (nmW st i)]))) := by
      obtain ⟨c1, m1, k1, hc⟩ := sti.s
      refine ⟨⟨c1, m1, k1, by rw [upd_ne nl.symm]; exact hc⟩, fun b o hb e => ?_⟩
      rw [upd_ne (ne_of_none e n0)]
      exact sti.k b o hb e
    refine ⟨st2, ?_, _, _, rfl⟩
    rw [upd_same, List.range_succ, List.map_append]
    rfl
  · rintro σ H' ⟨sti, hli, v1, v2, rfl⟩
    refine ⟨_, rfl, q st l H' sti n0 s0 (by omega) ?_⟩
    rw [hli]
    exact congrArg (fun z => some (HO.lst z)) (by show _ = (List.map V.str (List.map (nmW st) (List.range 20))); rw [List.map_map]; rfl)
end
/-! ### one of a row (as in Draw24.inc) -/
theorem Sq.or {K : PySem.W.Frag} {t : Bool} {H : Hp} {p : Addr} {xs : List V} (h : Sq t K H p xs) : SqL K H p xs ∨ SqT K H p xs := by
  cases t
  · exact .inl h
  · exact .inr h
theorem Sq.ix {K : PySem.W.Frag} {t : Bool} {H : Hp} {p : Addr} {xs : List V} {i : Int} {v : V} {Q : VK} (h : Sq t K H p xs) (e : atI xs i = some v) (q : Q v H) : rIxT K (.ref p) (.int i) H Q ∨ rIxL K (.ref p) (.int i) H Q := by
  cases t
  · exact .inr ⟨p, xs, i, v, rfl, rfl, h, e, q⟩
  · exact .inl ⟨p, xs, i, v, rfl, rfl, h, e, q⟩
def spOneG (K : PySem.W.Frag) : Sp := fun vs H Q _ => ∃ (a p : Addr) (xs : List V) (t : Bool), vs = [.ref a, .ref p] ∧ Src H a ∧ (t = false → p ≠ a) ∧ Sq t K H p xs ∧ 0 < xs.length ∧ xs.length < 1000 ∧ ∀ v H', v ∈ xs → Stp a H H' → Q v H'
theorem Stp.sq {K : PySem.W.Frag} {a p : Addr} {H H' : Hp} {xs : List V} {t : Bool} (s : Stp a H H') (hs : Src H a) (ne : t = false → p ≠ a) (h : Sq t K H p xs) : Sq t K H' p xs := by
  cases t
  · exact s.rdL h (ne rfl)
  · exact s.rd h hs
section
variable {P : Program} {w : World} {K : PySem.W.Frag} {mg : Str → Option Value} {base : Heap}
theorem ok_l_oneG (T : Txt w K mg) : FnOk P w K mg base CX0 2 T.a_l_one T.d_l_one p_l_one (spOneG K) := by
  have g_l_pick := ok_l_pick (P := P) (w := w) (base := base) T
  refine T.F_l_one.ok sc_l_one (fun vs H Q E h => ?_) (fun cdv A outer s H vs Q E hr h => ?_)
  · obtain ⟨a, p, xs, t, rfl, _⟩ := h
    rfl
  obtain ⟨a, p, xs, t, rfl, hS, ne, hx, h0, h9, q⟩ := h
  refine ⟨_, (pss_one (ps_ret (pe_ix (IxR.or ix_tup ix_list) (pv 1) (pe_call g_l_pick (hr.mono (by first | decide | omega)) rfl T.m_l_pick T.F_l_pick.kp T.b_l_pick .nil pass0 (pa_cons (pv 0) (pa_cons (pe_callB call_len_seq rfl T.z_len PySem.boot_len (pa_cons (pv 1) pa_nil)) pa_nil))) (fun _ _ => rfl)))), ?_⟩
  refine ⟨_, rfl, _, rfl, _, rfl, p, _, rfl, Sq.or (t := t) hx, a, _, rfl, hS, by omega, fun r H' st r0 r1 => ?_⟩
  have hr' : r.toNat < xs.length := by omega
  exact Sq.ix (t := t) (st.sq hS ne hx) (atI_int (xs := xs) r0 hr') (q _ _ (List.getElem_mem hr') st)
end
theorem cut_lo {xs : List V} {r : Int} (h0 : 0 ≤ r) (h : r.toNat ≤ xs.length) : cutV xs (some r) none = xs.drop r.toNat := by
  have e : HT.sIx xs.length 0 (some r) = r.toNat := by
    show (if r < 0 then (r + (xs.length : Int)).toNat else min r.toNat xs.length) = r.toNat
    rw [if_neg (by omega), Nat.min_eq_left h]
  unfold cutV
  rw [e]
  show (xs.drop r.toNat).take (xs.length - r.toNat) = _
  exact List.take_of_length_le (by rw [List.length_drop]; omega)
theorem cut_hi {xs : List V} {r : Int} (h0 : 0 ≤ r) (h : r.toNat ≤ xs.length) : cutV xs none (some r) = xs.take r.toNat := by
  have e : HT.sIx xs.length xs.length (some r) = r.toNat := by
    show (if r < 0 then (r + (xs.length : Int)).toNat else min r.toNat xs.length) = r.toNat
    rw [if_neg (by omega), Nat.min_eq_left h]
  unfold cutV
  rw [e]
  show (xs.drop 0).take (r.toNat - 0) = _
  rw [List.drop_zero, Nat.sub_zero]
/-! ### keys: drawn record kinds -/
theorem Stp.put {a D : Addr} {G F : Hp} {o : HO} (x : Stp a G F) (hs : Src G a) (hD : G D = none) : Stp a G (upd F D o) := by
  obtain ⟨c, m, k, h⟩ := x.s
  refine ⟨⟨c, m, k, by rw [upd_ne (hs.ne hD)]; exact h⟩, fun b u hb e => ?_⟩
  rw [upd_ne (ne_of_none e hD)]
  exact x.k b u hb e
theorem Stp.keepT {K : PySem.W.Frag} {a : Addr} {H H' : Hp} (s : Stp a H H') (hS : Src H a) : KeepT K H H' := fun _ _ h => s.rd h hS
def KOk : Kd → Prop
  | .num lo hi => lo ≤ hi ∧ hi ≤ lo + 7
  | _ => True
theorem lst_neS {a p : Addr} {H : Hp} {zs : List Str} (h : Src H a) (e : H p = some (.lst (zs.map V.str))) : p ≠ a := fun z => by
  obtain ⟨c, m, k, hs⟩ := h
  rw [z, hs] at e
  have e2 := HO.lst.inj (Option.some.inj e)
  cases zs with
  | nil => cases e2
  | cons x y => rw [List.map_cons] at e2; cases e2
theorem lst_neR {a p : Addr} {H : Hp} {as : List Addr} (h : Src H a) (e : H p = some (.lst (as.map V.ref))) : p ≠ a := fun z => by
  obtain ⟨x, y, w, e2⟩ := h
  rw [z, e2] at e
  cases as with
  | nil => cases e
  | cons b bs => cases e
/-- references name earlier kinds -/
def RsRk (rs : List Rk) : Prop := ∀ (i : Nat) (r : Rk), rs[i]? = some r → ∀ f ∈ r.2, ∀ s, f.2 = .ref s → ∃ j r', j < i ∧ rs[j]? = some r' ∧ r'.1 = s
def RksAt (K : PySem.W.Frag) (H : Hp) (as : List Addr) (rs : List Rk) : Prop := as.length = rs.length ∧ ∀ (i : Nat) (a : Addr) (r : Rk), as[i]? = some a → rs[i]? = some r → RkAt K H a r
theorem RksAt.keep {K : PySem.W.Frag} {H H' : Hp} {as : List Addr} {rs : List Rk} (s : KeepT K H H') (h : RksAt K H as rs) : RksAt K H' as rs := ⟨h.1, fun i a r e1 e2 => (h.2 i a r e1 e2).keep s⟩
def FdsAt (K : PySem.W.Frag) (H : Hp) (bs : List Addr) (fs : List (Str × Kd)) : Prop := bs.length = fs.length ∧ ∀ (i : Nat) (b : Addr) (f : Str × Kd), bs[i]? = some b → fs[i]? = some f → ∃ kv, SqT K H b [.str f.1, kv] ∧ KdAt K H kv f.2
theorem FdsAt.keep {K : PySem.W.Frag} {H H' : Hp} {bs : List Addr} {fs : List (Str × Kd)} (s : KeepT K H H') (h : FdsAt K H bs fs) : FdsAt K H' bs fs := ⟨h.1, fun i b f e1 e2 => by
  obtain ⟨kv, g1, g2⟩ := h.2 i b f e1 e2
  exact ⟨kv, s _ _ g1, g2.keep s⟩⟩
theorem two_get {α : Type} {xs : List α} {y : α} {i : Nat} {z : α} (e : (xs ++ [y])[i]? = some z) : (i < xs.length ∧ xs[i]? = some z) ∨ (i = xs.length ∧ z = y) := by
  by_cases h : i < xs.length
  · rw [List.getElem?_append_left h] at e
    exact .inl ⟨h, e⟩
  · rw [List.getElem?_append_right (by omega)] at e
    have : i = xs.length := by
      have := (List.getElem?_eq_some_iff.mp e).1
      simp at this
      omega
    subst this
    rw [Nat.sub_self] at e
    cases e
    exact .inr ⟨rfl, rfl⟩
theorem FdsAt.push {K : PySem.W.Frag} {H : Hp} {bs : List Addr} {fs : List (Str × Kd)} {b : Addr} {f : Str × Kd} {kv : V} (h : FdsAt K H bs fs) (h1 : SqT K H b [.str f.1, kv]) (h2 : KdAt K H kv f.2) : FdsAt K H (bs ++ [b]) (fs ++ [f]) :=
  ⟨by rw [List.length_append, List.length_append, h.1]; rfl, fun i c g e1 e2 => by
    rcases two_get e1 with ⟨l1, e1⟩ | ⟨l1, rfl⟩
    · rcases two_get e2 with ⟨_, e2⟩ | ⟨l2, _⟩
      · exact h.2 i c g e1 e2
      · have := h.1
        omega
    · rcases two_get e2 with ⟨l2, _⟩ | ⟨_, rfl⟩
      · have := h.1
        omega
      · exact ⟨kv, h1, h2⟩⟩
theorem RksAt.push {K : PySem.W.Frag} {H : Hp} {as : List Addr} {rs : List Rk} {a : Addr} {r : Rk} (h : RksAt K H as rs) (h1 : RkAt K H a r) : RksAt K H (as ++ [a]) (rs ++ [r]) :=
  ⟨by rw [List.length_append, List.length_append, h.1]; rfl, fun i c g e1 e2 => by
    rcases two_get e1 with ⟨l1, e1⟩ | ⟨l1, rfl⟩
    · rcases two_get e2 with ⟨_, e2⟩ | ⟨l2, _⟩
      · exact h.2 i c g e1 e2
      · have := h.1
        omega
    · rcases two_get e2 with ⟨l2, _⟩ | ⟨_, rfl⟩
      · have := h.1
        omega
      · exact h1⟩
theorem cutV_sub {xs : List V} {a b : Option Int} : ∀ v ∈ cutV xs a b, v ∈ xs := fun v h => by
  unfold cutV at h
  exact List.mem_of_mem_drop (List.mem_of_mem_take h)
structure WldOk (rs : List Rk) : Prop where
  nd : (rs.map (·.1)).Nodup
  l : rs.length ≤ 4
  f : ∀ r ∈ rs, r.2.length ≤ 5
  k : ∀ r ∈ rs, ∀ f ∈ r.2, KOk f.2
  rk : RsRk rs
  s : ∀ r ∈ rs, PyData.strOk r.1 = true
theorem WldOk.pok {rs : List Rk} (h : WldOk rs) : PgOk rs := ⟨h.nd, by have := h.l; omega, fun r hr => by have := h.f r hr; omega⟩
def spNumKd (K : PySem.W.Frag) : Sp := fun vs H Q _ => ∃ a : Addr, vs = [.ref a] ∧ Src H a ∧ ∀ v kd H', Stp a H H' → KdAt K H' v kd → KOk kd → kd.isRef = false → Q v H'
def spWorld (K : PySem.W.Frag) : Sp := fun vs H Q _ => ∃ (a : Addr) (sh : Int), vs = [.ref a, .int sh] ∧ Src H a ∧ 0 ≤ sh ∧ sh < 8 ∧ ∀ p rs H', Stp a H H' → PgAt K H' p rs → WldOk rs → rs ≠ [] → Q (.ref p) H'
/-- earlier kinds as references -/
def Erl (K : PySem.W.Frag) (H : Hp) (es : List V) (rs : List Rk) : Prop := ∀ v ∈ es, ∃ q s, v = .ref q ∧ SqT K H q [.str "ref", .str s] ∧ ∃ (j : Nat) (r' : Rk), rs[j]? = some r' ∧ r'.1 = s
theorem Erl.keep {K : PySem.W.Frag} {H H' : Hp} {es : List V} {rs : List Rk} (s : KeepT K H H') (h : Erl K H es rs) : Erl K H' es rs := fun v hv => by
  obtain ⟨q, z, e, g, m⟩ := h v hv
  exact ⟨q, z, e, s _ _ g, m⟩
theorem names_nd {st : Int} (h0 : 0 ≤ st) (h4 : st < 4) : (namesOf st).Nodup ∧ (namesOf st).length = 20 := by
  have h : st = 0 ∨ st = 1 ∨ st = 2 ∨ st = 3 := by omega
  rcases h with rfl | rfl | rfl | rfl <;> decide +kernel
theorem names_sk {st : Int} (h0 : 0 ≤ st) (h4 : st < 4) : ∀ z ∈ namesOf st, PyData.strOk z = true := by
  rw [← List.all_eq_true]
  have h : st = 0 ∨ st = 1 ∨ st = 2 ∨ st = 3 := by omega
  rcases h with rfl | rfl | rfl | rfl <;> decide +kernel
section
variable {P : Program} {w : World} {K : PySem.W.Frag} {mg : Str → Option Value} {base : Heap}
theorem ok_l_number_kind (T : Txt w K mg) : FnOk P w K mg base CX0 3 T.a_l_number_kind T.d_l_number_kind p_l_number_kind (spNumKd K) := by
  have g_l_pick := ok_l_pick (P := P) (w := w) (base := base) T
  have g_l_one := ok_l_oneG (P := P) (w := w) (K := K) (base := base) T
  refine T.F_l_number_kind.ok sc_l_number_kind (fun vs H Q E h => ?_) (fun cdv A outer s H vs Q E hr h => ?_)
  · obtain ⟨a, rfl, _⟩ := h
    rfl
  obtain ⟨a, rfl, hS, q⟩ := h
  refine ⟨_, (pss_cons (ps_set (i := 1) sc_l_number_kind.nd rfl (Or.inl rfl) (pe_call g_l_one (hr.mono (by first | decide | omega)) rfl T.m_l_one T.F_l_one.kp T.b_l_one .nil pass0 (pa_cons (pv 0) (pa_cons (pe_lst (pa_cons pe_int (pa_cons pe_int (pa_cons (pe_un un_neg pe_int) (pa_cons pe_int (pa_cons pe_int (pa_cons pe_int (pa_cons (pe_un un_neg pe_int) pa_nil)))))))) pa_nil))))
      (pss_one (ps_ret (pe_tup (pa_cons pe_str (pa_cons (pv 1) (pa_cons (pe_op op_add (pv 1) (pe_call g_l_pick (hr.mono (by first | decide | omega)) rfl T.m_l_pick T.F_l_pick.kp T.b_l_pick .nil pass0 (pa_cons (pv 0) (pa_cons pe_int pa_nil)))) pa_nil))))))), ?_⟩
  refine ⟨_, rfl, _, rfl, _, rfl, by show 7 ≤ sizeLine; decide, fun l hl => ?_⟩
  have sl := Stp.of_same hS (Same.new hl (.lst ([0, 0, -3, 1, 5, 999999992, -1000000000].map V.int)))
  refine ⟨a, l, [0, 0, -3, 1, 5, 999999992, -1000000000].map V.int, false, rfl, sl.s, fun _ => (hS.ne hl).symm, SqL.of upd_same, by show 0 < 7; decide, by show 7 < 1000; decide, fun v H1 hv st1 => ?_⟩
  obtain ⟨k, _, rfl⟩ := List.mem_map.mp hv
  refine ⟨_, rfl, _, rfl, _, rfl, a, 8, rfl, st1.s, by decide, fun r H2 st2 r0 r1 => ⟨_, _, rfl, rfl, by show 3 ≤ sizeLine; decide, fun t ht => ?_⟩⟩
  exact q (.ref t) (.num k (k + r)) _ (((sl.trans st1).trans st2).new ht) ⟨t, rfl, SqT.of upd_same⟩ ⟨by omega, by omega⟩ rfl
theorem ok_l_world (T : Txt w K mg) : FnOk P w K mg base CX0 4 T.a_l_world T.d_l_world p_l_world (spWorld K) := by
  have g_l_pick := ok_l_pick (P := P) (w := w) (base := base) T
  have g_l_one := ok_l_oneG (P := P) (w := w) (K := K) (base := base) T
  have g_l_names := ok_l_names (P := P) (w := w) (base := base) T
  have g_l_number_kind := ok_l_number_kind (P := P) (w := w) (K := K) (base := base) T
  refine T.F_l_world.ok sc_l_world (fun vs H Q E h => ?_) (fun cdv A outer s H vs Q E hr h => ?_)
  · obtain ⟨a, sh, rfl, _⟩ := h
    rfl
  obtain ⟨a, sh, rfl, hS, sh0, sh8, q⟩ := h
  refine ⟨_, (pss_cons (ps_set (i := 2) sc_l_world.nd rfl (Or.inl rfl) (pe_call g_l_names (hr.mono (by first | decide | omega)) rfl T.m_l_names T.F_l_names.kp T.b_l_names .nil pass0 (pa_cons (pv 0) pa_nil)))
      (pss_cons (ps_set (i := 3) sc_l_world.nd rfl (Or.inl rfl) (pe_call g_l_pick (hr.mono (by first | decide | omega)) rfl T.m_l_pick T.F_l_pick.kp T.b_l_pick .nil pass0 (pa_cons (pv 0) (pa_cons pe_int pa_nil))))
      (pss_cons (ps_set (i := 2) sc_l_world.nd rfl (Or.inl rfl) (pe_op op_cat (pe_slice sl_list (pv 2) (po_some (pv 3)) po_none) (pe_slice sl_list (pv 2) po_none (po_some (pv 3)))))
      (C8.pss_cut (ps_if (pt_cmpR op_eq (pe_call g_l_pick (hr.mono (by first | decide | omega)) rfl T.m_l_pick T.F_l_pick.kp T.b_l_pick .nil pass0 (pa_cons (pv 0) (pa_cons pe_int pa_nil))) pe_int (nomark _)) (pss_one (ps_set (i := 2) sc_l_world.nd rfl (Or.inl rfl) (LRv.pe_listRev rfl rfl T.z_list rfl T.z_reversed (pv 2)))) pss_nil)
      (pss_cons (ps_set (i := 4) sc_l_world.nd rfl (Or.inl rfl) (pe_lst pa_nil))
      (pss_cons (ps_for PassesOwn.never rfl (pi_range1 rfl T.z_range (pa_cons (pe_ix ix_list (pe_lst (pa_cons pe_int (pa_cons pe_int (pa_cons pe_int (pa_cons pe_int (pa_cons pe_int (pa_cons pe_int (pa_cons pe_int (pa_cons pe_int pa_nil))))))))) (pv 1) (fun _ _ => rfl)) pa_nil)) (pg_name (i := 5) sc_l_world.nd rfl (Or.inl rfl))
        (pss_cons (ps_setLc (i := 6) (own := [("_law_record", 7)]) (g := gName 7) (tt := tYes) rfl sc_l_world.nd rfl rfl (sw_true rfl rfl rfl (by decide +kernel)) (pi_list (pv 4)) (blkOk_by (own := [("_law_record", 7)]) (N := n_l_world) (sc := defScope s_l_world) (by decide +kernel)) (fun _ _ _ _ _ => (pg_name (i := 7) sc_l_world.nd rfl (Or.inl rfl))) (fun _ _ _ _ _ => pts_nil) (fun _ _ _ _ _ => (pe_tup (pa_cons pe_str (pa_cons (pe_ix (show IxR _ (rIxT K) from ix_tup) (pv 7) pe_int (fun _ _ => rfl)) pa_nil)))))
      (pss_cons (ps_set (i := 8) sc_l_world.nd rfl (Or.inl rfl) (pe_call g_l_pick (hr.mono (by first | decide | omega)) rfl T.m_l_pick T.F_l_pick.kp T.b_l_pick .nil pass0 (pa_cons (pv 0) (pa_cons pe_int pa_nil))))
      (C8.pss_cut (ps_if (pt_cmpR op_eq (pv 1) pe_int (nomark _)) (pss_cons (ps_set (i := 6) sc_l_world.nd rfl (Or.inl rfl) (pe_slice sl_list (pv 6) (po_some (pe_un un_neg pe_int)) po_none))
      (pss_one (ps_set (i := 8) sc_l_world.nd rfl (Or.inl rfl) (pe_callB (call_max2 rfl) rfl T.z_max bb_max (pa_cons (pv 8) (pa_cons pe_int pa_nil)))))) pss_nil)
      (pss_cons (ps_set (i := 9) sc_l_world.nd rfl (Or.inl rfl) (pe_lst pa_nil))
      (pss_cons (ps_for PassesOwn.never rfl (pi_range1 rfl T.z_range (pa_cons (pv 8) pa_nil)) (pg_name (i := 10) sc_l_world.nd rfl (Or.inl rfl))
        (pss_cons (ps_set (i := 11) sc_l_world.nd rfl (Or.inl rfl) (pe_tup (pa_cons pe_str pa_nil)))
      (pss_cons (ps_set (i := 12) sc_l_world.nd rfl (Or.inl rfl) (pe_call g_l_pick (hr.mono (by first | decide | omega)) rfl T.m_l_pick T.F_l_pick.kp T.b_l_pick .nil pass0 (pa_cons (pv 0) (pa_cons pe_int pa_nil))))
      (C8.pss_cut (ps_if (pt_cmpR op_eq (pe_op op_modN (pe_callTy call_int1 rfl T.z_int bt_int (pa_cons (pv 12) pa_nil)) pe_int) pe_int (nomark _)) (pss_one (ps_set (i := 11) sc_l_world.nd rfl (Or.inl rfl) (pe_call g_l_number_kind (hr.mono (by first | decide | omega)) rfl T.m_l_number_kind T.F_l_number_kind.kp T.b_l_number_kind .nil pass0 (pa_cons (pv 0) pa_nil)))) pss_nil)
      (C8.pss_cut (ps_if (PW.pt (pw_and (pt_cmpR op_gt (pv 12) pe_int (nomark _)) (pw_and1 (pt_cmpR (op_neL0 hr.units0) (pv 6) (pe_lst pa_nil) (nomark _))))) (pss_one (ps_set (i := 11) sc_l_world.nd rfl (Or.inl rfl) (pe_call g_l_one (hr.mono (by first | decide | omega)) rfl T.m_l_one T.F_l_one.kp T.b_l_one .nil pass0 (pa_cons (pv 0) (pa_cons (pv 6) pa_nil))))) pss_nil)
      (pss_one (ps_expr (pe_bm PySem.F.plainAttrs_list PySem.F.slot_list_append PySem.F.type_list_append mt_append (pv 9) (pa_cons (pe_tup (pa_cons (pe_ix ix_list (pv 2) (pe_op op_add pe_int (pe_op op_modN (pe_callTy call_int1 rfl T.z_int bt_int (pa_cons (pe_op op_add (pe_op op_mul pe_int (pv 10)) (pv 5)) pa_nil)) pe_int)) (fun _ _ => rfl)) (pa_cons (pv 11) pa_nil))) pa_nil)))))))))
      (pss_one (ps_expr (pe_bm PySem.F.plainAttrs_list PySem.F.slot_list_append PySem.F.type_list_append mt_append (pv 4) (pa_cons (pe_tup (pa_cons (pe_ix ix_list (pv 2) (pv 5) (fun _ _ => rfl)) (pa_cons (pe_callTy call_tuple_of rfl T.z_tuple bt_tuple (pa_cons (pv 9) pa_nil)) pa_nil))) pa_nil))))))))))
      (pss_one (ps_ret (pe_tup (pa_cons (pe_callTy call_tuple_of rfl T.z_tuple bt_tuple (pa_cons (pv 4) pa_nil)) (pa_cons (pe_tup pa_nil) (pa_cons (pe_tup pa_nil) (pa_cons (pe_tup (pa_cons (pe_tup (pa_cons pe_str (pa_cons (pe_tup pa_nil) (pa_cons pe_non (pa_cons (pe_tup pa_nil) (pa_cons (pe_tup pa_nil) pa_nil)))))) pa_nil)) pa_nil))))))))))))), ?_⟩
  refine ⟨_, rfl, a, rfl, hS, fun st p H1 st1 hp1 h0 h4 hN => ?_⟩
  refine ⟨_, rfl, a, 20, rfl, st1.s, by decide, fun r H2 st2 r0 r1 => ?_⟩
  have np := lst_neS st1.s hN
  have hN2 := st2.k _ _ np hN
  have lN : (namesOf st).length = 20 := (names_nd h0 h4).2
  have ndN := (names_nd h0 h4).1
  have skN := names_sk h0 h4
  generalize namesOf st = ns at hN hN2 lN ndN skN
  refine ⟨_, rfl, _, rfl, r, rfl, p, _, rfl, SqL.of hN2, fun q1 hq1 => ?_⟩
  have k1 := Same.new hq1 (.lst (cutV (ns.map V.str) (some r) none))
  refine ⟨_, rfl, _, rfl, r, rfl, p, _, rfl, SqL.of (k1 _ _ hN2), fun q2 hq2 => ?_⟩
  have k2 := k1.trans (Same.new hq2 (.lst (cutV (ns.map V.str) none (some r))))
  have n12 : q1 ≠ q2 := ne_of_none upd_same hq2
  have hr2 : r.toNat ≤ (ns.map V.str).length := by rw [List.length_map]; omega
  refine ⟨q1, q2, _, _, rfl, rfl, by rw [upd_ne n12, upd_same], upd_same, ?_, fun ln hln => ?_⟩
  · have c1 := cutV_length (ns.map V.str) (some r) none
    have c2 := cutV_length (ns.map V.str) none (some r)
    have c3 : (ns.map V.str).length = 20 := by rw [List.length_map]; exact lN
    have c4 : (40 : Nat) ≤ sizeLine := by decide
    omega
  rw [cut_lo r0 hr2, cut_hi r0 hr2, ← List.map_drop, ← List.map_take, ← List.map_append] at *
  have pm : (ns.drop r.toNat ++ ns.take r.toNat).Perm ns := by
    have := @List.perm_append_comm _ (ns.drop r.toNat) (ns.take r.toNat)
    rw [List.take_append_drop] at this
    exact this
  have ndz : (ns.drop r.toNat ++ ns.take r.toNat).Nodup := pm.nodup_iff.mpr ndN
  have skz : ∀ z ∈ ns.drop r.toNat ++ ns.take r.toNat, PyData.strOk z = true := fun z hz => skN z (pm.mem_iff.mp hz)
  have lz : (ns.drop r.toNat ++ ns.take r.toNat).length = 20 := pm.length_eq.trans lN
  have stA := ((st1.trans st2).same k2).new (o := .lst ((ns.drop r.toNat ++ ns.take r.toNat).map V.str)) hln
  have eA : (upd (upd (upd H2 q1 (.lst ((ns.drop r.toNat).map V.str))) q2 (.lst ((ns.take r.toNat).map V.str))) ln (.lst ((ns.drop r.toNat ++ ns.take r.toNat).map V.str))) ln = some (.lst ((ns.drop r.toNat ++ ns.take r.toNat).map V.str)) := upd_same
  generalize (upd (upd (upd H2 q1 (.lst ((ns.drop r.toNat).map V.str))) q2 (.lst ((ns.take r.toNat).map V.str))) ln (.lst ((ns.drop r.toNat ++ ns.take r.toNat).map V.str))) = HA at stA eA
  generalize ns.drop r.toNat ++ ns.take r.toNat = zs0 at ndz lz eA skz
  clear pm hln hr2 n12 k2 hq2 k1 hq1 ndN lN hN2 st2 np hN h4 h0 hp1 st1
  refine ⟨fun σ G => ∃ (pn : Addr) (zs : List Str), Stp a H G ∧ G pn = some (.lst (zs.map V.str)) ∧ zs.Nodup ∧ zs.length = 20 ∧ (∀ z ∈ zs, PyData.strOk z = true) ∧ σ = [some (.ref a), some (.int sh), some (.ref pn), some (.int r), none, none, none, none, none, none, none, none, none], ?_, ?_⟩
  · refine ⟨_, rfl, a, 2, rfl, stA.s, by decide, fun r2 G2 st2 _ _ => ⟨rfl, _, rfl, ite2 (fun _ => ?_) (fun _ => ?_)⟩⟩
    · have e2 := st2.k _ _ (lst_neS stA.s eA) eA
      refine ⟨_, rfl, ln, _, rfl, SqL.of e2, fun q3 hq3 => ⟨q3, zs0.reverse, (stA.trans st2).new hq3, by rw [List.map_reverse]; exact upd_same, (List.reverse_perm zs0).nodup_iff.mpr ndz, by rw [List.length_reverse]; exact lz, fun z hz => skz z (List.mem_reverse.mp hz), rfl⟩⟩
    · exact ⟨ln, zs0, stA.trans st2, st2.k _ _ (lst_neS stA.s eA) eA, ndz, lz, skz, rfl⟩
  rintro σ G ⟨pn, zs, stG, ezs, nd, lz, sk, rfl⟩
  clear eA stA ndz
  refine ⟨by show 0 ≤ sizeLine; decide, fun lr hlr => ?_⟩
  have sr := Same.new hlr (.lst [])
  have stR := stG.same sr
  have eR : (upd G lr (.lst [])) lr = some (.lst ([].map V.ref)) := upd_same
  have ezR := sr _ _ ezs
  have nlr0 := stG.free hlr
  generalize (upd G lr (.lst [])) = G0 at stR eR ezR
  clear sr hlr ezs stG
  have npn := lst_neS stR.s ezR
  obtain ⟨c, ec, c1, c4⟩ : ∃ c : Int, atI ([4, 1, 3, 4, 2, 2, 3, 2].map V.int) sh = some (.int c) ∧ 1 ≤ c ∧ c ≤ 4 := by
    have h : sh = 0 ∨ sh = 1 ∨ sh = 2 ∨ sh = 3 ∨ sh = 4 ∨ sh = 5 ∨ sh = 6 ∨ sh = 7 := by omega
    rcases h with rfl | rfl | rfl | rfl | rfl | rfl | rfl | rfl <;> exact ⟨_, rfl, by decide, by decide⟩
  refine ⟨by show 8 ≤ sizeLine; decide, fun l8 hl8 => ⟨_, rfl, l8, [4, 1, 3, 4, 2, 2, 3, 2].map V.int, _, _, rfl, rfl, SqL.of upd_same, ec, c, rfl, by omega, by omega, ?_⟩⟩
  have st8 := stR.new (o := .lst ([4, 1, 3, 4, 2, 2, 3, 2].map V.int)) hl8
  have s8 := Same.new hl8 (.lst ([4, 1, 3, 4, 2, 2, 3, 2].map V.int))
  refine for_range (lo := 0) (fun i σ F => ∃ (rs : List Rk) (as : List Addr), Stp a H F ∧ F pn = some (.lst (zs.map V.str)) ∧ F lr = some (.lst (as.map V.ref)) ∧ RksAt K F as rs ∧ rs.length = i ∧ rs.map (·.1) = zs.take i ∧ (∀ r ∈ rs, r.2.length ≤ 5) ∧ (∀ r ∈ rs, ∀ f ∈ r.2, KOk f.2) ∧ RsRk rs ∧ ∃ v5 v6 v8 v9 v10 v11 v12 : Option V, σ = [some (.ref a), some (.int sh), some (.ref pn), some (.int r), some (.ref lr), v5, v6, none, v8, v9, v10, v11, v12])
    ⟨[], [], st8, s8 _ _ ezR, s8 _ _ eR, ⟨rfl, fun i a r e => by simp at e⟩, rfl, rfl, (fun r hr => by simp at hr), (fun r hr => by simp at hr), (fun i r e => by simp at e), none, none, none, none, none, none, none, rfl⟩ ?_ ?_
  · rintro i σ F hi ⟨rs, as, stF, ezF, eF, hrs, lrs, nrs, l5, kok, rrk, v5, v6, v8, v9, v10, v11, v12, rfl⟩
    have hi4 : i < 4 := by omega
    have nlr := lst_neR stF.s eF
    -- earlier
    refine ⟨_, rfl, lr, rfl, ⟨_, SqL.of eF⟩, fun D hD => ?_⟩
    have nD := stF.s.ne hD
    refine lc_it (walk_list (xs := as.map V.ref)) (fun j F2 => Same F F2 ∧ ∃ es : List V, F2 D = some (.lst es) ∧ es.length = j ∧ Erl K F2 es rs) ⟨Same.new hD _, [], upd_same, rfl, fun v hv => by simp at hv⟩ (fun j F2 _ P => SqL.of (P.1 _ _ eF)) ?_ ?_
    · rintro j x F2 F3 hj ⟨s2, es, eD, les, hes⟩ ⟨rfl, ex⟩
      rw [List.length_map] at hj
      have ea : as[j]? = some as[j] := List.getElem?_eq_getElem hj
      have hj2 : j < rs.length := by rw [← hrs.1]; exact hj
      have er : rs[j]? = some rs[j] := List.getElem?_eq_getElem hj2
      obtain ⟨pf, h1, _⟩ := hrs.2 j _ _ ea er
      rw [map_get ea] at ex
      obtain rfl := Option.some.inj ex
      refine ⟨rfl, tyes ?_⟩
      refine ⟨_, rfl, as[j], _, _, _, rfl, rfl, Same.tup s2 h1, rfl, by show 2 ≤ sizeLine; decide, fun t ht => ?_⟩
      have st := Same.new ht (.tup [.str "ref", .str rs[j].1])
      have eD3 := st _ _ eD
      refine ⟨es, eD3, lt_line (by omega), fun b u e => by rw [upd_ne (ne_of_none e hD)]; exact st _ _ (s2 _ _ e), _, upd_same, by rw [List.length_append, les]; rfl, fun v hv => ?_⟩
      rcases List.mem_append.mp hv with h | h
      · exact ((hes.keep (KeepT.of st)).keep (keepT_lst eD3)) v h
      · rw [List.mem_singleton.mp h]
        exact ⟨t, _, rfl, keepT_lst eD3 _ _ (SqT.of upd_same), j, _, er, rfl⟩
    rintro F2 ⟨s2, es, eD, les, hes⟩
    rw [List.length_map, hrs.1] at les
    have st2 := stF.same s2
    have nD2 : D ≠ a := nD.symm
    -- size
    refine ⟨_, rfl, a, 5, rfl, st2.s, by decide, fun sz F3 st3 sz0 sz1 => ?_⟩
    have eD3 := st3.k _ _ nD2 eD
    have hes3 := hes.keep (st3.keepT st2.s)
    have stF3 : Stp a F F3 := (Stp.of_same stF.s s2).trans st3
    refine ⟨fun σ F4 => ∃ (D4 : Addr) (es4 : List V) (sz4 : Int), Stp a F F4 ∧ F4 D4 = some (.lst es4) ∧ D4 ≠ a ∧ es4.length ≤ 4 ∧ Erl K F4 es4 rs ∧ 0 ≤ sz4 ∧ sz4 ≤ 5 ∧ σ = [some (.ref a), some (.int sh), some (.ref pn), some (.int r), some (.ref lr), some (.int (0 + (i : Int))), some (.ref D4), none, some (.int sz4), v9, v10, v11, v12], ?_, ?_⟩
    · refine ⟨_, rfl, rfl, _, rfl, ite2 (fun _ => ?_) (fun _ => ?_)⟩
      · refine ⟨_, rfl, _, rfl, _, rfl, D, _, rfl, SqL.of eD3, fun D5 hD5 => ?_⟩
        have s5 := Same.new hD5 (.lst (cutV es (some (-1)) none))
        refine ⟨_, rfl, _, _, rfl, ?_⟩
        refine ⟨D5, _, _, stF3.same s5, upd_same, (st3.s.ne hD5).symm, ?_, fun v hv => (hes3.keep (KeepT.of s5)) v (cutV_sub v hv), ?_, ?_, rfl⟩
        · have := cutV_length es (some (-1)) none
          omega
        · split <;> omega
        · split <;> omega
      · exact ⟨D, es, sz, stF3, eD3, nD2, by omega, hes3, sz0, by omega, rfl⟩
    clear hes3 eD3 st3 st2 eD hes les s2 stF3 nD2 nD hD es D
    rintro σ F4 ⟨D, es, sz, stF4, eD, nD, les, hes, sz0, sz5, rfl⟩
    -- fields
    refine ⟨by show 0 ≤ sizeLine; decide, fun fl hfl => ?_⟩
    have sf := Same.new hfl (.lst [])
    have st4 := stF4.s
    refine ⟨_, rfl, sz, rfl, by omega, by omega, for_range (lo := 0) (fun k σ F5 => ∃ (fs : List (Str × Kd)) (bs : List Addr), Stp a F4 F5 ∧ F5 fl = some (.lst (bs.map V.ref)) ∧ FdsAt K F5 bs fs ∧ fs.length = k ∧ (∀ f ∈ fs, KOk f.2) ∧ (∀ f ∈ fs, ∀ s, f.2 = .ref s → ∃ (j : Nat) (r' : Rk), rs[j]? = some r' ∧ r'.1 = s) ∧ ∃ v10 v11 v12 : Option V, σ = [some (.ref a), some (.int sh), some (.ref pn), some (.int r), some (.ref lr), some (.int (0 + (i : Int))), some (.ref D), none, some (.int sz), some (.ref fl), v10, v11, v12])
      ⟨[], [], Stp.of_same st4 sf, upd_same, ⟨rfl, fun i b f e => by simp at e⟩, rfl, (fun f hf => by simp at hf), (fun f hf => by simp at hf), _, _, _, rfl⟩ ?_ ?_⟩
    · rintro k σ F5 hk ⟨fs, bs, st5, efl, hfs, lfs, fok, frf, w10, w11, w12, rfl⟩
      have hk5 : k < 5 := by omega
      have nfl := lst_neR st5.s efl
      refine ⟨by show 1 ≤ sizeLine; decide, fun t1 ht1 => ?_⟩
      have s1 := Same.new ht1 (.tup [.str "flag"])
      have k1 : KdAt K (upd F5 t1 (.tup [.str "flag"])) (.ref t1) .flag := ⟨t1, rfl, SqT.of upd_same⟩
      have st6 := Stp.of_same st5.s s1
      generalize (upd F5 t1 (.tup [.str "flag"])) = F6 at s1 k1 st6
      refine ⟨_, rfl, a, 6, rfl, st6.s, by decide, fun ch F7 st7 ch0 ch1 => ?_⟩
      have st57 := st6.trans st7
      have k17 := k1.keep (st7.keepT st6.s)
      refine ⟨fun σ F8 => ∃ v kd, Stp a F5 F8 ∧ KdAt K F8 v kd ∧ KOk kd ∧ kd.isRef = false ∧ σ = [some (.ref a), some (.int sh), some (.ref pn), some (.int r), some (.ref lr), some (.int (0 + (i : Int))), some (.ref D), none, some (.int sz), some (.ref fl), some (.int (0 + (k : Int))), some v, some (.int ch)], ?_, ?_⟩
      · refine ⟨_, rfl, .inl ⟨ch, rfl, _, _, rfl, rfl, (by intro z; cases z), rfl, _, rfl, ite2 (fun _ => ?_) (fun _ => ?_)⟩⟩
        · exact ⟨_, rfl, a, rfl, st7.s, fun v kd F8 st8 hv kok krf => ⟨v, kd, st57.trans st8, hv, kok, krf, rfl⟩⟩
        · exact ⟨.ref t1, .flag, st57, k17, trivial, rfl, rfl⟩
      clear k17 st57 st7 st6 k1 s1 ht1
      rintro σ F8 ⟨v, kd, st8, hv, kok8, krf, rfl⟩
      have efl8 := st8.k _ _ nfl efl
      refine ⟨fun σ F9 => ∃ v kd, Stp a F5 F9 ∧ KdAt K F9 v kd ∧ KOk kd ∧ (∀ s, kd = .ref s → ∃ (j : Nat) (r' : Rk), rs[j]? = some r' ∧ r'.1 = s) ∧ σ = [some (.ref a), some (.int sh), some (.ref pn), some (.int r), some (.ref lr), some (.int (0 + (i : Int))), some (.ref D), none, some (.int sz), some (.ref fl), some (.int (0 + (k : Int))), some v, some (.int ch)], ?_, ?_⟩
      · have keepOld : ∀ {F9 : Hp}, Stp a F8 F9 → ∃ v' kd', Stp a F5 F9 ∧ KdAt K F9 v' kd' ∧ KOk kd' ∧ (∀ s, kd' = .ref s → ∃ (j : Nat) (r' : Rk), rs[j]? = some r' ∧ r'.1 = s) ∧ [some (.ref a), some (.int sh), some (.ref pn), some (.int r), some (.ref lr), some (.int (0 + (i : Int))), some (.ref D), none, some (.int sz), some (.ref fl), some (.int (0 + (k : Int))), some v, some (.int ch)] = [some (.ref a), some (.int sh), some (.ref pn), some (.int r), some (.ref lr), some (.int (0 + (i : Int))), some (.ref D), none, some (.int sz), some (.ref fl), some (.int (0 + (k : Int))), some v', some (.int ch)] := fun {F9} s9 =>
          ⟨v, kd, st8.trans s9, hv.keep (s9.keepT st8.s), kok8, fun s e => (by rw [e] at krf; cases krf), rfl⟩
        refine ⟨_, rfl, _, _, rfl, rfl, _, rfl, ite2 (fun _ => ⟨_, rfl, by show 0 ≤ sizeLine; decide, fun e0 he => ?_⟩) (fun _ => iteF (keepOld (Stp.refl st8.s)))⟩
        have se := Same.new he (.lst [])
        have eD8 := (st5.trans st8).k _ _ nD eD
        have hes8 := hes.keep ((st5.trans st8).keepT st4)
        have stE := Stp.of_same st8.s se
        refine ⟨D, e0, _, rfl, rfl, SqL.of (se _ _ eD8), SqL.of upd_same, _, rfl, ite2 (fun hne => ?_) (fun _ => keepOld stE)⟩
        have nes : es ≠ [] := fun z => by
          subst z
          exact absurd hne (by decide)
        refine ⟨_, rfl, _, rfl, a, D, es, false, rfl, stE.s, fun _ => nD, SqL.of (se _ _ eD8), List.length_pos_iff.mpr nes, by omega, fun u F9 hu st9 => ?_⟩
        obtain ⟨q9, s9, rfl, hq9, mem⟩ := ((hes8.keep (KeepT.of se)).keep (st9.keepT stE.s)) u hu
        exact ⟨.ref q9, .ref s9, st8.trans (stE.trans st9), ⟨q9, rfl, hq9⟩, trivial, fun s e => by cases e; exact mem, rfl⟩
      clear hv kok8 krf efl8 st8
      rintro σ F9 ⟨v, kd, st9, hv, kok9, mem, rfl⟩
      have efl9 := st9.k _ _ nfl efl
      have hfs9 := hfs.keep (st9.keepT st5.s)
      have ez9 := ((stF4.trans st5).trans st9).k _ _ npn ezF
      refine ⟨_, rfl, .inl ⟨rfl, _, SqL.of efl9⟩, ?_⟩
      obtain ⟨m, em, m0, m7⟩ : ∃ m : Int, m = (3 * (0 + (k : Int)) + (0 + (i : Int))) % 7 ∧ 0 ≤ m ∧ m < 7 := ⟨_, rfl, by omega, by omega⟩
      have em2 : (3 * (0 + (k : Int)) + (0 + (i : Int))).fmod 7 = m := by rw [Int.fmod_eq_emod_of_nonneg _ (by decide)]; exact em.symm
      refine ⟨_, rfl, _, rfl, _, _, rfl, rfl, .inl ⟨by decide, by decide⟩, _, rfl, _, _, rfl, rfl, .inl ⟨_, rfl, _, _, rfl, rfl, (by intro z; cases z), _, _, rfl, rfl, ?_⟩⟩
      rw [em2]
      have hix : (4 + m).toNat < (zs.map V.str).length := by rw [List.length_map]; omega
      refine ⟨pn, _, _, _, rfl, rfl, SqL.of ez9, atI_int (by omega) hix, _, rfl, by show 2 ≤ sizeLine; decide, fun t2 ht2 => ?_⟩
      have s2 := Same.new ht2 (.tup [(zs.map V.str)[(4 + m).toNat], v])
      obtain ⟨zn, ezn⟩ : ∃ zn, (zs.map V.str)[(4 + m).toNat] = .str zn := ⟨_, List.getElem_map _⟩
      rw [ezn] at s2 ⊢
      have efl10 := s2 _ _ efl9
      refine ⟨fl, _, _, rfl, rfl, efl10, lt_line (by rw [List.length_map, hfs.1]; omega), ?_⟩
      have pushed := (hfs9.keep (KeepT.of s2)).push (b := t2) (f := (zn, kd)) (kv := v) (SqT.of upd_same) (hv.keep (KeepT.of s2))
      refine ⟨fs ++ [(zn, kd)], bs ++ [t2], ((st5.trans st9).same s2).put st4 hfl, by rw [List.map_append]; exact upd_same, pushed.keep (keepT_lst efl10), by rw [List.length_append, lfs]; rfl, fun f hf => ?_, fun f hf => ?_, _, _, _, rfl⟩
      · rcases List.mem_append.mp hf with h | h
        · exact fok f h
        · rw [List.mem_singleton.mp h]; exact kok9
      · rcases List.mem_append.mp hf with h | h
        · exact frf f h
        · rw [List.mem_singleton.mp h]; exact mem
    · rintro σ F5 ⟨fs, bs, st5, efl, hfs, lfs, fok, frf, w10, w11, w12, rfl⟩
      have stF5 := stF4.trans st5
      have eF5 := stF5.k _ _ nlr eF
      have ez5 := stF5.k _ _ npn ezF
      have hrs5 := hrs.keep (stF5.keepT stF.s)
      have lfs5 : fs.length ≤ 5 := by omega
      refine ⟨_, rfl, .inl ⟨rfl, _, SqL.of eF5⟩, ?_⟩
      have hz : i < zs.length := by omega
      have ezi : zs[i]? = some zs[i] := List.getElem?_eq_getElem hz
      have tz : zs.take (i + 1) = zs.take i ++ [zs[i]] := by
        rw [List.take_add_one, ezi]
        rfl
      generalize zs[i] = zi at ezi tz
      refine ⟨_, rfl, _, rfl, pn, _, _, _, rfl, rfl, SqL.of ez5, (by rw [Int.zero_add]; exact atI_nat (map_get ezi)), _, rfl, fl, _, rfl, .inl ⟨SqL.of efl, fun t1 ht1 => ⟨by show 2 ≤ sizeLine; decide, fun t2 ht2 => ?_⟩⟩⟩
      have s1 := Same.new ht1 (.tup (bs.map V.ref))
      have s2 := Same.new ht2 (.tup [.str zi, .ref t1])
      have s12 := s1.trans s2
      have eF7 := s12 _ _ eF5
      have hfs7 := hfs.keep (KeepT.of s12)
      have rk7 : RkAt K (upd (upd F5 t1 (.tup (bs.map V.ref))) t2 (.tup [.str zi, .ref t1])) t2 (zi, fs) := ⟨t1, SqT.of upd_same, bs, SqT.of (s2 _ _ upd_same), hfs7.1, hfs7.2⟩
      have pushed := (hrs5.keep (KeepT.of s12)).push rk7
      refine ⟨lr, _, _, rfl, rfl, eF7, lt_line (by rw [List.length_map, hrs.1]; omega), ?_⟩
      refine ⟨rs ++ [(zi, fs)], as ++ [t2], ((stF.trans stF5).same s12).put hS nlr0, ?_, by rw [List.map_append]; exact upd_same, pushed.keep (keepT_lst eF7), by rw [List.length_append, lrs]; rfl, by rw [List.map_append, nrs, tz]; rfl, fun r' hr' => ?_, fun r' hr' => ?_, fun j r' e f hf s es => ?_, _, _, _, _, _, _, _, rfl⟩
      · rw [upd_ne (fun z => by rw [z, eF] at ezF; have := HO.lst.inj (Option.some.inj ezF); cases zs with
          | nil => simp at lz
          | cons x y => cases as with
            | nil => cases this
            | cons u v => rw [List.map_cons, List.map_cons] at this; cases this)]
        exact s12 _ _ ez5
      · rcases List.mem_append.mp hr' with h | h
        · exact l5 r' h
        · rw [List.mem_singleton.mp h]; exact lfs5
      · rcases List.mem_append.mp hr' with h | h
        · exact kok r' h
        · rw [List.mem_singleton.mp h]; exact fok
      · rcases two_get e with ⟨lj, e⟩ | ⟨rfl, rfl⟩
        · obtain ⟨j2, r2, a1, a2, a3⟩ := rrk j r' e f hf s es
          exact ⟨j2, r2, a1, by rw [List.getElem?_append_left (List.getElem?_eq_some_iff.mp a2).1]; exact a2, a3⟩
        · obtain ⟨j2, r2, a2, a3⟩ := frf f hf s es
          have := (List.getElem?_eq_some_iff.mp a2).1
          exact ⟨j2, r2, this, by rw [List.getElem?_append_left this]; exact a2, a3⟩
  · rintro σ F ⟨rs, as, stF, ezF, eF, hrs, lrs, nrs, l5, kok, rrk, v5, v6, v8, v9, v10, v11, v12, rfl⟩
    have lrs4 : rs.length ≤ 4 ∧ 1 ≤ rs.length := by omega
    refine ⟨_, rfl, lr, _, rfl, .inl ⟨SqL.of eF, fun t1 ht1 => ?_⟩⟩
    have s1 := Same.new ht1 (.tup (as.map V.ref))
    refine ⟨by show 0 ≤ sizeLine; decide, fun t2 ht2 => ⟨by show 0 ≤ sizeLine; decide, fun t3 ht3 => ⟨by show 0 ≤ sizeLine; decide, fun t4 ht4 => ⟨by show 0 ≤ sizeLine; decide, fun t5 ht5 => ⟨by show 0 ≤ sizeLine; decide, fun t6 ht6 => ⟨by show 5 ≤ sizeLine; decide, fun t7 ht7 => ⟨by show 1 ≤ sizeLine; decide, fun t8 ht8 => ⟨by show 4 ≤ sizeLine; decide, fun t9 ht9 => ?_⟩⟩⟩⟩⟩⟩⟩⟩
    have k28 := ((((((Same.new ht2 (.tup [])).trans (Same.new ht3 (.tup []))).trans (Same.new ht4 (.tup []))).trans (Same.new ht5 (.tup []))).trans (Same.new ht6 (.tup []))).trans (Same.new ht7 (.tup [.str "main", .ref t4, .non, .ref t5, .ref t6]))).trans (Same.new ht8 (.tup [.ref t7]))
    have k9 := Same.new ht9 (.tup [.ref t1, .ref t2, .ref t3, .ref t8])
    have k29 := k28.trans k9
    refine q t9 rs _ ((stF.same s1).same k29) ⟨t1, _, _, _, as, SqT.of upd_same, SqT.of (k29 _ _ upd_same), hrs.1, (hrs.keep (KeepT.of (s1.trans k29))).2⟩ ⟨by rw [nrs]; exact (List.take_sublist _ _).nodup nd, lrs4.1, l5, kok, rrk, fun r hr => sk r.1 (List.mem_of_mem_take (by rw [← nrs]; exact List.mem_map.mpr ⟨r, hr, rfl⟩))⟩ (List.ne_nil_of_length_pos (by omega))
end
/-! ### keys: drawn heaps -/
structure RcG (rs : List Rk) (R : List Rc) (r : Rc) : Prop where
  m : ∃ k ∈ rs, k.1 = r.nm
  l : r.live = true → r.vals.length = (flOf rs r.nm).length
  d : r.live = false → r.vals = []
  v : ∀ k s, k < r.vals.length → (flOf rs r.nm).getD k .flag = .ref s → r.vals.getD k .non = .non ∨ ∃ (j : Nat) (r' : Rc), r.vals.getD k .non = .int (j : Int) ∧ R[j]? = some r' ∧ r'.nm = s
  f : ∀ v ∈ r.vals, Flat3 v
theorem RcG.up {rs : List Rk} {R R' : List Rc} {r : Rc} (e : ∀ (j : Nat) (r' : Rc), R[j]? = some r' → R'[j]? = some r') (h : RcG rs R r) : RcG rs R' r :=
  ⟨h.m, h.l, h.d, fun k s hk hs => (h.v k s hk hs).imp_right fun ⟨j, r', e1, e2, e3⟩ => ⟨j, r', e1, e j r' e2, e3⟩, h.f⟩
structure HpG (rs : List Rk) (R : List Rc) : Prop where
  rc : ∀ r ∈ R, RcG rs R r
  ln : R.length ≤ 100
def rkOf (rs : List Rk) (R : List Rc) (i : Nat) : Nat := match R[i]? with
  | some r => (rs.map (·.1)).idxOf r.nm
  | none => 0
theorem isRef_eq {k : Kd} (h : k.isRef = true) : ∃ s, k = .ref s := by
  cases k with
  | flag => cases h
  | ref s => exact ⟨s, rfl⟩
  | num a b => cases h
theorem HpG.ok {rs : List Rk} {R : List Rc} (w : WldOk rs) (h : HpG rs R) : HpOk rs R (rkOf rs R) := by
  have ln : ∀ i : Nat, ∀ j ∈ nbR rs R i, ∃ r r' k s, R[i]? = some r ∧ R[j]? = some r' ∧ k < r.vals.length ∧ (flOf rs r.nm).getD k .flag = .ref s ∧ r'.nm = s ∧ r.live = true := fun i j hj => by
    unfold nbR at hj
    cases e : R[i]? with
    | none => rw [e] at hj; simp at hj
    | some r =>
      rw [e] at hj
      have hj : j ∈ (if r.live then refsAt r.vals (refPl (flOf rs r.nm)) else []) := hj
      have g := h.rc r (List.mem_of_getElem? e)
      cases hl : r.live with
      | false => rw [hl] at hj; simp at hj
      | true =>
        rw [hl, if_pos rfl] at hj
        unfold refsAt at hj
        obtain ⟨k, hk, ek⟩ := List.mem_filterMap.mp hj
        have mk := mem_refPl.mp hk
        obtain ⟨s, es⟩ := isRef_eq mk.2
        have hk2 : k < r.vals.length := by rw [g.l hl]; exact mk.1
        rcases g.v k s hk2 es with v | ⟨j', r', v, e2, e3⟩
        · rw [v] at ek
          cases ek
        · rw [v] at ek
          have ek : (j' : Int).toNat = j := Option.some.inj ek
          have : j' = j := by omega
          subst this
          exact ⟨r, r', k, s, rfl, e2, hk2, es, e3, hl⟩
  refine ⟨w.pok, fun r hr => ?_, ⟨fun i => ?_, fun i j hj => ?_, fun i j hj => ?_, fun i => ?_⟩, h.ln⟩
  · have g := h.rc r hr
    refine ⟨g.m, g.l, g.d, fun k hk hrf => ?_, g.f⟩
    obtain ⟨s, es⟩ := isRef_eq hrf
    rcases g.v k s hk es with v | ⟨j, r', v, e, _⟩
    · exact .inl v
    · exact .inr ⟨j, v, (List.getElem?_eq_some_iff.mp e).1⟩
  · unfold rkOf
    have l4 := w.l
    cases R[i]? with
    | none => exact (by decide : (0:Nat) < 8)
    | some r =>
      have := List.idxOf_le_length (l := rs.map (·.1)) (a := r.nm)
      rw [List.length_map] at this
      show (rs.map (·.1)).idxOf r.nm < 8
      omega
  · obtain ⟨r, r', k, s, e1, e2, hk, es, en, hl⟩ := ln i j hj
    unfold rkOf
    rw [e1, e2]
    show (rs.map (·.1)).idxOf r'.nm < (rs.map (·.1)).idxOf r.nm
    have g := h.rc r (List.mem_of_getElem? e1)
    obtain ⟨k0, mk0, ek0⟩ := g.m
    have efl : flOf rs r.nm = k0.2.map (·.2) := by rw [← ek0]; exact flOf_mem w.nd mk0
    rw [efl] at es
    have hk2 : k < k0.2.length := by
      have := g.l hl
      rw [efl, List.length_map] at this
      omega
    have ef : k0.2[k]? = some k0.2[k] := List.getElem?_eq_getElem hk2
    have es2 : k0.2[k].2 = .ref s := by
      rw [List.getD_eq_getElem?_getD, List.getElem?_map, ef] at es
      exact es
    obtain ⟨i0, hi0, ei0⟩ := List.getElem_of_mem mk0
    obtain ⟨j0, r0, lt, er0, en0⟩ := w.rk i0 k0 (by rw [List.getElem?_eq_getElem hi0, ei0]) _ (List.getElem_mem hk2) s es2
    have idx : ∀ {m : Nat} {q : Rk}, rs[m]? = some q → (rs.map (·.1)).idxOf q.1 = m := fun {m q} e => by
      have hm := (List.getElem?_eq_some_iff.mp e).1
      have e2 := (List.getElem?_eq_some_iff.mp e).2
      have := w.nd.idxOf_getElem m (by rw [List.length_map]; exact hm)
      rw [List.getElem_map, e2] at this
      exact this
    rw [en, ← en0, idx er0, ← ek0, idx (by rw [List.getElem?_eq_getElem hi0, ei0])]
    exact lt
  · obtain ⟨r, r', k, s, e1, e2, _⟩ := ln i j hj
    exact (List.getElem?_eq_some_iff.mp e2).1
  · unfold nbR
    cases R[i]? with
    | none => exact Nat.zero_le _
    | some r =>
      show (if r.live then refsAt r.vals (refPl (flOf rs r.nm)) else []).length ≤ 20
      split
      · unfold refsAt
        have := List.length_filterMap_le (fun i => asNat (r.vals.getD i .non)) (refPl (flOf rs r.nm))
        have := refPl_len (ks := flOf rs r.nm)
        have := flOf_len w.pok (z := r.nm)
        omega
      · exact Nat.zero_le _
def movE (rs : List Rk) (R : List Rc) (o : List Nat) (k : Nat) : Rc := match R[k]? with
  | some r => ⟨r.nm, r.live, trL (flOf rs r.nm) r.vals o⟩
  | none => ⟨"", false, []⟩
def movR (rs : List Rk) (R : List Rc) (o : List Nat) : List Rc := o.map (movE rs R o)
theorem trL_len {ks : List Kd} {vs : List V} {o : List Nat} : (trL ks vs o).length = vs.length := by
  unfold trL
  rw [List.length_map, List.length_range]
theorem trL_getD {ks : List Kd} {vs : List V} {o : List Nat} {k : Nat} (h : k < vs.length) : (trL ks vs o).getD k .non = if (ks.getD k .flag).isRef then trAt o (vs.getD k .non) else vs.getD k .non := by
  unfold trL
  rw [List.getD_eq_getElem?_getD, List.getElem?_map, List.getElem?_range h]
  rfl
theorem HpG.mov {rs : List Rk} {R : List Rc} {o : List Nat} (h : HpG rs R) (pm : o.Perm (List.range R.length)) : HpG rs (movR rs R o) := by
  have mo : ∀ k, k ∈ o ↔ k < R.length := fun k => by rw [pm.mem_iff, List.mem_range]
  refine ⟨fun r hr => ?_, by unfold movR; rw [List.length_map, pm.length_eq, List.length_range]; exact h.ln⟩
  unfold movR at hr
  obtain ⟨k, hk, rfl⟩ := List.mem_map.mp hr
  have hkR := (mo k).mp hk
  have e : R[k]? = some R[k] := List.getElem?_eq_getElem hkR
  have g := h.rc _ (List.getElem_mem hkR)
  have em : movE rs R o k = ⟨R[k].nm, R[k].live, trL (flOf rs R[k].nm) R[k].vals o⟩ := by
    unfold movE
    rw [e]
  rw [em]
  generalize R[k] = r at g
  refine ⟨g.m, fun hl => by rw [trL_len]; exact g.l hl, fun hl => by show trL _ r.vals o = []; rw [g.d hl]; rfl, fun m s hm hs => ?_, trL_flat g.f⟩
  have hm : m < r.vals.length := by rwa [trL_len] at hm
  have hs : (flOf rs r.nm).getD m .flag = .ref s := hs
  show (trL (flOf rs r.nm) r.vals o).getD m .non = .non ∨ _
  rw [trL_getD hm, hs, if_pos (show (Kd.ref s).isRef = true from rfl)]
  rcases g.v m s hm hs with v | ⟨j, r', v, e2, e3⟩
  · rw [v]
    exact .inl rfl
  · rw [v]
    have hj := (mo j).mpr (List.getElem?_eq_some_iff.mp e2).1
    have li := List.idxOf_lt_length_iff.mpr hj
    refine .inr ⟨o.idxOf j, movE rs R o j, rfl, ?_, ?_⟩
    · unfold movR
      rw [List.getElem?_map, List.getElem?_eq_getElem li, List.getElem_idxOf]
      rfl
    · unfold movE
      rw [e2]
      exact e3
theorem HpG.rep {rs : List Rk} {R : List Rc} (h : HpG rs R) (n : Nat) (l : R.length * (n + 1) ≤ 100) : HpG rs (List.replicate (n + 1) R).flatten := by
  refine ⟨fun r hr => ?_, ?_⟩
  · obtain ⟨q, hq, hr⟩ := List.mem_flatten.mp hr
    rw [List.eq_of_mem_replicate hq] at hr
    refine (h.rc r hr).up fun j r' e => ?_
    rw [List.replicate_succ, List.flatten_cons, List.getElem?_append_left (List.getElem?_eq_some_iff.mp e).1]
    exact e
  · rw [List.length_flatten, List.map_replicate, List.sum_replicate_nat, Nat.mul_comm]
    exact l
def DrV (R : List Rc) : Kd → V → Prop
  | .flag, u => ∃ b, u = .bl b
  | .num _ _, u => ∃ i, u = .int i
  | .ref s, u => u = .non ∨ ∃ (j : Nat) (r : Rc), u = .int (j : Int) ∧ R[j]? = some r ∧ r.nm = s
theorem DrV.flat {R : List Rc} {kd : Kd} {u : V} (h : DrV R kd u) : Flat3 u := by
  cases kd with
  | flag => obtain ⟨b, rfl⟩ := h; exact .inr (.inl ⟨b, rfl⟩)
  | num a b => obtain ⟨i, rfl⟩ := h; exact .inr (.inr ⟨i, rfl⟩)
  | ref s =>
    rcases h with rfl | ⟨j, r, rfl, _⟩
    · exact .inl rfl
    · exact .inr (.inr ⟨_, rfl⟩)
theorem RunAt.stp {K : PySem.W.Frag} {a : Addr} {H H' : Hp} {d : Addr} {rs : List Rk} {R : List Rc} (s : Stp a H H') (hS : Src H a) (h : RunAt K a H d rs R) : RunAt K a H' d rs R := h.but (fun b o ne e => s.k b o ne e) (s.keepT hS)
def spShuf : Sp := fun vs H Q _ => ∃ (a : Addr) (n : Nat), vs = [.ref a, .int (n : Int)] ∧ Src H a ∧ n ≤ 100 ∧ ∀ l o H', Stp a H H' → H l = none → H' l = some (.lst (natsV o)) → o.Perm (List.range n) → Q (.ref l) H'
def spDrawn (K : PySem.W.Frag) : Sp := fun vs H Q _ => ∃ (a dr : Addr) (v : V) (kd : Kd) (rs : List Rk) (R : List Rc), vs = [.ref a, .ref dr, v] ∧ Src H a ∧ RunAt K a H dr rs R ∧ KdAt K H v kd ∧ KOk kd ∧ R.length ≤ 100 ∧ ∀ u H', Stp a H H' → DrV R kd u → Q u H'
theorem natsV_ne {a p : Addr} {H : Hp} {l : List Nat} (h : Src H a) (n : ∀ c m k : Int, natsV l ≠ [.int c, .int m, .int k]) (e : H p = some (.lst (natsV l))) : p ≠ a := fun z => by
  obtain ⟨c, m, k, hs⟩ := h
  rw [z, hs] at e
  exact n c m k (HO.lst.inj (Option.some.inj e)).symm
section
variable {P : Program} {w : World} {K : PySem.W.Frag} {mg : Str → Option Value} {base : Heap}
theorem ok_l_shuffled (T : Txt w K mg) : FnOk P w K mg base CX0 2 T.a_l_shuffled T.d_l_shuffled p_l_shuffled spShuf := by
  have g_l_pick := ok_l_pick (P := P) (w := w) (base := base) T
  refine T.F_l_shuffled.ok sc_l_shuffled (fun vs H Q E h => ?_) (fun cdv A outer s H vs Q E hr h => ?_)
  · obtain ⟨a, n, rfl, _⟩ := h
    rfl
  obtain ⟨a, n, rfl, hS, hn, q⟩ := h
  refine ⟨_, (pss_cons (ps_set (i := 2) sc_l_shuffled.nd rfl (Or.inl rfl) (pe_lst pa_nil))
      (pss_cons (ps_for PassesOwn.never rfl (pi_range1 rfl T.z_range (pa_cons (pv 1) pa_nil)) (pg_name (i := 3) sc_l_shuffled.nd rfl (Or.inl rfl))
        (pss_one (ps_expr (pe_bm PySem.F.plainAttrs_list PySem.F.slot_list_insert PySem.F.type_list_insert mt_insert (pv 2) (pa_cons (pe_call g_l_pick (hr.mono (by first | decide | omega)) rfl T.m_l_pick T.F_l_pick.kp T.b_l_pick .nil pass0 (pa_cons (pv 0) (pa_cons (pe_op op_add (pv 3) pe_int) pa_nil))) (pa_cons (pv 3) pa_nil))))))
      (pss_one (ps_ret (pv 2))))), ?_⟩
  refine ⟨by show 0 ≤ sizeLine; decide, fun l hl => ?_⟩
  have sl := Same.new hl (.lst [])
  have nla : l ≠ a := (hS.ne hl).symm
  refine ⟨_, rfl, (n : Int), rfl, by omega, by omega, for_range (lo := 0) (n := n) (fun i σ G => ∃ o : List Nat, Stp a H G ∧ G l = some (.lst (natsV o)) ∧ o.Perm (List.range i) ∧ ∃ v3 : Option V, σ = [some (.ref a), some (.int (n : Int)), some (.ref l), v3]) ⟨[], Stp.of_same hS sl, upd_same, .nil, none, rfl⟩ ?_ ?_⟩
  · rintro i σ G hi ⟨o, st, eo, pm, v3, rfl⟩
    have lo : o.length = i := by rw [pm.length_eq, List.length_range]
    refine ⟨_, rfl, .inl ⟨rfl, _, SqL.of eo⟩, ?_⟩
    refine ⟨_, rfl, _, rfl, _, _, rfl, rfl, a, _, rfl, st.s, by omega, fun r G2 st2 r0 r1 => ?_⟩
    have eo2 := st2.k _ _ nla eo
    refine ⟨_, rfl, l, _, r, _, rfl, rfl, eo2, by rw [natsV_len]; exact lt_line (by omega), r0, by omega, ?_⟩
    have e2 : (natsV o).take r.toNat ++ [V.int (0 + (i : Int))] ++ (natsV o).drop r.toNat = natsV (o.take r.toNat ++ [i] ++ o.drop r.toNat) := by
      unfold natsV
      rw [List.map_append, List.map_append, List.map_take, List.map_drop, Int.zero_add]
      rfl
    rw [e2]
    refine ⟨_, (st.trans st2).put hS hl, upd_same, ?_, _, rfl⟩
    have p1 : (o.take r.toNat ++ [i] ++ o.drop r.toNat).Perm (o ++ [i]) := by
      have p2 : (o.take r.toNat ++ ([i] ++ o.drop r.toNat)).Perm (o.take r.toNat ++ (o.drop r.toNat ++ [i])) := List.Perm.append_left _ List.perm_append_comm
      rw [← List.append_assoc, ← List.append_assoc, List.take_append_drop] at p2
      exact p2
    rw [List.range_succ]
    exact p1.trans (List.Perm.append_right _ pm)
  · rintro σ G ⟨o, st, eo, pm, v3, rfl⟩
    exact ⟨_, rfl, q l o G st hl eo pm⟩
theorem ok_l_drawn_value (T : Txt w K mg) : FnOk P w K mg base CX0 3 T.a_l_drawn_value T.d_l_drawn_value p_l_drawn_value (spDrawn K) := by
  have g_l_pick := ok_l_pick (P := P) (w := w) (base := base) T
  have g_l_one := ok_l_oneG (P := P) (w := w) (K := K) (base := base) T
  refine T.F_l_drawn_value.ok sc_l_drawn_value (fun vs H Q E h => ?_) (fun cdv A outer s H vs Q E hr h => ?_)
  · obtain ⟨a, dr, v, kd, rs, R, rfl, _⟩ := h
    rfl
  obtain ⟨a, dr, v, kd, rs, R, rfl, hS, hrun, ⟨p, rfl, hp⟩, kok, lR, q⟩ := h
  refine ⟨_, (pss_cons (ps_if (pt_cmpR op_eq (pe_ix ix_tup (pv 2) pe_int (fun _ _ => rfl)) pe_str (nomark _)) (pss_one (ps_ret (pe_cmpR op_eq (pe_call g_l_pick (hr.mono (by first | decide | omega)) rfl T.m_l_pick T.F_l_pick.kp T.b_l_pick .nil pass0 (pa_cons (pv 0) (pa_cons pe_int pa_nil))) pe_int (nomark _)))) pss_nil)
      (pss_cons (ps_if (pt_cmpR op_eq (pe_ix ix_tup (pv 2) pe_int (fun _ _ => rfl)) pe_str (nomark _)) (pss_one (ps_ret (pe_op op_add (pe_ix ix_tup (pv 2) pe_int (fun _ _ => rfl)) (pe_call g_l_pick (hr.mono (by first | decide | omega)) rfl T.m_l_pick T.F_l_pick.kp T.b_l_pick .nil pass0 (pa_cons (pv 0) (pa_cons (pe_op op_add (pe_op op_sub (pe_ix ix_tup (pv 2) pe_int (fun _ _ => rfl)) (pe_ix ix_tup (pv 2) pe_int (fun _ _ => rfl))) pe_int) pa_nil)))))) pss_nil)
      (pss_cons (ps_setLc (i := 3) (own := [("_law_k", 4)]) (g := gName 4) rfl sc_l_drawn_value.nd rfl rfl (sw_true rfl rfl rfl (by decide +kernel)) (pi_range1 rfl T.z_range (pa_cons (pe_callB call_len_seq rfl T.z_len PySem.boot_len (pa_cons (pe_dget (hu_of hr) (pv 1) pe_str (fun _ _ => rfl)) pa_nil)) pa_nil)) (blkOk_by (own := [("_law_k", 4)]) (N := n_l_drawn_value) (sc := defScope s_l_drawn_value) (by decide +kernel)) (fun _ _ _ _ _ => (pg_name (i := 4) sc_l_drawn_value.nd rfl (Or.inl rfl))) (fun _ _ _ _ _ => (pts_one (pt_cmpR op_eq (pe_ix (show IxR _ (rIxL K) from ix_list) (pe_ix (show IxR _ (rIxL K) from ix_list) (pe_dget (hu_of hr) (pv 1) pe_str (fun _ _ => rfl)) (pv 4) (fun _ _ => rfl)) pe_int (fun _ _ => rfl)) (pe_ix (show IxR _ (rIxT K) from ix_tup) (pv 2) pe_int (fun _ _ => rfl)) (nomark _)))) (fun _ _ _ _ _ => (pv 4)))
      (pss_cons (ps_if (PW.pt (pw_or (pt_cmpR (op_eqL0 hr.units0) (pv 3) (pe_lst pa_nil) (nomark _)) (pw_or1 (pt_cmpR op_eq (pe_call g_l_pick (hr.mono (by first | decide | omega)) rfl T.m_l_pick T.F_l_pick.kp T.b_l_pick .nil pass0 (pa_cons (pv 0) (pa_cons pe_int pa_nil))) pe_int (nomark _))))) (pss_one (ps_ret pe_non)) pss_nil)
      (pss_one (ps_ret (pe_call g_l_one (hr.mono (by first | decide | omega)) rfl T.m_l_one T.F_l_one.kp T.b_l_one .nil pass0 (pa_cons (pv 0) (pa_cons (pv 3) pa_nil))))))))), ?_⟩
  cases kd with
  | flag =>
    refine ⟨_, rfl, p, _, _, _, rfl, rfl, hp, rfl, rfl, _, rfl, ifT (by decide +kernel) ?_⟩
    exact ⟨_, rfl, a, 2, rfl, hS, by decide, fun r G st _ _ => ⟨rfl, q _ G st ⟨_, rfl⟩⟩⟩
  | num lo hi =>
    have kok : lo ≤ hi ∧ hi ≤ lo + 7 := kok
    refine ⟨_, rfl, p, _, _, _, rfl, rfl, hp, rfl, rfl, _, rfl, ifF (by decide +kernel) ?_⟩
    refine ⟨_, rfl, p, _, _, _, rfl, rfl, hp, rfl, rfl, _, rfl, ifT (by decide +kernel) ?_⟩
    exact ⟨_, rfl, p, _, _, _, rfl, rfl, hp, rfl, _, rfl, _, rfl, p, _, _, _, rfl, rfl, hp, rfl, _, rfl, p, _, _, _, rfl, rfl, hp, rfl, _, _, rfl, rfl, _, _, rfl, rfl, a, _, rfl, hS, by omega, fun r G st _ _ => ⟨_, _, rfl, rfl, q _ G st ⟨_, rfl⟩⟩⟩
  | ref sz =>
    refine ⟨_, rfl, p, _, _, _, rfl, rfl, hp, rfl, rfl, _, rfl, ifF (by decide +kernel) ?_⟩
    refine ⟨_, rfl, p, _, _, _, rfl, rfl, hp, rfl, rfl, _, rfl, ifF (by decide +kernel) ?_⟩
    obtain ⟨kvs, kf, lr, df, rows, run⟩ := hrun
    refine ⟨_, rfl, dr, _, rfl, DGet.at (k := Sum.inr "records") run.hd run.kr, lr, _, rfl, .inl (SqL.of run.hl), _, rfl, by omega, by rw [run.lr]; omega, fun D hD => ?_⟩
    have nD := (hS.ne hD).symm
    refine lc_it walk_range (fun m G => Same H G ∧ ∃ pl : List Nat, G D = some (.lst (natsV pl)) ∧ pl.length ≤ m ∧ ∀ j ∈ pl, ∃ r, R[j]? = some r ∧ r.nm = sz) ⟨Same.new hD _, [], upd_same, Nat.le_refl _, fun j hj => by simp at hj⟩ (fun _ _ _ _ => trivial) ?_ ?_
    · rintro m x G G' hm ⟨sG, pl, eD, lpl, hpl⟩ ⟨rfl, rfl⟩
      rw [run.lr] at hm
      have hmR : m < R.length := by omega
      have hmr : m < rows.length := by rw [run.lr]; exact hmR
      have er : R[m]? = some R[m] := List.getElem?_eq_getElem hmR
      have ev : rows[m]? = some rows[m] := List.getElem?_eq_getElem hmr
      obtain ⟨pr, l, ep, n1, n2, h1, h2⟩ := run.rw m _ _ ev er
      rw [ep] at ev
      have at1 : atI rows (0 + (m : Int)) = some (.ref pr) := by rw [Int.zero_add]; exact atI_nat ev
      refine ⟨rfl, ?_⟩
      refine ⟨_, rfl, dr, _, rfl, DGet.at (k := Sum.inr "records") (sG _ _ run.hd) run.kr, _, rfl, lr, _, _, _, rfl, rfl, SqL.of (sG _ _ run.hl), at1, pr, _, 0, _, rfl, rfl, SqL.of (sG _ _ h1), rfl, _, rfl, p, _, _, _, rfl, rfl, Same.tup sG hp, rfl, rfl, _, rfl, ite2 (fun h => ?_) (fun h => ?_)⟩
      · have en : R[m].nm = sz := V.str.inj (of_decide_eq_true h)
        refine ⟨_, rfl, _, eD, lt_line (by rw [natsV_len]; omega), fun b u e => by rw [upd_ne (ne_of_none e hD)]; exact sG _ _ e, pl ++ [m], ?_, by rw [List.length_append]; show pl.length + 1 ≤ _; omega, fun j hj => ?_⟩
        · rw [natsV_app]
          show upd G' D (HO.lst (natsV pl ++ [V.int (0 + (m : Int))])) D = some (HO.lst (natsV pl ++ [V.int (m : Int)]))
          rw [Int.zero_add]
          exact upd_same
        · rcases List.mem_append.mp hj with h | h
          · exact hpl j h
          · rw [List.mem_singleton.mp h]; exact ⟨_, er, en⟩
      · exact ⟨sG, pl, eD, by omega, hpl⟩
    rintro G ⟨sG, pl, eD, lpl, hpl⟩
    have stG := Stp.of_same hS sG
    refine ⟨_, rfl, by show 0 ≤ sizeLine; decide, fun e0 he => ?_⟩
    have se := Same.new he (.lst [])
    have stE := stG.same se
    refine ⟨D, e0, _, rfl, rfl, SqL.of (se _ _ eD), SqL.of upd_same, _, rfl, ite2 (fun h => iteT (q .non _ stE (.inl rfl))) (fun hne => ?_)⟩
    have nep : pl ≠ [] := fun z => by
      subst z
      exact hne rfl
    refine ⟨_, rfl, a, 4, rfl, stE.s, by decide, fun r G2 st2 _ _ => ⟨rfl, _, rfl, ite2 (fun _ => q .non _ (stE.trans st2) (.inl rfl)) (fun _ => ?_)⟩⟩
    have eD2 := st2.k _ _ nD (se _ _ eD)
    refine ⟨_, rfl, _, rfl, a, D, _, false, rfl, st2.s, fun _ => nD, SqL.of eD2, by rw [natsV_len]; exact List.length_pos_iff.mpr nep, by rw [natsV_len]; rw [run.lr] at lpl; omega, fun u G3 hu st3 => ?_⟩
    obtain ⟨j, hj, rfl⟩ := List.mem_map.mp hu
    obtain ⟨r', e1, e2⟩ := hpl j hj
    exact q _ G3 ((stE.trans st2).trans st3) (.inr ⟨j, r', rfl, e1, e2⟩)
end
/-! ### keys: the same heap with other numbers -/
/-- a row of fresh addresses, none of them the list of rows -/
def RowF (H : Hp) (l : Addr) (F : Hp) (v : V) (r : Rc) : Prop := ∃ p q, v = .ref p ∧ H p = none ∧ H q = none ∧ p ≠ l ∧ q ≠ l ∧ F p = some (.lst [.str r.nm, .bl r.live, .ref q]) ∧ F q = some (.lst r.vals)
theorem RowF.up {H F F' : Hp} {l : Addr} {v : V} {r : Rc} (k : ∀ b o, H b = none → b ≠ l → F b = some o → F' b = some o) (h : RowF H l F v r) : RowF H l F' v r := by
  obtain ⟨p, q, e, n1, n2, m1, m2, h1, h2⟩ := h
  exact ⟨p, q, e, n1, n2, m1, m2, k _ _ n1 m1 h1, k _ _ n2 m2 h2⟩
theorem RowF.at {H F : Hp} {l a : Addr} {v : V} {r : Rc} (hS : Src H a) (h : RowF H l F v r) : RowAt a F v r := by
  obtain ⟨p, q, e, n1, n2, _, _, h1, h2⟩ := h
  exact ⟨p, q, e, (hS.ne n1).symm, (hS.ne n2).symm, h1, h2⟩
def RowsF (H : Hp) (l : Addr) (F : Hp) (rows : List V) (R : List Rc) : Prop := rows.length = R.length ∧ ∀ (i : Nat) (v : V) (r : Rc), rows[i]? = some v → R[i]? = some r → RowF H l F v r
theorem RowsF.up {H F F' : Hp} {l : Addr} {vs : List V} {R : List Rc} (k : ∀ b o, H b = none → b ≠ l → F b = some o → F' b = some o) (h : RowsF H l F vs R) : RowsF H l F' vs R := ⟨h.1, fun i v r e1 e2 => (h.2 i v r e1 e2).up k⟩
theorem RowsF.push {H F : Hp} {l : Addr} {vs : List V} {R : List Rc} {v : V} {r : Rc} (h : RowsF H l F vs R) (g : RowF H l F v r) : RowsF H l F (vs ++ [v]) (R ++ [r]) :=
  ⟨by rw [List.length_append, List.length_append, h.1]; rfl, fun i c q e1 e2 => by
    rcases two_get e1 with ⟨l1, e1⟩ | ⟨l1, rfl⟩
    · rcases two_get e2 with ⟨_, e2⟩ | ⟨l2, _⟩
      · exact h.2 i c q e1 e2
      · have := h.1
        omega
    · rcases two_get e2 with ⟨l2, _⟩ | ⟨_, rfl⟩
      · have := h.1
        omega
      · exact g⟩
def kvR (lr df : Addr) : List (Key × V) := [(Sum.inr "records", .ref lr), (Sum.inr "fields", .ref df)]
theorem kvR_rec {lr df : Addr} : valV (kvR lr df) (Sum.inr "records") = some (.ref lr) := by kernel_rfl
theorem kvR_fld {lr df : Addr} : valV (kvR lr df) (Sum.inr "fields") = some (.ref df) := by kernel_rfl
theorem kvR_mk {lr df : Addr} : mergeK [] [(Sum.inr "records", .ref lr), (Sum.inr "fields", .ref df)] = kvR lr df := by kernel_rfl
def spMoved (K : PySem.W.Frag) : Sp := fun vs H Q _ => ∃ (dr lo a : Addr) (rs : List Rk) (R : List Rc) (o : List Nat), vs = [.ref dr, .ref lo] ∧ WldOk rs ∧ HpG rs R ∧ Src H a ∧ RunAt K a H dr rs R ∧ H lo = some (.lst (natsV o)) ∧ o.Perm (List.range R.length) ∧ ∀ d2 H', Same H H' → H d2 = none → RunAt K a H' d2 rs (movR rs R o) → Q (.ref d2) H'
theorem movR_take {rs : List Rk} {R : List Rc} {o : List Nat} {i k : Nat} (ek : o[i]? = some k) : (o.take (i + 1)).map (movE rs R o) = (o.take i).map (movE rs R o) ++ [movE rs R o k] := by
  rw [List.take_add_one, ek, List.map_append]
  rfl
section
variable {P : Program} {w : World} {K : PySem.W.Frag} {mg : Str → Option Value} {base : Heap}
theorem ok_l_moved (T : Txt w K mg) : FnOk P w K mg base CX0 2 T.a_l_moved T.d_l_moved p_l_moved (spMoved K) := by
  have g_l_renumbered := ok_l_renumbered (P := P) (w := w) (K := K) (base := base) T
  refine T.F_l_moved.ok sc_l_moved (fun vs H Q E h => ?_) (fun cdv A outer s H vs Q E hr h => ?_)
  · obtain ⟨dr, lo, a, rs, R, o, rfl, _⟩ := h
    rfl
  obtain ⟨dr, lo, a, rs, R, o, rfl, wok, hg, hS, hrun, ho, pm, q⟩ := h
  refine ⟨_, (pss_cons (ps_set (i := 2) sc_l_moved.nd rfl (Or.inl rfl) (pe_disp (pps_cons pe_str (pe_lst pa_nil) (pps_cons pe_str (pe_dget (hu_of hr) (pv 0) pe_str (fun _ _ => rfl)) pps_nil)) (by rfl) (by rfl) (fun z => by cases z) (by decide)))
      (pss_cons (ps_for PassesOwn.never rfl (pi_list (pv 1)) (pg_name (i := 3) sc_l_moved.nd rfl (Or.inl rfl))
        (pss_cons (ps_set (i := 4) sc_l_moved.nd rfl (Or.inl rfl) (pe_ix ix_list (pe_dget (hu_of hr) (pv 0) pe_str (fun _ _ => rfl)) (pv 3) (fun _ _ => rfl)))
      (pss_cons (ps_set (i := 5) sc_l_moved.nd rfl (Or.inl rfl) (pe_dget (hu_of hr) (pe_dget (hu_of hr) (pv 0) pe_str (fun _ _ => rfl)) (pe_ix ix_list (pv 4) pe_int (fun _ _ => rfl)) (fun _ _ => rfl)))
      (pss_cons (ps_set (i := 6) sc_l_moved.nd rfl (Or.inl rfl) (pe_lst pa_nil))
      (pss_cons (ps_for PassesOwn.never rfl (pi_range1 rfl T.z_range (pa_cons (pe_callB call_len_seq rfl T.z_len PySem.boot_len (pa_cons (pe_ix ix_list (pv 4) pe_int (fun _ _ => rfl)) pa_nil)) pa_nil)) (pg_name (i := 7) sc_l_moved.nd rfl (Or.inl rfl))
        (pss_one (ps_expr (pe_bm PySem.F.plainAttrs_list PySem.F.slot_list_append PySem.F.type_list_append mt_append (pv 6) (pa_cons (pe_call g_l_renumbered (hr.mono (by first | decide | omega)) rfl T.m_l_renumbered T.F_l_renumbered.kp T.b_l_renumbered .nil pass0 (pa_cons (pe_ix ix_tup (pe_ix ix_tup (pv 5) (pv 7) (fun _ _ => rfl)) pe_int (fun _ _ => rfl)) (pa_cons (pe_ix ix_list (pe_ix ix_list (pv 4) pe_int (fun _ _ => rfl)) (pv 7) (fun _ _ => rfl)) (pa_cons (pv 1) pa_nil)))) pa_nil)))))
      (pss_one (ps_expr (pe_bm PySem.F.plainAttrs_list PySem.F.slot_list_append PySem.F.type_list_append mt_append (pe_dget (hu_of hr) (pv 2) pe_str (fun _ _ => rfl)) (pa_cons (pe_lst (pa_cons (pe_ix ix_list (pv 4) pe_int (fun _ _ => rfl)) (pa_cons (pe_ix ix_list (pv 4) pe_int (fun _ _ => rfl)) (pa_cons (pv 6) pa_nil)))) pa_nil)))))))))
      (pss_one (ps_ret (pv 2))))), ?_⟩
  have lR := hg.ln
  have mo : ∀ k, k ∈ o ↔ k < R.length := fun k => by rw [pm.mem_iff, List.mem_range]
  have lo100 : o.length ≤ 100 := by rw [pm.length_eq, List.length_range]; exact lR
  obtain ⟨kvs, kf, lr, df, rows, run⟩ := hrun
  refine fun d hd => ⟨by show 0 ≤ sizeLine; decide, fun l hl => ⟨_, rfl, dr, _, rfl, DGet.at (k := Sum.inr "fields") (Same.new hl _ _ _ (Same.new hd _ _ _ run.hd)) run.kk, ?_⟩⟩
  have nld : l ≠ d := fun z => by
    rw [z, upd_same] at hl
    cases hl
  have hl0 : H l = none := by rwa [upd_ne nld] at hl
  refine ⟨by rw [upd_ne nld.symm]; exact upd_same, [(Sum.inr "records", .ref l), (Sum.inr "fields", .ref df)], rfl, by show 2 ≤ 15; decide, ?_⟩
  rw [kvR_mk]
  have s0 : Same H (upd (upd (upd H d (.dK [])) l (.lst [])) d (.dK (kvR l df))) := fun b u e => by
    rw [upd_ne (ne_of_none e hd), upd_ne (ne_of_none e hl0), upd_ne (ne_of_none e hd)]
    exact e
  have hd0 : (upd (upd (upd H d (.dK [])) l (.lst [])) d (.dK (kvR l df))) d = some (.dK (kvR l df)) := upd_same
  have hll : (upd (upd (upd H d (.dK [])) l (.lst [])) d (.dK (kvR l df))) l = some (.lst []) := by
    rw [upd_ne nld]
    exact upd_same
  generalize (upd (upd (upd H d (.dK [])) l (.lst [])) d (.dK (kvR l df))) = F0 at s0 hd0 hll
  refine ⟨_, rfl, lo, rfl, ⟨_, SqL.of (s0 _ _ ho)⟩, for_list (K := K) (a := lo) (xs := natsV o) (fun i σ F => Same H F ∧ F d = some (.dK (kvR l df)) ∧ (∃ vs : List V, F l = some (.lst vs) ∧ RowsF H l F vs ((o.take i).map (movE rs R o))) ∧ ∃ v3 v4 v5 v6 v7 : Option V, σ = [some (.ref dr), some (.ref lo), some (.ref d), v3, v4, v5, v6, v7])
    ⟨s0, hd0, ⟨[], hll, rfl, fun i v r e => by simp at e⟩, none, none, none, none, none, rfl⟩ (fun i σ F _ ⟨s, _⟩ => SqL.of (s _ _ ho)) ?_ ?_⟩
  · rintro i y σ F ey ⟨sF, hdF, ⟨vs, hlF, rf⟩, v3, v4, v5, v6, v7, rfl⟩
    obtain ⟨k, ek, rfl⟩ := natsV_inv ey
    have i100 : i < 100 := by
      have := (List.getElem?_eq_some_iff.mp ek).1
      omega
    have lvs : vs.length = i := by
      rw [rf.1, List.length_map, List.length_take]
      have := (List.getElem?_eq_some_iff.mp ek).1
      omega
    have mk := List.mem_of_getElem? ek
    have hkR := (mo k).mp mk
    have er : R[k]? = some R[k] := List.getElem?_eq_getElem hkR
    have hi2 : k < rows.length := by rw [run.lr]; exact hkR
    have ev : rows[k]? = some rows[k] := List.getElem?_eq_getElem hi2
    obtain ⟨p, lv, ep, np, nl, hp, hv⟩ := run.rw k _ _ ev er
    have g := hg.rc _ (List.getElem_mem hkR)
    have eM : movE rs R o k = ⟨R[k].nm, R[k].live, trL (flOf rs R[k].nm) R[k].vals o⟩ := by
      unfold movE
      rw [er]
    generalize R[k] = r at er hp hv g eM
    rw [ep] at ev
    obtain ⟨rk0, mk0, ek0⟩ := g.m
    obtain ⟨pf, ef, bs, hbs, lbs, hb⟩ := run.fl rk0 mk0
    rw [ek0] at ef
    have efl : flOf rs r.nm = rk0.2.map (·.2) := by rw [← ek0]; exact flOf_mem wok.nd mk0
    have l20 := flOf_len wok.pok (z := r.nm)
    have lbf : bs.length = (flOf rs r.nm).length := by rw [lbs, efl, List.length_map]
    have lvl : r.vals.length ≤ (flOf rs r.nm).length := by
      cases hlv : r.live with
      | true => rw [g.l hlv]; exact Nat.le_refl _
      | false => rw [g.d hlv]; exact Nat.zero_le _
    refine ⟨_, rfl, dr, _, rfl, DGet.at (k := Sum.inr "records") (sF _ _ run.hd) run.kr, _, rfl, lr, _, _, _, rfl, rfl, SqL.of (sF _ _ run.hl), atI_nat ev, ?_⟩
    refine ⟨_, rfl, dr, _, rfl, DGet.at (k := Sum.inr "fields") (sF _ _ run.hd) run.kk, _, rfl, p, _, 0, _, rfl, rfl, SqL.of (sF _ _ hp), rfl, df, _, rfl, DGet.at (k := Sum.inr r.nm) (sF _ _ run.hf) ef, ?_⟩
    refine ⟨by show 0 ≤ sizeLine; decide, fun fl hfl => ?_⟩
    have sf := Same.new hfl (.lst [])
    have kE := sF.trans sf
    refine ⟨_, rfl, p, _, 2, _, rfl, rfl, SqL.of (kE _ _ hp), rfl, lv, _, rfl, .inl (SqL.of (kE _ _ hv)), _, rfl, by omega, by omega, for_range (lo := 0) (fun m σ F2 => Same F F2 ∧ F2 fl = some (.lst (trTo (flOf rs r.nm) r.vals o m)) ∧ ∃ v7 : Option V, σ = [some (.ref dr), some (.ref lo), some (.ref d), some (.int (k : Int)), some (.ref p), some (.ref pf), some (.ref fl), v7])
      ⟨sf, upd_same, _, rfl⟩ ?_ ?_⟩
    · rintro m σ F2 hm ⟨s2, hfl2, v7, rfl⟩
      have hm : m < r.vals.length := by omega
      have s2F := sF.trans s2
      have eb : bs[m]? = some (bs[m]'(by omega)) := List.getElem?_eq_getElem _
      have efk : rk0.2[m]? = some (rk0.2[m]'(by omega)) := List.getElem?_eq_getElem _
      obtain ⟨kv, h1, h2⟩ := hb m _ _ eb efk
      have ekd : (flOf rs r.nm).getD m .flag = (rk0.2[m]'(by omega)).2 := by
        rw [efl]
        exact getD_get (by rw [List.getElem?_map, efk]; rfl)
      generalize (rk0.2[m]'(by omega)) = fk at efk h1 h2 ekd
      generalize (bs[m]'(by omega)) = bk at eb h1
      have at1 : atI (bs.map V.ref) (0 + (m : Int)) = some (.ref bk) := by rw [Int.zero_add]; exact atI_nat (map_get eb)
      have at2 : atI r.vals (0 + (m : Int)) = some (r.vals.getD m .non) := by rw [Int.zero_add]; exact atI_nat (getD_some hm)
      refine ⟨_, rfl, .inl ⟨rfl, _, SqL.of hfl2⟩, ?_⟩
      refine ⟨_, rfl, _, rfl, pf, _, _, _, rfl, rfl, Same.tup s2F hbs, at1, bk, _, _, _, rfl, rfl, Same.tup s2F h1, rfl, ?_⟩
      refine ⟨_, rfl, p, _, 2, _, rfl, rfl, SqL.of (s2F _ _ hp), rfl, _, rfl, lv, _, _, _, rfl, rfl, SqL.of (s2F _ _ hv), at2, _, rfl, kv, r.vals.getD m .non, lo, fk.2, o, rfl, h2.keep (KeepT.of s2F), s2F _ _ ho, fun hrf => ?_, fun hrf => ?_, ?_⟩
      · obtain ⟨sn, es⟩ := isRef_eq hrf
        rcases g.v m sn hm (by rw [ekd]; exact es) with hu | ⟨j, r', hu, hj, _⟩
        · exact .inl hu
        · exact .inr ⟨j, hu, (mo j).mpr (List.getElem?_eq_some_iff.mp hj).1⟩
      · exact g.f _ (List.mem_of_getElem? (getD_some hm))
      · refine ⟨fl, _, _, rfl, rfl, hfl2, lt_line (by unfold trTo; rw [List.length_map, List.length_range]; omega), fun b u e => by rw [upd_ne (ne_of_none e hfl)]; exact s2 _ _ e, ?_, _, rfl⟩
        rw [trTo_succ, ekd]
        exact upd_same
    · rintro σ F2 ⟨s2, hfl2, v7, rfl⟩
      have e0 : (((r.vals.length : Nat) : Int) - 0).toNat = r.vals.length := by omega
      have hfl2 : F2 fl = some (.lst (trL (flOf rs r.nm) r.vals o)) := by
        unfold trL
        unfold trTo at hfl2
        first | exact hfl2 | (rw [e0] at hfl2; exact hfl2)
      have s2F := sF.trans s2
      refine ⟨_, rfl, d, _, rfl, DGet.at (k := Sum.inr "records") (s2 _ _ hdF) kvR_rec, .inl ⟨rfl, _, SqL.of (s2 _ _ hlF)⟩, ?_⟩
      refine ⟨_, rfl, p, _, 0, _, rfl, rfl, SqL.of (s2F _ _ hp), rfl, _, rfl, p, _, 1, _, rfl, rfl, SqL.of (s2F _ _ hp), rfl, _, rfl, by show 3 ≤ sizeLine; decide, fun t ht => ?_⟩
      have n1 := Same.new ht (.lst [.str r.nm, .bl r.live, .ref fl])
      have sE := s2.trans n1
      have hlE := sE _ _ hlF
      have nfl := ne_of_none hlF hfl
      have ht0 : F t = none := s2.free ht
      have ntl := ne_of_none (s2 _ _ hlF) ht
      refine ⟨l, _, _, rfl, rfl, hlE, lt_line (by omega), fun b u e => ?_, ?_, ⟨_, upd_same, ?_⟩, _, _, _, _, _, rfl⟩
      · rw [upd_ne (ne_of_none e hl0)]
        exact sE _ _ (sF _ _ e)
      · rw [upd_ne nld.symm]
        exact sE _ _ hdF
      · rw [movR_take ek]
        refine RowsF.push (rf.up fun b u _ ne e => by rw [upd_ne ne]; exact sE _ _ e) ?_
        rw [eM]
        refine ⟨t, fl, rfl, sF.free ht0, sF.free hfl, ntl.symm, nfl.symm, ?_, ?_⟩
        · rw [upd_ne ntl.symm]
          exact upd_same
        · rw [upd_ne nfl.symm]
          exact n1 _ _ hfl2
  rintro σ F ⟨sF, hdF, ⟨vs, hlF, rf⟩, v3, v4, v5, v6, v7, rfl⟩
  rw [natsV_len, List.take_length] at rf
  have na : ∀ {b : Addr}, H b = none → b ≠ a := fun n => (hS.ne n).symm
  exact ⟨_, rfl, q d F sF hd ⟨_, kf, l, df, vs, na hd, na hl0, run.nf, hdF, kvR_rec, kvR_fld, hlF, rf.1, fun i v r e1 e2 => (rf.2 i v r e1 e2).at hS, sF _ _ run.hf, run.fl.keep (KeepT.of sF)⟩⟩
end
/-! ### keys: a drawn heap -/
theorem bb_sorted : bootBuiltins "sorted" = some (.builtin "sorted") := by decide +kernel
theorem rep_get {α β : Type} {xs : List α} {ys : List β} (l : xs.length = ys.length) {v : α} {r : β} : ∀ (n : Nat) {i : Nat}, (List.replicate n xs).flatten[i]? = some v → (List.replicate n ys).flatten[i]? = some r → ∃ j : Nat, xs[j]? = some v ∧ ys[j]? = some r
  | 0, i, e, _ => by simp at e
  | n + 1, i, e1, e2 => by
    rw [List.replicate_succ, List.flatten_cons] at e1 e2
    by_cases h : i < xs.length
    · rw [List.getElem?_append_left h] at e1
      rw [List.getElem?_append_left (by omega)] at e2
      exact ⟨i, e1, e2⟩
    · rw [List.getElem?_append_right (by omega)] at e1
      rw [List.getElem?_append_right (by omega), ← l] at e2
      exact rep_get l n e1 e2
theorem eq_of_key : ∀ {rs : List Rk}, (rs.map (·.1)).Nodup → ∀ {c r : Rk}, c ∈ rs → r ∈ rs → c.1 = r.1 → c = r
  | [], _, _, _, h, _, _ => by cases h
  | x :: l, nd, c, r, h1, h2, e => by
    rw [List.map_cons, List.nodup_cons] at nd
    rcases List.mem_cons.mp h1 with rfl | h1
    · rcases List.mem_cons.mp h2 with rfl | h2
      · rfl
      · exact absurd (List.mem_map.mpr ⟨r, h2, e.symm⟩) nd.1
    · rcases List.mem_cons.mp h2 with e2 | h2
      · exact absurd (List.mem_map.mpr ⟨c, h1, by rw [e, e2]⟩) nd.1
      · exact eq_of_key nd.2 h1 h2 e
theorem rep_len {α : Type} {xs : List α} {n : Nat} : (List.replicate n xs).flatten.length = n * xs.length := by
  rw [List.length_flatten, List.map_replicate, List.sum_replicate_nat]
theorem kvR_put {lr df l2 : Addr} : putK (kvR lr df) (Sum.inr "records") (.ref l2) = kvR l2 df := by kernel_rfl
def spHeap (K : PySem.W.Frag) : Sp := fun vs H Q _ => ∃ (a p : Addr) (sz tm : Nat) (rs : List Rk), vs = [.ref a, .ref p, .int (sz : Int), .int (tm : Int)] ∧ Src H a ∧ PgAt K H p rs ∧ WldOk rs ∧ rs ≠ [] ∧ sz * (tm + 1) ≤ 100 ∧ sz ≤ 50 ∧ tm ≤ 50 ∧ ∀ d2 R H', Stp a H H' → H d2 = none → RunAt K a H' d2 rs R → HpG rs R → R.length = sz * (tm + 1) → Q (.ref d2) H'
section
variable {P : Program} {w : World} {K : PySem.W.Frag} {mg : Str → Option Value} {base : Heap}
theorem ok_l_heap (T : Txt w K mg) : FnOk P w K mg base CX0 4 T.a_l_heap T.d_l_heap p_l_heap (spHeap K) := by
  have g_l_pick := ok_l_pick (P := P) (w := w) (base := base) T
  have g_l_drawn_value := ok_l_drawn_value (P := P) (w := w) (K := K) (base := base) T
  have g_l_shuffled := ok_l_shuffled (P := P) (w := w) (base := base) T
  have g_l_moved := ok_l_moved (P := P) (w := w) (K := K) (base := base) T
  refine T.F_l_heap.ok sc_l_heap (fun vs H Q E h => ?_) (fun cdv A outer s H vs Q E hr h => ?_)
  · obtain ⟨a, p, sz, tm, rs, rfl, _⟩ := h
    rfl
  obtain ⟨a, p, sz, tm, rs, rfl, hS, ⟨pr, x, y, z, as, hp, hpr, las, has⟩, wok, rne, st100, sz50, tm50, q⟩ := h
  refine ⟨_, (pss_cons (ps_set (i := 4) sc_l_heap.nd rfl (Or.inr rfl) (pe_disp (pps_cons pe_str (pe_lst pa_nil) (pps_cons pe_str pe_dnewK pps_nil)) (by rfl) (by rfl) (fun z => by cases z) (by decide)))
      (pss_cons (ps_for PassesOwn.never rfl (pi_tup (pe_ix ix_tup (pv 1) pe_int (fun _ _ => rfl))) (pg_name (i := 5) sc_l_heap.nd rfl (Or.inl rfl))
        (pss_one (ps_dput (hu_of hr) (pe_dget (hu_of hr) (pv 4) pe_str (fun _ _ => rfl)) (pe_ix ix_tup (pv 5) pe_int (fun _ _ => rfl)) (pe_ix ix_tup (pv 5) pe_int (fun _ _ => rfl)) rfl)))
      (pss_cons (ps_set (i := 6) sc_l_heap.nd rfl (Or.inl rfl) (pe_callB (cr_sorted) rfl T.z_sorted bb_sorted (pa_cons (pe_lc (own := [("_law_k", 7)]) (g := gName 7) (tt := tYes) rfl sc_l_heap.nd (pi_range1 rfl T.z_range (pa_cons (pv 2) pa_nil)) (blkOk_by (own := [("_law_k", 7)]) (N := n_l_heap) (sc := defScope s_l_heap) (by decide +kernel)) (fun _ _ _ _ _ => (pg_name (i := 7) sc_l_heap.nd rfl (Or.inl rfl))) (fun _ _ _ _ _ => pts_nil) (fun _ _ _ _ _ => (pe_call g_l_pick (hr.mono (by first | decide | omega)) rfl T.m_l_pick T.F_l_pick.kp T.b_l_pick .nil pass0 (pa_cons (pv 0) (pa_cons (pe_callB (show CallR _ _ (rLenOf K) from call_len_seq) rfl T.z_len PySem.boot_len (pa_cons (pe_ix (show IxR _ (rIxT K) from ix_tup) (pv 1) pe_int (fun _ _ => rfl)) pa_nil)) pa_nil))))) pa_nil)))
      (pss_cons (ps_for PassesOwn.never rfl (pi_list (pv 6)) (pg_name (i := 8) sc_l_heap.nd rfl (Or.inl rfl))
        (pss_cons (ps_set (i := 9) sc_l_heap.nd rfl (Or.inl rfl) (pe_ix ix_tup (pe_ix ix_tup (pe_ix ix_tup (pv 1) pe_int (fun _ _ => rfl)) (pv 8) (fun _ _ => rfl)) pe_int (fun _ _ => rfl)))
      (pss_cons (ps_set (i := 10) sc_l_heap.nd rfl (Or.inl rfl) (pe_lst (pa_cons (pv 9) (pa_cons (pe_cmpR op_gt (pe_call g_l_pick (hr.mono (by first | decide | omega)) rfl T.m_l_pick T.F_l_pick.kp T.b_l_pick .nil pass0 (pa_cons (pv 0) (pa_cons pe_int pa_nil))) pe_int (nomark _)) (pa_cons (pe_lst pa_nil) pa_nil)))))
      (C8.pss_cut (ps_if (pt_val (pe_ix ix_list (pv 10) pe_int (fun _ _ => rfl))) (pss_one (ps_asg (pe_lc (own := [("_law_field", 11)]) (g := gName 11) (tt := tYes) rfl sc_l_heap.nd (pi_tup (pe_dget (hu_of hr) (pe_dget (hu_of hr) (pv 4) pe_str (fun _ _ => rfl)) (pv 9) (fun _ _ => rfl))) (blkOk_by (own := [("_law_field", 11)]) (N := n_l_heap) (sc := defScope s_l_heap) (by decide +kernel)) (fun _ _ _ _ _ => (pg_name (i := 11) sc_l_heap.nd rfl (Or.inl rfl))) (fun _ _ _ _ _ => pts_nil) (fun _ _ _ _ _ => (pe_call g_l_drawn_value (hr.mono (by first | decide | omega)) rfl T.m_l_drawn_value T.F_l_drawn_value.kp T.b_l_drawn_value .nil pass0 (pa_cons (pv 0) (pa_cons (pv 4) (pa_cons (pe_ix (show IxR _ (rIxT K) from ix_tup) (pv 11) pe_int (fun _ _ => rfl)) pa_nil)))))) (pg_sub (pv 10) pe_int set_list))) pss_nil)
      (pss_one (ps_expr (pe_bm PySem.F.plainAttrs_list PySem.F.slot_list_append PySem.F.type_list_append mt_append (pe_dget (hu_of hr) (pv 4) pe_str (fun _ _ => rfl)) (pa_cons (pv 10) pa_nil))))))))
      (pss_cons (ps_dput (hu_of hr) (pv 4) pe_str (pe_op op_rep (pe_dget (hu_of hr) (pv 4) pe_str (fun _ _ => rfl)) (pe_op op_add (pv 3) pe_int)) rfl)
      (pss_one (ps_ret (pe_call g_l_moved (hr.mono (by first | decide | omega)) rfl T.m_l_moved T.F_l_moved.kp T.b_l_moved .nil pass0 (pa_cons (pv 4) (pa_cons (pe_call g_l_shuffled (hr.mono (by first | decide | omega)) rfl T.m_l_shuffled T.F_l_shuffled.kp T.b_l_shuffled .nil pass0 (pa_cons (pv 0) (pa_cons (pe_callB call_len_seq rfl T.z_len PySem.boot_len (pa_cons (pe_dget (hu_of hr) (pv 4) pe_str (fun _ _ => rfl)) pa_nil)) pa_nil))) pa_nil)))))))))), ?_⟩
  have lrs := wok.l
  have rpos : 0 < rs.length := List.length_pos_iff.mpr rne
  refine fun d hd => ⟨by show 0 ≤ sizeLine; decide, fun lr hlr df hdf => ?_⟩
  have nlrd : lr ≠ d := fun z => by
    rw [z, upd_same] at hlr
    cases hlr
  have hlr0 : H lr = none := by rwa [upd_ne nlrd] at hlr
  have ndfl : df ≠ lr := fun z => by
    rw [z, upd_same] at hdf
    cases hdf
  have ndfd : df ≠ d := fun z => by
    rw [z, upd_ne nlrd.symm, upd_same] at hdf
    cases hdf
  have hdf0 : H df = none := by rwa [upd_ne ndfl, upd_ne ndfd] at hdf
  refine ⟨by rw [upd_ne ndfd.symm, upd_ne nlrd.symm]; exact upd_same, [(Sum.inr "records", .ref lr), (Sum.inr "fields", .ref df)], rfl, by show 2 ≤ 15; decide, ?_⟩
  rw [kvR_mk]
  obtain ⟨F0, eF0⟩ : ∃ F0, F0 = (upd (upd (upd (upd H d (.dK [])) lr (.lst [])) df (.dK [])) d (.dK (kvR lr df))) := ⟨_, rfl⟩
  have s0 : Same H F0 := fun b u e => by
    rw [eF0, upd_ne (ne_of_none e hd), upd_ne (ne_of_none e hdf0), upd_ne (ne_of_none e hlr0), upd_ne (ne_of_none e hd)]
    exact e
  have d0 : F0 d = some (.dK (kvR lr df)) := by rw [eF0]; exact upd_same
  have l0 : F0 lr = some (.lst []) := by rw [eF0, upd_ne nlrd, upd_ne ndfl.symm]; exact upd_same
  have f0 : F0 df = some (.dK []) := by rw [eF0, upd_ne ndfd]; exact upd_same
  rw [← eF0]
  clear eF0 hdf hlr
  have nda := (hS.ne hd).symm
  have nlra := (hS.ne hlr0).symm
  have ndfa := (hS.ne hdf0).symm
  -- the fields
  refine ⟨_, rfl, p, _, 0, _, rfl, rfl, Same.tup s0 hp, rfl, pr, rfl, ⟨_, Same.tup s0 hpr⟩, for_tup (K := K) (a := pr) (xs := as.map V.ref) (fun i σ F => Same H F ∧ F d = some (.dK (kvR lr df)) ∧ F lr = some (.lst []) ∧ (∃ kf : List (Key × V), F df = some (.dK kf) ∧ kf.length ≤ i ∧ ∀ r ∈ rs.take i, ∃ pf, valV kf (Sum.inr r.1) = some (.ref pf) ∧ FdAt K H pf r.2) ∧ ∃ v5 : Option V, σ = [some (.ref a), some (.ref p), some (.int (sz : Int)), some (.int (tm : Int)), some (.ref d), v5, none, none, none, none, none, none])
    ⟨s0, d0, l0, ⟨[], f0, Nat.le_refl _, fun r hr => by simp at hr⟩, none, rfl⟩ (fun i σ F _ ⟨s, _⟩ => Same.tup s hpr) ?_ ?_⟩
  · rintro i y σ F ey ⟨sF, dF, lF, ⟨kf, fF, lkf, hkf⟩, v5, rfl⟩
    have hi : i < as.length := by
      have := (List.getElem?_eq_some_iff.mp ey).1
      rwa [List.length_map] at this
    have ea : as[i]? = some as[i] := List.getElem?_eq_getElem hi
    have hi2 : i < rs.length := by rw [← las]; exact hi
    have er : rs[i]? = some rs[i] := List.getElem?_eq_getElem hi2
    rw [map_get ea] at ey
    obtain rfl := Option.some.inj ey
    obtain ⟨pf, h1, h2⟩ := has i _ _ ea er
    have tk : rs.take (i + 1) = rs.take i ++ [rs[i]] := by
      rw [List.take_add_one, er]
      rfl
    generalize rs[i] = r at er h1 h2 tk
    generalize as[i] = ai at ea h1
    refine ⟨_, rfl, ai, _, 1, _, rfl, rfl, Same.tup sF h1, rfl, _, rfl, d, _, rfl, DGet.at (k := Sum.inr "fields") dF kvR_fld, _, rfl, ai, _, 0, _, rfl, rfl, Same.tup sF h1, rfl, df, _, rfl, DPut.k (k := Sum.inr r.1) fF (small1000 (by omega)), ?_⟩
    refine ⟨fun b u e => by rw [upd_ne (ne_of_none e hdf0)]; exact sF _ _ e, by rw [upd_ne ndfd.symm]; exact dF, by rw [upd_ne ndfl.symm]; exact lF, ⟨_, upd_same, Nat.le_trans (length_putK _ _ _) (by omega), fun c hc => ?_⟩, _, rfl⟩
    rw [valV_put]
    split
    · rename_i e
      have e2 : c.1 = r.1 := Sum.inr.inj e
      rw [tk] at hc
      rcases List.mem_append.mp hc with hc | hc
      · have hcm := List.mem_of_mem_take hc
        have hrm := List.mem_of_getElem? er
        have : c = r := eq_of_key wok.nd hcm hrm e2
        rw [this]
        exact ⟨pf, rfl, h2⟩
      · rw [List.mem_singleton.mp hc]
        exact ⟨pf, rfl, h2⟩
    · rename_i e
      rw [tk] at hc
      rcases List.mem_append.mp hc with hc | hc
      · exact hkf c hc
      · rw [List.mem_singleton.mp hc] at e
        exact absurd rfl e
  rintro σ F1 ⟨s1, d1, l1, ⟨kf, f1, lkf, hkf⟩, v5, rfl⟩
  have hkf : ∀ r ∈ rs, ∃ pf, valV kf (Sum.inr r.1) = some (.ref pf) ∧ FdAt K H pf r.2 := fun r hr => hkf r (by rw [List.length_map, las, List.take_length]; exact hr)
  clear s0 d0 l0 f0
  have st1 := Stp.of_same hS s1
  -- the wanted
  refine ⟨_, rfl, (sz : Int), rfl, by omega, by omega, fun D hD => ?_⟩
  have nD := (st1.s.ne hD).symm
  refine lc_it walk_range (fun m F => Stp a F1 F ∧ ∃ ns : List Int, F D = some (.lst (ns.map V.int)) ∧ ns.length = m ∧ ∀ n ∈ ns, 0 ≤ n ∧ n < (rs.length : Int)) ⟨Stp.of_same st1.s (Same.new hD _), [], upd_same, rfl, fun n hn => by simp at hn⟩ (fun _ _ _ _ => trivial) ?_ ?_
  · rintro m u F F' hm ⟨sF, ns, eD, lns, hns⟩ ⟨rfl, rfl⟩
    have hm : m < sz := by omega
    refine ⟨rfl, tyes ?_⟩
    refine ⟨_, rfl, _, rfl, p, _, 0, _, rfl, rfl, (st1.trans sF).rd hp hS, rfl, pr, _, rfl, .inr ((st1.trans sF).rd hpr hS), a, _, rfl, sF.s, by rw [List.length_map, las]; omega, fun r G st r0 r1 => ?_⟩
    rw [List.length_map, las] at r1
    refine ⟨_, st.k _ _ nD eD, lt_line (by rw [List.length_map]; omega), (sF.trans st).put st1.s hD, ns ++ [r], by rw [List.map_append]; exact upd_same, by rw [List.length_append, lns]; rfl, fun n hn => ?_⟩
    rcases List.mem_append.mp hn with h | h
    · exact hns n h
    · rw [List.mem_singleton.mp h]
      exact ⟨r0, by omega⟩
  rintro F2 ⟨sF2, ns, eD, lns, hns⟩
  refine ⟨D, ns, rfl, SqL.of eD, by omega, fun ns' lw pm _ hlw => ?_⟩
  have lns' := pm.length_eq
  have hns' : ∀ n ∈ ns', 0 ≤ n ∧ n < (rs.length : Int) := fun n hn => hns n (pm.mem_iff.mp hn)
  have sw := Same.new hlw (.lst (ns'.map V.int))
  have st2 := (st1.trans sF2).same sw
  have d2 := sw _ _ (sF2.k _ _ nda d1)
  have l2 := sw _ _ (sF2.k _ _ nlra l1)
  have f2 := sw _ _ (sF2.k _ _ ndfa f1)
  have w2 : (upd F2 lw (.lst (ns'.map V.int))) lw = some (.lst (ns'.map V.int)) := upd_same
  have nlw : lw ≠ a := (sF2.s.ne hlw).symm
  have nlwr : lw ≠ lr := (ne_of_none (sF2.k _ _ nlra l1) hlw).symm
  generalize (upd F2 lw (.lst (ns'.map V.int))) = G0 at st2 d2 l2 f2 w2
  clear sw hlw eD sF2 nD hD st1 d1 l1 f1 s1 hns pm
  -- the rows
  refine ⟨_, rfl, lw, rfl, ⟨_, SqL.of w2⟩, for_list (K := K) (a := lw) (xs := ns'.map V.int) (fun i σ F => Stp a H F ∧ F d = some (.dK (kvR lr df)) ∧ F df = some (.dK kf) ∧ F lw = some (.lst (ns'.map V.int)) ∧ (∃ (rows : List V) (R : List Rc), F lr = some (.lst rows) ∧ RowsF H lr F rows R ∧ R.length = i ∧ HpG rs R) ∧ ∃ v8 v9 v10 : Option V, σ = [some (.ref a), some (.ref p), some (.int (sz : Int)), some (.int (tm : Int)), some (.ref d), v5, some (.ref lw), none, v8, v9, v10, none])
    ⟨st2, d2, f2, w2, ⟨[], [], l2, ⟨rfl, fun i v r e => by simp at e⟩, rfl, fun r hr => by simp at hr, by show 0 ≤ 100; decide⟩, none, none, none, rfl⟩ (fun i σ F _ P => SqL.of P.2.2.2.1) ?_ ?_⟩
  · clear st2 d2 f2 w2 l2
    rintro i y σ F ey ⟨sF, dF, fF, wF, ⟨rows, R, lF, rf, lR, hg⟩, v8, v9, v10, rfl⟩
    rw [List.getElem?_map] at ey
    cases en : ns'[i]? with
    | none => rw [en] at ey; cases ey
    | some n =>
    rw [en] at ey
    obtain rfl := Option.some.inj ey
    have hi : i < sz := by
      have := (List.getElem?_eq_some_iff.mp en).1
      omega
    obtain ⟨n0, n1⟩ := hns' n (List.mem_of_getElem? en)
    obtain ⟨j, rfl⟩ := Int.eq_ofNat_of_zero_le n0
    have hj : j < rs.length := by omega
    have er : rs[j]? = some rs[j] := List.getElem?_eq_getElem hj
    have ea : as[j]? = some (as[j]'(by omega)) := List.getElem?_eq_getElem _
    obtain ⟨pf0, h1, _⟩ := has j _ _ ea er
    obtain ⟨pf, ef, hfd⟩ := hkf _ (List.getElem_mem hj)
    have mr : rs[j] ∈ rs := List.getElem_mem hj
    have efl := flOf_mem wok.nd mr
    have lf5 := wok.f _ mr
    have kfo := wok.k _ mr
    generalize rs[j] = r at er h1 ef hfd mr efl lf5 kfo
    generalize (as[j]'(by omega)) = aj at ea h1
    have at1 : atI (as.map V.ref) ((j : Nat) : Int) = some (.ref aj) := atI_nat (map_get ea)
    refine ⟨_, rfl, p, _, 0, _, rfl, rfl, sF.rd hp hS, rfl, _, rfl, pr, _, _, _, rfl, rfl, sF.rd hpr hS, at1, aj, _, 0, _, rfl, rfl, sF.rd h1 hS, rfl, ?_⟩
    refine ⟨_, rfl, _, rfl, a, 4, rfl, sF.s, by decide, fun pk F2 st2 _ _ => ⟨_, _, rfl, rfl, by show 0 ≤ sizeLine; decide, fun q0 hq0 => ⟨by show 3 ≤ sizeLine; decide, fun p0 hp0 => ?_⟩⟩⟩
    dsimp only
    have nq := Same.new hq0 (.lst [])
    have np := Same.new hp0 (.lst [.str r.1, .bl (decide (0 < pk)), .ref q0])
    generalize decide (0 < pk) = b at np ⊢
    have stF2 := sF.trans st2
    have npq : q0 ≠ p0 := ne_of_none upd_same hp0
    have hp00 : F2 p0 = none := nq.free hp0
    have hq1 : H q0 = none := stF2.free hq0
    have hp1 : H p0 = none := stF2.free hp00
    have eP : (upd (upd F2 q0 (.lst [])) p0 (.lst [.str r.1, .bl b, .ref q0])) p0 = some (.lst [.str r.1, .bl b, .ref q0]) := upd_same
    have eQ : (upd (upd F2 q0 (.lst [])) p0 (.lst [.str r.1, .bl b, .ref q0])) q0 = some (.lst []) := np _ _ upd_same
    have l3 := st2.k _ _ nlra lF
    have nlq : q0 ≠ lr := (ne_of_none l3 hq0).symm
    have nlp : p0 ≠ lr := (ne_of_none l3 hp00).symm
    have sN := nq.trans np
    have st3 := stF2.same sN
    have stB := st2.same sN
    generalize (upd (upd F2 q0 (.lst [])) p0 (.lst [.str r.1, .bl b, .ref q0])) = F3 at eP eQ sN st3 stB
    have d3 := stB.k _ _ nda dF
    have f3 := stB.k _ _ ndfa fF
    have w3 := stB.k _ _ nlw wF
    have l3 := stB.k _ _ nlra lF
    have rf3 : RowsF H lr F3 rows R := rf.up fun c u n ne e => stB.k _ _ ((hS.ne n).symm) e
    refine ⟨fun σ G => ∃ (q1 : Addr) (us : List V), Stp a H G ∧ G d = some (.dK (kvR lr df)) ∧ G df = some (.dK kf) ∧ G lw = some (.lst (ns'.map V.int)) ∧ G lr = some (.lst rows) ∧ RowsF H lr G rows R ∧ H q1 = none ∧ q1 ≠ lr ∧ G p0 = some (.lst [.str r.1, .bl b, .ref q1]) ∧ G q1 = some (.lst us) ∧ RcG rs R ⟨r.1, b, us⟩ ∧ σ = [some (.ref a), some (.ref p), some (.int (sz : Int)), some (.int (tm : Int)), some (.ref d), v5, some (.ref lw), none, some (.int ((j : Nat) : Int)), some (.str r.1), some (.ref p0), none], ?_, ?_⟩
    · refine ⟨_, rfl, p0, _, 1, _, rfl, rfl, SqL.of eP, rfl, _, rfl, ?_⟩
      cases b with
      | false =>
        refine iteF ?_
        exact ⟨q0, [], st3, d3, f3, w3, l3, rf3, hq1, nlq, eP, eQ, ⟨⟨r, mr, rfl⟩, (fun h => by cases h), fun _ => rfl, (fun k s hk => by cases hk), fun v hv => by simp at hv⟩, rfl⟩
      | true =>
        refine iteT ?_
        have run3 : RunE K a F3 d rs R (kvR lr df) kf lr df rows := ⟨nda, nlra, ndfa, d3, kvR_rec, kvR_fld, l3, rf.1, fun i v r e1 e2 => (rf3.2 i v r e1 e2).at hS, f3, fun c hc => by
          obtain ⟨pc, e, g⟩ := hkf c hc
          exact ⟨pc, e, g.keep (st3.keepT hS)⟩⟩
        obtain ⟨bs, hbs, lbs, hb⟩ := hfd
        refine ⟨_, rfl, d, _, rfl, DGet.at (k := Sum.inr "fields") d3 kvR_fld, _, rfl, df, _, rfl, DGet.at (k := Sum.inr r.1) f3 ef, pf, rfl, ⟨_, st3.rd hbs hS⟩, fun D hD => ?_⟩
        have nD := (st3.s.ne hD).symm
        refine lc_it (walk_tup (xs := bs.map V.ref)) (fun m G => Stp a F3 G ∧ ∃ us : List V, G D = some (.lst us) ∧ us.length = m ∧ ∀ (k : Nat) (u : V) (f : Str × Kd), us[k]? = some u → r.2[k]? = some f → DrV R f.2 u) ⟨Stp.of_same st3.s (Same.new hD _), [], upd_same, rfl, fun k u f e => by simp at e⟩ (fun i G _ P => (st3.trans P.1).rd hbs hS) ?_ ?_
        · rintro m u G G' hm ⟨sG, us, eD, lus, hus⟩ ⟨rfl, ex⟩
          rw [List.length_map] at hm
          have eb : bs[m]? = some bs[m] := List.getElem?_eq_getElem hm
          have hm2 : m < r.2.length := by omega
          have efm : r.2[m]? = some r.2[m] := List.getElem?_eq_getElem hm2
          obtain ⟨kv, g1, g2⟩ := hb m _ _ eb efm
          have kok := kfo _ (List.getElem_mem hm2)
          rw [map_get eb] at ex
          obtain rfl := Option.some.inj ex
          generalize r.2[m] = fm at efm g1 g2 kok
          have s3G := st3.trans sG
          refine ⟨rfl, tyes ?_⟩
          refine ⟨_, rfl, _, rfl, _, rfl, bs[m], _, 1, _, rfl, rfl, s3G.rd g1 hS, rfl, a, d, kv, fm.2, rs, R, rfl, sG.s, RunAt.stp sG st3.s ⟨_, _, _, _, _, run3⟩, g2.keep (s3G.keepT hS), kok, hg.ln, fun u G2 s2 hu => ?_⟩
          refine ⟨_, s2.k _ _ nD eD, lt_line (by omega), (sG.trans s2).put st3.s hD, us ++ [u], upd_same, by rw [List.length_append, lus]; rfl, fun k u' f' e1 e2 => ?_⟩
          rcases two_get e1 with ⟨l1, e1⟩ | ⟨l1, rfl⟩
          · exact hus k u' f' e1 e2
          · rw [l1, lus, efm] at e2
            obtain rfl := Option.some.inj e2
            exact hu
        rintro G ⟨sG, us, eD, lus, hus⟩
        rw [List.length_map, lbs] at lus
        have eP2 := sG.k _ _ ((hS.ne hp1).symm) eP
        have npD : D ≠ p0 := (ne_of_none eP hD).symm
        have hD0 : H D = none := st3.free hD
        have nDl : D ≠ lr := (ne_of_none l3 hD).symm
        have l4 := sG.k _ _ nlra l3
        have w4 := sG.k _ _ nlw w3
        have d4 := sG.k _ _ nda d3
        have f4 := sG.k _ _ ndfa f3
        have npd : p0 ≠ d := (ne_of_none (st2.k _ _ nda dF) hp00).symm
        have npf : p0 ≠ df := (ne_of_none (st2.k _ _ ndfa fF) hp00).symm
        have npw : p0 ≠ lw := (ne_of_none (st2.k _ _ nlw wF) hp00).symm
        refine ⟨_, rfl, p0, _, 2, _, rfl, rfl, eP2, rfl, ?_⟩
        refine ⟨D, us, (st3.trans sG).put hS hp1, by rw [upd_ne npd.symm]; exact d4, by rw [upd_ne npf.symm]; exact f4, by rw [upd_ne npw.symm]; exact w4, by rw [upd_ne nlp.symm]; exact l4, ?_, hD0, nDl, upd_same, by rw [upd_ne npD]; exact eD, ?_, rfl⟩
        · refine ⟨rf.1, fun i v c e1 e2 => ?_⟩
          obtain ⟨x1, x2, e, n1, n2, m1, m2, t1, t2⟩ := rf.2 i v c e1 e2
          have old : ∀ {b o}, H b = none → F b = some o → (upd G p0 (.lst ([.str r.1, .bl true, .ref q0].set 2 (.ref D)))) b = some o := fun {b o} n e => by
            have e2 := st2.k _ _ ((hS.ne n).symm) e
            rw [upd_ne (ne_of_none e2 hp00)]
            exact sG.k _ _ ((hS.ne n).symm) (sN _ _ e2)
          exact ⟨x1, x2, e, n1, n2, m1, m2, old n1 t1, old n2 t2⟩
        · refine ⟨⟨r, mr, rfl⟩, fun _ => by show us.length = (flOf rs r.1).length; rw [efl, List.length_map]; exact lus, (fun h => by cases h), fun k s hk hs => ?_, fun v hv => ?_⟩
          · have hk : k < us.length := hk
            have hk2 : k < r.2.length := by omega
            have e1 := List.getElem?_eq_getElem hk
            have e2 := List.getElem?_eq_getElem hk2
            have hs : (flOf rs r.1).getD k .flag = .ref s := hs
            rw [efl, getD_get (by rw [List.getElem?_map, e2]; rfl)] at hs
            have g := hus k _ _ e1 e2
            have hs : (r.2[k]).2 = .ref s := hs
            rw [hs] at g
            show us.getD k .non = .non ∨ ∃ (j : Nat) (r' : Rc), us.getD k .non = .int (j : Int) ∧ R[j]? = some r' ∧ r'.nm = s
            rw [getD_get e1]
            exact g
          · obtain ⟨k, hk, rfl⟩ := List.getElem_of_mem hv
            have hk : k < us.length := hk
            have hk2 : k < r.2.length := by omega
            exact (hus k _ _ (List.getElem?_eq_getElem hk) (List.getElem?_eq_getElem hk2)).flat
    rintro σ G ⟨q1, us, stG, dG, fG, wG, lG, rfG, hq1', nq1, pG, qG, rcg, rfl⟩
    have lrw : rows.length = i := by rw [rf.1, lR]
    refine ⟨_, rfl, d, _, rfl, DGet.at (k := Sum.inr "records") dG kvR_rec, .inl ⟨rfl, _, SqL.of lG⟩, _, rfl, lr, _, _, rfl, rfl, lG, lt_line (by omega), ?_⟩
    have nel : ∀ {b o}, G b = some o → b ≠ lr → (upd G lr (.lst (rows ++ [.ref p0]))) b = some o := fun e ne => by rw [upd_ne ne]; exact e
    refine ⟨stG.put hS hlr0, nel dG nlrd.symm, nel fG ndfl, nel wG nlwr, ⟨_, R ++ [⟨r.1, b, us⟩], upd_same, ?_, by rw [List.length_append, lR]; rfl, fun c hc => ?_, by rw [List.length_append, lR]; show i + 1 ≤ 100; omega⟩, _, _, _, rfl⟩
    · refine RowsF.push (rfG.up fun c u _ ne e => nel e ne) ?_
      exact ⟨p0, q1, rfl, hp1, hq1', nlp, nq1, nel pG nlp, nel qG nq1⟩
    · have up : ∀ {c : Rc}, RcG rs R c → RcG rs (R ++ [⟨r.1, b, us⟩]) c := fun h => h.up fun j' r' e => by
        rw [List.getElem?_append_left (List.getElem?_eq_some_iff.mp e).1]
        exact e
      rcases List.mem_append.mp hc with hc | hc
      · exact up (hg.rc c hc)
      · rw [List.mem_singleton.mp hc]
        exact up rcg
  clear st2 d2 f2 w2 l2
  rintro σ F ⟨sF, dF, fF, wF, ⟨rows, R, lF, rf, lR, hg⟩, v8, v9, v10, rfl⟩
  rw [List.length_map, lns', lns] at lR
  have lR : R.length = sz := by omega
  refine ⟨_, rfl, d, _, rfl, DGet.at (k := Sum.inr "records") dF kvR_rec, _, rfl, _, _, rfl, rfl, lr, _, _, rfl, rfl, lF, by omega, by omega, ?_, fun l2 hl2 => ?_⟩
  · have e1 : ((tm : Int) + 1).toNat = tm + 1 := by omega
    rw [rf.1, lR, e1]
    exact Nat.le_trans st100 (by decide)
  have s5 := Same.new hl2 (.lst (List.replicate ((tm : Int) + 1).toNat rows).flatten)
  have e1 : ((tm : Int) + 1).toNat = tm + 1 := by omega
  rw [e1] at s5 ⊢
  have l5 : (upd F l2 (.lst (List.replicate (tm + 1) rows).flatten)) l2 = some (.lst (List.replicate (tm + 1) rows).flatten) := upd_same
  have st5 := sF.same s5
  have hl20 := sF.free hl2
  have nl2d : l2 ≠ d := (ne_of_none dF hl2).symm
  have rf5 : RowsF H lr (upd F l2 (.lst (List.replicate (tm + 1) rows).flatten)) rows R := rf.up fun c u _ _ e => s5 _ _ e
  have d5 := s5 _ _ dF
  have f5 := s5 _ _ fF
  generalize (upd F l2 (.lst (List.replicate (tm + 1) rows).flatten)) = G at s5 l5 st5 rf5 d5 f5
  refine ⟨_, rfl, d, _, rfl, DPut.k (k := Sum.inr "records") d5 (by show 2 < sizeLine; decide), ?_⟩
  rw [kvR_put]
  have st6 := st5.put (o := .dK (kvR l2 df)) hS hd
  have nup : ∀ {b o}, G b = some o → b ≠ d → (upd G d (.dK (kvR l2 df))) b = some o := fun e ne => by rw [upd_ne ne]; exact e
  have d6 : (upd G d (.dK (kvR l2 df))) d = some (.dK (kvR l2 df)) := upd_same
  have l6 := nup l5 nl2d
  have f6 := nup f5 ndfd
  have rf6 : ∀ (i : Nat) (v : V) (r : Rc), rows[i]? = some v → R[i]? = some r → RowAt a (upd G d (.dK (kvR l2 df))) v r := fun i v r e1 e2 => by
    obtain ⟨x1, x2, e, n1, n2, m1, m2, t1, t2⟩ := rf.2 i v r e1 e2
    have t1' := s5 _ _ t1
    have t2' := s5 _ _ t2
    have ne : ∀ {b : Addr} {xs : List V}, G b = some (.lst xs) → b ≠ d := fun e z => by
      rw [z, d5] at e
      cases e
    exact ⟨x1, x2, e, (hS.ne n1).symm, (hS.ne n2).symm, nup t1' (ne t1'), nup t2' (ne t2')⟩
  generalize (upd G d (.dK (kvR l2 df))) = G6 at st6 d6 l6 f6 rf6
  have run6 : RunAt K a G6 d rs (List.replicate (tm + 1) R).flatten := ⟨_, kf, l2, df, _, nda, (hS.ne hl20).symm, ndfa, d6, kvR_rec, kvR_fld, l6, by rw [rep_len, rep_len, rf.1], fun i v r e1 e2 => by
    obtain ⟨j, g1, g2⟩ := rep_get rf.1 (tm + 1) e1 e2
    exact rf6 j v r g1 g2, f6, fun c hc => by
      obtain ⟨pc, e, g⟩ := hkf c hc
      exact ⟨pc, e, g.keep (st6.keepT hS)⟩⟩
  have hg6 := hg.rep tm (by rw [lR]; exact st100)
  have lr6e : (List.replicate (tm + 1) rows).flatten.length = (List.replicate (tm + 1) R).flatten.length := by rw [rep_len, rep_len, rf.1]
  have lR6 : (List.replicate (tm + 1) R).flatten.length = sz * (tm + 1) := by rw [rep_len, lR, Nat.mul_comm]
  generalize (List.replicate (tm + 1) R).flatten = R6 at run6 hg6 lr6e lR6
  refine ⟨_, rfl, _, rfl, _, rfl, d, _, rfl, DGet.at (k := Sum.inr "records") d6 kvR_rec, l2, _, rfl, .inl (SqL.of l6), a, R6.length, by rw [lr6e]; rfl, st6.s, hg6.ln, fun l o G7 st7 hl eo pm => ?_⟩
  refine ⟨d, l, a, rs, R6, o, rfl, wok, hg6, st7.s, run6.stp st7 st6.s, eo, pm, fun d2 G8 s8 hd2 run8 => q d2 _ G8 ((st6.trans st7).same s8) ((st6.trans st7).free hd2) run8 (hg6.mov pm) (by unfold movR; rw [List.length_map, pm.length_eq, List.length_range]; exact lR6)⟩
end
/-! ### keys: drawn cases -/
theorem KdsAt.push {K : PySem.W.Frag} {H : Hp} {xs : List V} {ks : List Kd} {v : V} {k : Kd} (h : KdsAt K H xs ks) (g : KdAt K H v k) : KdsAt K H (xs ++ [v]) (ks ++ [k]) :=
  ⟨by rw [List.length_append, List.length_append, h.1]; rfl, fun i c q e1 e2 => by
    rcases two_get e1 with ⟨l1, e1⟩ | ⟨l1, rfl⟩
    · rcases two_get e2 with ⟨_, e2⟩ | ⟨l2, _⟩
      · exact h.2 i c q e1 e2
      · have := h.1
        omega
    · rcases two_get e2 with ⟨l2, _⟩ | ⟨_, rfl⟩
      · have := h.1
        omega
      · exact g⟩
def spVars (K : PySem.W.Frag) : Sp := fun vs H Q _ => ∃ (a p : Addr) (n : Nat) (rs : List Rk), vs = [.ref a, .ref p, .int (n : Int)] ∧ Src H a ∧ PgAt K H p rs ∧ WldOk rs ∧ rs ≠ [] ∧ n ≤ 12 ∧ ∀ l kxs ks H', Stp a H H' → H l = none → H' l = some (.lst kxs) → KdsAt K H' kxs ks → ks.length ≤ 12 → (∀ k ∈ ks, KOk k) → Q (.ref l) H'
section
variable {P : Program} {w : World} {K : PySem.W.Frag} {mg : Str → Option Value} {base : Heap}
theorem ok_l_variables (T : Txt w K mg) : FnOk P w K mg base CX0 4 T.a_l_variables T.d_l_variables p_l_variables (spVars K) := by
  have g_l_pick := ok_l_pick (P := P) (w := w) (base := base) T
  have g_l_one := ok_l_oneG (P := P) (w := w) (K := K) (base := base) T
  have g_l_number_kind := ok_l_number_kind (P := P) (w := w) (K := K) (base := base) T
  refine T.F_l_variables.ok sc_l_variables (fun vs H Q E h => ?_) (fun cdv A outer s H vs Q E hr h => ?_)
  · obtain ⟨a, p, n, rs, rfl, _⟩ := h
    rfl
  obtain ⟨a, p, n, rs, rfl, hS, ⟨pr, x, y, z, as, hp, hpr, las, has⟩, wok, rne, hn, q⟩ := h
  refine ⟨_, (pss_cons (ps_set (i := 3) sc_l_variables.nd rfl (Or.inl rfl) (pe_lst pa_nil))
      (pss_cons (ps_for PassesOwn.never rfl (pi_range1 rfl T.z_range (pa_cons (pe_call g_l_pick (hr.mono (by first | decide | omega)) rfl T.m_l_pick T.F_l_pick.kp T.b_l_pick .nil pass0 (pa_cons (pv 0) (pa_cons (pe_op op_add (pv 2) pe_int) pa_nil))) pa_nil)) (pg_name (i := 4) sc_l_variables.nd rfl (Or.inl rfl))
        (pss_cons (ps_set (i := 5) sc_l_variables.nd rfl (Or.inl rfl) (pe_call g_l_pick (hr.mono (by first | decide | omega)) rfl T.m_l_pick T.F_l_pick.kp T.b_l_pick .nil pass0 (pa_cons (pv 0) (pa_cons pe_int pa_nil))))
      (pss_one (ps_if (pt_cmpR op_eq (pv 5) pe_int (nomark _)) (pss_one (ps_expr (pe_bm PySem.F.plainAttrs_list PySem.F.slot_list_append PySem.F.type_list_append mt_append (pv 3) (pa_cons (pe_tup (pa_cons pe_str pa_nil)) pa_nil)))) (pss_one (ps_if (pt_cmpR op_eq (pv 5) pe_int (nomark _)) (pss_one (ps_expr (pe_bm PySem.F.plainAttrs_list PySem.F.slot_list_append PySem.F.type_list_append mt_append (pv 3) (pa_cons (pe_call g_l_number_kind (hr.mono (by first | decide | omega)) rfl T.m_l_number_kind T.F_l_number_kind.kp T.b_l_number_kind .nil pass0 (pa_cons (pv 0) pa_nil)) pa_nil)))) (pss_one (ps_expr (pe_bm PySem.F.plainAttrs_list PySem.F.slot_list_append PySem.F.type_list_append mt_append (pv 3) (pa_cons (pe_tup (pa_cons pe_str (pa_cons (pe_ix ix_tup (pe_call g_l_one (hr.mono (by first | decide | omega)) rfl T.m_l_one T.F_l_one.kp T.b_l_one .nil pass0 (pa_cons (pv 0) (pa_cons (pe_ix ix_tup (pv 1) pe_int (fun _ _ => rfl)) pa_nil))) pe_int (fun _ _ => rfl)) pa_nil))) pa_nil))))))))))
      (pss_one (ps_ret (pv 3))))), ?_⟩
  have lrs := wok.l
  have rpos : 0 < rs.length := List.length_pos_iff.mpr rne
  refine ⟨by show 0 ≤ sizeLine; decide, fun l hl => ?_⟩
  have nla := (hS.ne hl).symm
  have st0 := Stp.of_same hS (Same.new hl (.lst []))
  have e0 : (upd H l (.lst [])) l = some (.lst []) := upd_same
  generalize (upd H l (.lst [])) = H0 at st0 e0
  refine ⟨_, rfl, _, rfl, _, _, rfl, rfl, a, _, rfl, st0.s, by omega, fun r H1 st1 r0 r1 => ⟨r, rfl, by omega, by omega, ?_⟩⟩
  have st01 := st0.trans st1
  refine for_range (lo := 0) (fun i σ F => Stp a H F ∧ (∃ kxs ks, F l = some (.lst kxs) ∧ KdsAt K F kxs ks ∧ ks.length = i ∧ ∀ k ∈ ks, KOk k) ∧ ∃ v4 v5 : Option V, σ = [some (.ref a), some (.ref p), some (.int (n : Int)), some (.ref l), v4, v5])
    ⟨st01, ⟨[], [], st1.k _ _ nla e0, ⟨rfl, fun i v k e => by simp at e⟩, rfl, fun k hk => by simp at hk⟩, none, none, rfl⟩ ?_ ?_
  · rintro i σ F hi ⟨sF, ⟨kxs, ks, lF, hk, lk, kok⟩, v4, v5, rfl⟩
    have hi : i < 13 := by omega
    have lkx := hk.1
    have fin : ∀ {G : Hp} {v : V} {kd : Kd}, Stp a F G → KdAt K G v kd → KOk kd → Stp a H (upd G l (.lst (kxs ++ [v]))) ∧ (∃ kxs' ks', (upd G l (.lst (kxs ++ [v]))) l = some (.lst kxs') ∧ KdsAt K (upd G l (.lst (kxs ++ [v]))) kxs' ks' ∧ ks'.length = i + 1 ∧ ∀ k ∈ ks', KOk k) := fun {G v kd} sG hv hok => by
      have eG := sG.k _ _ nla lF
      refine ⟨(sF.trans sG).put hS hl, _, ks ++ [kd], upd_same, ((hk.keep (sG.keepT sF.s)).push hv).keep (keepT_lst eG), by rw [List.length_append, lk]; rfl, fun k h => ?_⟩
      rcases List.mem_append.mp h with h | h
      · exact kok k h
      · rw [List.mem_singleton.mp h]
        exact hok
    refine ⟨_, rfl, a, 6, rfl, sF.s, by decide, fun ch F2 st2 _ _ => ?_⟩
    have e2 := st2.k _ _ nla lF
    refine ⟨_, rfl, rfl, _, rfl, ite2 (fun _ => ?_) (fun _ => ⟨_, rfl, rfl, _, rfl, ite2 (fun _ => ?_) (fun _ => ?_)⟩)⟩
    · refine ⟨_, rfl, .inl ⟨rfl, _, SqL.of e2⟩, by show 1 ≤ sizeLine; decide, fun t ht => ?_⟩
      have s3 := st2.same (Same.new ht (.tup [.str "flag"]))
      have f := fin s3 ⟨t, rfl, SqT.of upd_same⟩ (kd := .flag) trivial
      exact ⟨l, _, _, rfl, rfl, s3.k _ _ nla lF, lt_line (by omega), f.1, f.2, _, _, rfl⟩
    · refine ⟨_, rfl, .inl ⟨rfl, _, SqL.of e2⟩, _, rfl, a, rfl, st2.s, fun v kd G st hv hok _ => ?_⟩
      have s3 := st2.trans st
      have f := fin s3 hv hok
      exact ⟨l, _, _, rfl, rfl, s3.k _ _ nla lF, lt_line (by omega), f.1, f.2, _, _, rfl⟩
    · have sF2 := sF.trans st2
      refine ⟨_, rfl, .inl ⟨rfl, _, SqL.of e2⟩, _, rfl, _, rfl, p, _, 0, _, rfl, rfl, sF2.rd hp hS, rfl, a, pr, as.map V.ref, true, rfl, st2.s, (fun h => by cases h), sF2.rd hpr hS, by rw [List.length_map]; omega, by rw [List.length_map]; omega, fun v G hv st => ?_⟩
      obtain ⟨b, hb, rfl⟩ := List.mem_map.mp hv
      obtain ⟨j, hj, rfl⟩ := List.getElem_of_mem hb
      obtain ⟨pf, h1, _⟩ := has j _ _ (List.getElem?_eq_getElem hj) (List.getElem?_eq_getElem (by omega))
      have s3 := st2.trans st
      refine ⟨_, _, 0, _, rfl, rfl, (sF2.trans st).rd h1 hS, rfl, by show 2 ≤ sizeLine; decide, fun t ht => ?_⟩
      have s4 := s3.same (Same.new ht (.tup [.str "ref", .str (rs[j]'(by omega)).1]))
      have f := fin s4 ⟨t, rfl, SqT.of upd_same⟩ (kd := .ref _) trivial
      exact ⟨l, _, _, rfl, rfl, s4.k _ _ nla lF, lt_line (by omega), f.1, f.2, _, _, rfl⟩
  · rintro σ F ⟨sF, ⟨kxs, ks, lF, hk, lk, kok⟩, v4, v5, rfl⟩
    exact ⟨_, rfl, q l kxs ks F sF hl lF hk (by omega) kok⟩
end
theorem cut_hiM {xs : List V} {r : Int} (h0 : 0 ≤ r) : cutV xs none (some r) = xs.take r.toNat := by
  have e : HT.sIx xs.length xs.length (some r) = min r.toNat xs.length := by
    show (if r < 0 then (r + (xs.length : Int)).toNat else min r.toNat xs.length) = _
    rw [if_neg (by omega)]
  unfold cutV
  rw [e]
  show (xs.drop 0).take (min r.toNat xs.length - 0) = _
  rw [List.drop_zero, Nat.sub_zero]
  by_cases h : r.toNat ≤ xs.length
  · rw [Nat.min_eq_left h]
  · rw [Nat.min_eq_right (by omega), List.take_length, List.take_of_length_le (by omega)]
def kvC (rd kl vl xl : Addr) : List (Key × V) := [(Sum.inr "run", .ref rd), (Sum.inr "kinds", .ref kl), (Sum.inr "values", .ref vl), (Sum.inr "fixed", .ref xl)]
theorem kvC_mk {rd kl vl xl : Addr} : mergeK [] [(Sum.inr "run", .ref rd), (Sum.inr "kinds", .ref kl), (Sum.inr "values", .ref vl), (Sum.inr "fixed", .ref xl)] = kvC rd kl vl xl := by kernel_rfl
theorem kvC_run {rd kl vl xl : Addr} : valV (kvC rd kl vl xl) (Sum.inr "run") = some (.ref rd) := by kernel_rfl
theorem kvC_kinds {rd kl vl xl : Addr} : valV (kvC rd kl vl xl) (Sum.inr "kinds") = some (.ref kl) := by kernel_rfl
theorem kvC_values {rd kl vl xl : Addr} : valV (kvC rd kl vl xl) (Sum.inr "values") = some (.ref vl) := by kernel_rfl
theorem kvC_fixed {rd kl vl xl : Addr} : valV (kvC rd kl vl xl) (Sum.inr "fixed") = some (.ref xl) := by kernel_rfl
structure CaseE (K : PySem.W.Frag) (H : Hp) (c : Addr) (rs : List Rk) (rd kl vl xl : Addr) (R : List Rc) (kxs us : List V) (ks : List Kd) (fx : List Nat) : Prop where
  c : H c = some (.dK (kvC rd kl vl xl))
  r : ∃ a, RunAt K a H rd rs R
  g : HpG rs R
  k1 : H kl = some (.lst kxs)
  k2 : KdsAt K H kxs ks
  v1 : H vl = some (.lst us)
  v2 : VsOk ks R.length us
  x1 : H xl = some (.lst (natsV fx))
  x2 : fx.Nodup
  x3 : ∀ i ∈ fx, i < R.length
  ln : R.length ≤ 90
  lk : ks.length ≤ 12
theorem CaseE.same {K : PySem.W.Frag} {H H' : Hp} {c : Addr} {rs : List Rk} {rd kl vl xl : Addr} {R : List Rc} {kxs us : List V} {ks : List Kd} {fx : List Nat} (s : Same H H') (h : CaseE K H c rs rd kl vl xl R kxs us ks fx) : CaseE K H' c rs rd kl vl xl R kxs us ks fx :=
  ⟨s _ _ h.c, by obtain ⟨a, r⟩ := h.r; exact ⟨a, r.same s⟩, h.g, s _ _ h.k1, h.k2.keep (KeepT.of s), s _ _ h.v1, h.v2, s _ _ h.x1, h.x2, h.x3, h.ln, h.lk⟩
def CaseAt (K : PySem.W.Frag) (H : Hp) (c : Addr) (rs : List Rk) : Prop := ∃ rd kl vl xl R kxs us ks fx, CaseE K H c rs rd kl vl xl R kxs us ks fx
theorem CaseAt.same {K : PySem.W.Frag} {H H' : Hp} {c : Addr} {rs : List Rk} (s : Same H H') (h : CaseAt K H c rs) : CaseAt K H' c rs := by
  obtain ⟨rd, kl, vl, xl, R, kxs, us, ks, fx, h⟩ := h
  exact ⟨rd, kl, vl, xl, R, kxs, us, ks, fx, h.same s⟩
def spCase (K : PySem.W.Frag) : Sp := fun vs H Q _ => ∃ (a p : Addr) (rs : List Rk), vs = [.ref a, .ref p] ∧ Src H a ∧ PgAt K H p rs ∧ WldOk rs ∧ rs ≠ [] ∧ ∀ c H', Stp a H H' → CaseAt K H' c rs → Q (.ref c) H'
section
variable {P : Program} {w : World} {K : PySem.W.Frag} {mg : Str → Option Value} {base : Heap}
theorem ok_l_case (T : Txt w K mg) : FnOk P w K mg base CX0 5 T.a_l_case T.d_l_case p_l_case (spCase K) := by
  have g_l_pick := ok_l_pick (P := P) (w := w) (base := base) T
  have g_l_heap := ok_l_heap (P := P) (w := w) (K := K) (base := base) T
  have g_l_variables := ok_l_variables (P := P) (w := w) (K := K) (base := base) T
  have g_l_drawn_value := ok_l_drawn_value (P := P) (w := w) (K := K) (base := base) T
  have g_l_shuffled := ok_l_shuffled (P := P) (w := w) (base := base) T
  refine T.F_l_case.ok sc_l_case (fun vs H Q E h => ?_) (fun cdv A outer s H vs Q E hr h => ?_)
  · obtain ⟨a, p, rs, rfl, _⟩ := h
    rfl
  obtain ⟨a, p, rs, rfl, hS, hp, wok, rne, q⟩ := h
  refine ⟨_, (pss_cons (ps_set (i := 2) sc_l_case.nd rfl (Or.inl rfl) (pe_call g_l_pick (hr.mono (by first | decide | omega)) rfl T.m_l_pick T.F_l_pick.kp T.b_l_pick .nil pass0 (pa_cons (pv 0) (pa_cons pe_int pa_nil))))
      (pss_cons (ps_set (i := 3) sc_l_case.nd rfl (Or.inl rfl) (pe_op op_add pe_int (pe_call g_l_pick (hr.mono (by first | decide | omega)) rfl T.m_l_pick T.F_l_pick.kp T.b_l_pick .nil pass0 (pa_cons (pv 0) (pa_cons pe_int pa_nil)))))
      (pss_cons (ps_set (i := 4) sc_l_case.nd rfl (Or.inl rfl) pe_int)
      (pss_cons (ps_set (i := 5) sc_l_case.nd rfl (Or.inl rfl) pe_int)
      (C8.pss_cut (ps_if (pt_cmpR op_eq (pv 2) pe_int (nomark _)) (pss_cons (ps_set (i := 3) sc_l_case.nd rfl (Or.inl rfl) (pe_op op_add pe_int (pe_call g_l_pick (hr.mono (by first | decide | omega)) rfl T.m_l_pick T.F_l_pick.kp T.b_l_pick .nil pass0 (pa_cons (pv 0) (pa_cons pe_int pa_nil)))))
      (pss_one (ps_set (i := 4) sc_l_case.nd rfl (Or.inl rfl) pe_int))) pss_nil)
      (C8.pss_cut (ps_if (pt_cmpR op_eq (pv 2) pe_int (nomark _)) (pss_one (ps_set (i := 5) sc_l_case.nd rfl (Or.inl rfl) (pe_call g_l_pick (hr.mono (by first | decide | omega)) rfl T.m_l_pick T.F_l_pick.kp T.b_l_pick .nil pass0 (pa_cons (pv 0) (pa_cons pe_int pa_nil))))) pss_nil)
      (C8.pss_cut (ps_if (pt_cmpR op_eq (pv 2) pe_int (nomark _)) (pss_one (ps_set (i := 3) sc_l_case.nd rfl (Or.inl rfl) (pe_call g_l_pick (hr.mono (by first | decide | omega)) rfl T.m_l_pick T.F_l_pick.kp T.b_l_pick .nil pass0 (pa_cons (pv 0) (pa_cons pe_int pa_nil))))) pss_nil)
      (pss_cons (ps_set (i := 6) sc_l_case.nd rfl (Or.inr rfl) (pe_call g_l_heap (hr.mono (by first | decide | omega)) rfl T.m_l_heap T.F_l_heap.kp T.b_l_heap .nil pass0 (pa_cons (pv 0) (pa_cons (pv 1) (pa_cons (pv 3) (pa_cons (pv 5) pa_nil))))))
      (pss_cons (ps_set (i := 7) sc_l_case.nd rfl (Or.inl rfl) (pe_call g_l_variables (hr.mono (by first | decide | omega)) rfl T.m_l_variables T.F_l_variables.kp T.b_l_variables .nil pass0 (pa_cons (pv 0) (pa_cons (pv 1) (pa_cons (pv 4) pa_nil)))))
      (pss_cons (ps_setLc (i := 8) (own := [("_law_kind", 9)]) (g := gName 9) (tt := tYes) rfl sc_l_case.nd rfl rfl (sw_true rfl rfl rfl (by decide +kernel)) (pi_list (pv 7)) (blkOk_by (own := [("_law_kind", 9)]) (N := n_l_case) (sc := defScope s_l_case) (by decide +kernel)) (fun _ _ _ _ _ => (pg_name (i := 9) sc_l_case.nd rfl (Or.inl rfl))) (fun _ _ _ _ _ => pts_nil) (fun _ _ _ _ _ => (pe_call g_l_drawn_value (hr.mono (by first | decide | omega)) rfl T.m_l_drawn_value T.F_l_drawn_value.kp T.b_l_drawn_value .nil pass0 (pa_cons (pv 0) (pa_cons (pv 6) (pa_cons (pv 9) pa_nil))))))
      (pss_cons (ps_set (i := 10) sc_l_case.nd rfl (Or.inl rfl) (pe_slice sl_list (pe_call g_l_shuffled (hr.mono (by first | decide | omega)) rfl T.m_l_shuffled T.F_l_shuffled.kp T.b_l_shuffled .nil pass0 (pa_cons (pv 0) (pa_cons (pe_callB call_len_seq rfl T.z_len PySem.boot_len (pa_cons (pe_dget (hu_of hr) (pv 6) pe_str (fun _ _ => rfl)) pa_nil)) pa_nil))) po_none (po_some (pe_call g_l_pick (hr.mono (by first | decide | omega)) rfl T.m_l_pick T.F_l_pick.kp T.b_l_pick .nil pass0 (pa_cons (pv 0) (pa_cons (pe_op op_sub (pv 4) pe_int) pa_nil))))))
      (pss_one (ps_ret (pe_disp (pps_cons pe_str (pv 6) (pps_cons pe_str (pv 7) (pps_cons pe_str (pv 8) (pps_cons pe_str (pv 10) pps_nil)))) (by rfl) (by rfl) (fun z => by cases z) (by decide))))))))))))))), ?_⟩
  refine ⟨_, rfl, a, 8, rfl, hS, by decide, fun sty H1 st1 y0 _ => ?_⟩
  refine ⟨_, rfl, a, 5, rfl, st1.s, by decide, fun r1 H2 st2 r10 r11 => ⟨_, _, rfl, rfl, ?_⟩⟩
  have st12 := st1.trans st2
  refine ⟨fun σ G => ∃ sz lg : Int, Stp a H G ∧ 0 ≤ sz ∧ sz ≤ 24 ∧ (sty ≠ 0 → sz ≤ 7) ∧ 5 ≤ lg ∧ lg ≤ 12 ∧ σ = [some (.ref a), some (.ref p), some (.int sty), some (.int sz), some (.int lg), some (.int 0), none, none, none, none, none], ?_, ?_⟩
  · refine ⟨_, rfl, rfl, _, rfl, ite2 (fun h => ?_) (fun h => ?_)⟩
    · refine ⟨_, rfl, a, 17, rfl, st12.s, by decide, fun r H3 st3 r0 r1' => ⟨_, _, rfl, rfl, 8 + r, 12, st12.trans st3, by omega, by omega, fun n => ?_, by decide, by decide, rfl⟩⟩
      exact absurd (V.int.inj (of_decide_eq_true h)) n
    · exact ⟨3 + r1, 5, st12, by omega, by omega, fun _ => by omega, by decide, by decide, rfl⟩
  rintro σ G ⟨sz, lg, stG, z0, z24, z7, g5, g12, rfl⟩
  clear st12 st2 st1
  refine ⟨fun σ G => ∃ tm : Int, Stp a H G ∧ 0 ≤ tm ∧ tm ≤ 8 ∧ (tm = 0 ∨ sz ≤ 7) ∧ σ = [some (.ref a), some (.ref p), some (.int sty), some (.int sz), some (.int lg), some (.int tm), none, none, none, none, none], ?_, ?_⟩
  · refine ⟨_, rfl, rfl, _, rfl, ite2 (fun h => ?_) (fun h => ?_)⟩
    · refine ⟨_, rfl, a, 9, rfl, stG.s, by decide, fun r H3 st3 r0 r1' => ⟨r, stG.trans st3, r0, by omega, .inr (z7 ?_), rfl⟩⟩
      have := V.int.inj (of_decide_eq_true h)
      omega
    · exact ⟨0, stG, by decide, by decide, .inl rfl, rfl⟩
  rintro σ G2 ⟨tm, stG2, t0, t8, tz, rfl⟩
  clear stG G
  refine ⟨fun σ G => ∃ (sn tn : Nat), Stp a H G ∧ sn ≤ 24 ∧ tn ≤ 8 ∧ (tn = 0 ∨ sn ≤ 7) ∧ σ = [some (.ref a), some (.ref p), some (.int sty), some (.int (sn : Int)), some (.int lg), some (.int (tn : Int)), none, none, none, none, none], ?_, ?_⟩
  · obtain ⟨tn, rfl⟩ := Int.eq_ofNat_of_zero_le t0
    refine ⟨_, rfl, rfl, _, rfl, ite2 (fun h => ?_) (fun h => ?_)⟩
    · refine ⟨_, rfl, a, 3, rfl, stG2.s, by decide, fun r H3 st3 r0 r1' => ?_⟩
      obtain ⟨rn, rfl⟩ := Int.eq_ofNat_of_zero_le r0
      exact ⟨rn, tn, stG2.trans st3, by omega, by omega, .inr (by omega), rfl⟩
    · obtain ⟨sn, rfl⟩ := Int.eq_ofNat_of_zero_le z0
      exact ⟨sn, tn, stG2, by omega, by omega, by omega, rfl⟩
  rintro σ G ⟨sn, tn, stG, s24, t8', stz, rfl⟩
  clear tz t8 t0 tm stG2 G2 z7 z24 z0 sz
  have hp100 : sn * (tn + 1) ≤ 100 := by
    rcases id stz with rfl | h
    · omega
    · exact Nat.le_trans (Nat.mul_le_mul h (show tn + 1 ≤ 9 by omega)) (by decide)
  refine ⟨_, rfl, _, rfl, _, rfl, _, rfl, a, p, sn, tn, rs, rfl, stG.s, hp.keep (stG.keepT hS), wok, rne, hp100, by omega, by omega, fun rd R H4 st4 hrd hrun hg hlR => ?_⟩
  have stH4 := stG.trans st4
  obtain ⟨ln, rfl⟩ := Int.eq_ofNat_of_zero_le (show 0 ≤ lg by omega)
  refine ⟨_, rfl, _, rfl, _, rfl, a, p, ln, rs, rfl, st4.s, hp.keep (stH4.keepT hS), wok, rne, by omega, fun kl kxs ks H5 st5 hkl ekl hk lk kok => ?_⟩
  have stH5 := stH4.trans st5
  have nkl := (st4.s.ne hkl).symm
  have run5 := hrun.stp st5 st4.s
  -- the values
  refine ⟨_, rfl, kl, rfl, ⟨_, SqL.of ekl⟩, fun D hD => ?_⟩
  have nD := (st5.s.ne hD).symm
  refine lc_it (walk_list (xs := kxs)) (fun m G => Stp a H5 G ∧ ∃ us : List V, G D = some (.lst us) ∧ us.length = m ∧ ∀ (k : Nat) (u : V) (kd : Kd), us[k]? = some u → ks[k]? = some kd → DrV R kd u) ⟨Stp.of_same st5.s (Same.new hD _), [], upd_same, rfl, fun k u f e => by simp at e⟩ (fun i G _ P => SqL.of (P.1.k _ _ nkl ekl)) ?_ ?_
  · rintro m u F F' hm ⟨sF, us, eD, lus, hus⟩ ⟨rfl, ex⟩
    have hm2 : m < ks.length := by rw [← hk.1]; exact hm
    have ek : ks[m]? = some ks[m] := List.getElem?_eq_getElem hm2
    have hkd := hk.2 m _ _ ex ek
    have kok1 := kok _ (List.getElem_mem hm2)
    generalize ks[m] = kd at ek hkd kok1
    refine ⟨rfl, tyes ?_⟩
    refine ⟨_, rfl, _, rfl, _, rfl, a, rd, u, kd, rs, R, rfl, sF.s, run5.stp sF st5.s, hkd.keep (sF.keepT st5.s), kok1, hg.ln, fun v G2 s2 hv => ?_⟩
    refine ⟨_, s2.k _ _ nD eD, lt_line (by omega), (sF.trans s2).put st5.s hD, us ++ [v], upd_same, by rw [List.length_append, lus]; rfl, fun k u' f' e1 e2 => ?_⟩
    rcases two_get e1 with ⟨l1, e1⟩ | ⟨l1, rfl⟩
    · exact hus k u' f' e1 e2
    · rw [l1, lus, ek] at e2
      obtain rfl := Option.some.inj e2
      exact hv
  rintro F ⟨sF, us, eD, lus, hus⟩
  rw [hk.1] at lus
  have stHF := stH5.trans sF
  have runF := run5.stp sF st5.s
  have eklF := sF.k _ _ nkl ekl
  have hkF := hk.keep (sF.keepT st5.s)
  have vok : VsOk ks R.length us := by
    refine ⟨lus, fun k hk hrf => ?_, fun v hv => ?_, by omega⟩
    · have e1 := List.getElem?_eq_getElem hk
      have e2 : ks[k]? = some (ks[k]'(by omega)) := List.getElem?_eq_getElem _
      have g := hus k _ _ e1 e2
      rw [getD_get e2] at hrf
      obtain ⟨sn', es⟩ := isRef_eq hrf
      rw [es] at g
      rw [getD_get e1]
      rcases g with h | ⟨j, r', h, e, _⟩
      · exact .inl h
      · exact .inr ⟨j, h, (List.getElem?_eq_some_iff.mp e).1⟩
    · obtain ⟨k, hk, rfl⟩ := List.getElem_of_mem hv
      exact (hus k _ _ (List.getElem?_eq_getElem hk) (List.getElem?_eq_getElem (by omega))).flat
  -- the fixed ones
  obtain ⟨kvs, kf, lr, df, rows, run⟩ := id runF
  refine ⟨_, rfl, _, rfl, rd, _, rfl, DGet.at (k := Sum.inr "records") run.hd run.kr, lr, _, rfl, .inl (SqL.of run.hl), a, R.length, by rw [run.lr]; rfl, sF.s, hg.ln, fun l o F2 st6 hl eo pm => ?_⟩
  have nla := (sF.s.ne hl).symm
  refine ⟨_, rfl, _, rfl, _, _, rfl, rfl, a, _, rfl, st6.s, by omega, fun r F3 st7 r0 _ => ⟨r, rfl, l, _, rfl, SqL.of (st7.k _ _ nla eo), fun xl hxl => ?_⟩⟩
  rw [cut_hiM r0]
  have st67 := st6.trans st7
  have sx := Same.new hxl (.lst ((natsV o).take r.toNat))
  have ex : (upd F3 xl (.lst ((natsV o).take r.toNat))) xl = some (.lst (natsV (o.take r.toNat))) := by
    rw [upd_same]
    unfold natsV
    rw [List.map_take]
  have stE := st67.same sx
  generalize (upd F3 xl (.lst ((natsV o).take r.toNat))) = G8 at sx ex stE
  have runE := runF.stp stE sF.s
  have eklE := stE.k _ _ nkl eklF
  have hkE := hkF.keep (stE.keepT sF.s)
  have evlE := stE.k _ _ nD eD
  refine fun c hc => ⟨_, rfl, _, rfl, _, rfl, _, rfl, upd_same, [(Sum.inr "run", .ref rd), (Sum.inr "kinds", .ref kl), (Sum.inr "values", .ref D), (Sum.inr "fixed", .ref xl)], rfl, by show 4 ≤ 15; decide, ?_⟩
  rw [kvC_mk]
  have sc : Same G8 (upd (upd G8 c (.dK [])) c (.dK (kvC rd kl D xl))) := fun b u e => by
    rw [upd_ne (ne_of_none e hc), upd_ne (ne_of_none e hc)]
    exact e
  have mo : ∀ k, k ∈ o → k < R.length := fun k hk => by rw [pm.mem_iff, List.mem_range] at hk; exact hk
  refine q c _ ((stHF.trans stE).same sc) ⟨rd, kl, D, xl, R, kxs, us, ks, o.take r.toNat, upd_same, ⟨a, runE.same sc⟩, hg, sc _ _ eklE, hkE.keep (KeepT.of sc), sc _ _ evlE, vok, sc _ _ ex, ?_, fun i hi => mo i (List.mem_of_mem_take hi), ?_, lk⟩
  · exact (pm.nodup_iff.mpr List.nodup_range).sublist (List.take_sublist _ _)
  · rw [hlR]
    rcases stz with rfl | h
    · omega
    · exact Nat.le_trans (Nat.mul_le_mul h (show tn + 1 ≤ 9 by omega)) (by decide)
end
namespace IsB
/-! ### x is True, x is False -/
section
variable {M : Model} {A : Around} {E : Value → Shared → Prop} {s : Shared} {Q : Value → Shared → Prop}
theorem is_bool_ref {a : Addr} {b : Bool} (h : Q (.bool false) s) : wpAny M A (compareOp .Is (.ref a) (.bool b)) Q E s := wpAny_pure h
theorem is_bool_none {b : Bool} (h : Q (.bool false) s) : wpAny M A (compareOp .Is .none (.bool b)) Q E s := wpAny_pure h
theorem is_bool_bool {c b : Bool} (h : Q (.bool (Value.bool c == Value.bool b)) s) : wpAny M A (compareOp .Is (.bool c) (.bool b)) Q E s := wpAny_pure h
theorem is_bool_int {i : Int} {t : Nat} {b : Bool} (h : Q (.bool false) s) : wpAny M A (compareOp .Is (.int i t) (.bool b)) Q E s := wpAny_pure h
theorem is_bool_str {x : Str} {t : Nat} {b : Bool} (h : Q (.bool false) s) : wpAny M A (compareOp .Is (.str x t) (.bool b)) Q E s := wpAny_pure h
end
section
variable {X : Cx}
def plV : V → Bool
  | .non | .bl _ | .int _ | .str _ | .ref _ => true
  | _ => false
theorem op_isB : OpR X (compareOp .Is) (fun x y H Q => ∃ b : Bool, y = .bl b ∧ plV x = true ∧ Q (.bl (decide (x = .bl b))) H) := by
  intro pins s σ H x y v u Q I rx ry h
  obtain ⟨b, rfl, hp, q⟩ := h
  cases ry
  cases x with
  | non => cases rx; exact is_bool_none (fin_bl I q rfl)
  | bl c => cases rx; exact is_bool_bool (fin_bl I q (by cases b <;> cases c <;> rfl))
  | int i => obtain ⟨t, rfl⟩ := rx; exact is_bool_int (fin_bl I q rfl)
  | str x => obtain ⟨t, rfl⟩ := rx; exact is_bool_str (fin_bl I q rfl)
  | ref a => cases rx; exact is_bool_ref (fin_bl I q rfl)
  | _ => cases hp
end
end IsB
/-! ### keys: which plain values are keys -/
/-- plain values: none, bools, ints, texts, tuples -/
def Pl : Nat → PyData → Prop
  | 0, _ => False
  | _ + 1, .none => True
  | _ + 1, .bool _ => True
  | _ + 1, .int _ => True
  | _ + 1, .str x => PyData.strOk x = true
  | n + 1, .tuple ds => ds.length ≤ 100 ∧ ∀ d ∈ ds, Pl n d
  | _ + 1, .list _ => False
  | _ + 1, .dict _ => False
theorem Pl.up : ∀ {n m : Nat} {d : PyData}, n ≤ m → Pl n d → Pl m d
  | 0, _, _, _, h => h.elim
  | n + 1, 0, _, l, _ => absurd l (by omega)
  | n + 1, m + 1, .none, _, _ => trivial
  | n + 1, m + 1, .bool _, _, _ => trivial
  | n + 1, m + 1, .int _, _, _ => trivial
  | n + 1, m + 1, .str _, _, h => h
  | n + 1, m + 1, .tuple ds, l, h => ⟨h.1, fun d hd => Pl.up (Nat.le_of_succ_le_succ l) (h.2 d hd)⟩
  | n + 1, m + 1, .list _, _, h => h.elim
  | n + 1, m + 1, .dict _, _, h => h.elim
def tyN : PyData → String
  | .none => "NoneType"
  | .bool _ => "bool"
  | .int _ => "int"
  | .str _ => "str"
  | .list _ => "list"
  | .tuple _ => "tuple"
  | .dict _ => "dict"
def isTup : PyData → Bool
  | .tuple _ => true
  | _ => false
def isStr : PyData → Bool
  | .str _ => true
  | _ => false
def isInt : PyData → Bool
  | .int _ => true
  | .bool _ => true
  | _ => false
def isBoo : PyData → Bool
  | .bool _ => true
  | _ => false
theorem kb_bi : kitB "bool" "int" = some true := by decide +kernel
theorem kb_ni : kitB "NoneType" "int" = some false := by decide +kernel
theorem kb_nb : kitB "NoneType" "bool" = some false := by decide +kernel
theorem kb_ns : kitB "NoneType" "str" = some false := by decide +kernel
theorem kb_bs : kitB "bool" "str" = some false := by decide +kernel
theorem kb_is : kitB "int" "str" = some false := by decide +kernel
theorem kb_ti : kitB "tuple" "int" = some false := by decide +kernel
theorem kb_tb : kitB "tuple" "bool" = some false := by decide +kernel
theorem kb_ts : kitB "tuple" "str" = some false := by decide +kernel
theorem kbTup {n : Nat} {d : PyData} (h : Pl n d) : kitB (tyN d) "tuple" = some (isTup d) := by
  cases n with
  | zero => exact h.elim
  | succ n =>
    cases d with
    | none => exact kb_nt
    | bool b => exact kb_bt
    | int i => exact kb_it
    | str z => exact kb_st
    | tuple l => exact kb_tt
    | list l => exact h.elim
    | dict l => exact h.elim
theorem kbStr {n : Nat} {d : PyData} (h : Pl n d) : kitB (tyN d) "str" = some (isStr d) := by
  cases n with
  | zero => exact h.elim
  | succ n =>
    cases d with
    | none => exact kb_ns
    | bool b => exact kb_bs
    | int i => exact kb_is
    | str z => exact kb_ss
    | tuple l => exact kb_ts
    | list l => exact h.elim
    | dict l => exact h.elim
theorem kbInt {n : Nat} {d : PyData} (h : Pl n d) : kitB (tyN d) "int" = some (isInt d) := by
  cases n with
  | zero => exact h.elim
  | succ n =>
    cases d with
    | none => exact kb_ni
    | bool b => exact kb_bi
    | int i => exact kb_ii
    | str z => exact kb_si
    | tuple l => exact kb_ti
    | list l => exact h.elim
    | dict l => exact h.elim
theorem kbBoo {n : Nat} {d : PyData} (h : Pl n d) : kitB (tyN d) "bool" = some (isBoo d) := by
  cases n with
  | zero => exact h.elim
  | succ n =>
    cases d with
    | none => exact kb_nb
    | bool b => exact kb_bb
    | int i => exact kb_ib
    | str z => exact kb_sb
    | tuple l => exact kb_tb
    | list l => exact h.elim
    | dict l => exact h.elim
theorem dpTy {K : PySem.W.Frag} {H : Hp} {v : V} {d : PyData} (h : Dp K H v d) : TyX K H v (.type (tyN d)) := by
  cases h with
  | non => exact .base .non
  | bl b => exact .base (.bl _)
  | int i => exact .base (.int _)
  | str x => exact .base (.str _)
  | lst h1 _ => exact tyL h1
  | tup h1 _ => exact tyT h1
theorem dpPlV {K : PySem.W.Frag} {H : Hp} {v : V} {d : PyData} (h : Dp K H v d) : IsB.plV v = true := by
  cases h <;> rfl
/-- a plain value has the kind -/
def fitF (nms : List Str) : Kd → PyData → Bool
  | .flag, .bool _ => true
  | .ref _, .none => true
  | .ref s, .int i => decide (0 ≤ i) && decide (nms[i.toNat]? = some s)
  | .num lo hi, .int i => decide (lo ≤ i) && decide (i ≤ hi)
  | _, _ => false
def allFitF (nms : List Str) (ks : List Kd) (ds : List PyData) : Bool := decide (ds.length = ks.length) && (List.range ds.length).all fun i => fitF nms (ks.getD i .flag) (ds.getD i .none)
def formF (rs : List Rk) : PyData → Bool
  | .tuple [.str z, .bool b, .tuple ds] => decide (z ∈ rs.map (·.1)) && (b || ds.isEmpty)
  | _ => false
def spHasKind (K : PySem.W.Frag) : Sp := fun vs H Q _ => ∃ (v kv : V) (nl : Addr) (d : PyData) (n : Nat) (kd : Kd) (nms : List Str), vs = [v, kv, .ref nl] ∧ Dp K H v d ∧ Pl n d ∧ KdAt K H kv kd ∧ H nl = some (.lst (nms.map V.str)) ∧ Q (.bl (fitF nms kd d)) H
section
variable {P : Program} {w : World} {K : PySem.W.Frag} {mg : Str → Option Value} {base : Heap}
theorem ok_has_kind (T : Txt w K mg) : FnOk P w K mg base CX0 1 T.a_has_kind T.d_has_kind p_has_kind (spHasKind K) := by
  refine T.F_has_kind.ok sc_has_kind (fun vs H Q E h => ?_) (fun cdv A outer s H vs Q E hr h => ?_)
  · obtain ⟨v, kv, nl, d, n, kd, nms, rfl, _⟩ := h
    rfl
  obtain ⟨v, kv, nl, d, n, kd, nms, rfl, hd, pl, ⟨p, rfl, hp⟩, hn, q⟩ := h
  refine ⟨_, (pss_cons (ps_if (pt_cmpR op_eq (pe_ix ix_tup (pv 1) pe_int (fun _ _ => rfl)) pe_str (nomark _)) (pss_one (ps_ret (pe_or (pe_cmpR IsB.op_isB (pv 0) pe_bl (nomark _)) (pe_one (pe_cmpR IsB.op_isB (pv 0) pe_bl (nomark _)))))) pss_nil)
      (pss_cons (ps_if (PW.pt (pw_and (pt_cmpR op_eq (pe_ix ix_tup (pv 1) pe_int (fun _ _ => rfl)) pe_str (nomark _)) (pw_and1 (pt_cmpR op_isN (pv 0) pe_non (nomark _))))) (pss_one (ps_ret pe_bl)) pss_nil)
      (pss_cons (ps_if (PW.pt (pw_or (pt_not (pt_val (pe_callB call_isi rfl T.z_isinstance bb_isinstance (pa_cons (pv 0) (pa_cons (pe_bltn (v := .ty "int") rfl T.z_int bt_int rfl) pa_nil))))) (pw_or1 (pt_val (pe_callB call_isi rfl T.z_isinstance bb_isinstance (pa_cons (pv 0) (pa_cons (pe_bltn (v := .ty "bool") rfl T.z_bool bt_bool rfl) pa_nil))))))) (pss_one (ps_ret pe_bl)) pss_nil)
      (pss_cons (ps_if (pt_cmpR op_eq (pe_ix ix_tup (pv 1) pe_int (fun _ _ => rfl)) pe_str (nomark _)) (pss_one (ps_ret (pe_chain op_le op_le (pe_ix ix_tup (pv 1) pe_int (fun _ _ => rfl)) (pv 0) (pe_ix ix_tup (pv 1) pe_int (fun _ _ => rfl))))) pss_nil)
      (pss_one (ps_ret (pe_and (pe_chain op_le op_lt pe_int (pv 0) (pe_callB call_len_seq rfl T.z_len PySem.boot_len (pa_cons (pv 2) pa_nil))) (pe_one (pe_cmpR op_eq (pe_ix ix_list (pv 2) (pv 0) (fun _ _ => rfl)) (pe_ix ix_tup (pv 1) pe_int (fun _ _ => rfl)) (nomark _)))))))))), ?_⟩
  cases kd with
  | flag =>
    refine ⟨_, rfl, p, _, 0, _, rfl, rfl, hp, rfl, rfl, _, rfl, ifT (by decide +kernel) ?_⟩
    refine ⟨_, rfl, _, rfl, dpPlV hd, ?_⟩
    cases hd with
    | bl b =>
      cases b with
      | true => exact ⟨_, rfl, ifT (by decide +kernel) q⟩
      | false => exact ⟨_, rfl, ifF (by decide +kernel) ⟨_, rfl, _, rfl, rfl, by rw [decide_eq_true rfl]; exact q⟩⟩
    | non => exact ⟨_, rfl, ifF (by decide +kernel) ⟨_, rfl, _, rfl, rfl, q⟩⟩
    | int i => exact ⟨_, rfl, ifF (decide_eq_false fun z => by cases z) ⟨_, rfl, _, rfl, rfl, by rw [decide_eq_false fun z => by cases z]; exact q⟩⟩
    | str i => exact ⟨_, rfl, ifF (decide_eq_false fun z => by cases z) ⟨_, rfl, _, rfl, rfl, by rw [decide_eq_false fun z => by cases z]; exact q⟩⟩
    | lst _ _ => exact ⟨_, rfl, ifF (decide_eq_false fun z => by cases z) ⟨_, rfl, _, rfl, rfl, by rw [decide_eq_false fun z => by cases z]; exact q⟩⟩
    | tup _ _ => exact ⟨_, rfl, ifF (decide_eq_false fun z => by cases z) ⟨_, rfl, _, rfl, rfl, by rw [decide_eq_false fun z => by cases z]; exact q⟩⟩
  | num lo hi =>
    refine ⟨_, rfl, p, _, 0, _, rfl, rfl, hp, rfl, rfl, _, rfl, ifF (by decide +kernel) ?_⟩
    refine ⟨_, rfl, p, _, 0, _, rfl, rfl, hp, rfl, rfl, _, rfl, ifF (by decide +kernel) (iteF ?_)⟩
    refine ⟨_, rfl, _, _, _, _, isInt d, rfl, .ty _, dpTy hd, kit_ty (kbInt pl), _, rfl, ?_⟩
    cases hi1 : isInt d with
    | false =>
      have e : fitF nms (.num lo hi) d = false := by cases d <;> first | rfl | cases hi1
      rw [e] at q
      exact iteT (iteT q)
    | true =>
      refine iteF ⟨_, rfl, _, _, _, _, isBoo d, rfl, .ty _, dpTy hd, kit_ty (kbBoo pl), _, rfl, ?_⟩
      cases hb : isBoo d with
      | true =>
        have e : fitF nms (.num lo hi) d = false := by cases d <;> first | rfl | cases hb
        rw [e] at q
        exact iteT q
      | false =>
        obtain ⟨i, rfl⟩ : ∃ i, d = .int i := by cases d <;> first | exact ⟨_, rfl⟩ | (cases hi1; done) | (cases hb; done)
        cases hd
        refine iteF ?_
        refine ⟨_, rfl, p, _, 0, _, rfl, rfl, hp, rfl, rfl, _, rfl, ifT (by decide +kernel) ?_⟩
        refine ⟨_, rfl, p, _, 1, _, rfl, rfl, hp, rfl, _, rfl, _, _, rfl, rfl, _, rfl, ite2 (fun h => ?_) (fun h => ?_)⟩
        · refine ⟨_, rfl, p, _, 2, _, rfl, rfl, hp, rfl, _, _, rfl, rfl, ?_⟩
          have e : fitF nms (.num lo hi) (.int i) = decide (i ≤ hi) := by
            show (decide (lo ≤ i) && decide (i ≤ hi)) = _
            rw [h]
            rfl
          rw [e] at q
          exact q
        · have e : fitF nms (.num lo hi) (.int i) = false := by
            show (decide (lo ≤ i) && decide (i ≤ hi)) = _
            rw [Bool.eq_false_iff.mpr h]
            rfl
          rw [e] at q
          exact q
  | ref sz =>
    refine ⟨_, rfl, p, _, 0, _, rfl, rfl, hp, rfl, rfl, _, rfl, ifF (by decide +kernel) ?_⟩
    refine ⟨_, rfl, p, _, 0, _, rfl, rfl, hp, rfl, rfl, _, rfl, ifT (by decide +kernel) ⟨_, rfl, rfl, _, rfl, ?_⟩⟩
    by_cases dn : d = .none
    · subst dn
      cases hd
      exact iteT q
    have vn : decide (v = V.non) = false := decide_eq_false fun z => dn (by subst z; cases hd; rfl)
    refine ifF vn ?_
    refine ⟨_, rfl, _, _, _, _, isInt d, rfl, .ty _, dpTy hd, kit_ty (kbInt pl), _, rfl, ?_⟩
    cases hi1 : isInt d with
    | false =>
      have e : fitF nms (.ref sz) d = false := by cases d <;> first | rfl | exact absurd rfl dn | cases hi1
      rw [e] at q
      exact iteT (iteT q)
    | true =>
      refine iteF ⟨_, rfl, _, _, _, _, isBoo d, rfl, .ty _, dpTy hd, kit_ty (kbBoo pl), _, rfl, ?_⟩
      cases hb : isBoo d with
      | true =>
        have e : fitF nms (.ref sz) d = false := by cases d <;> first | rfl | cases hb
        rw [e] at q
        exact iteT q
      | false =>
        obtain ⟨i, rfl⟩ : ∃ i, d = .int i := by cases d <;> first | exact ⟨_, rfl⟩ | (cases hi1; done) | (cases hb; done)
        cases hd
        refine iteF ?_
        refine ⟨_, rfl, p, _, 0, _, rfl, rfl, hp, rfl, rfl, _, rfl, ifF (by decide +kernel) ?_⟩
        refine ⟨_, rfl, _, _, rfl, rfl, _, rfl, ite2 (fun h => ?_) (fun h => ?_)⟩
        · refine ⟨_, rfl, nl, _, rfl, .inl (SqL.of hn), _, _, rfl, rfl, _, rfl, ite2 (fun h2 => ?_) (fun h2 => ?_)⟩
          · have h0 := of_decide_eq_true h
            have hl := of_decide_eq_true h2
            rw [List.length_map] at hl
            obtain ⟨j, rfl⟩ := Int.eq_ofNat_of_zero_le h0
            have hj : j < nms.length := by omega
            have ej : nms[j]? = some nms[j] := List.getElem?_eq_getElem hj
            refine ⟨_, rfl, _, rfl, nl, _, _, _, rfl, rfl, SqL.of hn, atI_nat (map_get ej), _, rfl, p, _, 1, _, rfl, rfl, hp, rfl, rfl, ?_⟩
            have e : fitF nms (.ref sz) (.int (j : Int)) = decide (V.str nms[j] = V.str sz) := by
              show (decide (0 ≤ (j : Int)) && decide (nms[j]? = some sz)) = _
              rw [h, ej, Bool.true_and]
              simp
            rw [e] at q
            exact q
          · have e : fitF nms (.ref sz) (.int i) = false := by
              show (decide (0 ≤ i) && decide (nms[i.toNat]? = some sz)) = _
              have h3 : nms[i.toNat]? = none := by
                refine List.getElem?_eq_none ?_
                have h4 : ¬ i < ((nms.map V.str).length : Int) := fun z => h2 (decide_eq_true z)
                rw [List.length_map] at h4
                omega
              rw [h3]
              simp
            rw [e] at q
            exact q
        · have e : fitF nms (.ref sz) (.int i) = false := by
            show (decide (0 ≤ i) && _) = _
            rw [Bool.eq_false_iff.mpr h]
            rfl
          rw [e] at q
          exact ⟨_, rfl, iteF q⟩
end
theorem bb_all : bootBuiltins "all" = some (.builtin "all") := by decide +kernel
theorem iteNT {c A B : Prop} [Decidable c] (hc : ¬ c) (h : A) : if (!decide c) = true then A else B := by
  rw [decide_eq_false hc]
  exact iteT h
def spAllFit (K : PySem.W.Frag) : Sp := fun vs H Q _ => ∃ (pw0 pk nl : Addr) (xs kxs : List V) (ds : List PyData) (n : Nat) (t : Bool) (ks : List Kd) (nms : List Str), vs = [.ref pw0, .ref pk, .ref nl] ∧ SqT K H pw0 xs ∧ DpAll K H xs ds ∧ (∀ d ∈ ds, Pl n d) ∧ ds.length ≤ 100 ∧ Sq t K H pk kxs ∧ KdsAt K H kxs ks ∧ H nl = some (.lst (nms.map V.str)) ∧ ∀ H', Same H H' → Q (.bl (allFitF nms ks ds)) H'
mutual
theorem Dp.same {K : PySem.W.Frag} {H H' : Hp} (s : Same H H') : ∀ (d : PyData) (v : V), Dp K H v d → Dp K H' v d
  | .none, _, h => by cases h; exact .non
  | .bool _, _, h => by cases h; exact .bl _
  | .int _, _, h => by cases h; exact .int _
  | .str _, _, h => by cases h; exact .str _
  | .list ds, _, h => by
    cases h with
    | lst h1 h2 => exact .lst (Same.seq s h1) (DpAll.same s ds _ h2)
  | .tuple ds, _, h => by
    cases h with
    | tup h1 h2 => exact .tup (Same.tup s h1) (DpAll.same s ds _ h2)
  | .dict _, _, h => by cases h
theorem DpAll.same {K : PySem.W.Frag} {H H' : Hp} (s : Same H H') : ∀ (ds : List PyData) (vs : List V), DpAll K H vs ds → DpAll K H' vs ds
  | [], _, h => by cases h; exact .nil
  | d :: ds, _, h => by
    cases h with
    | cons h1 h2 => exact .cons (Dp.same s d _ h1) (DpAll.same s ds _ h2)
end
theorem dpAll_at {K : PySem.W.Frag} {H : Hp} {vs : List V} {ds : List PyData} {i : Nat} {v : V} (h : DpAll K H vs ds) (e : vs[i]? = some v) : ∃ d, ds[i]? = some d ∧ Dp K H v d := by
  have l := dpAll_len h
  have hi : i < ds.length := by rw [← l]; exact (List.getElem?_eq_some_iff.mp e).1
  have e2 : ds[i]? = some ds[i] := List.getElem?_eq_getElem hi
  obtain ⟨v', e3, g⟩ := dpAll_get h e2
  rw [e] at e3
  obtain rfl := Option.some.inj e3
  exact ⟨_, e2, g⟩
theorem getD_at {α : Type} {xs : List α} {i : Nat} {x y : α} (h : xs[i]? = some x) : xs.getD i y = x := by
  rw [List.getD_eq_getElem?_getD, h]
  rfl
section
variable {P : Program} {w : World} {K : PySem.W.Frag} {mg : Str → Option Value} {base : Heap}
theorem ok_all_fit (T : Txt w K mg) : FnOk P w K mg base CX0 2 T.a_all_fit T.d_all_fit p_all_fit (spAllFit K) := by
  have g_has_kind := ok_has_kind (P := P) (w := w) (K := K) (base := base) T
  refine T.F_all_fit.ok sc_all_fit (fun vs H Q E h => ?_) (fun cdv A outer s H vs Q E hr h => ?_)
  · obtain ⟨pw0, pk, nl, xs, kxs, ds, n, t, ks, nms, rfl, _⟩ := h
    rfl
  obtain ⟨pw0, pk, nl, xs, kxs, ds, n, t, ks, nms, rfl, hv, hd, pl, l100, hk, hks, hn, q⟩ := h
  refine ⟨_, (pss_cons (ps_if (pt_cmpR op_ne (pe_callB call_len_seq rfl T.z_len PySem.boot_len (pa_cons (pv 0) pa_nil)) (pe_callB call_len_seq rfl T.z_len PySem.boot_len (pa_cons (pv 1) pa_nil)) (nomark _)) (pss_one (ps_ret pe_bl)) pss_nil)
      (pss_one (ps_ret (pe_callB (cr_all rfl) rfl T.z_all bb_all (pa_cons (pe_lc (own := [("value", 3), ("kind", 4)]) (g := gTup K 2 (gCons (gName 3) (gCons (gName 4) gNil))) (tt := tYes) rfl sc_all_fit.nd (ZG.pi_zipG (by rfl) T.z_zip (pa_cons (pv 0) (pa_cons (pv 1) pa_nil))) (blkOk_by (own := [("value", 3), ("kind", 4)]) (N := n_all_fit) (sc := defScope s_all_fit) (by decide +kernel)) (fun _ _ _ _ _ => (pg_tup rfl (pgs_cons (pg_name (i := 3) sc_all_fit.nd rfl (Or.inl rfl)) (pgs_cons (pg_name (i := 4) sc_all_fit.nd rfl (Or.inl rfl)) pgs_nil)))) (fun _ _ _ _ _ => pts_nil) (fun _ _ _ _ _ => (pe_call g_has_kind (hr.mono (by first | decide | omega)) rfl T.m_has_kind T.F_has_kind.kp T.b_has_kind .nil pass0 (pa_cons (pv 3) (pa_cons (pv 4) (pa_cons (pv 2) pa_nil)))))) pa_nil))))), ?_⟩
  have lx := dpAll_len hd
  have lk := hks.1
  have hk2 : SqL K H pk kxs ∨ SqT K H pk kxs := by
    cases t
    · exact .inl hk
    · exact .inr hk
  refine ⟨_, rfl, pw0, _, rfl, .inr hv, _, rfl, pk, _, rfl, hk2, rfl, _, rfl, ?_⟩
  by_cases hl : ds.length = ks.length
  · refine iteNS (congrArg V.int (by omega)) ?_
    refine ⟨_, rfl, _, rfl, true, t, pw0, pk, _, _, rfl, hv, hk, fun D hD => ?_⟩
    refine lc_it (walk_zipG (n := ds.length) (by omega)) (fun m F => Same H F ∧ F D = some (.lst (((List.range m).map fun i => fitF nms (ks.getD i .flag) (ds.getD i .none)).map V.bl))) ⟨Same.new hD _, upd_same⟩ (fun i F _ P2 => ⟨Sq.same P2.1 hv, Sq.same P2.1 hk⟩) ?_ ?_
    · rintro j y F F' hj ⟨sF, eD⟩ ⟨t2, c1, c2, rfl, ht2, rfl, e1, e2⟩
      obtain ⟨d, ed, hd1⟩ := dpAll_at hd e1
      have ek : ks[j]? = some (ks[j]'(by omega)) := List.getElem?_eq_getElem _
      have hkd := hks.2 j _ _ e2 ek
      have ekd : ks.getD j .flag = ks[j]'(by omega) := getD_at ek
      generalize (ks[j]'(by omega)) = kd at ek hkd ekd
      have s2 := Same.new ht2 (.tup [c1, c2])
      have s3 := sF.trans s2
      refine ⟨t2, _, rfl, SqT.of upd_same, rfl, _, _, rfl, _, _, rfl, rfl, ?_⟩
      refine ⟨rfl, tyes ?_⟩
      refine ⟨_, rfl, _, rfl, _, rfl, c1, c2, nl, d, n, kd, nms, rfl, Dp.same s3 _ _ hd1, pl d (List.mem_of_getElem? ed), hkd.keep (KeepT.of s3), s3 _ _ hn, ?_⟩
      refine ⟨_, s2 _ _ eD, lt_line (by rw [List.length_map, List.length_map, List.length_range]; omega), fun b u e => by rw [upd_ne (ne_of_none e hD)]; exact s3 _ _ e, ?_⟩
      rw [List.range_succ, List.map_append, List.map_append]
      show upd _ D (.lst (_ ++ [V.bl (fitF nms kd d)])) D = _
      rw [upd_same, ← ekd, ← getD_at (y := PyData.none) ed]
      rfl
    rintro F ⟨sF, eD⟩
    refine ⟨D, _, rfl, SqL.of eD, ?_⟩
    have e : allFitF nms ks ds = ((List.range ds.length).map fun i => fitF nms (ks.getD i .flag) (ds.getD i .none)).all id := by
      unfold allFitF
      rw [hl, decide_eq_true rfl, Bool.true_and, List.all_map]
      rfl
    have := q F sF
    rw [e] at this
    exact this
  · refine iteNT (fun z => hl ?_) ?_
    · have := V.int.inj z
      omega
    · have e : allFitF nms ks ds = false := by
        unfold allFitF
        rw [decide_eq_false hl]
        rfl
      have := q H (Same.refl _)
      rw [e] at this
      exact this
end
/-! ### keys: the form of a record -/
mutual
theorem pl_shape : ∀ (n : Nat) (d : PyData), Pl n d → PyData.canLay0 d = true ∧ PyData.depth d ≤ n
  | 0, _, h => h.elim
  | n + 1, .none, _ => ⟨by simp [PyData.canLay0], by simp [PyData.depth]⟩
  | n + 1, .bool _, _ => ⟨by simp [PyData.canLay0], by simp [PyData.depth]⟩
  | n + 1, .int _, _ => ⟨by simp [PyData.canLay0], by simp [PyData.depth]⟩
  | n + 1, .str x, h => ⟨by simp only [PyData.canLay0]; exact h, by simp [PyData.depth]⟩
  | n + 1, .tuple ds, h => by
    have g := pl_shapes n ds h.2
    refine ⟨?_, ?_⟩
    · simp only [PyData.canLay0]
      exact g.1
    · simp only [PyData.depth]
      have := g.2
      omega
  | n + 1, .list _, h => h.elim
  | n + 1, .dict _, h => h.elim
theorem pl_shapes : ∀ (n : Nat) (ds : List PyData), (∀ d ∈ ds, Pl n d) → PyData.canLayAll0 ds = true ∧ PyData.depthAll ds ≤ n
  | n, [], _ => ⟨by simp [PyData.canLayAll0], by simp [PyData.depthAll]⟩
  | n, d :: ds, h => by
    have g1 := pl_shape n d (h d List.mem_cons_self)
    have g2 := pl_shapes n ds fun x hx => h x (List.mem_cons_of_mem _ hx)
    refine ⟨?_, ?_⟩
    · simp only [PyData.canLayAll0]
      rw [g1.1, g2.1]
      rfl
    · simp only [PyData.depthAll]
      have := g1.2
      have := g2.2
      omega
end
theorem pl_shaped {n : Nat} {d : PyData} (h : Pl n d) (hn : n ≤ 64) : SeqAt.shaped d = true := by
  have g := pl_shape n d h
  unfold SeqAt.shaped
  rw [g.1, decide_eq_true (by omega)]
  rfl
theorem eqv_nil {ds : List PyData} : PyData.eqv (.tuple ds) (.tuple []) = ds.isEmpty := by
  cases ds <;> simp [PyData.eqv, PyData.eqvAll]
def spForm (K : PySem.W.Frag) : Sp := fun vs H Q _ => ∃ (v : V) (fk : Addr) (d : PyData) (n : Nat) (kvs : List (Key × V)) (rs : List Rk), vs = [v, .ref fk] ∧ Dp K H v d ∧ Pl n d ∧ n ≤ 64 ∧ H fk = some (.dK kvs) ∧ (∀ z : Str, (valV kvs (Sum.inr z)).isSome = true ↔ z ∈ rs.map (·.1)) ∧ ∀ H', Same H H' → Q (.bl (formF rs d)) H'
section
variable {P : Program} {w : World} {K : PySem.W.Frag} {mg : Str → Option Value} {base : Heap}
theorem ok_has_record_form (T : Txt w K mg) : FnOk P w K mg base CX0 1 T.a_has_record_form T.d_has_record_form p_has_record_form (spForm K) := by
  refine T.F_has_record_form.ok sc_has_record_form (fun vs H Q E h => ?_) (fun cdv A outer s H vs Q E hr h => ?_)
  · obtain ⟨v, fk, d, n, kvs, rs, rfl, _⟩ := h
    rfl
  obtain ⟨v, fk, d, n, kvs, rs, rfl, hd, pl, hn, hfk, hks, q⟩ := h
  have q0 : formF rs d = false → Q (.bl false) H := fun e => by
    have := q H (Same.refl _)
    rw [e] at this
    exact this
  refine ⟨_, (pss_cons (ps_if (PW.pt (pw_or (pt_not (pt_val (pe_callB call_isi rfl T.z_isinstance bb_isinstance (pa_cons (pv 0) (pa_cons (pe_bltn (v := .ty "tuple") rfl T.z_tuple bt_tuple rfl) pa_nil))))) (pw_or1 (pt_cmpR op_ne (pe_callB call_len_seq rfl T.z_len PySem.boot_len (pa_cons (pv 0) pa_nil)) pe_int (nomark _))))) (pss_one (ps_ret pe_bl)) pss_nil)
      (pss_cons (ps_asg (pv 0) (pg_tup rfl (pgs_cons (pg_name (i := 2) sc_has_record_form.nd rfl (Or.inl rfl)) (pgs_cons (pg_name (i := 3) sc_has_record_form.nd rfl (Or.inl rfl)) (pgs_cons (pg_name (i := 4) sc_has_record_form.nd rfl (Or.inl rfl)) pgs_nil)))))
      (pss_cons (ps_if (PW.pt (pw_or (pt_not (pt_val (pe_callB call_isi rfl T.z_isinstance bb_isinstance (pa_cons (pv 2) (pa_cons (pe_bltn (v := .ty "str") rfl T.z_str bt_str rfl) pa_nil))))) (pw_or (pt_cmp (pc_dnotin (hu_of hr) (pv 2) (pv 1))) (pw_or1 (pt_not (pt_val (pe_callB call_isi rfl T.z_isinstance bb_isinstance (pa_cons (pv 4) (pa_cons (pe_bltn (v := .ty "tuple") rfl T.z_tuple bt_tuple rfl) pa_nil))))))))) (pss_one (ps_ret pe_bl)) pss_nil)
      (pss_one (ps_ret (pe_or (pe_cmpR IsB.op_isB (pv 3) pe_bl (nomark _)) (pe_one (pe_and (pe_cmpR IsB.op_isB (pv 3) pe_bl (nomark _)) (pe_one (pe_cmpR (op_eqD hr.units) (pv 4) (pe_tup pa_nil) (nomark _))))))))))), ?_⟩
  refine ⟨_, rfl, _, _, _, _, isTup d, rfl, .ty _, dpTy hd, kit_ty (kbTup pl), _, rfl, ?_⟩
  cases ht : isTup d with
  | false => exact iteT (iteT (q0 (by cases d <;> first | rfl | cases ht)))
  | true =>
  obtain ⟨ds, rfl⟩ : ∃ ds, d = .tuple ds := by cases d <;> first | exact ⟨_, rfl⟩ | cases ht
  cases hd with
  | @tup p xs _ hp hxs =>
  have lx := dpAll_len hxs
  have pl1 : Pl (n - 1 + 1) (.tuple ds) := by
    cases n with
    | zero => exact pl.elim
    | succ n => exact pl
  refine iteF ⟨_, rfl, p, _, rfl, .inr hp, rfl, _, rfl, ?_⟩
  by_cases l3 : ds.length = 3
  · refine iteNS (congrArg V.int (by omega)) ?_
    obtain ⟨a, b, c, rfl⟩ : ∃ a b c, ds = [a, b, c] := by
      match ds, l3 with
      | [a, b, c], _ => exact ⟨a, b, c, rfl⟩
    obtain ⟨x, y, z, rfl⟩ : ∃ x y z, xs = [x, y, z] := by
      match xs, lx with
      | [a, b, c], _ => exact ⟨a, b, c, rfl⟩
    cases hxs with
    | cons ha h2 =>
    cases h2 with
    | cons hb h3 =>
    cases h3 with
    | cons hc _ =>
    have pa := pl1.2 a List.mem_cons_self
    have pb := pl1.2 b (List.mem_cons_of_mem _ List.mem_cons_self)
    have pc := pl1.2 c (List.mem_cons_of_mem _ (List.mem_cons_of_mem _ List.mem_cons_self))
    refine ⟨_, rfl, p, _, rfl, hp, rfl, _, _, rfl, _, _, rfl, _, _, rfl, rfl, ?_⟩
    refine ⟨_, rfl, _, _, _, _, isStr a, rfl, .ty _, dpTy ha, kit_ty (kbStr pa), _, rfl, ?_⟩
    cases hs : isStr a with
    | false => exact iteT (iteT (q0 (by cases a <;> first | rfl | cases hs)))
    | true =>
    obtain ⟨nm, rfl⟩ : ∃ nm, a = .str nm := by cases a <;> first | exact ⟨_, rfl⟩ | cases hs
    cases ha
    refine iteF ⟨_, rfl, _, rfl, fk, _, rfl, DGet.k (k := Sum.inr nm) hfk, _, rfl, ?_⟩
    by_cases hm : nm ∈ rs.map (·.1)
    · rw [(hks nm).mpr hm]
      refine iteF ⟨_, rfl, _, _, _, _, isTup c, rfl, .ty _, dpTy hc, kit_ty (kbTup pc), _, rfl, ?_⟩
      cases hu : isTup c with
      | false => exact iteT (q0 (by cases c <;> first | (cases b <;> rfl) | cases hu))
      | true =>
      obtain ⟨es, rfl⟩ : ∃ es, c = .tuple es := by cases c <;> first | exact ⟨_, rfl⟩ | cases hu
      refine iteF ⟨_, rfl, _, rfl, dpPlV hb, ?_⟩
      have q1 : ∀ {b0 : Bool}, b = .bool b0 → ∀ H', Same H H' → Q (.bl (b0 || es.isEmpty)) H' := fun {b0} e H' s => by
        have := q H' s
        rw [e] at this
        have e2 : formF rs (.tuple [.str nm, .bool b0, .tuple es]) = (b0 || es.isEmpty) := by
          show (decide (nm ∈ rs.map (·.1)) && _) = _
          rw [decide_eq_true hm]
          rfl
        rw [e2] at this
        exact this
      have q2 : (∀ b0, b ≠ .bool b0) → Q (.bl false) H := fun ne => q0 (by cases b <;> first | rfl | exact absurd rfl (ne _))
      cases hb with
      | bl b0 =>
        cases b0 with
        | true => exact ⟨_, rfl, ifT (by decide +kernel) (q1 rfl H (Same.refl _))⟩
        | false =>
          refine ⟨_, rfl, ifF (by decide +kernel) ⟨_, rfl, _, rfl, rfl, _, rfl, ifT (by decide +kernel) ?_⟩⟩
          refine ⟨_, rfl, by show 0 ≤ sizeLine; decide, fun t ht => ?_⟩
          have st := Same.new ht (.tup [])
          have := q1 rfl _ st
          exact ⟨.tuple es, .tuple [], Dp.same st _ _ hc, .tup (SqT.of upd_same) .nil, pl_shaped pc (by omega), pl_shaped (n := 1) ⟨by show 0 ≤ 100; decide, fun d hd => by cases hd⟩ (by decide), by rw [eqv_nil]; exact this⟩
      | non => exact ⟨_, rfl, ifF (by decide +kernel) ⟨_, rfl, _, rfl, rfl, _, rfl, ifF (by decide +kernel) (q2 fun _ z => by cases z)⟩⟩
      | int i => exact ⟨_, rfl, ifF (decide_eq_false fun z => by cases z) ⟨_, rfl, _, rfl, rfl, _, rfl, ifF (decide_eq_false fun z => by cases z) (q2 fun _ z => by cases z)⟩⟩
      | str i => exact ⟨_, rfl, ifF (decide_eq_false fun z => by cases z) ⟨_, rfl, _, rfl, rfl, _, rfl, ifF (decide_eq_false fun z => by cases z) (q2 fun _ z => by cases z)⟩⟩
      | lst _ _ => exact ⟨_, rfl, ifF (decide_eq_false fun z => by cases z) ⟨_, rfl, _, rfl, rfl, _, rfl, ifF (decide_eq_false fun z => by cases z) (q2 fun _ z => by cases z)⟩⟩
      | tup _ _ => exact ⟨_, rfl, ifF (decide_eq_false fun z => by cases z) ⟨_, rfl, _, rfl, rfl, _, rfl, ifF (decide_eq_false fun z => by cases z) (q2 fun _ z => by cases z)⟩⟩
    · rw [Bool.eq_false_iff.mpr fun z => hm ((hks nm).mp z)]
      refine iteT (iteT (q0 ?_))
      cases b with
      | bool b0 => 
        cases c with
        | tuple es =>
          show (decide (nm ∈ rs.map (·.1)) && _) = _
          rw [decide_eq_false hm]
          rfl
        | _ => rfl
      | _ => rfl
  · refine iteNT (fun z => l3 ?_) (q0 ?_)
    · have := V.int.inj z
      omega
    · match ds, l3 with
      | [], _ => rfl
      | [a], _ => cases a <;> rfl
      | [a, b], _ => cases a <;> cases b <;> rfl
      | [a, b, c], l => exact absurd rfl l
      | a :: b :: c :: e :: l, _ => cases a <;> cases b <;> cases c <;> rfl
end
/-! ### keys: is_key -/
def dV : PyData → V
  | .bool b => .bl b
  | .int i => .int i
  | _ => .non
def rcD : PyData → Rc
  | .tuple [.str z, .bool b, .tuple ds] => ⟨z, b, ds.map dV⟩
  | _ => ⟨"", false, []⟩
def liveFit (nms : List Str) (rs : List Rk) : PyData → Bool
  | .tuple [.str z, .bool b, .tuple ds] => !b || allFitF nms (flOf rs z) ds
  | _ => true
def keyH (rs : List Rk) (R : List Rc) (ks : List Kd) (us : List V) (o : List Nat) : PyData := .tuple [.tuple ((trL ks us o).map vD), .tuple (o.map (recD rs R o))]
def nmsD (rd : List PyData) : List Str := rd.map fun d => (rcD d).nm
def ordD (rs : List Rk) (ks : List Kd) (vs rd : List PyData) (n : Nat) : List Nat := orderF (nbR rs (rd.map rcD)) (List.range n) (refsAt (vs.map dV) (refPl ks))
def goodF (rs : List Rk) (ks : List Kd) (vs rd : List PyData) (n : Nat) : Bool := decide (n ≤ rd.length) && rd.all (formF rs) && rd.all (liveFit (nmsD rd) rs) && allFitF (nmsD rd) ks vs
def isKeyF (rs : List Rk) (ks : List Kd) (n : Nat) : PyData → Bool
  | .tuple [.tuple vs, .tuple rd] => goodF rs ks vs rd n && PyData.eqv (keyH rs (rd.map rcD) ks (vs.map dV) (ordD rs ks vs rd n)) (.tuple [.tuple vs, .tuple rd])
  | _ => false
theorem formF_inv {rs : List Rk} {d : PyData} (h : formF rs d = true) : ∃ z b ds, d = .tuple [.str z, .bool b, .tuple ds] ∧ z ∈ rs.map (·.1) ∧ (b = true ∨ ds = []) := by
  unfold formF at h
  split at h
  · rename_i z b ds
    rw [Bool.and_eq_true] at h
    refine ⟨z, b, ds, rfl, of_decide_eq_true h.1, ?_⟩
    cases b with
    | true => exact .inl rfl
    | false => exact .inr (List.isEmpty_iff.mp (by simpa using h.2))
  · cases h
theorem allFit_inv {nms : List Str} {ks : List Kd} {ds : List PyData} (h : allFitF nms ks ds = true) : ds.length = ks.length ∧ ∀ (i : Nat) (d : PyData) (k : Kd), ds[i]? = some d → ks[i]? = some k → fitF nms k d = true := by
  unfold allFitF at h
  rw [Bool.and_eq_true] at h
  refine ⟨of_decide_eq_true h.1, fun i d k e1 e2 => ?_⟩
  have := List.all_eq_true.mp h.2 i (List.mem_range.mpr (List.getElem?_eq_some_iff.mp e1).1)
  rw [getD_at e1, getD_at e2] at this
  exact this
theorem fit_flat {nms : List Str} {k : Kd} {d : PyData} (h : fitF nms k d = true) : Flat3 (dV d) ∧ ∀ {K : PySem.W.Frag} {H : Hp} {v : V}, Dp K H v d → v = dV d := by
  cases d with
  | none => exact ⟨.inl rfl, fun g => by cases g; rfl⟩
  | bool b => exact ⟨.inr (.inl ⟨b, rfl⟩), fun g => by cases g; rfl⟩
  | int i => exact ⟨.inr (.inr ⟨i, rfl⟩), fun g => by cases g; rfl⟩
  | _ => cases k <;> cases h
theorem fit_ref {nms : List Str} {s : Str} {d : PyData} (h : fitF nms (.ref s) d = true) : dV d = .non ∨ ∃ j : Nat, dV d = .int (j : Int) ∧ nms[j]? = some s := by
  cases d with
  | none => exact .inl rfl
  | int i =>
    have h : (decide (0 ≤ i) && decide (nms[i.toNat]? = some s)) = true := h
    rw [Bool.and_eq_true] at h
    have h0 := of_decide_eq_true h.1
    obtain ⟨j, rfl⟩ := Int.eq_ofNat_of_zero_le h0
    exact .inr ⟨j, rfl, of_decide_eq_true h.2⟩
  | _ => cases h
/-- what the checks say of the values and records -/
structure GoodD (rs : List Rk) (ks : List Kd) (vs rd : List PyData) (n : Nat) : Prop where
  n : n ≤ rd.length
  f : ∀ d ∈ rd, formF rs d = true
  l : ∀ d ∈ rd, liveFit (nmsD rd) rs d = true
  v : allFitF (nmsD rd) ks vs = true
theorem good_iff {rs : List Rk} {ks : List Kd} {vs rd : List PyData} {n : Nat} : goodF rs ks vs rd n = true ↔ GoodD rs ks vs rd n := by
  unfold goodF
  rw [Bool.and_eq_true, Bool.and_eq_true, Bool.and_eq_true, List.all_eq_true, List.all_eq_true]
  exact ⟨fun h => ⟨of_decide_eq_true h.1.1.1, h.1.1.2, h.1.2, h.2⟩, fun h => ⟨⟨⟨decide_eq_true h.n, h.f⟩, h.l⟩, h.v⟩⟩
theorem nmsD_at {rd : List PyData} {j : Nat} {s : Str} (h : (nmsD rd)[j]? = some s) : ∃ r, (rd.map rcD)[j]? = some r ∧ r.nm = s := by
  unfold nmsD at h
  rw [List.getElem?_map] at h
  cases e : rd[j]? with
  | none => rw [e] at h; cases h
  | some d =>
    rw [e] at h
    exact ⟨rcD d, by rw [List.getElem?_map, e]; rfl, Option.some.inj h⟩
theorem GoodD.hp {rs : List Rk} {ks : List Kd} {vs rd : List PyData} {n : Nat} (w : WldOk rs) (h : GoodD rs ks vs rd n) (l : rd.length ≤ 100) : HpG rs (rd.map rcD) := by
  refine ⟨fun r hr => ?_, by rw [List.length_map]; exact l⟩
  obtain ⟨d, hd, rfl⟩ := List.mem_map.mp hr
  obtain ⟨z, b, ds, rfl, hz, hb⟩ := formF_inv (h.f d hd)
  have hl : (!b || allFitF (nmsD rd) (flOf rs z) ds) = true := h.l _ hd
  obtain ⟨rk0, mk0, ek0⟩ := List.mem_map.mp hz
  have fit : b = true → allFitF (nmsD rd) (flOf rs z) ds = true := fun e => by
    rw [e] at hl
    exact hl
  refine ⟨⟨rk0, mk0, ek0⟩, fun hlv => ?_, fun hlv => ?_, fun k s hk hs => ?_, fun v hv => ?_⟩
  · show (ds.map dV).length = _
    rw [List.length_map]
    exact (allFit_inv (fit hlv)).1
  · have hlv : b = false := hlv
    rcases hb with hb | hb
    · rw [hb] at hlv; cases hlv
    · show ds.map dV = []
      rw [hb]
      rfl
  · have hk : k < (ds.map dV).length := hk
    rw [List.length_map] at hk
    have hb1 : b = true := by
      rcases hb with hb | hb
      · exact hb
      · rw [hb] at hk
        exact absurd hk (Nat.not_lt_zero _)
    have g := allFit_inv (fit hb1)
    have e1 : ds[k]? = some ds[k] := List.getElem?_eq_getElem hk
    have e2 : (flOf rs z)[k]? = some ((flOf rs z)[k]'(by omega)) := List.getElem?_eq_getElem _
    have hs : (flOf rs z).getD k .flag = .ref s := hs
    rw [getD_at e2] at hs
    have f := g.2 k _ _ e1 e2
    rw [hs] at f
    show (ds.map dV).getD k .non = .non ∨ ∃ (j : Nat) (r' : Rc), (ds.map dV).getD k .non = .int (j : Int) ∧ _
    rw [getD_at (xs := ds.map dV) (x := dV ds[k]) (by rw [List.getElem?_map, e1]; rfl)]
    rcases fit_ref f with f | ⟨j, f, e⟩
    · exact .inl f
    · obtain ⟨r, e3, e4⟩ := nmsD_at e
      exact .inr ⟨j, r, f, e3, e4⟩
  · have hv : v ∈ ds.map dV := hv
    obtain ⟨d, hd, rfl⟩ := List.mem_map.mp hv
    obtain ⟨k, hk, rfl⟩ := List.getElem_of_mem hd
    have hb1 : b = true := by
      rcases hb with hb | hb
      · exact hb
      · subst hb
        exact absurd hk (Nat.not_lt_zero _)
    have g := allFit_inv (fit hb1)
    have e2 : (flOf rs z)[k]? = some ((flOf rs z)[k]'(by omega)) := List.getElem?_eq_getElem _
    exact (fit_flat (g.2 k _ _ (List.getElem?_eq_getElem hk) e2)).1
theorem GoodD.vok {rs : List Rk} {ks : List Kd} {vs rd : List PyData} {n : Nat} (h : GoodD rs ks vs rd n) (l : vs.length ≤ 100) : VsOk ks (rd.map rcD).length (vs.map dV) := by
  have g := allFit_inv h.v
  refine ⟨by rw [List.length_map]; exact g.1, fun k hk hrf => ?_, fun v hv => ?_, by omega⟩
  · rw [List.length_map] at hk
    have e1 : vs[k]? = some vs[k] := List.getElem?_eq_getElem hk
    have e2 : ks[k]? = some (ks[k]'(by omega)) := List.getElem?_eq_getElem _
    have f := g.2 k _ _ e1 e2
    rw [getD_at e2] at hrf
    obtain ⟨s, es⟩ := isRef_eq hrf
    rw [es] at f
    rw [getD_at (xs := vs.map dV) (x := dV vs[k]) (by rw [List.getElem?_map, e1]; rfl)]
    rcases fit_ref f with f | ⟨j, f, e⟩
    · exact .inl f
    · obtain ⟨r, e3, _⟩ := nmsD_at e
      exact .inr ⟨j, f, (List.getElem?_eq_some_iff.mp e3).1⟩
  · obtain ⟨d, hd, rfl⟩ := List.mem_map.mp hv
    obtain ⟨k, hk, rfl⟩ := List.getElem_of_mem hd
    have e2 : ks[k]? = some (ks[k]'(by omega)) := List.getElem?_eq_getElem _
    exact (fit_flat (g.2 k _ _ (List.getElem?_eq_getElem hk) e2)).1
theorem dp_row {K : PySem.W.Frag} {H : Hp} {xs : List V} {ds : List PyData} {nms : List Str} {ks : List Kd} (h : DpAll K H xs ds) (f : allFitF nms ks ds = true) : xs = ds.map dV := by
  have g := allFit_inv f
  have l := dpAll_len h
  refine List.ext_getElem? fun i => ?_
  by_cases hi : i < ds.length
  · have e1 : ds[i]? = some ds[i] := List.getElem?_eq_getElem hi
    have e2 : ks[i]? = some (ks[i]'(by omega)) := List.getElem?_eq_getElem _
    obtain ⟨v, ev, hv⟩ := dpAll_get h e1
    rw [ev, List.getElem?_map, e1, (fit_flat (g.2 i _ _ e1 e2)).2 hv]
    rfl
  · rw [List.getElem?_eq_none (by omega), List.getElem?_eq_none (by rw [List.length_map]; omega)]
theorem GoodD.rcs {K : PySem.W.Frag} {H : Hp} {rs : List Rk} {ks : List Kd} {vs rd : List PyData} {n : Nat} {xs : List V} (h : GoodD rs ks vs rd n) (hd : DpAll K H xs rd) : RcsAt K H xs (rd.map rcD) := by
  refine ⟨by rw [List.length_map]; exact dpAll_len hd, fun i v r e1 e2 => ?_⟩
  obtain ⟨d, ed, hv⟩ := dpAll_at hd e1
  rw [List.getElem?_map, ed] at e2
  obtain rfl := Option.some.inj e2
  have md := List.mem_of_getElem? ed
  obtain ⟨z, b, ds, rfl, hz, hb⟩ := formF_inv (h.f d md)
  have hl : (!b || allFitF (nmsD rd) (flOf rs z) ds) = true := h.l _ md
  cases hv with
  | @tup p ys _ hp hys =>
  cases hys with
  | cons h1 h2 =>
  cases h2 with
  | cons h2 h3 =>
  cases h3 with
  | cons h3 h4 =>
  cases h4
  cases h1
  cases h2
  cases h3 with
  | @tup t zs _ ht hzs =>
  refine ⟨p, t, rfl, hp, ?_⟩
  have e : zs = ds.map dV := by
    cases b with
    | true => exact dp_row hzs hl
    | false =>
      rcases hb with hb | hb
      · cases hb
      · subst hb
        cases hzs
        rfl
  rw [e] at ht
  exact ht
theorem vD_pl {n : Nat} {v : V} (h : Flat3 v) : Pl (n + 1) (vD v) := by
  rcases h with rfl | ⟨b, rfl⟩ | ⟨i, rfl⟩ <;> exact trivial
theorem pl_key {rs : List Rk} {R : List Rc} {ks : List Kd} {us : List V} {o : List Nat} (h1 : us.length ≤ 100) (h2 : o.length ≤ 100) (h3 : ∀ r ∈ R, r.vals.length ≤ 100) (h4 : ∀ r ∈ R, PyData.strOk r.nm = true) (f1 : ∀ v ∈ us, Flat3 v) (f2 : ∀ r ∈ R, ∀ v ∈ r.vals, Flat3 v) : Pl 5 (keyH rs R ks us o) := by
  have vals : ∀ {n : Nat} (l : List V), (∀ v ∈ l, Flat3 v) → ∀ d ∈ l.map vD, Pl (n + 1) d := fun l hl d hd => by
    obtain ⟨v, hv, rfl⟩ := List.mem_map.mp hd
    exact vD_pl (hl v hv)
  refine ⟨by show 2 ≤ 100; decide, fun d hd => ?_⟩
  rcases List.mem_cons.mp hd with rfl | hd
  · exact ⟨by rw [List.length_map, trL_len]; omega, vals _ (trL_flat f1)⟩
  · rw [List.mem_singleton.mp hd]
    refine ⟨by rw [List.length_map]; omega, fun d hd => ?_⟩
    obtain ⟨k, _, rfl⟩ := List.mem_map.mp hd
    unfold recD
    cases e : R[k]? with
    | none => exact trivial
    | some r =>
      have mr := List.mem_of_getElem? e
      have := h3 r mr
      refine ⟨by show 3 ≤ 100; decide, fun d hd => ?_⟩
      rcases List.mem_cons.mp hd with rfl | hd
      · exact h4 r mr
      · rcases List.mem_cons.mp hd with rfl | hd
        · exact trivial
        · rw [List.mem_singleton.mp hd]
          exact ⟨by rw [List.length_map, trL_len]; omega, vals _ (trL_flat (f2 r mr))⟩
/-! ### keys: is_key, the def -/
def spIsKey (K : PySem.W.Frag) : Sp := fun vs H Q _ => ∃ (p pk : Addr) (v : V) (n m : Nat) (d : PyData) (rs : List Rk) (kxs : List V) (ks : List Kd), vs = [.ref p, .ref pk, v, .int (n : Int)] ∧ PgAt K H p rs ∧ WldOk rs ∧ SqT K H pk kxs ∧ KdsAt K H kxs ks ∧ ks.length ≤ 100 ∧ Dp K H v d ∧ Pl m d ∧ m ≤ 60 ∧ n ≤ 1000 ∧ ∀ H', Same H H' → Q (.bl (isKeyF rs ks n d)) H'
theorem rgV_nats {n : Nat} : rgV 0 (n : Int) = natsV (List.range n) := by
  unfold rgV natsV
  have e : ((n : Int) - 0).toNat = n := by omega
  rw [e]
  refine List.map_congr_left fun i _ => ?_
  rw [Int.zero_add]
theorem pl_tup {n : Nat} {ds : List PyData} (h : Pl n (.tuple ds)) : ∃ k, n = k + 1 ∧ ds.length ≤ 100 ∧ ∀ d ∈ ds, Pl k d := by
  cases n with
  | zero => exact h.elim
  | succ n => exact ⟨n, rfl, h.1, h.2⟩
section
variable {P : Program} {w : World} {K : PySem.W.Frag} {mg : Str → Option Value} {base : Heap}
theorem ok_is_key (T : Txt w K mg) : FnOk P w K mg base CX0 5 T.a_is_key T.d_is_key p_is_key (spIsKey K) := by
  have g_has_record_form := ok_has_record_form (P := P) (w := w) (K := K) (base := base) T
  have g_all_fit := ok_all_fit (P := P) (w := w) (K := K) (base := base) T
  have g_number_key := ok_number_key (P := P) (w := w) (K := K) (base := base) T
  refine T.F_is_key.ok sc_is_key (fun vs H Q E h => ?_) (fun cdv A outer s H vs Q E hr h => ?_)
  · obtain ⟨p, pk, v, n, m, d, rs, kxs, ks, rfl, _⟩ := h
    rfl
  obtain ⟨p, pk, v, n, m, d, rs, kxs, ks, rfl, hp, wok, hpk, hks, k100, hd, pl, hm, hn, q⟩ := h
  have q0 : isKeyF rs ks n d = false → ∀ H', Same H H' → Q (.bl false) H' := fun e H' s => by
    have := q H' s
    rw [e] at this
    exact this
  refine ⟨_, (pss_cons (ps_if (PW.pt (pw_or (pt_not (pt_val (pe_callB call_isi rfl T.z_isinstance bb_isinstance (pa_cons (pv 2) (pa_cons (pe_bltn (v := .ty "tuple") rfl T.z_tuple bt_tuple rfl) pa_nil))))) (pw_or1 (pt_cmpR op_ne (pe_callB call_len_seq rfl T.z_len PySem.boot_len (pa_cons (pv 2) pa_nil)) pe_int (nomark _))))) (pss_one (ps_ret pe_bl)) pss_nil)
      (pss_cons (ps_asg (pv 2) (pg_tup rfl (pgs_cons (pg_name (i := 4) sc_is_key.nd rfl (Or.inl rfl)) (pgs_cons (pg_name (i := 5) sc_is_key.nd rfl (Or.inl rfl)) pgs_nil))))
      (pss_cons (ps_if (PW.pt (pw_or (pt_not (pt_val (pe_callB call_isi rfl T.z_isinstance bb_isinstance (pa_cons (pv 4) (pa_cons (pe_bltn (v := .ty "tuple") rfl T.z_tuple bt_tuple rfl) pa_nil))))) (pw_or (pt_not (pt_val (pe_callB call_isi rfl T.z_isinstance bb_isinstance (pa_cons (pv 5) (pa_cons (pe_bltn (v := .ty "tuple") rfl T.z_tuple bt_tuple rfl) pa_nil))))) (pw_or1 (pt_cmpR op_lt (pe_callB call_len_seq rfl T.z_len PySem.boot_len (pa_cons (pv 5) pa_nil)) (pv 3) (nomark _)))))) (pss_one (ps_ret pe_bl)) pss_nil)
      (pss_cons (ps_set (i := 6) sc_is_key.nd rfl (Or.inr rfl) (pe_dc (own := [("name", 9), ("fields", 10)]) (g := gTup K 2 (gCons (gName 9) (gCons (gName 10) gNil))) (tt := tYes) rfl sc_is_key.nd (pi_tup (pe_ix ix_tup (pv 0) pe_int (fun _ _ => rfl))) (blkOk_by (own := [("name", 9), ("fields", 10)]) (N := n_is_key) (sc := defScope s_is_key) (by decide +kernel)) (fun _ _ _ _ _ => (pg_tup rfl (pgs_cons (pg_name (i := 9) sc_is_key.nd rfl (Or.inl rfl)) (pgs_cons (pg_name (i := 10) sc_is_key.nd rfl (Or.inl rfl)) pgs_nil)))) (fun _ _ _ _ _ => pts_nil) (fun _ _ _ _ _ => (pv 9)) (fun _ _ _ _ _ => (pe_lc (own := [("_", 7), ("kind", 8)]) (g := gTup K 2 (gCons (gName 7) (gCons (gName 8) gNil))) (tt := tYes) rfl sc_is_key.nd (show PI _ _ _ (iTup K _) from (pi_tup (pv 10))) (blkOk_by (own := [("_", 7), ("kind", 8)]) (N := n_is_key) (sc := relS _ (defScope s_is_key)) (by decide +kernel)) (fun _ _ _ _ _ => (pg_tup rfl (pgs_cons (pg_name (i := 7) sc_is_key.nd rfl (Or.inl rfl)) (pgs_cons (pg_name (i := 8) sc_is_key.nd rfl (Or.inl rfl)) pgs_nil)))) (fun _ _ _ _ _ => pts_nil) (fun _ _ _ _ _ => (pv 8))))))
      (pss_cons (ps_if (pt_not (pt_val (pe_callB (cr_all rfl) rfl T.z_all bb_all (pa_cons (pe_lc (own := [("record", 11)]) (g := gName 11) (tt := tYes) rfl sc_is_key.nd (pi_tup (pv 5)) (blkOk_by (own := [("record", 11)]) (N := n_is_key) (sc := defScope s_is_key) (by decide +kernel)) (fun _ _ _ _ _ => (pg_name (i := 11) sc_is_key.nd rfl (Or.inl rfl))) (fun _ _ _ _ _ => pts_nil) (fun _ _ _ _ _ => (pe_call g_has_record_form (hr.mono (by first | decide | omega)) rfl T.m_has_record_form T.F_has_record_form.kp T.b_has_record_form .nil pass0 (pa_cons (pv 11) (pa_cons (pv 6) pa_nil))))) pa_nil)))) (pss_one (ps_ret pe_bl)) pss_nil)
      (pss_cons (ps_setLc (i := 12) (own := [("record", 11)]) (g := gName 11) (tt := tYes) rfl sc_is_key.nd rfl rfl (sw_true rfl rfl rfl (by decide +kernel)) (pi_tup (pv 5)) (blkOk_by (own := [("record", 11)]) (N := n_is_key) (sc := defScope s_is_key) (by decide +kernel)) (fun _ _ _ _ _ => (pg_name (i := 11) sc_is_key.nd rfl (Or.inl rfl))) (fun _ _ _ _ _ => pts_nil) (fun _ _ _ _ _ => (pe_ix (show IxR _ (rIxT K) from ix_tup) (pv 11) pe_int (fun _ _ => rfl))))
      (pss_cons (ps_for PassesOwn.never rfl (pi_tup (pv 5)) (pg_tup rfl (pgs_cons (pg_name (i := 9) sc_is_key.nd rfl (Or.inl rfl)) (pgs_cons (pg_name (i := 13) sc_is_key.nd rfl (Or.inl rfl)) (pgs_cons (pg_name (i := 10) sc_is_key.nd rfl (Or.inl rfl)) pgs_nil))))
        (pss_one (ps_if (PW.pt (pw_and (pt_val (pv 13)) (pw_and1 (pt_not (pt_val (pe_call g_all_fit (hr.mono (by first | decide | omega)) rfl T.m_all_fit T.F_all_fit.kp T.b_all_fit .nil pass0 (pa_cons (pv 10) (pa_cons (pe_dget (hu_of hr) (pv 6) (pv 9) (fun _ _ => rfl)) (pa_cons (pv 12) pa_nil))))))))) (pss_one (ps_ret pe_bl)) pss_nil)))
      (pss_cons (ps_if (pt_not (pt_val (pe_call g_all_fit (hr.mono (by first | decide | omega)) rfl T.m_all_fit T.F_all_fit.kp T.b_all_fit .nil pass0 (pa_cons (pv 4) (pa_cons (pv 1) (pa_cons (pv 12) pa_nil)))))) (pss_one (ps_ret pe_bl)) pss_nil)
      (pss_one (ps_ret (pe_cmpR (op_eqD hr.units) (pe_ix ix_tup (pe_call g_number_key (hr.mono (by first | decide | omega)) rfl T.m_number_key T.F_number_key.kp T.b_number_key .nil pass0 (pa_cons (pv 0) (pa_cons (pv 1) (pa_cons (pv 4) (pa_cons (pv 5) (pa_cons (pe_tupRg rfl rfl T.z_tuple (prg_1 rfl T.z_range (pv 3))) pa_nil)))))) pe_int (fun _ _ => rfl)) (pv 2) (nomark _)))))))))))), ?_⟩
  have pok := wok.pok
  refine ⟨_, rfl, _, _, _, _, isTup d, rfl, .ty _, dpTy hd, kit_ty (kbTup pl), _, rfl, ?_⟩
  cases ht : isTup d with
  | false => exact iteT (iteT (q0 (by cases d <;> first | rfl | cases ht) H (Same.refl _)))
  | true =>
  obtain ⟨ds, rfl⟩ : ∃ ds, d = .tuple ds := by cases d <;> first | exact ⟨_, rfl⟩ | cases ht
  cases hd with
  | @tup pd xs _ hpd hxs =>
  have lx := dpAll_len hxs
  have pl1 : Pl (m - 1 + 1) (.tuple ds) := by
    cases m with
    | zero => exact pl.elim
    | succ n => exact pl
  refine iteF ⟨_, rfl, pd, _, rfl, .inr hpd, rfl, _, rfl, ?_⟩
  by_cases l2 : ds.length = 2
  · refine iteNS (congrArg V.int (by omega)) ?_
    obtain ⟨a, b, rfl⟩ : ∃ a b, ds = [a, b] := by
      match ds, l2 with
      | [a, b], _ => exact ⟨a, b, rfl⟩
    obtain ⟨x, y, rfl⟩ : ∃ x y, xs = [x, y] := by
      match xs, lx with
      | [a, b], _ => exact ⟨a, b, rfl⟩
    have hkey : Dp K H (.ref pd) (.tuple [a, b]) := .tup hpd hxs
    cases hxs with
    | cons ha h2 =>
    cases h2 with
    | cons hb _ =>
    have pa := pl1.2 a List.mem_cons_self
    have pb := pl1.2 b (List.mem_cons_of_mem _ List.mem_cons_self)
    refine ⟨_, rfl, pd, _, rfl, hpd, rfl, _, _, rfl, _, _, rfl, rfl, ?_⟩
    refine ⟨_, rfl, _, _, _, _, isTup a, rfl, .ty _, dpTy ha, kit_ty (kbTup pa), _, rfl, ?_⟩
    cases ua : isTup a with
    | false => exact iteT (iteT (q0 (by cases a <;> first | rfl | cases ua) H (Same.refl _)))
    | true =>
    obtain ⟨vd, rfl⟩ : ∃ l, a = .tuple l := by cases a <;> first | exact ⟨_, rfl⟩ | cases ua
    refine iteF ⟨_, rfl, _, _, _, _, isTup b, rfl, .ty _, dpTy hb, kit_ty (kbTup pb), _, rfl, ?_⟩
    cases ub : isTup b with
    | false => exact iteT (iteT (q0 (by cases b <;> first | rfl | cases ub) H (Same.refl _)))
    | true =>
    obtain ⟨rd, rfl⟩ : ∃ l, b = .tuple l := by cases b <;> first | exact ⟨_, rfl⟩ | cases ub
    have m1 : ∃ m1, m - 1 = m1 + 1 := by
      cases e : m - 1 with
      | zero => rw [e] at pa; exact pa.elim
      | succ n => exact ⟨n, rfl⟩
    obtain ⟨m1, em⟩ := m1
    rw [em] at pa pb
    have hm1 : m1 ≤ 60 := by omega
    cases ha with
    | @tup pv0 us _ hv hus =>
    cases hb with
    | @tup pr0 rxs _ hrr hrd =>
    have lus := dpAll_len hus
    have lrx := dpAll_len hrd
    have plv := pa.2
    have plr := pb.2
    have v100 := pa.1
    have r100 := pb.1
    have q1 : goodF rs ks vd rd n = false → ∀ H', Same H H' → Q (.bl false) H' := fun e => q0 (by
      show (goodF rs ks vd rd n && _) = false
      rw [e]
      rfl)
    refine iteF ⟨_, rfl, pr0, _, rfl, .inr hrr, _, rfl, _, _, rfl, rfl, _, rfl, ite2 (fun hlt => ?_) (fun hge => ?_)⟩
    · have hlt := of_decide_eq_true hlt
      refine q1 ?_ H (Same.refl _)
      cases e : goodF rs ks vd rd n with
      | false => rfl
      | true =>
        have := (good_iff.mp e).n
        omega
    have hnr : n ≤ rd.length := by
      by_cases h : n ≤ rd.length
      · exact h
      · exact absurd (decide_eq_true (by omega)) hge
    -- the kinds of the fields
    obtain ⟨prg, x1, y1, z1, as, hp0, hpr, las, has⟩ := id hp
    refine ⟨_, rfl, p, _, _, _, rfl, rfl, hp0, rfl, prg, rfl, ⟨_, hpr⟩, fun D hD => ?_⟩
    refine dc_it (walk_tup (xs := as.map V.ref)) (fun i G => Same H G ∧ ∃ kvs, G D = some (.dK kvs) ∧ kvs.length ≤ i ∧ (∀ z, (valV kvs (Sum.inr z)).isSome = true ↔ z ∈ (rs.take i).map (·.1)) ∧ ∀ r ∈ rs.take i, ∃ l kx, valV kvs (Sum.inr r.1) = some (.ref l) ∧ l ≠ D ∧ G l = some (.lst kx) ∧ KdsAt K H kx (r.2.map (·.2))) ⟨Same.new hD _, [], upd_same, Nat.le_refl _, fun z => by simp [valV], fun r hr => by simp at hr⟩ (fun i G _ P => Same.tup P.1 hpr) ?_ ?_
    · rintro i u G G' hi ⟨sG, kvs, eD, lk, hz, hk⟩ ⟨rfl, ex⟩
      rw [List.length_map] at hi
      have hi2 : i < rs.length := by omega
      have er : rs[i]? = some rs[i] := List.getElem?_eq_getElem hi2
      have mr := List.getElem_mem hi2
      have ea : as[i]? = some as[i] := List.getElem?_eq_getElem hi
      obtain ⟨pf, h1, bs, h2, lb, hb⟩ := has i _ _ ea er
      rw [map_get ea] at ex
      obtain rfl := Option.some.inj ex
      generalize as[i] = a at ea h1
      have tk : rs.take (i + 1) = rs.take i ++ [rs[i]] := by
        rw [List.take_add_one, er]
        rfl
      generalize rs[i] = r at er mr h1 h2 lb hb tk
      have h1G := Same.tup sG h1
      have h2G := Same.tup sG h2
      have lf := pok.lf r mr
      have ln := pok.ln
      refine ⟨a, _, rfl, h1G, rfl, _, _, rfl, _, _, rfl, rfl, ?_⟩
      refine ⟨rfl, tyes ?_⟩
      refine ⟨_, rfl, ?_⟩
      refine ⟨_, rfl, pf, rfl, ⟨_, h2G⟩, fun D2 hD2 => ?_⟩
      refine lc_it (walk_tup (xs := bs.map V.ref)) (fun j F => Same G' F ∧ ∃ vs : List V, F D2 = some (.lst vs) ∧ vs.length = j ∧ ∀ (k : Nat) (v : V) (f : Str × Kd), vs[k]? = some v → r.2[k]? = some f → KdAt K H v f.2) ⟨Same.new hD2 _, [], upd_same, rfl, fun k v f e => by simp at e⟩ (fun j F _ P => Same.tup P.1 h2G) ?_ ?_
      · rintro j y F F' hj ⟨sF, vs, eD2, lv, hv⟩ ⟨rfl, ey⟩
        rw [List.length_map] at hj
        have hj2 : j < r.2.length := by omega
        have ef : r.2[j]? = some r.2[j] := List.getElem?_eq_getElem hj2
        have eb : bs[j]? = some bs[j] := List.getElem?_eq_getElem hj
        obtain ⟨kv, g1, g2⟩ := hb j _ _ eb ef
        rw [map_get eb] at ey
        obtain rfl := Option.some.inj ey
        refine ⟨bs[j], _, rfl, Same.tup (sG.trans sF) g1, rfl, _, _, rfl, _, _, rfl, rfl, ?_⟩
        refine ⟨rfl, tyes ?_⟩
        refine ⟨_, rfl, vs, eD2, lt_line (by omega), fun b o e => ?_, _, upd_same, by rw [List.length_append, lv]; rfl, fun k v f e1 e2 => ?_⟩
        · rw [upd_ne (ne_of_none e hD2)]
          exact sF _ _ e
        · rcases two_get e1 with ⟨l1, e1⟩ | ⟨l1, rfl⟩
          · exact hv k v f e1 e2
          · rw [l1, lv, ef] at e2
            obtain rfl := Option.some.inj e2
            exact g2
      · rintro F ⟨sF, vs, eD2, lv, hv⟩
        rw [List.length_map] at lv
        have sHF := sG.trans sF
        have nDD : D2 ≠ D := (ne_of_none eD hD2).symm
        refine ⟨kvs, Sum.inr r.1, rfl, sF _ _ eD, lt_line (by omega), fun b u e => by rw [upd_ne (ne_of_none e hD)]; exact sHF _ _ e, _, upd_same, Nat.le_trans (length_putK _ _ _) (by omega), fun z => ?_, fun c hc => ?_⟩
        · rw [valV_put, tk, List.map_append, List.mem_append]
          by_cases e : z = r.1
          · rw [if_pos (by rw [e])]
            exact ⟨fun _ => .inr (by rw [e]; exact List.mem_singleton.mpr rfl), fun _ => rfl⟩
          · rw [if_neg (fun w => e (Sum.inr.inj w)), hz z]
            exact ⟨.inl, fun w => w.resolve_right fun w => e (by simpa using w)⟩
        · rw [valV_put]
          split
          · rename_i e
            have e2 : c.1 = r.1 := Sum.inr.inj e
            have cr : c = r := by
              rw [tk] at hc
              rcases List.mem_append.mp hc with hc | hc
              · exact eq_of_key wok.nd (List.mem_of_mem_take hc) (List.mem_of_getElem? er) e2
              · exact List.mem_singleton.mp hc
            rw [cr]
            refine ⟨D2, vs, rfl, nDD, by rw [upd_ne nDD]; exact eD2, by rw [List.length_map]; omega, fun k v kd e1 e2 => ?_⟩
            rw [List.getElem?_map] at e2
            cases e : r.2[k]? with
            | none => rw [e] at e2; cases e2
            | some f =>
              rw [e] at e2
              obtain rfl := Option.some.inj e2
              exact hv k v f e1 e
          · rename_i e
            rw [tk] at hc
            rcases List.mem_append.mp hc with hc | hc
            · obtain ⟨l, kx, g1, g2, g3, g4⟩ := hk c hc
              exact ⟨l, kx, g1, g2, by rw [upd_ne g2]; exact sF _ _ g3, g4⟩
            · rw [List.mem_singleton.mp hc] at e
              exact absurd rfl e
    rintro G1 ⟨s1, kvs, eD, lk, hz, hk⟩
    have hz : ∀ z, (valV kvs (Sum.inr z)).isSome = true ↔ z ∈ rs.map (·.1) := fun z => by
      have := hz z
      rw [List.length_map, las, List.take_length] at this
      exact this
    have hk : ∀ r ∈ rs, ∃ l kx, valV kvs (Sum.inr r.1) = some (.ref l) ∧ l ≠ D ∧ G1 l = some (.lst kx) ∧ KdsAt K H kx (r.2.map (·.2)) := fun r hr => hk r (by rw [List.length_map, las, List.take_length]; exact hr)
    clear lk las has
    -- the forms
    refine ⟨_, rfl, pr0, rfl, ⟨_, Same.tup s1 hrr⟩, fun D2 hD2 => ?_⟩
    refine lc_it (walk_tup (xs := rxs)) (fun m F => Same G1 F ∧ F D2 = some (.lst (((rd.take m).map (formF rs)).map V.bl))) ⟨Same.new hD2 _, upd_same⟩ (fun i F _ P => Same.tup (s1.trans P.1) hrr) ?_ ?_
    · rintro j y F F' hj ⟨sF, e2⟩ ⟨rfl, ex⟩
      obtain ⟨d, ed, hd1⟩ := dpAll_at hrd ex
      refine ⟨rfl, tyes ?_⟩
      have tk : rd.take (j + 1) = rd.take j ++ [d] := by
        rw [List.take_add_one, ed]
        rfl
      refine ⟨_, rfl, _, rfl, y, D, d, m1, kvs, rs, rfl, Dp.same (s1.trans sF) _ _ hd1, plr d (List.mem_of_getElem? ed), by omega, sF _ _ eD, hz, fun F3 s3 => ?_⟩
      refine ⟨_, s3 _ _ e2, lt_line (by rw [List.length_map, List.length_map, List.length_take]; omega), fun b u e => by rw [upd_ne (ne_of_none e hD2)]; exact s3 _ _ (sF _ _ e), ?_⟩
      rw [upd_same, tk, List.map_append, List.map_append]
      rfl
    rintro G2 ⟨s2, e2⟩
    rw [lrx, List.take_length] at e2
    refine ⟨D2, _, rfl, SqL.of e2, _, rfl, ?_⟩
    have s12 := s1.trans s2
    cases hf : ((rd.map (formF rs)).all id) with
    | false =>
      refine iteT (q1 ?_ G2 s12)
      cases e : goodF rs ks vd rd n with
      | false => rfl
      | true =>
        have g := (good_iff.mp e).f
        have : (rd.map (formF rs)).all id = true := List.all_eq_true.mpr fun b hb => by
          obtain ⟨d, hd, rfl⟩ := List.mem_map.mp hb
          exact g d hd
        rw [this] at hf
        cases hf
    | true =>
    have gf : ∀ d ∈ rd, formF rs d = true := fun d hd => List.all_eq_true.mp hf _ (List.mem_map.mpr ⟨d, hd, rfl⟩)
    refine iteF ?_
    -- the names
    refine ⟨_, rfl, pr0, rfl, ⟨_, Same.tup s12 hrr⟩, fun D3 hD3 => ?_⟩
    refine lc_it (walk_tup (xs := rxs)) (fun m F => Same G2 F ∧ F D3 = some (.lst ((nmsD (rd.take m)).map V.str))) ⟨Same.new hD3 _, upd_same⟩ (fun i F _ P => Same.tup (s12.trans P.1) hrr) ?_ ?_
    · rintro j y F F' hj ⟨sF, e3⟩ ⟨rfl, ex⟩
      obtain ⟨d, ed, hd1⟩ := dpAll_at hrd ex
      have tk : rd.take (j + 1) = rd.take j ++ [d] := by
        rw [List.take_add_one, ed]
        rfl
      obtain ⟨z, b, es, rfl, _, _⟩ := formF_inv (gf d (List.mem_of_getElem? ed))
      cases hd1 with
      | @tup q3 ys _ h3 hys =>
      cases hys with
      | cons h4 h5 =>
      cases h4
      refine ⟨rfl, tyes ?_⟩
      refine ⟨_, rfl, q3, _, 0, _, rfl, rfl, Same.tup (s12.trans sF) h3, atI_nat (j := 0) rfl, ?_⟩
      refine ⟨_, e3, lt_line (by unfold nmsD; rw [List.length_map, List.length_map, List.length_take]; omega), fun b u e => by rw [upd_ne (ne_of_none e hD3)]; exact sF _ _ e, ?_⟩
      unfold nmsD
      rw [upd_same, tk, List.map_append, List.map_append]
      rfl
    rintro G3 ⟨s3, e3⟩
    rw [lrx, List.take_length] at e3
    have s13 := s12.trans s3
    have eD3 := s3 _ _ (s2 _ _ eD)
    -- the fields of the live ones
    refine ⟨_, rfl, pr0, rfl, ⟨_, Same.tup s13 hrr⟩, for_tup (K := K) (a := pr0) (xs := rxs) (fun i σ F => Same G3 F ∧ (∀ d ∈ rd.take i, liveFit (nmsD rd) rs d = true) ∧ ∃ v9 v10 v13 : Option V, σ = [some (.ref p), some (.ref pk), some (.ref pd), some (.int (n : Int)), some (.ref pv0), some (.ref pr0), some (.ref D), none, none, v9, v10, none, some (.ref D3), v13])
      ⟨Same.refl _, fun d hd => by simp at hd, none, none, none, rfl⟩ (fun i σ F _ P => Same.tup (s13.trans P.1) hrr) ?_ ?_⟩
    · rintro j y σ F ey ⟨sF, hl, v9, v10, v13, rfl⟩
      obtain ⟨d, ed, hd1⟩ := dpAll_at hrd ey
      have md := List.mem_of_getElem? ed
      have tk : rd.take (j + 1) = rd.take j ++ [d] := by
        rw [List.take_add_one, ed]
        rfl
      obtain ⟨z, b, es, rfl, hz0, _⟩ := formF_inv (gf d md)
      obtain ⟨n1, rfl, _, hp1⟩ := pl_tup (plr _ md)
      obtain ⟨n2, rfl, es100, hp2⟩ := pl_tup (hp1 (.tuple es) (List.mem_cons_of_mem _ (List.mem_cons_of_mem _ List.mem_cons_self)))
      have more : liveFit (nmsD rd) rs (.tuple [.str z, .bool b, .tuple es]) = true → ∀ d ∈ rd.take (j + 1), liveFit (nmsD rd) rs d = true := fun e d hd => by
        rw [tk] at hd
        rcases List.mem_append.mp hd with h | h
        · exact hl d h
        · rw [List.mem_singleton.mp h]
          exact e
      cases hd1 with
      | @tup q3 ys _ h3 hys =>
      cases hys with
      | cons h4 h5 =>
      cases h5 with
      | cons h5 h6 =>
      cases h6 with
      | cons h6 h7 =>
      cases h7
      cases h4
      cases h5
      cases h6 with
      | @tup tq zs _ h8 hzs =>
      have sHF := s13.trans sF
      refine ⟨q3, _, rfl, Same.tup sHF h3, rfl, _, _, rfl, _, _, rfl, _, _, rfl, rfl, ?_⟩
      refine ⟨_, rfl, _, rfl, ?_⟩
      cases b with
      | false => exact iteF (iteF ⟨sF, more rfl, _, _, _, rfl⟩)
      | true =>
        obtain ⟨r0, mr0, rfl⟩ := List.mem_map.mp hz0
        obtain ⟨l, kx, g1, g2, g3, g4⟩ := hk r0 mr0
        rw [← flOf_mem wok.nd mr0] at g4
        refine iteT ⟨_, rfl, _, rfl, _, rfl, D, _, rfl, DGet.at (k := Sum.inr r0.1) (sF _ _ eD3) g1, _, rfl, tq, l, D3, zs, kx, es, n2, false, flOf rs r0.1, nmsD rd, rfl, Same.tup sHF h8, DpAll.same sHF _ _ hzs, hp2, es100, SqL.of (sF _ _ (s3 _ _ (s2 _ _ g3))), g4.keep (KeepT.of sHF), sF _ _ e3, fun F2 s2' => ?_⟩
        cases hff : allFitF (nmsD rd) (flOf rs r0.1) es with
        | true => exact ⟨_, rfl, iteF ⟨sF.trans s2', more (by show (!true || _) = true; rw [hff]; rfl), _, _, _, rfl⟩⟩
        | false =>
          refine ⟨_, rfl, iteT (q1 ?_ F2 (sHF.trans s2'))⟩
          cases e : goodF rs ks vd rd n with
          | false => rfl
          | true =>
            have : (!true || allFitF (nmsD rd) (flOf rs r0.1) es) = true := (good_iff.mp e).l _ md
            rw [hff] at this
            cases this
    rintro σ G4 ⟨s4, gl, v9, v10, v13, rfl⟩
    have gl : ∀ d ∈ rd, liveFit (nmsD rd) rs d = true := fun d hd => gl d (by rw [lrx, List.take_length]; exact hd)
    have s14 := s13.trans s4
    refine ⟨_, rfl, _, rfl, _, rfl, pv0, pk, D3, us, kxs, vd, m1, true, ks, nmsD rd, rfl, Same.tup s14 hv, DpAll.same s14 _ _ hus, plv, v100, Same.tup s14 hpk, hks.keep (KeepT.of s14), s4 _ _ e3, fun G5 s5 => ?_⟩
    have s15 := s14.trans s5
    cases hvf : allFitF (nmsD rd) ks vd with
    | false =>
      refine ⟨_, rfl, iteT (q1 ?_ G5 s15)⟩
      cases e : goodF rs ks vd rd n with
      | false => rfl
      | true =>
        rw [(good_iff.mp e).v] at hvf
        cases hvf
    | true =>
    refine ⟨_, rfl, iteF ?_⟩
    have good : GoodD rs ks vd rd n := ⟨hnr, gf, gl, hvf⟩
    have hpG := good.hp wok r100
    have hpO := hpG.ok wok
    have vok := good.vok v100
    have eus : us = vd.map dV := dp_row hus hvf
    have bfst := refsAt_lt (vs := vd.map dV) (pl := refPl ks) fun i hi => (vok.pl i hi).2
    have ndr : (List.range n).Nodup := List.nodup_range
    have br : ∀ i ∈ List.range n, i < (rd.map rcD).length := fun i hi => by
      rw [List.mem_range] at hi
      rw [List.length_map]
      omega
    obtain ⟨ndo, bo, _⟩ := order_ok hpO.rn ndr br bfst
    have lo := len_le ndo bo
    have plK : Pl 5 (keyH rs (rd.map rcD) ks (vd.map dV) (ordD rs ks vd rd n)) := by
      refine pl_key (by rw [List.length_map]; exact v100) (Nat.le_trans lo (by rw [List.length_map]; exact r100)) (fun r hr => ?_) (fun r hr => ?_) vok.f (fun r hr => (hpG.rc r hr).f)
      · have g := hpG.rc r hr
        have := flOf_len pok (z := r.nm)
        cases hl : r.live with
        | true => rw [g.l hl]; omega
        | false => rw [g.d hl]; exact Nat.zero_le _
      · obtain ⟨d, hd, rfl⟩ := List.mem_map.mp hr
        obtain ⟨z, b, es, rfl, _, _⟩ := formF_inv (gf d hd)
        obtain ⟨n1, rfl, _, hp1⟩ := pl_tup (plr _ hd)
        have hz := hp1 (.str z) List.mem_cons_self
        cases n1 with
        | zero => exact hz.elim
        | succ n1 => exact hz
    refine ⟨_, rfl, _, rfl, _, rfl, _, rfl, _, rfl, (n : Int), rfl, by refine ⟨?_, ?_, ?_, ?_, ?_⟩ <;> first | decide | omega | (show _ ≤ sizeLine; exact Nat.le_trans (b := 1000) (by omega) (by decide)), fun t3 ht3 => ?_⟩
    rw [rgV_nats]
    have s6 := Same.new ht3 (.tup (natsV (List.range n)))
    have s16 := s15.trans s6
    have s56 := s5.trans s6
    refine ⟨p, pk, pv0, pr0, t3, rs, kxs, us, rxs, ks, rd.map rcD, List.range n, rkOf rs (rd.map rcD), rfl, hpO, hp.keep (KeepT.of s16), Same.tup s16 hpk, hks.keep (KeepT.of s16), Same.tup s16 hv, by rw [eus]; exact vok, Same.tup s16 hrr, good.rcs (DpAll.same s16 _ _ hrd), SqT.of upd_same, ndr, br, fun q7 G7 s7 d7 => ?_⟩
    rw [eus] at d7
    have s17 := s16.trans s7
    cases d7 with
    | @tup _ ws _ hq hws =>
    cases hws with
    | @cons w1 _ _ _ h1 h2 =>
    have hkey7 := Dp.same s17 _ _ hkey
    have fin := q G7 s17
    have e : isKeyF rs ks n (.tuple [.tuple vd, .tuple rd]) = PyData.eqv (keyH rs (rd.map rcD) ks (vd.map dV) (ordD rs ks vd rd n)) (.tuple [.tuple vd, .tuple rd]) := by
      show (goodF rs ks vd rd n && _) = _
      rw [good_iff.mpr good, Bool.true_and]
    rw [e] at fin
    exact ⟨q7, _, 0, _, rfl, rfl, hq, atI_nat (j := 0) rfl, _, rfl, _, _, h1, hkey7, pl_shaped plK (by decide), pl_shaped pl (by omega), fin⟩
  · refine iteNT (fun z => l2 ?_) (q0 ?_ H (Same.refl _))
    · have := V.int.inj z
      omega
    · match ds, l2 with
      | [], _ => rfl
      | [a], _ => cases a <;> rfl
      | [a, b], l => exact absurd rfl l
      | a :: b :: c :: l, _ => cases a <;> cases b <;> rfl
end
/-! ### keys: the law's judge -/
def spFits (K : PySem.W.Frag) : Sp := fun vs H Q _ => ∃ (v kv : V) (pr : Addr) (d : PyData) (n : Nat) (kd : Kd) (rxs : List V) (rd : List PyData), vs = [kv, v, .ref pr] ∧ Dp K H v d ∧ Pl n d ∧ KdAt K H kv kd ∧ SqT K H pr rxs ∧ DpAll K H rxs rd ∧ (∀ d ∈ rd, ∃ z rest, d = .tuple (.str z :: rest) ∧ (rcD d).nm = z) ∧ Q (.bl (fitF (nmsD rd) kd d)) H
def formedF (rs : List Rk) : PyData → Bool
  | .tuple [.str z, .bool b, .tuple ds] => decide (z ∈ rs.map (·.1)) && decide (ds.length = (flOf rs z).length * (if b then 1 else 0))
  | _ => false
def spFormed (K : PySem.W.Frag) : Sp := fun vs H Q _ => ∃ (v : V) (fk : Addr) (d : PyData) (n : Nat) (kvs : List (Key × V)) (rs : List Rk), vs = [.ref fk, v] ∧ Dp K H v d ∧ Pl n d ∧ H fk = some (.dK kvs) ∧ (∀ z : Str, (valV kvs (Sum.inr z)).isSome = true ↔ z ∈ rs.map (·.1)) ∧ FldAt K H kvs rs ∧ WldOk rs ∧ Q (.bl (formedF rs d)) H
section
variable {P : Program} {w : World} {K : PySem.W.Frag} {mg : Str → Option Value} {base : Heap}
theorem ok_l_fits (T : Txt w K mg) : FnOk P w K mg base CX0 1 T.a_l_fits T.d_l_fits p_l_fits (spFits K) := by
  refine T.F_l_fits.ok sc_l_fits (fun vs H Q E h => ?_) (fun cdv A outer s H vs Q E hr h => ?_)
  · obtain ⟨v, kv, pr, d, n, kd, rxs, rd, rfl, _⟩ := h
    rfl
  obtain ⟨v, kv, pr, d, n, kd, rxs, rd, rfl, hd, pl, ⟨p, rfl, hp⟩, hpr, hrd, hform, q⟩ := h
  have lrx := dpAll_len hrd
  refine ⟨_, (pss_cons (ps_if (pt_cmpR op_eq (pe_ix ix_tup (pv 0) pe_int (fun _ _ => rfl)) pe_str (nomark _)) (pss_one (ps_ret (pe_callB call_isi rfl T.z_isinstance bb_isinstance (pa_cons (pv 1) (pa_cons (pe_bltn (v := .ty "bool") rfl T.z_bool bt_bool rfl) pa_nil))))) pss_nil)
      (pss_cons (ps_if (PW.pt (pw_and (pt_cmpR op_eq (pe_ix ix_tup (pv 0) pe_int (fun _ _ => rfl)) pe_str (nomark _)) (pw_and1 (pt_cmpR op_isN (pv 1) pe_non (nomark _))))) (pss_one (ps_ret pe_bl)) pss_nil)
      (pss_cons (ps_if (PW.pt (pw_or (pt_not (pt_val (pe_callB call_isi rfl T.z_isinstance bb_isinstance (pa_cons (pv 1) (pa_cons (pe_bltn (v := .ty "int") rfl T.z_int bt_int rfl) pa_nil))))) (pw_or1 (pt_val (pe_callB call_isi rfl T.z_isinstance bb_isinstance (pa_cons (pv 1) (pa_cons (pe_bltn (v := .ty "bool") rfl T.z_bool bt_bool rfl) pa_nil))))))) (pss_one (ps_ret pe_bl)) pss_nil)
      (pss_cons (ps_if (pt_cmpR op_eq (pe_ix ix_tup (pv 0) pe_int (fun _ _ => rfl)) pe_str (nomark _)) (pss_one (ps_ret (pe_chain op_le op_le (pe_ix ix_tup (pv 0) pe_int (fun _ _ => rfl)) (pv 1) (pe_ix ix_tup (pv 0) pe_int (fun _ _ => rfl))))) pss_nil)
      (pss_one (ps_ret (pe_and (pe_chain op_le op_lt pe_int (pv 1) (pe_callB call_len_seq rfl T.z_len PySem.boot_len (pa_cons (pv 2) pa_nil))) (pe_one (pe_cmpR op_eq (pe_ix ix_tup (pe_ix ix_tup (pv 2) (pv 1) (fun _ _ => rfl)) pe_int (fun _ _ => rfl)) (pe_ix ix_tup (pv 0) pe_int (fun _ _ => rfl)) (nomark _)))))))))), ?_⟩
  cases kd with
  | flag =>
    refine ⟨_, rfl, p, _, 0, _, rfl, rfl, hp, rfl, rfl, _, rfl, ifT (by decide +kernel) ?_⟩
    refine ⟨_, rfl, _, _, _, _, isBoo d, rfl, .ty _, dpTy hd, kit_ty (kbBoo pl), ?_⟩
    have e : fitF (nmsD rd) .flag d = isBoo d := by cases d <;> rfl
    rw [e] at q
    exact q
  | num lo hi =>
    refine ⟨_, rfl, p, _, 0, _, rfl, rfl, hp, rfl, rfl, _, rfl, ifF (by decide +kernel) ?_⟩
    refine ⟨_, rfl, p, _, 0, _, rfl, rfl, hp, rfl, rfl, _, rfl, ifF (by decide +kernel) (iteF ?_)⟩
    refine ⟨_, rfl, _, _, _, _, isInt d, rfl, .ty _, dpTy hd, kit_ty (kbInt pl), _, rfl, ?_⟩
    cases hi1 : isInt d with
    | false =>
      have e : fitF (nmsD rd) (.num lo hi) d = false := by cases d <;> first | rfl | cases hi1
      rw [e] at q
      exact iteT (iteT q)
    | true =>
      refine iteF ⟨_, rfl, _, _, _, _, isBoo d, rfl, .ty _, dpTy hd, kit_ty (kbBoo pl), _, rfl, ?_⟩
      cases hb : isBoo d with
      | true =>
        have e : fitF (nmsD rd) (.num lo hi) d = false := by cases d <;> first | rfl | cases hb
        rw [e] at q
        exact iteT q
      | false =>
        obtain ⟨i, rfl⟩ : ∃ i, d = .int i := by cases d <;> first | exact ⟨_, rfl⟩ | (cases hi1; done) | (cases hb; done)
        cases hd
        refine iteF ?_
        refine ⟨_, rfl, p, _, 0, _, rfl, rfl, hp, rfl, rfl, _, rfl, ifT (by decide +kernel) ?_⟩
        refine ⟨_, rfl, p, _, 1, _, rfl, rfl, hp, rfl, _, rfl, _, _, rfl, rfl, _, rfl, ite2 (fun h => ?_) (fun h => ?_)⟩
        · refine ⟨_, rfl, p, _, 2, _, rfl, rfl, hp, rfl, _, _, rfl, rfl, ?_⟩
          have e : fitF (nmsD rd) (.num lo hi) (.int i) = decide (i ≤ hi) := by
            show (decide (lo ≤ i) && decide (i ≤ hi)) = _
            rw [h]
            rfl
          rw [e] at q
          exact q
        · have e : fitF (nmsD rd) (.num lo hi) (.int i) = false := by
            show (decide (lo ≤ i) && decide (i ≤ hi)) = _
            rw [Bool.eq_false_iff.mpr h]
            rfl
          rw [e] at q
          exact q
  | ref sz =>
    refine ⟨_, rfl, p, _, 0, _, rfl, rfl, hp, rfl, rfl, _, rfl, ifF (by decide +kernel) ?_⟩
    refine ⟨_, rfl, p, _, 0, _, rfl, rfl, hp, rfl, rfl, _, rfl, ifT (by decide +kernel) ⟨_, rfl, rfl, _, rfl, ?_⟩⟩
    by_cases dn : d = .none
    · subst dn
      cases hd
      exact iteT q
    have vn : decide (v = V.non) = false := decide_eq_false fun z => dn (by subst z; cases hd; rfl)
    refine ifF vn ?_
    refine ⟨_, rfl, _, _, _, _, isInt d, rfl, .ty _, dpTy hd, kit_ty (kbInt pl), _, rfl, ?_⟩
    cases hi1 : isInt d with
    | false =>
      have e : fitF (nmsD rd) (.ref sz) d = false := by cases d <;> first | rfl | exact absurd rfl dn | cases hi1
      rw [e] at q
      exact iteT (iteT q)
    | true =>
      refine iteF ⟨_, rfl, _, _, _, _, isBoo d, rfl, .ty _, dpTy hd, kit_ty (kbBoo pl), _, rfl, ?_⟩
      cases hb : isBoo d with
      | true =>
        have e : fitF (nmsD rd) (.ref sz) d = false := by cases d <;> first | rfl | cases hb
        rw [e] at q
        exact iteT q
      | false =>
        obtain ⟨i, rfl⟩ : ∃ i, d = .int i := by cases d <;> first | exact ⟨_, rfl⟩ | (cases hi1; done) | (cases hb; done)
        cases hd
        refine iteF ?_
        refine ⟨_, rfl, p, _, 0, _, rfl, rfl, hp, rfl, rfl, _, rfl, ifF (by decide +kernel) ?_⟩
        refine ⟨_, rfl, _, _, rfl, rfl, _, rfl, ite2 (fun h => ?_) (fun h => ?_)⟩
        · refine ⟨_, rfl, pr, _, rfl, .inr hpr, _, _, rfl, rfl, _, rfl, ite2 (fun h2 => ?_) (fun h2 => ?_)⟩
          · have h0 := of_decide_eq_true h
            have hl := of_decide_eq_true h2
            obtain ⟨j, rfl⟩ := Int.eq_ofNat_of_zero_le h0
            have hj : j < rd.length := by omega
            have ed : rd[j]? = some rd[j] := List.getElem?_eq_getElem hj
            obtain ⟨x, ex, hx⟩ := dpAll_get hrd ed
            obtain ⟨z, rest, e9, e8⟩ := hform _ (List.getElem_mem hj)
            have ej : (nmsD rd)[j]? = some z := by
              unfold nmsD
              rw [List.getElem?_map, ed, ← e8]
              rfl
            rw [e9] at hx
            cases hx with
            | @tup q3 ys _ h3 hys =>
            cases hys with
            | cons h4 _ =>
            cases h4
            refine ⟨_, rfl, _, rfl, pr, _, _, _, rfl, rfl, hpr, atI_nat ex, q3, _, 0, _, rfl, rfl, h3, atI_nat (j := 0) rfl, _, rfl, p, _, 1, _, rfl, rfl, hp, rfl, rfl, ?_⟩
            have e : fitF (nmsD rd) (.ref sz) (.int (j : Int)) = decide (V.str z = V.str sz) := by
              show (decide (0 ≤ (j : Int)) && decide ((nmsD rd)[j]? = some sz)) = _
              rw [h, ej, Bool.true_and]
              simp
            rw [e] at q
            exact q
          · have e : fitF (nmsD rd) (.ref sz) (.int i) = false := by
              show (decide (0 ≤ i) && decide ((nmsD rd)[i.toNat]? = some sz)) = _
              have h3 : (nmsD rd)[i.toNat]? = none := by
                refine List.getElem?_eq_none ?_
                have h4 : ¬ i < (rxs.length : Int) := fun z => h2 (decide_eq_true z)
                unfold nmsD
                rw [List.length_map]
                omega
              rw [h3]
              simp
            rw [e] at q
            exact q
        · have e : fitF (nmsD rd) (.ref sz) (.int i) = false := by
            show (decide (0 ≤ i) && _) = _
            rw [Bool.eq_false_iff.mpr h]
            rfl
          rw [e] at q
          exact ⟨_, rfl, iteF q⟩
theorem ok_l_formed (T : Txt w K mg) : FnOk P w K mg base CX0 1 T.a_l_formed T.d_l_formed p_l_formed (spFormed K) := by
  refine T.F_l_formed.ok sc_l_formed (fun vs H Q E h => ?_) (fun cdv A outer s H vs Q E hr h => ?_)
  · obtain ⟨v, fk, d, n, kvs, rs, rfl, _⟩ := h
    rfl
  obtain ⟨v, fk, d, n, kvs, rs, rfl, hd, pl, hfk, hks, hfl, wok, q⟩ := h
  have q0 : formedF rs d = false → Q (.bl false) H := fun e => by
    rw [e] at q
    exact q
  refine ⟨_, (pss_cons (ps_if (PW.pt (pw_or (pt_not (pt_val (pe_callB call_isi rfl T.z_isinstance bb_isinstance (pa_cons (pv 1) (pa_cons (pe_bltn (v := .ty "tuple") rfl T.z_tuple bt_tuple rfl) pa_nil))))) (pw_or1 (pt_cmpR op_ne (pe_callB call_len_seq rfl T.z_len PySem.boot_len (pa_cons (pv 1) pa_nil)) pe_int (nomark _))))) (pss_one (ps_ret pe_bl)) pss_nil)
      (pss_cons (ps_if (PW.pt (pw_or (pt_not (pt_val (pe_callB call_isi rfl T.z_isinstance bb_isinstance (pa_cons (pe_ix ix_tup (pv 1) pe_int (fun _ _ => rfl)) (pa_cons (pe_bltn (v := .ty "str") rfl T.z_str bt_str rfl) pa_nil))))) (pw_or1 (pt_cmp (pc_dnotin (hu_of hr) (pe_ix ix_tup (pv 1) pe_int (fun _ _ => rfl)) (pv 0)))))) (pss_one (ps_ret pe_bl)) pss_nil)
      (pss_cons (ps_if (PW.pt (pw_or (pt_not (pt_val (pe_callB call_isi rfl T.z_isinstance bb_isinstance (pa_cons (pe_ix ix_tup (pv 1) pe_int (fun _ _ => rfl)) (pa_cons (pe_bltn (v := .ty "bool") rfl T.z_bool bt_bool rfl) pa_nil))))) (pw_or1 (pt_not (pt_val (pe_callB call_isi rfl T.z_isinstance bb_isinstance (pa_cons (pe_ix ix_tup (pv 1) pe_int (fun _ _ => rfl)) (pa_cons (pe_bltn (v := .ty "tuple") rfl T.z_tuple bt_tuple rfl) pa_nil)))))))) (pss_one (ps_ret pe_bl)) pss_nil)
      (pss_one (ps_ret (pe_cmpR op_eq (pe_callB call_len_seq rfl T.z_len PySem.boot_len (pa_cons (pe_ix ix_tup (pv 1) pe_int (fun _ _ => rfl)) pa_nil)) (pe_op op_mul (pe_callB call_len_seq rfl T.z_len PySem.boot_len (pa_cons (pe_dget (hu_of hr) (pv 0) (pe_ix ix_tup (pv 1) pe_int (fun _ _ => rfl)) (fun _ _ => rfl)) pa_nil)) (pe_callTy call_int1 rfl T.z_int bt_int (pa_cons (pe_ix ix_tup (pv 1) pe_int (fun _ _ => rfl)) pa_nil))) (nomark _))))))), ?_⟩
  refine ⟨_, rfl, _, _, _, _, isTup d, rfl, .ty _, dpTy hd, kit_ty (kbTup pl), _, rfl, ?_⟩
  cases ht : isTup d with
  | false => exact iteT (iteT (q0 (by cases d <;> first | rfl | cases ht)))
  | true =>
  obtain ⟨ds, rfl⟩ : ∃ ds, d = .tuple ds := by cases d <;> first | exact ⟨_, rfl⟩ | cases ht
  cases hd with
  | @tup p xs _ hp hxs =>
  have lx := dpAll_len hxs
  obtain ⟨n1, rfl, _, pl1⟩ := pl_tup pl
  refine iteF ⟨_, rfl, p, _, rfl, .inr hp, rfl, _, rfl, ?_⟩
  by_cases l3 : ds.length = 3
  · refine iteNS (congrArg V.int (by omega)) ?_
    obtain ⟨a, b, c, rfl⟩ : ∃ a b c, ds = [a, b, c] := by
      match ds, l3 with
      | [a, b, c], _ => exact ⟨a, b, c, rfl⟩
    obtain ⟨x, y, z, rfl⟩ : ∃ x y z, xs = [x, y, z] := by
      match xs, lx with
      | [a, b, c], _ => exact ⟨a, b, c, rfl⟩
    cases hxs with
    | cons ha h2 =>
    cases h2 with
    | cons hb h3 =>
    cases h3 with
    | cons hc _ =>
    have pa := pl1 a List.mem_cons_self
    have pb := pl1 b (List.mem_cons_of_mem _ List.mem_cons_self)
    have pc := pl1 c (List.mem_cons_of_mem _ (List.mem_cons_of_mem _ List.mem_cons_self))
    refine ⟨_, rfl, p, _, 0, _, rfl, rfl, hp, rfl, _, _, _, _, isStr a, rfl, .ty _, dpTy ha, kit_ty (kbStr pa), _, rfl, ?_⟩
    cases hs : isStr a with
    | false => exact iteT (iteT (q0 (by cases a <;> first | rfl | cases hs)))
    | true =>
    obtain ⟨nm, rfl⟩ : ∃ nm, a = .str nm := by cases a <;> first | exact ⟨_, rfl⟩ | cases hs
    cases ha
    refine iteF ⟨_, rfl, p, _, 0, _, rfl, rfl, hp, rfl, _, rfl, fk, _, rfl, DGet.k (k := Sum.inr nm) hfk, _, rfl, ?_⟩
    by_cases hm : nm ∈ rs.map (·.1)
    · rw [(hks nm).mpr hm]
      refine iteF ?_
      refine ⟨_, rfl, p, _, 1, _, rfl, rfl, hp, rfl, _, _, _, _, isBoo b, rfl, .ty _, dpTy hb, kit_ty (kbBoo pb), _, rfl, ?_⟩
      cases ub : isBoo b with
      | false => exact iteT (iteT (q0 (by cases b <;> first | rfl | cases ub)))
      | true =>
      obtain ⟨b0, rfl⟩ : ∃ b0, b = .bool b0 := by cases b <;> first | exact ⟨_, rfl⟩ | cases ub
      cases hb
      refine iteF ⟨_, rfl, p, _, 2, _, rfl, rfl, hp, rfl, _, _, _, _, isTup c, rfl, .ty _, dpTy hc, kit_ty (kbTup pc), _, rfl, ?_⟩
      cases hu : isTup c with
      | false => exact iteT (q0 (by cases c <;> first | rfl | cases hu))
      | true =>
      obtain ⟨es, rfl⟩ : ∃ es, c = .tuple es := by cases c <;> first | exact ⟨_, rfl⟩ | cases hu
      cases hc with
      | @tup tq zs _ h8 hzs =>
      have lz := dpAll_len hzs
      obtain ⟨r0, mr0, rfl⟩ := List.mem_map.mp hm
      obtain ⟨pf, ef, bs, hbs, lbs, _⟩ := hfl r0 mr0
      have efl : (flOf rs r0.1).length = bs.length := by rw [flOf_mem wok.nd mr0, List.length_map, lbs]
      have e2 : formedF rs (.tuple [.str r0.1, .bool b0, .tuple es]) = decide (es.length = (flOf rs r0.1).length * (if b0 then 1 else 0)) := by
        show (decide (r0.1 ∈ rs.map (·.1)) && _) = _
        rw [decide_eq_true hm]
        rfl
      rw [e2] at q
      refine iteF ⟨_, rfl, p, _, 2, _, rfl, rfl, hp, rfl, tq, _, rfl, .inr h8, ?_⟩
      refine ⟨_, rfl, _, rfl, p, _, 0, _, rfl, rfl, hp, rfl, fk, _, rfl, DGet.at (k := Sum.inr r0.1) hfk ef, pf, _, rfl, .inr hbs, _, rfl, p, _, 1, _, rfl, rfl, hp, rfl, .inr ⟨_, rfl, ?_⟩⟩
      have l5 := wok.f r0 mr0
      refine ⟨_, _, rfl, rfl, ?_, rfl, ?_⟩
      · rw [List.length_map]
        refine .inl ⟨by omega, ?_⟩
        omega
      · have e3 : (decide (es.length = (flOf rs r0.1).length * if b0 = true then 1 else 0)) = decide (V.int (zs.length : Int) = V.int (((bs.map V.ref).length : Int) * (if b0 = true then 1 else 0))) := by
          rw [List.length_map]
          refine decide_eq_decide.mpr ⟨fun e => ?_, fun e => ?_⟩
          · rw [lz, e, efl]
            cases b0 <;> simp
          · have e := V.int.inj e
            cases b0
            · rw [if_neg (by decide), Int.mul_zero] at e
              rw [if_neg (by decide), Nat.mul_zero]
              omega
            · rw [if_pos rfl, Int.mul_one] at e
              rw [if_pos rfl, Nat.mul_one]
              omega
        rw [e3] at q
        exact q
    · rw [Bool.eq_false_iff.mpr fun z => hm ((hks nm).mp z)]
      refine iteT (q0 ?_)
      cases b with
      | bool b0 => 
        cases c with
        | tuple es =>
          show (decide (nm ∈ rs.map (·.1)) && _) = _
          rw [decide_eq_false hm]
          rfl
        | _ => rfl
      | _ => rfl
  · refine iteNT (fun z => l3 ?_) (q0 ?_)
    · have := V.int.inj z
      omega
    · match ds, l3 with
      | [], _ => rfl
      | [a], _ => cases a <;> rfl
      | [a, b], _ => cases a <;> cases b <;> rfl
      | [a, b, c], l => exact absurd rfl l
      | a :: b :: c :: e :: l, _ => cases a <;> cases b <;> cases c <;> rfl
end
/-! ### keys: the law's judge, the def -/
def rListOf (K : PySem.W.Frag) : List V → Hp → VK → Prop := fun xs H Q => ∃ p ys, xs = [.ref p] ∧ (SqL K H p ys ∨ SqT K H p ys) ∧ ∀ l, H l = none → Q (.ref l) (upd H l (.lst ys))
def spJudge (K : PySem.W.Frag) : Sp := fun vs H Q _ => ∃ (p kl : Addr) (v : V) (n m : Nat) (d : PyData) (rs : List Rk) (kxs : List V) (ks : List Kd), vs = [.ref p, .ref kl, v, .int (n : Int)] ∧ PgAt K H p rs ∧ WldOk rs ∧ H kl = some (.lst kxs) ∧ KdsAt K H kxs ks ∧ ks.length ≤ 100 ∧ Dp K H v d ∧ Pl m d ∧ m ≤ 60 ∧ n ≤ 1000 ∧ ∀ H', Same H H' → Q (.bl (isKeyF rs ks n d)) H'
theorem formedF_inv {rs : List Rk} {d : PyData} (h : formedF rs d = true) : ∃ z b ds, d = .tuple [.str z, .bool b, .tuple ds] ∧ z ∈ rs.map (·.1) ∧ ds.length = (flOf rs z).length * (if b then 1 else 0) := by
  unfold formedF at h
  split at h
  · rename_i z b ds
    rw [Bool.and_eq_true] at h
    exact ⟨z, b, ds, rfl, of_decide_eq_true h.1, of_decide_eq_true h.2⟩
  · cases h
theorem GoodD.formed {rs : List Rk} {ks : List Kd} {vs rd : List PyData} {n : Nat} (h : GoodD rs ks vs rd n) : ∀ d ∈ rd, formedF rs d = true := fun d hd => by
  obtain ⟨z, b, ds, rfl, hz, hb⟩ := formF_inv (h.f d hd)
  have hl : (!b || allFitF (nmsD rd) (flOf rs z) ds) = true := h.l _ hd
  show (decide (z ∈ rs.map (·.1)) && decide (ds.length = (flOf rs z).length * (if b then 1 else 0))) = true
  rw [decide_eq_true hz, Bool.true_and]
  refine decide_eq_true ?_
  cases b with
  | true =>
    rw [if_pos rfl, Nat.mul_one]
    exact (allFit_inv hl).1
  | false =>
    rcases hb with hb | hb
    · cases hb
    · rw [hb, if_neg (by decide), Nat.mul_zero]
      rfl
theorem formed_form {rs : List Rk} {d : PyData} (h : formedF rs d = true) : formF rs d = true := by
  obtain ⟨z, b, ds, rfl, hz, hl⟩ := formedF_inv h
  show (decide (z ∈ rs.map (·.1)) && (b || ds.isEmpty)) = true
  rw [decide_eq_true hz, Bool.true_and]
  cases b with
  | true => rfl
  | false =>
    rw [if_neg (by decide), Nat.mul_zero] at hl
    rw [List.length_eq_zero_iff.mp hl]
    rfl
theorem allFit_mk {nms : List Str} {ks : List Kd} {ds : List PyData} (l : ds.length = ks.length) (h : ∀ m < ds.length, fitF nms (ks.getD m .flag) (ds.getD m .none) = true) : allFitF nms ks ds = true := by
  unfold allFitF
  rw [decide_eq_true l, Bool.true_and, List.all_eq_true]
  exact fun i hi => h i (List.mem_range.mp hi)
section
variable {P : Program} {w : World} {K : PySem.W.Frag} {mg : Str → Option Value} {base : Heap}
theorem ok_l_judge (T : Txt w K mg) : FnOk P w K mg base CX0 19 T.a_l_judge T.d_l_judge p_l_judge (spJudge K) := by
  have g_l_formed := ok_l_formed (P := P) (w := w) (K := K) (base := base) T
  have g_l_fits := ok_l_fits (P := P) (w := w) (K := K) (base := base) T
  have g_l_key := ok_l_key (P := P) (w := w) (K := K) (base := base) T
  refine T.F_l_judge.ok sc_l_judge (fun vs H Q E h => ?_) (fun cdv A outer s H vs Q E hr h => ?_)
  · obtain ⟨p, kl, v, n, m, d, rs, kxs, ks, rfl, _⟩ := h
    rfl
  obtain ⟨p, kl, v, n, m, d, rs, kxs, ks, rfl, hp, wok, hkl, hks, k100, hd, pl, hm, hn, q⟩ := h
  have q0 : isKeyF rs ks n d = false → ∀ H', Same H H' → Q (.bl false) H' := fun e H' s => by
    have := q H' s
    rw [e] at this
    exact this
  refine ⟨_, (pss_cons (ps_if (PW.pt (pw_or (pt_not (pt_val (pe_callB call_isi rfl T.z_isinstance bb_isinstance (pa_cons (pv 2) (pa_cons (pe_bltn (v := .ty "tuple") rfl T.z_tuple bt_tuple rfl) pa_nil))))) (pw_or1 (pt_cmpR op_ne (pe_callB call_len_seq rfl T.z_len PySem.boot_len (pa_cons (pv 2) pa_nil)) pe_int (nomark _))))) (pss_one (ps_ret pe_bl)) pss_nil)
      (pss_cons (ps_if (PW.pt (pw_or (pt_not (pt_val (pe_callB call_isi rfl T.z_isinstance bb_isinstance (pa_cons (pe_ix ix_tup (pv 2) pe_int (fun _ _ => rfl)) (pa_cons (pe_bltn (v := .ty "tuple") rfl T.z_tuple bt_tuple rfl) pa_nil))))) (pw_or1 (pt_not (pt_val (pe_callB call_isi rfl T.z_isinstance bb_isinstance (pa_cons (pe_ix ix_tup (pv 2) pe_int (fun _ _ => rfl)) (pa_cons (pe_bltn (v := .ty "tuple") rfl T.z_tuple bt_tuple rfl) pa_nil)))))))) (pss_one (ps_ret pe_bl)) pss_nil)
      (pss_cons (ps_if (PW.pt (pw_or (pt_cmpR op_ne (pe_callB call_len_seq rfl T.z_len PySem.boot_len (pa_cons (pe_ix ix_tup (pv 2) pe_int (fun _ _ => rfl)) pa_nil)) (pe_callB call_len_seq rfl T.z_len PySem.boot_len (pa_cons (pv 1) pa_nil)) (nomark _)) (pw_or1 (pt_cmpR op_lt (pe_callB call_len_seq rfl T.z_len PySem.boot_len (pa_cons (pe_ix ix_tup (pv 2) pe_int (fun _ _ => rfl)) pa_nil)) (pv 3) (nomark _))))) (pss_one (ps_ret pe_bl)) pss_nil)
      (pss_cons (ps_set (i := 4) sc_l_judge.nd rfl (Or.inl rfl) pe_dnewK)
      (pss_cons (ps_for PassesOwn.never rfl (pi_tup (pe_ix ix_tup (pv 0) pe_int (fun _ _ => rfl))) (pg_name (i := 5) sc_l_judge.nd rfl (Or.inl rfl))
        (pss_one (ps_dput (hu_of hr) (pv 4) (pe_ix ix_tup (pv 5) pe_int (fun _ _ => rfl)) (pe_ix ix_tup (pv 5) pe_int (fun _ _ => rfl)) rfl)))
      (pss_cons (ps_for PassesOwn.never rfl (pi_tup (pe_ix ix_tup (pv 2) pe_int (fun _ _ => rfl))) (pg_name (i := 5) sc_l_judge.nd rfl (Or.inl rfl))
        (pss_one (ps_if (pt_not (pt_val (pe_call g_l_formed (hr.mono (by first | decide | omega)) rfl T.m_l_formed T.F_l_formed.kp T.b_l_formed .nil pass0 (pa_cons (pv 4) (pa_cons (pv 5) pa_nil))))) (pss_one (ps_ret pe_bl)) pss_nil)))
      (pss_cons (ps_for PassesOwn.never rfl (pi_tup (pe_ix ix_tup (pv 2) pe_int (fun _ _ => rfl))) (pg_name (i := 5) sc_l_judge.nd rfl (Or.inl rfl))
        (pss_one (ps_for PassesOwn.never rfl (pi_range1 rfl T.z_range (pa_cons (pe_callB call_len_seq rfl T.z_len PySem.boot_len (pa_cons (pe_ix ix_tup (pv 5) pe_int (fun _ _ => rfl)) pa_nil)) pa_nil)) (pg_name (i := 6) sc_l_judge.nd rfl (Or.inl rfl))
        (pss_one (ps_if (pt_not (pt_val (pe_call g_l_fits (hr.mono (by first | decide | omega)) rfl T.m_l_fits T.F_l_fits.kp T.b_l_fits .nil pass0 (pa_cons (pe_ix ix_tup (pe_ix ix_tup (pe_dget (hu_of hr) (pv 4) (pe_ix ix_tup (pv 5) pe_int (fun _ _ => rfl)) (fun _ _ => rfl)) (pv 6) (fun _ _ => rfl)) pe_int (fun _ _ => rfl)) (pa_cons (pe_ix ix_tup (pe_ix ix_tup (pv 5) pe_int (fun _ _ => rfl)) (pv 6) (fun _ _ => rfl)) (pa_cons (pe_ix ix_tup (pv 2) pe_int (fun _ _ => rfl)) pa_nil)))))) (pss_one (ps_ret pe_bl)) pss_nil)))))
      (pss_cons (ps_for PassesOwn.never rfl (pi_range1 rfl T.z_range (pa_cons (pe_callB call_len_seq rfl T.z_len PySem.boot_len (pa_cons (pv 1) pa_nil)) pa_nil)) (pg_name (i := 6) sc_l_judge.nd rfl (Or.inl rfl))
        (pss_one (ps_if (pt_not (pt_val (pe_call g_l_fits (hr.mono (by first | decide | omega)) rfl T.m_l_fits T.F_l_fits.kp T.b_l_fits .nil pass0 (pa_cons (pe_ix ix_list (pv 1) (pv 6) (fun _ _ => rfl)) (pa_cons (pe_ix ix_tup (pe_ix ix_tup (pv 2) pe_int (fun _ _ => rfl)) (pv 6) (fun _ _ => rfl)) (pa_cons (pe_ix ix_tup (pv 2) pe_int (fun _ _ => rfl)) pa_nil)))))) (pss_one (ps_ret pe_bl)) pss_nil)))
      (pss_cons (ps_set (i := 7) sc_l_judge.nd rfl (Or.inl rfl) (pe_disp (pps_cons pe_str (pe_lc (own := [("_law_record", 5)]) (g := gName 5) (tt := tYes) rfl sc_l_judge.nd (pi_tup (pe_ix ix_tup (pv 2) pe_int (fun _ _ => rfl))) (blkOk_by (own := [("_law_record", 5)]) (N := n_l_judge) (sc := defScope s_l_judge) (by decide +kernel)) (fun _ _ _ _ _ => (pg_name (i := 5) sc_l_judge.nd rfl (Or.inl rfl))) (fun _ _ _ _ _ => pts_nil) (fun _ _ _ _ _ => (pe_lst (pa_cons (pe_ix (show IxR _ (rIxT K) from ix_tup) (pv 5) pe_int (fun _ _ => rfl)) (pa_cons (pe_ix (show IxR _ (rIxT K) from ix_tup) (pv 5) pe_int (fun _ _ => rfl)) (pa_cons (pe_callTy (show CallR _ _ (rListOf K) from call_list_of) rfl T.z_list bt_list (pa_cons (pe_ix (show IxR _ (rIxT K) from ix_tup) (pv 5) pe_int (fun _ _ => rfl)) pa_nil)) pa_nil)))))) (pps_cons pe_str (pv 4) pps_nil)) (by rfl) (by rfl) (fun z => by cases z) (by decide)))
      (pss_one (ps_ret (pe_cmpR (op_eqD hr.units) (pe_ix ix_tup (pe_call g_l_key (hr.mono (by first | decide | omega)) rfl T.m_l_key T.F_l_key.kp T.b_l_key .nil pass0 (pa_cons (pv 7) (pa_cons (pv 1) (pa_cons (pe_ix ix_tup (pv 2) pe_int (fun _ _ => rfl)) (pa_cons (pe_tupRg rfl rfl T.z_tuple (prg_1 rfl T.z_range (pv 3))) pa_nil))))) pe_int (fun _ _ => rfl)) (pv 2) (nomark _))))))))))))), ?_⟩
  have pok := wok.pok
  refine ⟨_, rfl, _, _, _, _, isTup d, rfl, .ty _, dpTy hd, kit_ty (kbTup pl), _, rfl, ?_⟩
  cases ht : isTup d with
  | false => exact iteT (iteT (q0 (by cases d <;> first | rfl | cases ht) H (Same.refl _)))
  | true =>
  obtain ⟨ds, rfl⟩ : ∃ ds, d = .tuple ds := by cases d <;> first | exact ⟨_, rfl⟩ | cases ht
  cases hd with
  | @tup pd xs _ hpd hxs =>
  have lx := dpAll_len hxs
  obtain ⟨m1, rfl, _, pl1⟩ := pl_tup pl
  refine iteF ⟨_, rfl, pd, _, rfl, .inr hpd, rfl, _, rfl, ?_⟩
  by_cases l2 : ds.length = 2
  · refine iteNS (congrArg V.int (by omega)) ?_
    obtain ⟨a, b, rfl⟩ : ∃ a b, ds = [a, b] := by
      match ds, l2 with
      | [a, b], _ => exact ⟨a, b, rfl⟩
    obtain ⟨x, y, rfl⟩ : ∃ x y, xs = [x, y] := by
      match xs, lx with
      | [a, b], _ => exact ⟨a, b, rfl⟩
    have hkey : Dp K H (.ref pd) (.tuple [a, b]) := .tup hpd hxs
    cases hxs with
    | cons ha h2 =>
    cases h2 with
    | cons hb _ =>
    have pa := pl1 a List.mem_cons_self
    have pb := pl1 b (List.mem_cons_of_mem _ List.mem_cons_self)
    refine ⟨_, rfl, pd, _, 0, _, rfl, rfl, hpd, rfl, _, _, _, _, isTup a, rfl, .ty _, dpTy ha, kit_ty (kbTup pa), _, rfl, ?_⟩
    cases ua : isTup a with
    | false => exact iteT (iteT (q0 (by cases a <;> first | rfl | cases ua) H (Same.refl _)))
    | true =>
    obtain ⟨vd, rfl⟩ : ∃ l, a = .tuple l := by cases a <;> first | exact ⟨_, rfl⟩ | cases ua
    refine iteF ⟨_, rfl, pd, _, 1, _, rfl, rfl, hpd, rfl, _, _, _, _, isTup b, rfl, .ty _, dpTy hb, kit_ty (kbTup pb), _, rfl, ?_⟩
    cases ub : isTup b with
    | false => exact iteT (q0 (by cases b <;> first | rfl | cases ub) H (Same.refl _))
    | true =>
    obtain ⟨rd, rfl⟩ : ∃ l, b = .tuple l := by cases b <;> first | exact ⟨_, rfl⟩ | cases ub
    obtain ⟨m2, rfl, v100, plv⟩ := pl_tup pa
    obtain ⟨m3, em3, r100, plr⟩ := pl_tup pb
    obtain rfl : m2 = m3 := by omega
    clear em3
    cases ha with
    | @tup pv0 us _ hv hus =>
    cases hb with
    | @tup pr0 rxs _ hrr hrd =>
    have lus := dpAll_len hus
    have lrx := dpAll_len hrd
    have q1 : (¬ GoodD rs ks vd rd n) → ∀ H', Same H H' → Q (.bl false) H' := fun e => q0 (by
      show (goodF rs ks vd rd n && _) = false
      rw [Bool.eq_false_iff.mpr fun z => e (good_iff.mp z)]
      rfl)
    refine iteF ⟨_, rfl, pd, _, 0, _, rfl, rfl, hpd, rfl, pv0, _, rfl, .inr hv, _, rfl, kl, _, rfl, .inl (SqL.of hkl), rfl, _, rfl, ?_⟩
    by_cases lv : vd.length = ks.length
    rotate_left
    · exact iteNT (fun z => lv (by have := V.int.inj z; have := hks.1; omega)) (iteT (q1 (fun g => lv (allFit_inv g.v).1) H (Same.refl _)))
    refine iteNS (congrArg V.int (by have := hks.1; omega)) ?_
    refine ⟨_, rfl, pd, _, 1, _, rfl, rfl, hpd, rfl, pr0, _, rfl, .inr hrr, _, rfl, _, _, rfl, rfl, _, rfl, ite2 (fun hlt => ?_) (fun hge => ?_)⟩
    · have hlt := of_decide_eq_true hlt
      exact q1 (fun g => by have := g.n; omega) H (Same.refl _)
    have hnr : n ≤ rd.length := by
      by_cases h : n ≤ rd.length
      · exact h
      · exact absurd (decide_eq_true (by omega)) hge
    -- the fields
    obtain ⟨prg, x1, y1, z1, as, hp0, hpr, las, has⟩ := id hp
    refine fun df hdf => ?_
    have s0 := Same.new hdf (.dK [])
    have e0 : (upd H df (.dK [])) df = some (.dK []) := upd_same
    generalize (upd H df (.dK [])) = F0 at s0 e0
    refine ⟨_, rfl, p, _, 0, _, rfl, rfl, Same.tup s0 hp0, rfl, prg, rfl, ⟨_, Same.tup s0 hpr⟩, for_tup (K := K) (a := prg) (xs := as.map V.ref) (fun i σ F => Same H F ∧ (∃ kf : List (Key × V), F df = some (.dK kf) ∧ kf.length ≤ i ∧ (∀ z, (valV kf (Sum.inr z)).isSome = true ↔ z ∈ (rs.take i).map (·.1)) ∧ ∀ r ∈ rs.take i, ∃ pf, valV kf (Sum.inr r.1) = some (.ref pf) ∧ FdAt K H pf r.2) ∧ ∃ v5 : Option V, σ = [some (.ref p), some (.ref kl), some (.ref pd), some (.int (n : Int)), some (.ref df), v5, none, none])
      ⟨s0, ⟨[], e0, Nat.le_refl _, fun z => by simp [valV], fun r hr => by simp at hr⟩, none, rfl⟩ (fun i σ F _ ⟨s, _⟩ => Same.tup s hpr) ?_ ?_⟩
    · rintro i y σ F ey ⟨sF, ⟨kf, fF, lkf, hz, hkf⟩, v5, rfl⟩
      have hi : i < as.length := by
        have := (List.getElem?_eq_some_iff.mp ey).1
        rwa [List.length_map] at this
      have ea : as[i]? = some as[i] := List.getElem?_eq_getElem hi
      have hi2 : i < rs.length := by rw [← las]; exact hi
      have er : rs[i]? = some rs[i] := List.getElem?_eq_getElem hi2
      have hln := wok.l
      rw [map_get ea] at ey
      obtain rfl := Option.some.inj ey
      obtain ⟨pf, h1, h2⟩ := has i _ _ ea er
      have tk : rs.take (i + 1) = rs.take i ++ [rs[i]] := by
        rw [List.take_add_one, er]
        rfl
      generalize rs[i] = r at er h1 h2 tk
      generalize as[i] = ai at ea h1
      refine ⟨_, rfl, ai, _, 1, _, rfl, rfl, Same.tup sF h1, rfl, _, rfl, _, rfl, ai, _, 0, _, rfl, rfl, Same.tup sF h1, rfl, df, _, rfl, DPut.k (k := Sum.inr r.1) fF (small1000 (by omega)), ?_⟩
      refine ⟨fun b u e => by rw [upd_ne (ne_of_none e hdf)]; exact sF _ _ e, ⟨_, upd_same, Nat.le_trans (length_putK _ _ _) (by omega), fun z => ?_, fun c hc => ?_⟩, _, rfl⟩
      · rw [valV_put, tk, List.map_append, List.mem_append]
        by_cases e : z = r.1
        · rw [if_pos (by rw [e])]
          exact ⟨fun _ => .inr (by rw [e]; exact List.mem_singleton.mpr rfl), fun _ => rfl⟩
        · rw [if_neg (fun w => e (Sum.inr.inj w)), hz z]
          exact ⟨.inl, fun w => w.resolve_right fun w => e (by simpa using w)⟩
      · rw [valV_put]
        split
        · rename_i e
          have e2 : c.1 = r.1 := Sum.inr.inj e
          have cr : c = r := by
            rw [tk] at hc
            rcases List.mem_append.mp hc with hc | hc
            · exact eq_of_key wok.nd (List.mem_of_mem_take hc) (List.mem_of_getElem? er) e2
            · exact List.mem_singleton.mp hc
          rw [cr]
          exact ⟨pf, rfl, h2⟩
        · rename_i e
          rw [tk] at hc
          rcases List.mem_append.mp hc with hc | hc
          · exact hkf c hc
          · rw [List.mem_singleton.mp hc] at e
            exact absurd rfl e
    rintro σ F1 ⟨s1, ⟨kf, f1, _, hz, hkf⟩, v5, rfl⟩
    have hz : ∀ z, (valV kf (Sum.inr z)).isSome = true ↔ z ∈ rs.map (·.1) := fun z => by
      have := hz z
      rw [List.length_map, las, List.take_length] at this
      exact this
    have hkf : FldAt K H kf rs := fun r hr => hkf r (by rw [List.length_map, las, List.take_length]; exact hr)
    clear las has s0 e0
    -- the forms
    refine ⟨_, rfl, pd, _, 1, _, rfl, rfl, Same.tup s1 hpd, rfl, pr0, rfl, ⟨_, Same.tup s1 hrr⟩, for_tup (K := K) (a := pr0) (xs := rxs) (fun i σ F => F = F1 ∧ (∀ d ∈ rd.take i, formedF rs d = true) ∧ ∃ v5 : Option V, σ = [some (.ref p), some (.ref kl), some (.ref pd), some (.int (n : Int)), some (.ref df), v5, none, none])
      ⟨rfl, fun d hd => by simp at hd, _, rfl⟩ (fun i σ F _ P => by rw [P.1]; exact Same.tup s1 hrr) ?_ ?_⟩
    · rintro j y σ F ey ⟨rfl, hf, v5, rfl⟩
      obtain ⟨d, ed, hd1⟩ := dpAll_at hrd ey
      have md := List.mem_of_getElem? ed
      have tk : rd.take (j + 1) = rd.take j ++ [d] := by
        rw [List.take_add_one, ed]
        rfl
      refine ⟨_, rfl, _, rfl, y, df, d, m2, kf, rs, rfl, Dp.same s1 _ _ hd1, plr d md, f1, hz, hkf.keep (KeepT.of s1), wok, ?_⟩
      cases hfd : formedF rs d with
      | false => exact ⟨_, rfl, iteT (q1 (fun g => by have := g.formed d md; rw [hfd] at this; cases this) _ s1)⟩
      | true =>
        refine ⟨_, rfl, iteF ⟨rfl, fun c hc => ?_, _, rfl⟩⟩
        rw [tk] at hc
        rcases List.mem_append.mp hc with h | h
        · exact hf c h
        · rw [List.mem_singleton.mp h]
          exact hfd
    rintro σ F ⟨rfl, gf, v5', rfl⟩
    have gf : ∀ d ∈ rd, formedF rs d = true := fun d hd => gf d (by rw [lrx, List.take_length]; exact hd)
    have hform : ∀ d ∈ rd, ∃ z rest, d = PyData.tuple (.str z :: rest) ∧ (rcD d).nm = z := fun d hd => by
      obtain ⟨z, b, es, rfl, _⟩ := formedF_inv (gf d hd)
      exact ⟨z, _, rfl, rfl⟩
    -- the fields of the records
    refine ⟨_, rfl, pd, _, 1, _, rfl, rfl, Same.tup s1 hpd, rfl, pr0, rfl, ⟨_, Same.tup s1 hrr⟩, for_tup (K := K) (a := pr0) (xs := rxs) (fun i σ F' => F' = F ∧ (∀ d ∈ rd.take i, liveFit (nmsD rd) rs d = true) ∧ ∃ v5 v6 : Option V, σ = [some (.ref p), some (.ref kl), some (.ref pd), some (.int (n : Int)), some (.ref df), v5, v6, none])
      ⟨rfl, fun d hd => by simp at hd, _, _, rfl⟩ (fun i σ F' _ P => by rw [P.1]; exact Same.tup s1 hrr) ?_ ?_⟩
    · rintro j y σ F' ey ⟨rfl, hl, v5, v6, rfl⟩
      obtain ⟨d, ed, hd1⟩ := dpAll_at hrd ey
      have md := List.mem_of_getElem? ed
      have tk : rd.take (j + 1) = rd.take j ++ [d] := by
        rw [List.take_add_one, ed]
        rfl
      obtain ⟨z, b, es, rfl, hz0, les⟩ := formedF_inv (gf d md)
      obtain ⟨n1, rfl, _, hp1⟩ := pl_tup (plr _ md)
      obtain ⟨n2, rfl, es100, hp2⟩ := pl_tup (hp1 (.tuple es) (List.mem_cons_of_mem _ (List.mem_cons_of_mem _ List.mem_cons_self)))
      cases hd1 with
      | @tup q3 ys _ h3 hys =>
      cases hys with
      | cons h4 h5 =>
      cases h5 with
      | cons h5 h6 =>
      cases h6 with
      | cons h6 h7 =>
      cases h7
      cases h4
      cases h5
      cases h6 with
      | @tup tq zs _ h8 hzs =>
      have lz := dpAll_len hzs
      have h3' := Same.tup s1 h3
      have h8' := Same.tup s1 h8
      obtain ⟨r0, mr0, rfl⟩ := List.mem_map.mp hz0
      obtain ⟨pf, ef, bs, hbs, lbs, hbb⟩ := hkf r0 mr0
      have efl := flOf_mem wok.nd mr0
      refine ⟨_, rfl, q3, _, 2, _, rfl, rfl, h3', atI_nat (j := 2) rfl, tq, _, rfl, .inr h8', _, rfl, by omega, by omega, for_range (lo := 0) (fun k σ F2 => F2 = F' ∧ (∀ m < k, fitF (nmsD rd) ((flOf rs r0.1).getD m .flag) (es.getD m .none) = true) ∧ ∃ v6 : Option V, σ = [some (.ref p), some (.ref kl), some (.ref pd), some (.int (n : Int)), some (.ref df), some (.ref q3), v6, none])
        ⟨rfl, fun m hm => absurd hm (Nat.not_lt_zero _), _, rfl⟩ ?_ ?_⟩
      · rintro k σ F2 hk ⟨rfl, hfit, v6, rfl⟩
        have hk : k < es.length := by omega
        have lfl : es.length ≤ (flOf rs r0.1).length := by
          rw [les]
          cases b <;> simp
        have hb1 : b = true := by
          cases b with
          | true => rfl
          | false =>
            rw [if_neg (by decide), Nat.mul_zero] at les
            omega
        have lf2 : (flOf rs r0.1).length = r0.2.length := by rw [efl, List.length_map]
        have ee : es[k]? = some es[k] := List.getElem?_eq_getElem hk
        obtain ⟨x, ex, hx⟩ := dpAll_get hzs ee
        have efk : r0.2[k]? = some (r0.2[k]'(by omega)) := List.getElem?_eq_getElem _
        have eb : bs[k]? = some (bs[k]'(by omega)) := List.getElem?_eq_getElem _
        obtain ⟨kv, g1, g2⟩ := hbb k _ _ eb efk
        have ekd : (flOf rs r0.1).getD k .flag = (r0.2[k]'(by omega)).2 := by
          rw [efl]
          exact getD_at (by rw [List.getElem?_map, efk]; rfl)
        generalize (r0.2[k]'(by omega)) = fk at efk g1 g2 ekd
        generalize (bs[k]'(by omega)) = bk at eb g1
        have at1 : atI (bs.map V.ref) (0 + (k : Int)) = some (.ref bk) := by rw [Int.zero_add]; exact atI_nat (map_get eb)
        have at2 : atI zs (0 + (k : Int)) = some x := by rw [Int.zero_add]; exact atI_nat ex
        refine ⟨_, rfl, _, rfl, q3, _, 0, _, rfl, rfl, h3', atI_nat (j := 0) rfl, df, _, rfl, DGet.at (k := Sum.inr r0.1) f1 ef, _, rfl, pf, _, _, _, rfl, rfl, Same.tup s1 hbs, at1, bk, _, 1, _, rfl, rfl, Same.tup s1 g1, rfl, ?_⟩
        refine ⟨_, rfl, q3, _, 2, _, rfl, rfl, h3', atI_nat (j := 2) rfl, _, rfl, tq, _, _, _, rfl, rfl, h8', at2, ?_⟩
        refine ⟨_, rfl, pd, _, 1, _, rfl, rfl, Same.tup s1 hpd, rfl, x, kv, pr0, es[k], n2, fk.2, rxs, rd, rfl, Dp.same s1 _ _ hx, hp2 _ (List.getElem_mem hk), g2.keep (KeepT.of s1), Same.tup s1 hrr, DpAll.same s1 _ _ hrd, hform, ?_⟩
        cases hff : fitF (nmsD rd) fk.2 es[k] with
        | false =>
          refine ⟨_, rfl, iteT (q1 (fun g => ?_) _ s1)⟩
          have hl : (!b || allFitF (nmsD rd) (flOf rs r0.1) es) = true := g.l _ md
          rw [hb1] at hl
          have := (allFit_inv hl).2 k es[k] fk.2 ee (by rw [efl, List.getElem?_map, efk]; rfl)
          rw [hff] at this
          cases this
        | true =>
          refine ⟨_, rfl, iteF ⟨rfl, fun m hm => ?_, _, rfl⟩⟩
          by_cases h : m < k
          · exact hfit m h
          · obtain rfl : m = k := by omega
            rw [ekd, getD_at ee]
            exact hff
      · rintro σ F2 ⟨rfl, hfit, v6, rfl⟩
        refine ⟨rfl, fun c hc => ?_, _, _, rfl⟩
        rw [tk] at hc
        rcases List.mem_append.mp hc with h | h
        · exact hl c h
        · rw [List.mem_singleton.mp h]
          show (!b || allFitF (nmsD rd) (flOf rs r0.1) es) = true
          cases b with
          | false => rfl
          | true =>
            rw [if_pos rfl, Nat.mul_one] at les
            exact allFit_mk les fun m hm => hfit m (by omega)
    rintro σ F ⟨rfl, gl, v5, v6, rfl⟩
    have gl : ∀ d ∈ rd, liveFit (nmsD rd) rs d = true := fun d hd => gl d (by rw [lrx, List.take_length]; exact hd)
    -- the values
    have hpd1 := Same.tup s1 hpd
    have hrr1 := Same.tup s1 hrr
    have hv1 := Same.tup s1 hv
    have hkl1 := s1 _ _ hkl
    have lks := hks.1
    refine ⟨_, rfl, kl, _, rfl, .inl (SqL.of hkl1), _, rfl, by omega, by omega, for_range (lo := 0) (fun k σ F2 => F2 = F ∧ (∀ m < k, fitF (nmsD rd) (ks.getD m .flag) (vd.getD m .none) = true) ∧ ∃ v6 : Option V, σ = [some (.ref p), some (.ref kl), some (.ref pd), some (.int (n : Int)), some (.ref df), v5, v6, none])
      ⟨rfl, fun m hm => absurd hm (Nat.not_lt_zero _), _, rfl⟩ ?_ ?_⟩
    · rintro k σ F2 hk ⟨rfl, hfit, v6, rfl⟩
      have hk : k < ks.length := by omega
      have hkv : k < vd.length := by omega
      have ee : vd[k]? = some vd[k] := List.getElem?_eq_getElem hkv
      obtain ⟨x, ex, hx⟩ := dpAll_get hus ee
      have e2 : ks[k]? = some ks[k] := List.getElem?_eq_getElem hk
      have e1 : kxs[k]? = some (kxs[k]'(by omega)) := List.getElem?_eq_getElem _
      have hkd := hks.2 k _ _ e1 e2
      have ekd : ks.getD k .flag = ks[k] := getD_at e2
      generalize ks[k] = kd at e2 hkd ekd
      generalize (kxs[k]'(by omega)) = kx at e1 hkd
      have at1 : atI kxs (0 + (k : Int)) = some kx := by rw [Int.zero_add]; exact atI_nat e1
      have at2 : atI us (0 + (k : Int)) = some x := by rw [Int.zero_add]; exact atI_nat ex
      refine ⟨_, rfl, _, rfl, kl, _, _, _, rfl, rfl, SqL.of hkl1, at1, _, rfl, pd, _, 0, _, rfl, rfl, hpd1, rfl, _, rfl, pv0, _, _, _, rfl, rfl, hv1, at2, _, rfl, pd, _, 1, _, rfl, rfl, hpd1, rfl, x, kx, pr0, vd[k], m2, kd, rxs, rd, rfl, Dp.same s1 _ _ hx, plv _ (List.getElem_mem hkv), hkd.keep (KeepT.of s1), hrr1, DpAll.same s1 _ _ hrd, hform, ?_⟩
      cases hff : fitF (nmsD rd) kd vd[k] with
      | false =>
        refine ⟨_, rfl, iteT (q1 (fun g => ?_) _ s1)⟩
        have := (allFit_inv g.v).2 k _ _ ee e2
        rw [hff] at this
        cases this
      | true =>
        refine ⟨_, rfl, iteF ⟨rfl, fun m hm => ?_, _, rfl⟩⟩
        by_cases h : m < k
        · exact hfit m h
        · obtain rfl : m = k := by omega
          rw [ekd, getD_at ee]
          exact hff
    rintro σ F2 ⟨rfl, hfit, v6', rfl⟩
    have hvf : allFitF (nmsD rd) ks vd = true := allFit_mk lv fun m hm => hfit m (by omega)
    have good : GoodD rs ks vd rd n := ⟨hnr, fun d hd => formed_form (gf d hd), gl, hvf⟩
    have hpG := good.hp wok r100
    have hpO := hpG.ok wok
    have vok := good.vok v100
    have eus : us = vd.map dV := dp_row hus hvf
    have ndf : df ≠ kl := (ne_of_none hkl hdf).symm
    -- the run
    refine fun dr hdr => ?_
    have sd := Same.new hdr (.dK [])
    have ed0 : (upd F2 dr (.dK [])) dr = some (.dK []) := upd_same
    have ndrl : dr ≠ kl := (ne_of_none hkl1 hdr).symm
    have nfd : df ≠ dr := ne_of_none f1 hdr
    have s2 := s1.trans sd
    have hdr0 := s1.free hdr
    have f2 := sd _ _ f1
    generalize hF3 : (upd F2 dr (.dK [])) = F3 at sd ed0 s2 f2
    refine ⟨_, rfl, pd, _, 1, _, rfl, rfl, Same.tup s2 hpd, rfl, pr0, rfl, ⟨_, Same.tup s2 hrr⟩, fun D hD => ?_⟩
    have hD0 := s2.free hD
    have nDd : D ≠ dr := (ne_of_none ed0 hD).symm
    refine lc_it (walk_tup (xs := rxs)) (fun m F => Same F3 F ∧ ∃ rows : List V, F D = some (.lst rows) ∧ RowsF H D F rows ((rd.take m).map rcD)) ⟨Same.new hD _, [], upd_same, rfl, fun i v r e => by simp at e⟩ (fun i F _ P => Same.tup (s2.trans P.1) hrr) ?_ ?_
    · rintro j y F F' hj ⟨sF, rows, eD, rf⟩ ⟨rfl, ex⟩
      obtain ⟨d, ed, hd1⟩ := dpAll_at hrd ex
      have md := List.mem_of_getElem? ed
      have tk : (rd.take (j + 1)).map rcD = (rd.take j).map rcD ++ [rcD d] := by
        rw [List.take_add_one, ed, List.map_append]
        rfl
      have hll := gl d md
      obtain ⟨z, b, es, rfl, hz0, les⟩ := formedF_inv (gf d md)
      have hll : (!b || allFitF (nmsD rd) (flOf rs z) es) = true := hll
      cases hd1 with
      | @tup q3 ys _ h3 hys =>
      cases hys with
      | cons h4 h5 =>
      cases h5 with
      | cons h5 h6 =>
      cases h6 with
      | cons h6 h7 =>
      cases h7
      cases h4
      cases h5
      cases h6 with
      | @tup tq zs _ h8 hzs =>
      have ezs : zs = es.map dV := by
        cases b with
        | true => exact dp_row hzs hll
        | false =>
          rw [if_neg (by decide), Nat.mul_zero] at les
          have := List.length_eq_zero_iff.mp les
          subst this
          cases hzs
          rfl
      have sHF := s2.trans sF
      have h3' := Same.tup sHF h3
      have lrows : rows.length = j := by
        rw [rf.1, List.length_map, List.length_take]
        have := (List.getElem?_eq_some_iff.mp ed).1
        omega
      refine ⟨rfl, tyes ?_⟩
      refine ⟨_, rfl, q3, _, 0, _, rfl, rfl, h3', atI_nat (j := 0) rfl, _, rfl, q3, _, 1, _, rfl, rfl, h3', atI_nat (j := 1) rfl, _, rfl, q3, _, 2, _, rfl, rfl, h3', atI_nat (j := 2) rfl, tq, _, rfl, .inr (Same.tup sHF h8), fun l hl => ⟨by show 3 ≤ sizeLine; decide, fun t ht => ?_⟩⟩
      have n1 := Same.new hl (.lst zs)
      have n2 := Same.new ht (.lst [.str z, .bl b, .ref l])
      have sE := n1.trans n2
      have eE := sE _ _ eD
      have htF := n1.free ht
      have ntD := ne_of_none eD htF
      have nlD := ne_of_none eD hl
      have ntl : l ≠ t := ne_of_none upd_same ht
      refine ⟨_, eE, lt_line (by have := (List.getElem?_eq_some_iff.mp ed).1; omega), fun b u e => by rw [upd_ne (ne_of_none e hD)]; exact sE _ _ (sF _ _ e), _, upd_same, ?_⟩
      rw [tk]
      refine RowsF.push (rf.up fun b u _ ne e => by rw [upd_ne ne]; exact sE _ _ e) ?_
      refine ⟨t, l, rfl, sHF.free htF, sHF.free hl, ntD.symm, nlD.symm, ?_, ?_⟩
      · rw [upd_ne ntD.symm]
        exact upd_same
      · rw [upd_ne nlD.symm]
        show _ = some (HO.lst (es.map dV))
        rw [← ezs]
        exact n2 _ _ upd_same
    rintro F4 ⟨s4, rows, eD, rf⟩
    rw [lrx, List.take_length] at rf
    have s24 := s2.trans s4
    refine ⟨_, rfl, s4 _ _ ed0, [(Sum.inr "records", .ref D), (Sum.inr "fields", .ref df)], rfl, by show 2 ≤ 15; decide, ?_⟩
    rw [kvR_mk]
    have nup : ∀ {b o}, b ≠ dr → F4 b = some o → (upd F4 dr (.dK (kvR D df))) b = some o := fun ne e => by rw [upd_ne ne]; exact e
    have s5 : Same H (upd F4 dr (.dK (kvR D df))) := fun b u e => nup (ne_of_none e hdr0) (s24 _ _ e)
    have d5 : (upd F4 dr (.dK (kvR D df))) dr = some (.dK (kvR D df)) := upd_same
    have l5 := nup nDd eD
    have f5 := nup nfd (s4 _ _ f2)
    have rf5 : ∀ (i : Nat) (v : V) (r : Rc), rows[i]? = some v → (rd.map rcD)[i]? = some r → RowAt kl (upd F4 dr (.dK (kvR D df))) v r := fun i v r e1 e2 => by
      obtain ⟨x1, x2, e, n1, n2, _, _, t1, t2⟩ := rf.2 i v r e1 e2
      have ne : ∀ {b : Addr} {ys : List V}, F4 b = some (.lst ys) → b ≠ dr := fun e z => by
        rw [z, s4 _ _ ed0] at e
        cases e
      exact ⟨x1, x2, e, (ne_of_none hkl n1).symm, (ne_of_none hkl n2).symm, nup (ne t1) t1, nup (ne t2) t2⟩
    generalize (upd F4 dr (.dK (kvR D df))) = G5 at s5 d5 l5 f5 rf5
    have run5 : RunAt K kl G5 dr rs (rd.map rcD) := ⟨_, kf, D, df, rows, ndrl, (ne_of_none hkl hD0).symm, ndf, d5, kvR_rec, kvR_fld, l5, rf.1, rf5, f5, hkf.keep (KeepT.of s5)⟩
    have bfst := refsAt_lt (vs := vd.map dV) (pl := refPl ks) fun i hi => (vok.pl i hi).2
    have ndr : (List.range n).Nodup := List.nodup_range
    have br : ∀ i ∈ List.range n, i < (rd.map rcD).length := fun i hi => by
      rw [List.mem_range] at hi
      rw [List.length_map]
      omega
    obtain ⟨ndo, bo, _⟩ := order_ok hpO.rn ndr br bfst
    have lo := len_le ndo bo
    have plK : Pl 5 (keyH rs (rd.map rcD) ks (vd.map dV) (ordD rs ks vd rd n)) := by
      refine pl_key (by rw [List.length_map]; exact v100) (Nat.le_trans lo (by rw [List.length_map]; exact r100)) (fun r hr => ?_) (fun r hr => ?_) vok.f (fun r hr => (hpG.rc r hr).f)
      · have g := hpG.rc r hr
        have := flOf_len pok (z := r.nm)
        cases hl : r.live with
        | true => rw [g.l hl]; omega
        | false => rw [g.d hl]; exact Nat.zero_le _
      · obtain ⟨d, hd, rfl⟩ := List.mem_map.mp hr
        obtain ⟨z, b, es, rfl, _, _⟩ := formedF_inv (gf d hd)
        obtain ⟨n1, rfl, _, hp1⟩ := pl_tup (plr _ hd)
        have hz := hp1 (.str z) List.mem_cons_self
        cases n1 with
        | zero => exact hz.elim
        | succ n1 => exact hz
    refine ⟨_, rfl, _, rfl, _, rfl, pd, _, 0, _, rfl, rfl, Same.tup s5 hpd, rfl, _, rfl, (n : Int), rfl, by refine ⟨?_, ?_, ?_, ?_, ?_⟩ <;> first | decide | omega | (show _ ≤ sizeLine; exact Nat.le_trans (b := 1000) (by omega) (by decide)), fun t3 ht3 => ?_⟩
    rw [rgV_nats]
    have s6 := Same.new ht3 (.tup (natsV (List.range n)))
    have s16 := s5.trans s6
    refine ⟨dr, kl, pv0, t3, kl, rs, rd.map rcD, kxs, us, ks, List.range n, rkOf rs (rd.map rcD), rfl, hpO, run5.same s6, s16 _ _ hkl, hks.keep (KeepT.of s16), .inr (Same.tup s16 hv), by rw [eus]; exact vok, .inr (SqT.of upd_same), ndr, br, fun q7 G7 s7 d7 => ?_⟩
    rw [eus] at d7
    have s17 := s16.trans s7
    cases d7 with
    | @tup _ ws _ hq hws =>
    cases hws with
    | @cons w1 _ _ _ h1 h2 =>
    have hkey7 := Dp.same s17 _ _ hkey
    have fin := q G7 s17
    have e : isKeyF rs ks n (.tuple [.tuple vd, .tuple rd]) = PyData.eqv (keyH rs (rd.map rcD) ks (vd.map dV) (ordD rs ks vd rd n)) (.tuple [.tuple vd, .tuple rd]) := by
      show (goodF rs ks vd rd n && _) = _
      rw [good_iff.mpr good, Bool.true_and]
    rw [e] at fin
    exact ⟨q7, _, 0, _, rfl, rfl, hq, atI_nat (j := 0) rfl, _, rfl, _, _, h1, hkey7, pl_shaped plK (by decide), pl_shaped pl (by omega), fin⟩
  · refine iteNT (fun z => l2 ?_) (q0 ?_ H (Same.refl _))
    · have := V.int.inj z
      omega
    · match ds, l2 with
      | [], _ => rfl
      | [a], _ => cases a <;> rfl
      | [a, b], l => exact absurd rfl l
      | a :: b :: c :: l, _ => cases a <;> cases b <;> rfl
end
/-! ### keys: drawn plain values -/
mutual
theorem Dp.keepP {K : PySem.W.Frag} {H H' : Hp} (s : KeepT K H H') : ∀ (n : Nat) (d : PyData) (v : V), Pl n d → Dp K H v d → Dp K H' v d
  | 0, _, _, p, _ => p.elim
  | n + 1, .none, _, _, h => by cases h; exact .non
  | n + 1, .bool _, _, _, h => by cases h; exact .bl _
  | n + 1, .int _, _, _, h => by cases h; exact .int _
  | n + 1, .str _, _, _, h => by cases h; exact .str _
  | n + 1, .list ds, _, p, _ => p.elim
  | n + 1, .tuple ds, _, p, h => by
    cases h with
    | tup h1 h2 => exact .tup (s _ _ h1) (DpAll.keepP s n ds _ p.2 h2)
  | n + 1, .dict _, _, p, _ => p.elim
theorem DpAll.keepP {K : PySem.W.Frag} {H H' : Hp} (s : KeepT K H H') : ∀ (n : Nat) (ds : List PyData) (vs : List V), (∀ d ∈ ds, Pl n d) → DpAll K H vs ds → DpAll K H' vs ds
  | _, [], _, _, h => by cases h; exact .nil
  | n, d :: ds, _, p, h => by
    cases h with
    | cons h1 h2 => exact .cons (Dp.keepP s n d _ (p d List.mem_cons_self) h1) (DpAll.keepP s n ds _ (fun x hx => p x (List.mem_cons_of_mem _ hx)) h2)
end
def PV (K : PySem.W.Frag) (H : Hp) (n : Nat) (v : V) : Prop := ∃ d, Dp K H v d ∧ Pl n d
theorem PV.keep {K : PySem.W.Frag} {H H' : Hp} {n : Nat} {v : V} (s : KeepT K H H') (h : PV K H n v) : PV K H' n v := by
  obtain ⟨d, h, p⟩ := h
  exact ⟨d, Dp.keepP s n d v p h, p⟩
theorem PV.up {K : PySem.W.Frag} {H : Hp} {n m : Nat} {v : V} (l : n ≤ m) (h : PV K H n v) : PV K H m v := by
  obtain ⟨d, h, p⟩ := h
  exact ⟨d, h, p.up l⟩
theorem pv_all {K : PySem.W.Frag} {H : Hp} {n : Nat} : ∀ {xs : List V}, (∀ v ∈ xs, PV K H n v) → ∃ ds, DpAll K H xs ds ∧ ∀ d ∈ ds, Pl n d
  | [], _ => ⟨[], .nil, fun d hd => by cases hd⟩
  | x :: xs, h => by
    obtain ⟨ds, g, p⟩ := pv_all (xs := xs) fun v hv => h v (List.mem_cons_of_mem _ hv)
    obtain ⟨d, g1, p1⟩ := h x List.mem_cons_self
    refine ⟨d :: ds, .cons g1 g, fun e he => ?_⟩
    rcases List.mem_cons.mp he with rfl | he
    · exact p1
    · exact p e he
theorem PV.tup {K : PySem.W.Frag} {H : Hp} {n : Nat} {p : Addr} {xs : List V} (h : SqT K H p xs) (g : ∀ v ∈ xs, PV K H n v) (l : xs.length ≤ 100) : PV K H (n + 1) (.ref p) := by
  obtain ⟨ds, g, q⟩ := pv_all g
  exact ⟨.tuple ds, .tup h g, by rw [← dpAll_len g]; exact l, q⟩
theorem PV.non {K : PySem.W.Frag} {H : Hp} {n : Nat} : PV K H (n + 1) .non := ⟨.none, .non, trivial⟩
theorem PV.bl {K : PySem.W.Frag} {H : Hp} {n : Nat} (b : Bool) : PV K H (n + 1) (.bl b) := ⟨.bool b, .bl b, trivial⟩
theorem PV.int {K : PySem.W.Frag} {H : Hp} {n : Nat} (i : Int) : PV K H (n + 1) (.int i) := ⟨.int i, .int i, trivial⟩
theorem PV.str {K : PySem.W.Frag} {H : Hp} {n : Nat} {z : Str} (h : PyData.strOk z = true) : PV K H (n + 1) (.str z) := ⟨.str z, .str z, h⟩
theorem PV.flat {K : PySem.W.Frag} {H : Hp} {n : Nat} {v : V} (h : Flat3 v) : PV K H (n + 1) v := by
  rcases h with rfl | ⟨b, rfl⟩ | ⟨i, rfl⟩
  · exact .non
  · exact .bl b
  · exact .int i
/-- the parts of a tuple that is a plain value -/
theorem PV.parts {K : PySem.W.Frag} {H : Hp} {n : Nat} {p : Addr} {xs : List V} {ds : List PyData} (h : SqT K H p xs) (g : DpAll K H xs ds) (q : ∀ d ∈ ds, Pl n d) : ∀ v ∈ xs, PV K H n v := fun v hv => by
  obtain ⟨i, hi, rfl⟩ := List.getElem_of_mem hv
  obtain ⟨d, ed, hd⟩ := dpAll_at g (List.getElem?_eq_getElem hi)
  exact ⟨d, hd, q d (List.mem_of_getElem? ed)⟩
structure RowP (K : PySem.W.Frag) (H : Hp) (v : V) (q l : Addr) (x y : V) (xs : List V) : Prop where
  e : v = .ref q
  h : H q = some (.lst [x, y, .ref l])
  x : PV K H 3 x
  y : PV K H 3 y
  l : H l = some (.lst xs)
  p : ∀ u ∈ xs, PV K H 3 u
  n : xs.length ≤ 100
def spFrozen (K : PySem.W.Frag) : Sp := fun vs H Q _ => ∃ (vl rl : Addr) (us rows : List V), vs = [.ref vl, .ref rl] ∧ H vl = some (.lst us) ∧ (∀ u ∈ us, PV K H 3 u) ∧ us.length ≤ 100 ∧ H rl = some (.lst rows) ∧ rows.length ≤ 100 ∧ (∀ v ∈ rows, ∃ q l x y xs, RowP K H v q l x y xs) ∧ ∀ v H', Same H H' → PV K H' 7 v → Q v H'
def spStrange (K : PySem.W.Frag) : Sp := fun vs H Q _ => ∃ (a : Addr) (v : V) (n : Int), vs = [.ref a, v, .int n] ∧ Src H a ∧ Flat3 v ∧ ∀ u H', Stp a H H' → PV K H' 3 u → Q u H'
def spGarb (K : PySem.W.Frag) (d : Nat) : Sp := fun vs H Q _ => ∃ (a : Addr), vs = [.ref a, .int (d : Int)] ∧ Src H a ∧ ∀ u H', Stp a H H' → PV K H' (d + 1) u → Q u H'
def spGarbN (K : PySem.W.Frag) : Nat → Sp
  | 0 => fun _ _ _ _ => False
  | d + 1 => spGarb K d
section
variable {P : Program} {w : World} {K : PySem.W.Frag} {mg : Str → Option Value} {base : Heap}
theorem ok_l_frozen (T : Txt w K mg) : FnOk P w K mg base CX0 1 T.a_l_frozen T.d_l_frozen p_l_frozen (spFrozen K) := by
  refine T.F_l_frozen.ok sc_l_frozen (fun vs H Q E h => ?_) (fun cdv A outer s H vs Q E hr h => ?_)
  · obtain ⟨vl, rl, us, rows, rfl, _⟩ := h
    rfl
  obtain ⟨vl, rl, us, rows, rfl, hvl, pus, l1, hrl, l2, hrows, q⟩ := h
  refine ⟨_, (pss_one (ps_ret (pe_tup (pa_cons (pe_callTy call_tuple_of rfl T.z_tuple bt_tuple (pa_cons (pv 0) pa_nil)) (pa_cons (pe_callTy call_tuple_of rfl T.z_tuple bt_tuple (pa_cons (pe_lc (own := [("_law_row", 2)]) (g := gName 2) (tt := tYes) rfl sc_l_frozen.nd (pi_list (pv 1)) (blkOk_by (own := [("_law_row", 2)]) (N := n_l_frozen) (sc := defScope s_l_frozen) (by decide +kernel)) (fun _ _ _ _ _ => (pg_name (i := 2) sc_l_frozen.nd rfl (Or.inl rfl))) (fun _ _ _ _ _ => pts_nil) (fun _ _ _ _ _ => (pe_tup (pa_cons (pe_ix (show IxR _ (rIxL K) from ix_list) (pv 2) pe_int (fun _ _ => rfl)) (pa_cons (pe_ix (show IxR _ (rIxL K) from ix_list) (pv 2) pe_int (fun _ _ => rfl)) (pa_cons (pe_callTy (show CallR _ _ (rTupOf K) from call_tuple_of) rfl T.z_tuple bt_tuple (pa_cons (pe_ix (show IxR _ (rIxL K) from ix_list) (pv 2) pe_int (fun _ _ => rfl)) pa_nil)) pa_nil)))))) pa_nil)) pa_nil))))), ?_⟩
  refine ⟨_, rfl, vl, _, rfl, .inl ⟨SqL.of hvl, fun t1 ht1 => ?_⟩⟩
  have s1 := Same.new ht1 (.tup us)
  refine ⟨_, rfl, rl, rfl, ⟨_, SqL.of (s1 _ _ hrl)⟩, fun D hD => ?_⟩
  refine lc_it (walk_list (xs := rows)) (fun m F => Same (upd H t1 (.tup us)) F ∧ ∃ vs : List V, F D = some (.lst vs) ∧ vs.length = m ∧ ∀ v ∈ vs, PV K F 5 v) ⟨Same.new hD _, [], upd_same, rfl, fun v hv => by cases hv⟩ (fun i F _ P => SqL.of (P.1 _ _ (s1 _ _ hrl))) ?_ ?_
  · rintro m u F F' hm ⟨sF, vs, eD, lvs, hvs⟩ ⟨rfl, ex⟩
    obtain ⟨q0, l, x, y, xs, R⟩ := hrows _ (List.mem_of_getElem? ex)
    obtain rfl := R.e
    have sHF := s1.trans sF
    have h1 := sHF _ _ R.h
    refine ⟨rfl, tyes ?_⟩
    refine ⟨_, rfl, q0, _, 0, _, rfl, rfl, SqL.of h1, rfl, _, rfl, q0, _, 1, _, rfl, rfl, SqL.of h1, rfl, _, rfl, q0, _, 2, _, rfl, rfl, SqL.of h1, rfl, l, _, rfl, .inl ⟨SqL.of (sHF _ _ R.l), fun t2 ht2 => ⟨by show 3 ≤ sizeLine; decide, fun t3 ht3 => ?_⟩⟩⟩
    have n1 := Same.new ht2 (.tup xs)
    have n2 := Same.new ht3 (.tup [x, y, .ref t2])
    have sE := n1.trans n2
    have eE := sE _ _ eD
    have pl2 : PV K (upd (upd F' t2 (.tup xs)) t3 (.tup [x, y, .ref t2])) 4 (.ref t2) := .tup (SqT.of (n2 _ _ upd_same)) (fun v hv => (R.p v hv).keep (KeepT.of (sHF.trans sE))) R.n
    have pl3 : PV K (upd (upd F' t2 (.tup xs)) t3 (.tup [x, y, .ref t2])) 5 (.ref t3) := .tup (SqT.of upd_same) (fun v hv => by
      rcases List.mem_cons.mp hv with rfl | hv
      · exact (R.x.keep (KeepT.of (sHF.trans sE))).up (by decide)
      · rcases List.mem_cons.mp hv with rfl | hv
        · exact (R.y.keep (KeepT.of (sHF.trans sE))).up (by decide)
        · rw [List.mem_singleton.mp hv]
          exact pl2) (by show 3 ≤ 100; decide)
    refine ⟨_, eE, lt_line (by omega), fun b u e => by rw [upd_ne (ne_of_none e hD)]; exact sE _ _ (sF _ _ e), _, upd_same, by rw [List.length_append, lvs]; rfl, fun v hv => ?_⟩
    rcases List.mem_append.mp hv with h | h
    · exact ((hvs v h).keep (KeepT.of sE)).keep (keepT_lst eE)
    · rw [List.mem_singleton.mp h]
      exact pl3.keep (keepT_lst eE)
  rintro F ⟨sF, vs, eD, lvs, hvs⟩
  refine ⟨D, _, rfl, .inl ⟨SqL.of eD, fun t2 ht2 => ⟨by show 2 ≤ sizeLine; decide, fun t3 ht3 => ?_⟩⟩⟩
  have n1 := Same.new ht2 (.tup vs)
  have n2 := Same.new ht3 (.tup [.ref t1, .ref t2])
  have sE := sF.trans (n1.trans n2)
  refine q _ _ (s1.trans sE) (.tup (SqT.of upd_same) (fun v hv => ?_) (by show 2 ≤ 100; decide))
  rcases List.mem_cons.mp hv with rfl | hv
  · exact (PV.tup (n := 3) (SqT.of (sE _ _ upd_same)) (fun v hv => (pus v hv).keep (KeepT.of (s1.trans sE))) l1).up (by decide)
  · rw [List.mem_singleton.mp hv]
    exact (PV.tup (n := 5) (SqT.of (n2 _ _ upd_same)) (fun v hv => (hvs v hv).keep (KeepT.of (n1.trans n2))) (by omega)).up (by decide)
theorem ok_l_strange (T : Txt w K mg) : FnOk P w K mg base CX0 3 T.a_l_strange T.d_l_strange p_l_strange (spStrange K) := by
  have g_l_one := ok_l_oneG (P := P) (w := w) (K := K) (base := base) T
  refine T.F_l_strange.ok sc_l_strange (fun vs H Q E h => ?_) (fun cdv A outer s H vs Q E hr h => ?_)
  · obtain ⟨a, v, n, rfl, _⟩ := h
    rfl
  obtain ⟨a, v, n, rfl, hS, fv, q⟩ := h
  refine ⟨_, (pss_cons (ps_set (i := 3) sc_l_strange.nd rfl (Or.inl rfl) pe_int)
      (C8.pss_cut (ps_if (pt_cmpR op_notN (pv 1) pe_non (nomark _)) (pss_one (ps_set (i := 3) sc_l_strange.nd rfl (Or.inl rfl) (pe_callTy call_int1 rfl T.z_int bt_int (pa_cons (pv 1) pa_nil)))) pss_nil)
      (pss_cons (ps_set (i := 4) sc_l_strange.nd rfl (Or.inl rfl) (pe_lst (pa_cons pe_non (pa_cons pe_bl (pa_cons pe_bl (pa_cons (pe_cmpR op_eq (pv 3) pe_int (nomark _)) (pa_cons (pe_cmpR op_eq (pv 3) pe_int (nomark _)) (pa_cons (pe_cmpR op_eq (pv 3) pe_int (nomark _)) (pa_cons (pv 3) (pa_cons (pe_op op_add (pv 3) pe_int) (pa_cons (pe_op op_sub (pv 3) pe_int) (pa_cons (pe_op op_add (pv 3) pe_int) (pa_cons (pe_un un_neg pe_int) (pa_cons (pv 2) (pa_cons (pe_op op_sub (pv 2) pe_int) pa_nil)))))))))))))))
      (pss_one (ps_ret (pe_call g_l_one (hr.mono (by first | decide | omega)) rfl T.m_l_one T.F_l_one.kp T.b_l_one .nil pass0 (pa_cons (pv 0) (pa_cons (pe_op op_cat (pv 4) (pe_lst (pa_cons pe_int (pa_cons (pe_op op_pow pe_int pe_int) (pa_cons pe_str (pa_cons pe_str (pa_cons (pe_tup pa_nil) (pa_cons (pe_tup (pa_cons (pv 1) pa_nil)) pa_nil)))))))) pa_nil)))))))), ?_⟩
  refine ⟨fun σ G => G = H ∧ ∃ nr : Int, σ = [some (.ref a), some v, some (.int n), some (.int nr), none], ?_, ?_⟩
  · rcases fv with rfl | ⟨b, rfl⟩ | ⟨i, rfl⟩
    · exact ⟨_, rfl, rfl, _, rfl, ifF (by decide +kernel) ⟨rfl, _, rfl⟩⟩
    · exact ⟨_, rfl, rfl, _, rfl, ifT (by rw [decide_eq_false fun z => by cases z]; rfl) ⟨_, rfl, .inr ⟨b, rfl, rfl, _, rfl⟩⟩⟩
    · exact ⟨_, rfl, rfl, _, rfl, ifT (by rw [decide_eq_false fun z => by cases z]; rfl) ⟨_, rfl, .inl ⟨i, rfl, rfl, _, rfl⟩⟩⟩
  rintro σ G ⟨rfl, nr, rfl⟩
  refine ⟨_, rfl, rfl, _, rfl, rfl, _, rfl, rfl, _, rfl, _, rfl, _, _, rfl, rfl, _, rfl, _, _, rfl, rfl, _, rfl, _, _, rfl, rfl, _, rfl, _, rfl, _, rfl, _, _, rfl, rfl, by show 13 ≤ sizeLine; decide, fun l1 hl1 => ?_⟩
  refine ⟨_, rfl, _, rfl, _, _, rfl, rfl, ⟨by decide, by decide, by decide⟩, by show 0 ≤ sizeLine; decide, fun e0 he0 => ⟨_, rfl, by show 1 ≤ sizeLine; decide, fun e1 he1 => ⟨by show 6 ≤ sizeLine; decide, fun l2 hl2 => ?_⟩⟩⟩
  dsimp only
  have k1 := Same.new hl1 (.lst [.non, .bl true, .bl false, .bl (decide (V.int nr = V.int 1)), .bl (decide (V.int nr = V.int 1)), .bl (decide (V.int nr = V.int 1)), .int nr, .int (nr + 1), .int (nr - 1), .int (nr + 8), .int (-1), .int n, .int (n - 1)])
  have k2 := Same.new he0 (.tup [])
  have k3 := Same.new he1 (.tup [v])
  have k4 := Same.new hl2 (.lst [.int 0, .int (10 ^ (9 : Int).toNat), .str "", .str "0", .ref e0, .ref e1])
  refine ⟨l1, l2, _, _, rfl, rfl, k4 _ _ (k3 _ _ (k2 _ _ upd_same)), upd_same, by show 19 ≤ sizeLine; decide, fun l3 hl3 => ?_⟩
  have k14 := ((k1.trans k2).trans k3).trans k4
  have k5 := Same.new hl3 (.lst ([.non, .bl true, .bl false, .bl (decide (V.int nr = V.int 1)), .bl (decide (V.int nr = V.int 1)), .bl (decide (V.int nr = V.int 1)), .int nr, .int (nr + 1), .int (nr - 1), .int (nr + 8), .int (-1), .int n, .int (n - 1)] ++ [.int 0, .int (10 ^ (9 : Int).toNat), .str "", .str "0", .ref e0, .ref e1]))
  have st := Stp.of_same hS (k14.trans k5)
  refine ⟨a, l3, _, false, rfl, st.s, fun _ => ?_, SqL.of upd_same, by show 0 < 19; decide, by show 19 < 1000; decide, fun u G2 hu st2 => q u G2 (st.trans st2) ?_⟩
  · exact ((Stp.of_same hS k14).s.ne hl3).symm
  refine PV.keep (st2.keepT st.s) ?_
  have p0 : PV K _ 3 (.ref e0) := PV.tup (n := 2) (SqT.of ((k3.trans k4).trans k5 _ _ upd_same)) (fun v hv => by cases hv) (by decide)
  have p1 : PV K _ 3 (.ref e1) := PV.tup (n := 2) (SqT.of ((k4.trans k5) _ _ upd_same)) (fun v hv => by rw [List.mem_singleton.mp hv]; exact .flat fv) (by show 1 ≤ 100; decide)
  rcases List.mem_append.mp hu with hu | hu
  · repeat (rcases List.mem_cons.mp hu with rfl | hu; (first | exact .non | exact .bl _ | exact .int _))
    cases hu
  · repeat (rcases List.mem_cons.mp hu with rfl | hu; (first | exact .int _ | exact .str (by decide +kernel) | exact p0 | exact p1))
    cases hu
theorem ok_l_garbage (T : Txt w K mg) : ∀ n : Nat, FnOk P w K mg base CX0 (n + 2) T.a_l_garbage T.d_l_garbage p_l_garbage (spGarbN K n)
  | 0 => fn_vac fun _ _ _ _ h => h
  | d + 1 => by
    have g_l_garbage := ok_l_garbage T d
    have g_l_pick := ok_l_pick (P := P) (w := w) (base := base) T
    have g_l_one := ok_l_oneG (P := P) (w := w) (K := K) (base := base) T
    refine T.F_l_garbage.ok sc_l_garbage (fun vs H Q E h => ?_) (fun cdv A outer s H vs Q E hr h => ?_)
    · obtain ⟨a, rfl, _⟩ := h
      rfl
    obtain ⟨a, rfl, hS, q⟩ := h
    refine ⟨_, (pss_cons (ps_if (PW.pt (pw_and (pt_cmpR op_gt (pv 1) pe_int (nomark _)) (pw_and1 (pt_cmpR op_gt (pe_call g_l_pick (hr.mono (by first | decide | omega)) rfl T.m_l_pick T.F_l_pick.kp T.b_l_pick .nil pass0 (pa_cons (pv 0) (pa_cons pe_int pa_nil))) pe_int (nomark _))))) (pss_one (ps_ret (pe_callTy call_tuple_of rfl T.z_tuple bt_tuple (pa_cons (pe_lc (own := [("_law_k", 2)]) (g := gName 2) (tt := tYes) rfl sc_l_garbage.nd (pi_range1 rfl T.z_range (pa_cons (pe_call g_l_pick (hr.mono (by first | decide | omega)) rfl T.m_l_pick T.F_l_pick.kp T.b_l_pick .nil pass0 (pa_cons (pv 0) (pa_cons pe_int pa_nil))) pa_nil)) (blkOk_by (own := [("_law_k", 2)]) (N := n_l_garbage) (sc := defScope s_l_garbage) (by decide +kernel)) (fun _ _ _ _ _ => (pg_name (i := 2) sc_l_garbage.nd rfl (Or.inl rfl))) (fun _ _ _ _ _ => pts_nil) (fun _ _ _ _ _ => (pe_call g_l_garbage (hr.mono (by first | decide | omega)) rfl T.m_l_garbage T.F_l_garbage.kp T.b_l_garbage .nil pass0 (pa_cons (pv 0) (pa_cons (pe_op op_sub (pv 1) pe_int) pa_nil))))) pa_nil)))) pss_nil)
      (pss_one (ps_ret (pe_call g_l_one (hr.mono (by first | decide | omega)) rfl T.m_l_one T.F_l_one.kp T.b_l_one .nil pass0 (pa_cons (pv 0) (pa_cons (pe_lst (pa_cons pe_non (pa_cons pe_bl (pa_cons pe_bl (pa_cons pe_int (pa_cons pe_int (pa_cons (pe_un un_neg pe_int) (pa_cons pe_int (pa_cons pe_str (pa_cons pe_str (pa_cons pe_str (pa_cons (pe_tup pa_nil) pa_nil)))))))))))) pa_nil)))))), ?_⟩
    have leaf : ∀ {G : Hp}, Stp a H G → (tCall (spOneG K) [] E0 (tCons (tVar 0) (tCons (tLst (tCons (tC .non) (tCons (tC (.bl true)) (tCons (tC (.bl false)) (tCons (tC (.int 0)) (tCons (tC (.int 1)) (tCons (tUn (rU fun i => V.int (-i)) (tC (.int 1))) (tCons (tC (.int 7)) (tCons (tC (.str "")) (tCons (tC (.str "0")) (tCons (tC (.str "main")) (tCons (tTup tNil) tNil)))))))))))) tNil))) [some (.ref a), some (.int (d : Int)), none] G Q := fun {G} st => by
      refine ⟨_, rfl, _, rfl, by show 0 ≤ sizeLine; decide, fun e0 he0 => ⟨by show 11 ≤ sizeLine; decide, fun l1 hl1 => ?_⟩⟩
      have k1 := Same.new he0 (.tup [])
      have k2 := Same.new hl1 (.lst [.non, .bl true, .bl false, .int 0, .int 1, .int (-1), .int 7, .str "", .str "0", .str "main", .ref e0])
      have st1 := st.same (k1.trans k2)
      refine ⟨a, l1, _, false, rfl, st1.s, fun _ => ((st.same k1).s.ne hl1).symm, SqL.of upd_same, by show 0 < 11; decide, by show 11 < 1000; decide, fun u G2 hu st2 => q u G2 (st1.trans st2) ?_⟩
      refine PV.keep (st2.keepT st1.s) ?_
      have p0 : PV K _ (d + 1) (.ref e0) := PV.tup (n := d) (SqT.of (k2 _ _ upd_same)) (fun v hv => by cases hv) (by decide)
      repeat (rcases List.mem_cons.mp hu with rfl | hu; (first | exact .non | exact .bl _ | exact .int _ | exact .str (by decide +kernel) | exact p0))
      cases hu
    cases d with
    | zero =>
      refine ⟨_, rfl, _, _, rfl, rfl, _, rfl, ifF (by decide) (iteF ?_)⟩
      exact leaf (Stp.refl hS)
    | succ d =>
      refine ⟨_, rfl, _, _, rfl, rfl, _, rfl, ifT (decide_eq_true (by omega)) ?_⟩
      refine ⟨_, rfl, a, 3, rfl, hS, by decide, fun r G st r0 r1 => ⟨_, _, rfl, rfl, _, rfl, ite2 (fun _ => ?_) (fun _ => leaf st)⟩⟩
      refine ⟨_, rfl, a, 4, rfl, st.s, by decide, fun r G2 st2 r0 r1 => ⟨r, rfl, by omega, by omega, fun D hD => ?_⟩⟩
      have nD := (st2.s.ne hD).symm
      refine lc_it walk_range (fun m F => Stp a G2 F ∧ ∃ vs : List V, F D = some (.lst vs) ∧ vs.length = m ∧ ∀ v ∈ vs, PV K F (d + 1) v) ⟨Stp.of_same st2.s (Same.new hD _), [], upd_same, rfl, fun v hv => by cases hv⟩ (fun _ _ _ _ => trivial) ?_ ?_
      · rintro m x F F' hm ⟨sF, vs, eD, lvs, hvs⟩ ⟨rfl, rfl⟩
        refine ⟨rfl, tyes ?_⟩
        refine ⟨_, rfl, _, rfl, _, _, rfl, rfl, a, ?_, sF.s, fun u F2 s2 hu => ?_⟩
        · show [V.ref a, V.int (((d + 1 : Nat) : Int) - 1)] = [V.ref a, V.int (d : Int)]
          rw [show ((d + 1 : Nat) : Int) - 1 = (d : Int) by omega]
        · have e2 := s2.k _ _ nD eD
          refine ⟨_, e2, lt_line (by omega), (sF.trans s2).put st2.s hD, _, upd_same, by rw [List.length_append, lvs]; rfl, fun v hv => ?_⟩
          rcases List.mem_append.mp hv with h | h
          · exact ((hvs v h).keep (s2.keepT sF.s)).keep (keepT_lst e2)
          · rw [List.mem_singleton.mp h]
            exact hu.keep (keepT_lst e2)
      · rintro F ⟨sF, vs, eD, lvs, hvs⟩
        refine ⟨D, _, rfl, .inl ⟨SqL.of eD, fun t ht => ?_⟩⟩
        have s3 := Same.new ht (.tup vs)
        refine q _ _ (((st.trans st2).trans sF).same s3) (.tup (SqT.of upd_same) (fun v hv => (hvs v hv).keep (KeepT.of s3)) (by omega))
end
/-! ### keys: one part exchanged -/
def RowsOk (H0 H : Hp) (rows : List V) : Prop := ∀ v ∈ rows, ∃ q l nm b xs, v = .ref q ∧ H0 q = none ∧ H0 l = none ∧ H q = some (.lst [.str nm, .bl b, .ref l]) ∧ PyData.strOk nm = true ∧ H l = some (.lst xs) ∧ (∀ u ∈ xs, Flat3 u) ∧ xs.length ≤ 20
theorem RowsOk.stp {a : Addr} {H0 H G : Hp} {rows : List V} (hS : Src H0 a) (s : Stp a H G) (h : RowsOk H0 H rows) : RowsOk H0 G rows := fun v hv => by
  obtain ⟨q, l, nm, b, xs, e, n1, n2, h1, k, h2, f, n⟩ := h v hv
  exact ⟨q, l, nm, b, xs, e, n1, n2, s.k _ _ (hS.ne n1).symm h1, k, s.k _ _ (hS.ne n2).symm h2, f, n⟩
theorem flat_no_ref {xs : List V} {x y : V} {l : Addr} (f : ∀ u ∈ xs, Flat3 u) (e : xs = [x, y, .ref l]) : False := by
  have := f (.ref l) (by rw [e]; exact List.mem_cons_of_mem _ (List.mem_cons_of_mem _ List.mem_cons_self))
  rcases this with h | ⟨b, h⟩ | ⟨i, h⟩ <;> cases h
theorem RowsOk.rows {K : PySem.W.Frag} {H0 H : Hp} {rows : List V} (h : RowsOk H0 H rows) : ∀ v ∈ rows, ∃ q l x y xs, RowP K H v q l x y xs := fun v hv => by
  obtain ⟨q, l, nm, b, xs, e, n1, n2, h1, k, h2, f, n⟩ := h v hv
  exact ⟨q, l, _, _, xs, e, h1, .str k, .bl b, h2, fun u hu => .flat (f u hu), by omega⟩
/-- a row is another now -/
theorem RowsOk.chgQ {K : PySem.W.Frag} {H0 G : Hp} {rows : List V} {q l' : Addr} {x y : V} {z0 z1 : V} {l0 : Addr} {xs' : List V} (h : RowsOk H0 G rows) (hq : G q = some (.lst [z0, z1, .ref l0])) (hx : PV K (upd G q (.lst [x, y, .ref l'])) 3 x) (hy : PV K (upd G q (.lst [x, y, .ref l'])) 3 y)
    (hl : (upd G q (.lst [x, y, .ref l'])) l' = some (.lst xs')) (hp : ∀ u ∈ xs', PV K (upd G q (.lst [x, y, .ref l'])) 3 u) (hn : xs'.length ≤ 100) : ∀ v ∈ rows, ∃ q2 l2 x2 y2 xs2, RowP K (upd G q (.lst [x, y, .ref l'])) v q2 l2 x2 y2 xs2 := fun v hv => by
  obtain ⟨q2, l2, nm, b, xs, e, n1, n2, h1, k, h2, f, n⟩ := h v hv
  by_cases c : q2 = q
  · subst c
    exact ⟨q2, l', x, y, xs', e, upd_same, hx, hy, hl, hp, hn⟩
  · have c2 : l2 ≠ q := fun z => by
      rw [z, hq] at h2
      exact flat_no_ref f (HO.lst.inj (Option.some.inj h2)).symm
    exact ⟨q2, l2, _, _, xs, e, by rw [upd_ne c]; exact h1, .str k, .bl b, by rw [upd_ne c2]; exact h2, fun u hu => .flat (f u hu), by omega⟩
/-- a row stands otherwise now -/
theorem RowsOk.chgB {H0 G : Hp} {rows : List V} {q l0 : Addr} {nm : Str} {b b' : Bool} (h : RowsOk H0 G rows) (hq : G q = some (.lst [.str nm, .bl b, .ref l0])) : RowsOk H0 (upd G q (.lst [.str nm, .bl b', .ref l0])) rows := fun v hv => by
  obtain ⟨q2, l2, nm2, b2, xs, e, n1, n2, h1, k, h2, f, n⟩ := h v hv
  have c2 : l2 ≠ q := fun z => by
    rw [z, hq] at h2
    exact flat_no_ref f (HO.lst.inj (Option.some.inj h2)).symm
  by_cases c : q2 = q
  · subst c
    rw [hq] at h1
    cases HO.lst.inj (Option.some.inj h1)
    exact ⟨q2, l0, nm, b', xs, e, n1, n2, upd_same, k, by rw [upd_ne c2]; exact h2, f, n⟩
  · exact ⟨q2, l2, nm2, b2, xs, e, n1, n2, by rw [upd_ne c]; exact h1, k, by rw [upd_ne c2]; exact h2, f, n⟩
/-- the fields of a row are others now -/
theorem RowsOk.chgL {K : PySem.W.Frag} {H0 G : Hp} {rows : List V} {l : Addr} {ys xs' : List V} (h : RowsOk H0 G rows) (hl : G l = some (.lst ys)) (fl : ∀ u ∈ ys, Flat3 u) (hp : ∀ u ∈ xs', PV K (upd G l (.lst xs')) 3 u) (hn : xs'.length ≤ 100) : ∀ v ∈ rows, ∃ q2 l2 x2 y2 xs2, RowP K (upd G l (.lst xs')) v q2 l2 x2 y2 xs2 := fun v hv => by
  obtain ⟨q2, l2, nm, b, xs, e, n1, n2, h1, k, h2, f, n⟩ := h v hv
  have c : q2 ≠ l := fun z => by
    rw [z, hl] at h1
    exact flat_no_ref fl (HO.lst.inj (Option.some.inj h1))
  by_cases c2 : l2 = l
  · subst c2
    exact ⟨q2, l2, _, _, xs', e, by rw [upd_ne c]; exact h1, .str k, .bl b, upd_same, hp, hn⟩
  · exact ⟨q2, l2, _, _, xs, e, by rw [upd_ne c]; exact h1, .str k, .bl b, by rw [upd_ne c2]; exact h2, fun u hu => .flat (f u hu), by omega⟩
theorem rows_ne {H0 H : Hp} {rows : List V} {vl : Addr} {us : List V} (h : RowsOk H0 H rows) (hv : H vl = some (.lst us)) (fu : ∀ u ∈ us, Flat3 u) : ∀ v ∈ rows, v ≠ .ref vl := fun v hm z => by
  obtain ⟨q, l, nm, b, xs, e, _, _, h1, _⟩ := h v hm
  rw [z] at e
  obtain rfl := V.ref.inj e
  rw [hv] at h1
  exact flat_no_ref fu (HO.lst.inj (Option.some.inj h1))
def spPart (K : PySem.W.Frag) : Sp := fun vs H Q _ => ∃ (a p vl rl : Addr) (H0 : Hp) (rs : List Rk) (us rows : List V), vs = [.ref a, .ref p, .ref vl, .ref rl] ∧ Src H0 a ∧ Stp a H0 H ∧ H0 vl = none ∧ H0 rl = none ∧ PgAt K H0 p rs ∧ WldOk rs ∧ rs ≠ [] ∧ H vl = some (.lst us) ∧ (∀ u ∈ us, Flat3 u) ∧ us.length ≤ 12 ∧ H rl = some (.lst rows) ∧ rows.length ≤ 90 ∧ RowsOk H0 H rows ∧
  (∀ q l nm b, .ref q ∈ rows → H q = some (.lst [.str nm, .bl b, .ref l]) → q ≠ rl ∧ l ≠ rl ∧ q ≠ vl ∧ l ≠ vl) ∧ vl ≠ rl ∧ ∀ v H', Stp a H0 H' → PV K H' 7 v → Q v H'
theorem iteBoth {c : Prop} [Decidable c] {A X : Prop} (hx : ¬ c → A → X) (a : A) : if c then A else X := by
  by_cases h : c
  · rw [if_pos h]; exact a
  · rw [if_neg h]; exact hx h a
theorem RowsOk.put {H0 G : Hp} {rows : List V} {D : Addr} {o : HO} (n : ∀ q l nm b, .ref q ∈ rows → G q = some (.lst [.str nm, .bl b, .ref l]) → q ≠ D ∧ l ≠ D) (h : RowsOk H0 G rows) : RowsOk H0 (upd G D o) rows := fun v hv => by
  obtain ⟨q, l, nm, b, xs, e, n1, n2, h1, k, h2, f, m⟩ := h v hv
  have g := n q l nm b (by rw [← e]; exact hv) h1
  exact ⟨q, l, nm, b, xs, e, n1, n2, by rw [upd_ne g.1]; exact h1, k, by rw [upd_ne g.2]; exact h2, f, m⟩
section
variable {P : Program} {w : World} {K : PySem.W.Frag} {mg : Str → Option Value} {base : Heap}
theorem ok_l_with_other_part (T : Txt w K mg) : FnOk P w K mg base CX0 4 T.a_l_with_other_part T.d_l_with_other_part p_l_with_other_part (spPart K) := by
  have g_l_pick := ok_l_pick (P := P) (w := w) (base := base) T
  have g_l_one := ok_l_oneG (P := P) (w := w) (K := K) (base := base) T
  have g_l_strange := ok_l_strange (P := P) (w := w) (K := K) (base := base) T
  have g_l_frozen := ok_l_frozen (P := P) (w := w) (K := K) (base := base) T
  refine T.F_l_with_other_part.ok sc_l_with_other_part (fun vs H Q E h => ?_) (fun cdv A outer s H vs Q E hr h => ?_)
  · obtain ⟨a, p, vl, rl, H0, rs, us, rows, rfl, _⟩ := h
    rfl
  obtain ⟨a, p, vl, rl, H0, rs, us, rows, rfl, hS, st, nvl, nrl, hp, wok, rne, hvl, fu, l12, hrl, l90, hok, sep, nvr, q⟩ := h
  refine ⟨_, (pss_cons (ps_set (i := 4) sc_l_with_other_part.nd rfl (Or.inl rfl) (pe_call g_l_pick (hr.mono (by first | decide | omega)) rfl T.m_l_pick T.F_l_pick.kp T.b_l_pick .nil pass0 (pa_cons (pv 0) (pa_cons pe_int pa_nil))))
      (pss_cons (ps_if (PW.pt (pw_or (pt_cmpR (op_eqL0 hr.units0) (pv 3) (pe_lst pa_nil) (nomark _)) (pw_or1 (pt_cmpR op_lt (pv 4) pe_int (nomark _))))) (C8.pss_cut (ps_if (pt_cmpR (op_neL0 hr.units0) (pv 2) (pe_lst pa_nil) (nomark _)) (pss_cons (ps_set (i := 5) sc_l_with_other_part.nd rfl (Or.inl rfl) (pe_call g_l_pick (hr.mono (by first | decide | omega)) rfl T.m_l_pick T.F_l_pick.kp T.b_l_pick .nil pass0 (pa_cons (pv 0) (pa_cons (pe_callB call_len_seq rfl T.z_len PySem.boot_len (pa_cons (pv 2) pa_nil)) pa_nil))))
      (pss_one (ps_asg (pe_call g_l_strange (hr.mono (by first | decide | omega)) rfl T.m_l_strange T.F_l_strange.kp T.b_l_strange .nil pass0 (pa_cons (pv 0) (pa_cons (pe_ix ix_list (pv 2) (pv 5) (fun _ _ => rfl)) (pa_cons (pe_callB call_len_seq rfl T.z_len PySem.boot_len (pa_cons (pv 3) pa_nil)) pa_nil)))) (pg_sub (pv 2) (pv 5) set_list)))) pss_nil)
      (pss_one (ps_ret (pe_call g_l_frozen (hr.mono (by first | decide | omega)) rfl T.m_l_frozen T.F_l_frozen.kp T.b_l_frozen .nil pass0 (pa_cons (pv 2) (pa_cons (pv 3) pa_nil)))))) pss_nil)
      (pss_cons (ps_set (i := 6) sc_l_with_other_part.nd rfl (Or.inl rfl) (pe_call g_l_one (hr.mono (by first | decide | omega)) rfl T.m_l_one T.F_l_one.kp T.b_l_one .nil pass0 (pa_cons (pv 0) (pa_cons (pv 3) pa_nil))))
      (C8.pss_cut (ps_if (pt_cmpR op_eq (pv 4) pe_int (nomark _)) (pss_one (ps_asg (pe_call g_l_one (hr.mono (by first | decide | omega)) rfl T.m_l_one T.F_l_one.kp T.b_l_one .nil pass0 (pa_cons (pv 0) (pa_cons (pe_op op_cat (pe_lc (own := [("_law_record", 7)]) (g := gName 7) (tt := tYes) rfl sc_l_with_other_part.nd (pi_tup (pe_ix ix_tup (pv 1) pe_int (fun _ _ => rfl))) (blkOk_by (own := [("_law_record", 7)]) (N := n_l_with_other_part) (sc := defScope s_l_with_other_part) (by decide +kernel)) (fun _ _ _ _ _ => (pg_name (i := 7) sc_l_with_other_part.nd rfl (Or.inl rfl))) (fun _ _ _ _ _ => pts_nil) (fun _ _ _ _ _ => (pe_ix (show IxR _ (rIxT K) from ix_tup) (pv 7) pe_int (fun _ _ => rfl)))) (pe_lst (pa_cons pe_str (pa_cons pe_str (pa_cons pe_str pa_nil))))) pa_nil))) (pg_sub (pv 6) pe_int set_list))) (pss_one (ps_if (pt_cmpR op_eq (pv 4) pe_int (nomark _)) (pss_one (ps_asg (pe_call g_l_one (hr.mono (by first | decide | omega)) rfl T.m_l_one T.F_l_one.kp T.b_l_one .nil pass0 (pa_cons (pv 0) (pa_cons (pe_lst (pa_cons (pe_not (pe_ix ix_list (pv 6) pe_int (fun _ _ => rfl))) (pa_cons (pe_callTy call_int1 rfl T.z_int bt_int (pa_cons (pe_ix ix_list (pv 6) pe_int (fun _ _ => rfl)) pa_nil)) (pa_cons pe_non pa_nil)))) pa_nil))) (pg_sub (pv 6) pe_int set_list))) (pss_one (ps_if (pt_cmpR op_eq (pv 4) pe_int (nomark _)) (pss_cons (ps_asg (pe_not (pe_ix ix_list (pv 6) pe_int (fun _ _ => rfl))) (pg_sub (pv 6) pe_int set_list))
      (pss_one (ps_asg (pe_lst pa_nil) (pg_sub (pv 6) pe_int set_list)))) (pss_one (ps_if (PW.pt (pw_or (pt_cmpR op_eq (pv 4) pe_int (nomark _)) (pw_or1 (pt_cmpR (op_eqL0 hr.units0) (pe_ix ix_list (pv 6) pe_int (fun _ _ => rfl)) (pe_lst pa_nil) (nomark _))))) (pss_one (ps_asg (pe_op op_cat (pe_ix ix_list (pv 6) pe_int (fun _ _ => rfl)) (pe_lst (pa_cons (pe_call g_l_strange (hr.mono (by first | decide | omega)) rfl T.m_l_strange T.F_l_strange.kp T.b_l_strange .nil pass0 (pa_cons (pv 0) (pa_cons pe_non (pa_cons (pe_callB call_len_seq rfl T.z_len PySem.boot_len (pa_cons (pv 3) pa_nil)) pa_nil)))) pa_nil))) (pg_sub (pv 6) pe_int set_list))) (pss_cons (ps_set (i := 5) sc_l_with_other_part.nd rfl (Or.inl rfl) (pe_call g_l_pick (hr.mono (by first | decide | omega)) rfl T.m_l_pick T.F_l_pick.kp T.b_l_pick .nil pass0 (pa_cons (pv 0) (pa_cons (pe_callB call_len_seq rfl T.z_len PySem.boot_len (pa_cons (pe_ix ix_list (pv 6) pe_int (fun _ _ => rfl)) pa_nil)) pa_nil))))
      (pss_one (ps_asg (pe_call g_l_strange (hr.mono (by first | decide | omega)) rfl T.m_l_strange T.F_l_strange.kp T.b_l_strange .nil pass0 (pa_cons (pv 0) (pa_cons (pe_ix ix_list (pe_ix ix_list (pv 6) pe_int (fun _ _ => rfl)) (pv 5) (fun _ _ => rfl)) (pa_cons (pe_callB call_len_seq rfl T.z_len PySem.boot_len (pa_cons (pv 3) pa_nil)) pa_nil)))) (pg_sub (pe_ix ix_list (pv 6) pe_int (fun _ _ => rfl)) (pv 5) set_list)))))))))))
      (pss_one (ps_ret (pe_call g_l_frozen (hr.mono (by first | decide | omega)) rfl T.m_l_frozen T.F_l_frozen.kp T.b_l_frozen .nil pass0 (pa_cons (pv 2) (pa_cons (pv 3) pa_nil))))))))), ?_⟩
  have nva := (hS.ne nvl).symm
  have nra := (hS.ne nrl).symm
  refine ⟨_, rfl, a, 8, rfl, st.s, by decide, fun ch H1 st1 _ _ => ?_⟩
  have S1 := st.trans st1
  have v1 := st1.k _ _ nva hvl
  have r1 := st1.k _ _ nra hrl
  have ok1 := hok.stp hS st1
  have sep1 : ∀ q l nm b, .ref q ∈ rows → H1 q = some (.lst [.str nm, .bl b, .ref l]) → q ≠ rl ∧ l ≠ rl ∧ q ≠ vl ∧ l ≠ vl := fun q0 l0 nm b hm h => by
    obtain ⟨q2, l2, nm2, b2, xs, e, n1, n2, h1, _⟩ := hok _ hm
    obtain rfl := V.ref.inj e
    have := st1.k _ _ (hS.ne n1).symm h1
    rw [h] at this
    cases HO.lst.inj (Option.some.inj this)
    exact sep _ _ _ _ hm h1
  clear sep hok hrl hvl st1 st
  refine ⟨_, rfl, by show 0 ≤ sizeLine; decide, fun e0 he0 => ?_⟩
  have se := Same.new he0 (.lst [])
  refine ⟨rl, e0, _, rfl, rfl, SqL.of (se _ _ r1), SqL.of upd_same, _, rfl, ?_⟩
  have S2 := S1.same se
  have v2 := se _ _ v1
  have r2 := se _ _ r1
  have ok2 := ok1.stp hS (Stp.of_same S1.s se)
  have sep2 : ∀ q l nm b, .ref q ∈ rows → (upd H1 e0 (.lst [])) q = some (.lst [.str nm, .bl b, .ref l]) → q ≠ rl ∧ l ≠ rl ∧ q ≠ vl ∧ l ≠ vl := fun q0 l0 nm b hm h => by
    obtain ⟨q2, l2, nm2, b2, xs, e, n1, n2, h1, _⟩ := ok1 _ hm
    obtain rfl := V.ref.inj e
    have := se _ _ h1
    rw [h] at this
    cases HO.lst.inj (Option.some.inj this)
    exact sep1 _ _ _ _ hm h1
  generalize (upd H1 e0 (.lst [])) = H2 at S2 v2 r2 ok2 sep2
  clear sep1 ok1 v1 r1 S1 se he0
  -- the rows' addresses stay
  have sepS : ∀ {G : Hp}, Stp a H2 G → ∀ q l nm b, .ref q ∈ rows → G q = some (.lst [.str nm, .bl b, .ref l]) → q ≠ rl ∧ l ≠ rl ∧ q ≠ vl ∧ l ≠ vl := fun {G} s q0 l0 nm b hm h => by
    obtain ⟨q2, l2, nm2, b2, xs, e, n1, n2, h1, _⟩ := ok2 _ hm
    obtain rfl := V.ref.inj e
    have := s.k _ _ (hS.ne n1).symm h1
    rw [h] at this
    cases HO.lst.inj (Option.some.inj this)
    exact sep2 _ _ _ _ hm h1
  have fin : ∀ {G : Hp} {us' : List V} {σ : L2.St}, σ[2]? = some (some (.ref vl)) → σ[3]? = some (some (.ref rl)) → Stp a H0 G → G vl = some (.lst us') → (∀ u ∈ us', PV K G 3 u) → us'.length ≤ 100 → G rl = some (.lst rows) → (∀ v ∈ rows, ∃ q l x y xs, RowP K G v q l x y xs) → tCall (spFrozen K) [] E0 (tCons (tVar 2) (tCons (tVar 3) tNil)) σ G Q := fun {G us' σ} e1 e2 s hv pu lu hr hrow =>
    ⟨_, e1, _, e2, vl, rl, us', rows, rfl, hv, pu, lu, hr, by omega, hrow, fun v H' s' pv => q v H' (s.same s') pv⟩
  by_cases hc : rows = [] ∨ ch < 2
  · refine iteBoth (fun hne x => ⟨_, rfl, _, _, rfl, rfl, _, rfl, ifT (decide_eq_true (hc.resolve_left fun z => hne (by rw [z]; rfl))) x⟩) ?_
    refine ⟨fun σ G => ∃ (us' : List V) (v5 : Option V), Stp a H0 G ∧ G vl = some (.lst us') ∧ (∀ u ∈ us', PV K G 3 u) ∧ us'.length ≤ 100 ∧ G rl = some (.lst rows) ∧ RowsOk H0 G rows ∧ σ = [some (.ref a), some (.ref p), some (.ref vl), some (.ref rl), some (.int ch), v5, none, none], ?_, ?_⟩
    · refine ⟨_, rfl, by show 0 ≤ sizeLine; decide, fun e1 he1 => ?_⟩
      have s3 := Same.new he1 (.lst [])
      refine ⟨vl, e1, _, rfl, rfl, SqL.of (s3 _ _ v2), SqL.of upd_same, _, rfl, ite2 (fun hne => ?_) (fun _ => ?_)⟩
      · have lpos : 0 < us.length := by
          cases us with
          | nil => cases hne
          | cons x y => exact Nat.succ_pos _
        have S3 := S2.same s3
        have v3 := s3 _ _ v2
        have r3 := s3 _ _ r2
        have T3 : Stp a H2 (upd H2 e1 (.lst [])) := Stp.of_same S2.s s3
        generalize (upd H2 e1 (.lst [])) = H3 at s3 S3 v3 r3 T3
        refine ⟨_, rfl, _, rfl, vl, _, rfl, .inl (SqL.of v3), a, _, rfl, S3.s, by omega, fun r G4 st4 b0 b1 => ?_⟩
        obtain ⟨j, rfl⟩ := Int.eq_ofNat_of_zero_le b0
        have hj : j < us.length := by omega
        have v4 := st4.k _ _ nva v3
        have r4 := st4.k _ _ nra r3
        have ej : us[j]? = some us[j] := List.getElem?_eq_getElem hj
        refine ⟨_, rfl, _, rfl, _, rfl, vl, _, _, _, rfl, rfl, SqL.of v4, atI_nat ej, _, rfl, rl, _, rfl, .inl (SqL.of r4), a, us[j], _, rfl, st4.s, fu _ (List.getElem_mem hj), fun u G5 st5 pu => ?_⟩
        have v5' := st5.k _ _ nva v4
        have S5 := (S3.trans st4).trans st5
        have T5 := (T3.trans st4).trans st5
        refine ⟨_, rfl, _, rfl, vl, _, _, j, rfl, rfl, v5', ixN_at hj, ?_⟩
        refine ⟨us.set j u, _, S5.put hS nvl, upd_same, fun x hx => ?_, by rw [List.length_set]; omega, by rw [upd_ne nvr.symm]; exact st5.k _ _ nra r4, (ok2.stp hS T5).put fun q l nm b hm h => (sepS T5 q l nm b hm h).2.2, rfl⟩
        rcases List.mem_or_eq_of_mem_set hx with hx | rfl
        · exact .flat (fu x hx)
        · exact pu.keep (keepT_lst v5')
      · exact ⟨us, _, S2.same s3, s3 _ _ v2, fun u hu => .flat (fu u hu), by omega, s3 _ _ r2, ok2.stp hS (Stp.of_same S2.s s3), rfl⟩
    rintro σ G ⟨us', v5, s, hv, pu, lu, hr', hok', rfl⟩
    exact fin rfl rfl s hv pu lu hr' hok'.rows
  · have hr0 : rows ≠ [] := fun z => hc (.inl z)
    have hch : ¬ ch < 2 := fun z => hc (.inr z)
    refine ifF (by cases rows with | nil => exact absurd rfl hr0 | cons x y => rfl) ⟨_, rfl, _, _, rfl, rfl, _, rfl, ifF (decide_eq_false hch) ?_⟩
    refine ⟨_, rfl, _, rfl, a, rl, rows, false, rfl, S2.s, fun _ => nra, SqL.of r2, List.length_pos_iff.mpr hr0, by omega, fun v G3 hv st3 => ?_⟩
    have ok3 := ok2.stp hS st3
    have S3 := S2.trans st3
    have v3 := st3.k _ _ nva v2
    have r3 := st3.k _ _ nra r2
    obtain ⟨q0, l0, nm, b, xs, rfl, nq, nl, h1, k, h2, f, n⟩ := id (ok3 v hv)
    obtain ⟨g1, g2, g3, g4⟩ := sepS st3 q0 l0 nm b hv h1
    have nqa := (hS.ne nq).symm
    have nla := (hS.ne nl).symm
    -- a row with another entry
    have doneQ : ∀ {G : Hp} {x y : V} {l' : Addr} {xs' : List V}, Stp a G3 G → PV K (upd G q0 (.lst [x, y, .ref l'])) 3 x → PV K (upd G q0 (.lst [x, y, .ref l'])) 3 y → (upd G q0 (.lst [x, y, .ref l'])) l' = some (.lst xs') → (∀ u ∈ xs', PV K (upd G q0 (.lst [x, y, .ref l'])) 3 u) → xs'.length ≤ 100 →
        Stp a H0 (upd G q0 (.lst [x, y, .ref l'])) ∧ (upd G q0 (.lst [x, y, .ref l'])) vl = some (.lst us) ∧ (upd G q0 (.lst [x, y, .ref l'])) rl = some (.lst rows) ∧ ∀ v ∈ rows, ∃ q l x2 y2 xs2, RowP K (upd G q0 (.lst [x, y, .ref l'])) v q l x2 y2 xs2 := fun {G x y l' xs'} s hx hy hl hp hn =>
      ⟨(S3.trans s).put hS nq, by rw [upd_ne g3.symm]; exact s.k _ _ nva v3, by rw [upd_ne g1.symm]; exact s.k _ _ nra r3, (ok3.stp hS s).chgQ (s.k _ _ nqa h1) hx hy hl hp hn⟩
    refine ⟨fun σ G => Stp a H0 G ∧ G vl = some (.lst us) ∧ G rl = some (.lst rows) ∧ (∀ v ∈ rows, ∃ q l x y xs, RowP K G v q l x y xs) ∧ ∃ v5 : Option V, σ = [some (.ref a), some (.ref p), some (.ref vl), some (.ref rl), some (.int ch), v5, some (.ref q0), none], ?_, ?_⟩
    rotate_left
    · rintro σ G ⟨s, hv, hr', hrow, v5, rfl⟩
      exact fin rfl rfl s hv (fun u hu => .flat (fu u hu)) (by omega) hr' hrow
    have nl0 : l0 ≠ q0 := fun z => by
      rw [z, h1] at h2
      exact flat_no_ref f (HO.lst.inj (Option.some.inj h2)).symm
    have keepF : ∀ {G : Hp}, ∀ u ∈ xs, PV K G 3 u := fun u hu => .flat (f u hu)
    refine ⟨_, rfl, rfl, _, rfl, ite2 (fun _ => ?_) (fun _ => ⟨_, rfl, rfl, _, rfl, ite2 (fun _ => ?_) (fun _ => ⟨_, rfl, rfl, _, rfl, ite2 (fun _ => ?_) (fun _ => ?_)⟩)⟩)⟩
    · -- another name
      obtain ⟨pr, x1, y1, z1, as, hp0, hpr, las, has⟩ := hp
      refine ⟨_, rfl, _, rfl, p, _, 0, _, rfl, rfl, S3.rd hp0 hS, rfl, pr, rfl, ⟨_, S3.rd hpr hS⟩, fun D hD => ?_⟩
      have nD := (S3.s.ne hD).symm
      refine lc_it (walk_tup (xs := as.map V.ref)) (fun m F => Same G3 F ∧ ∃ zs : List Str, F D = some (.lst (zs.map V.str)) ∧ zs.length = m ∧ ∀ z ∈ zs, PyData.strOk z = true) ⟨Same.new hD _, [], upd_same, rfl, fun z hz => by cases hz⟩ (fun i F _ P => (S3.same P.1).rd hpr hS) ?_ ?_
      · rintro m u F F' hm ⟨sF, zs, eD, lzs, hzs⟩ ⟨rfl, ex⟩
        rw [List.length_map] at hm
        have ea : as[m]? = some as[m] := List.getElem?_eq_getElem hm
        have er : rs[m]? = some (rs[m]'(by omega)) := List.getElem?_eq_getElem _
        obtain ⟨pf, t1, _⟩ := has m _ _ ea er
        have sk := wok.s _ (List.mem_of_getElem? er)
        have l4 := wok.l
        rw [map_get ea] at ex
        obtain rfl := Option.some.inj ex
        refine ⟨rfl, tyes ?_⟩
        refine ⟨_, rfl, as[m], _, 0, _, rfl, rfl, (S3.same sF).rd t1 hS, rfl, ?_⟩
        refine ⟨_, eD, lt_line (by rw [List.length_map]; omega), fun b u e => by rw [upd_ne (ne_of_none e hD)]; exact sF _ _ e, zs ++ [(rs[m]'(by omega)).1], by rw [List.map_append]; exact upd_same, by rw [List.length_append, lzs]; rfl, fun z hz => ?_⟩
        rcases List.mem_append.mp hz with h | h
        · exact hzs z h
        · rw [List.mem_singleton.mp h]
          exact sk
      rintro F ⟨sF, zs, eD, lzs, hzs⟩
      rw [List.length_map, las] at lzs
      have l4 := wok.l
      refine ⟨by show 3 ≤ sizeLine; decide, fun l3 hl3 => ⟨D, l3, _, _, rfl, rfl, (Same.new hl3 _) _ _ eD, upd_same, by rw [List.length_map]; show zs.length + 3 ≤ sizeLine; exact Nat.le_trans (m := 1000) (by omega) (by decide), fun l4' hl4 => ?_⟩⟩
      have s4 := (sF.trans (Same.new hl3 (.lst [.str "main", .str "", .str "x"]))).trans (Same.new hl4 (.lst (zs.map V.str ++ [.str "main", .str "", .str "x"])))
      have T4 := Stp.of_same S3.s s4
      refine ⟨a, l4', _, false, rfl, T4.s, fun _ => ?_, SqL.of upd_same, by rw [List.length_append]; show 0 < _ + 3; omega, by rw [List.length_append, List.length_map]; show _ + 3 < 1000; omega, fun u G5 hu st5 => ?_⟩
      · exact ((Stp.of_same S3.s (sF.trans (Same.new hl3 (.lst [.str "main", .str "", .str "x"])))).s.ne hl4).symm
      have T5 := T4.trans st5
      have pu : ∀ {G : Hp}, PV K G 3 u := fun {G} => by
        rcases List.mem_append.mp hu with hu | hu
        · obtain ⟨z, hz, rfl⟩ := List.mem_map.mp hu
          exact .str (hzs z hz)
        · repeat (rcases List.mem_cons.mp hu with rfl | hu; exact .str (by decide +kernel))
          cases hu
      have d := doneQ T5 (x := u) (y := .bl b) (l' := l0) (xs' := xs) pu (.bl b) (by rw [upd_ne nl0]; exact T5.k _ _ nla h2) keepF (by omega)
      exact ⟨_, rfl, q0, _, 0, _, rfl, rfl, T5.k _ _ nqa h1, rfl, d.1, d.2.1, d.2.2.1, d.2.2.2, _, rfl⟩
    · -- another standing
      refine ⟨_, rfl, _, rfl, q0, _, 1, _, rfl, rfl, SqL.of h1, rfl, _, rfl, _, rfl, q0, _, 1, _, rfl, rfl, SqL.of h1, rfl, .inr ⟨b, rfl, by show 3 ≤ sizeLine; decide, fun l3 hl3 => ?_⟩⟩
      dsimp only
      have s4 := Same.new hl3 (.lst [.bl (!b), .int (if b then 1 else 0), .non])
      have T4 := Stp.of_same S3.s s4
      refine ⟨a, l3, _, false, rfl, T4.s, fun _ => (S3.s.ne hl3).symm, SqL.of upd_same, by show 0 < 3; decide, by show 3 < 1000; decide, fun u G5 hu st5 => ?_⟩
      have T5 := T4.trans st5
      have pu : ∀ {G : Hp}, PV K G 3 u := fun {G} => by
        repeat (rcases List.mem_cons.mp hu with rfl | hu; (first | exact .bl _ | exact .int _ | exact .non))
        cases hu
      have d := doneQ T5 (x := .str nm) (y := u) (l' := l0) (xs' := xs) (.str k) pu (by rw [upd_ne nl0]; exact T5.k _ _ nla h2) keepF (by omega)
      exact ⟨_, rfl, q0, _, 1, _, rfl, rfl, T5.k _ _ nqa h1, rfl, d.1, d.2.1, d.2.2.1, d.2.2.2, _, rfl⟩
    · -- the other standing
      refine ⟨_, rfl, q0, _, 1, _, rfl, rfl, SqL.of h1, rfl, _, rfl, _, rfl, q0, _, 1, _, rfl, rfl, h1, rfl, ?_⟩
      refine ⟨by show 0 ≤ sizeLine; decide, fun l3 hl3 => ?_⟩
      have nl3q : l3 ≠ q0 := (ne_of_none upd_same hl3).symm
      have hl3' : G3 l3 = none := by rwa [upd_ne nl3q] at hl3
      have M := (ok3.chgB (b' := !b) h1).stp hS (Stp.of_same (S3.put hS nq).s (Same.new hl3 (.lst [])))
      refine ⟨_, rfl, q0, _, 2, _, rfl, rfl, (Same.new hl3 _) _ _ upd_same, rfl, ?_⟩
      have nv3 : vl ≠ l3 := ne_of_none v3 hl3'
      have nr3 : rl ≠ l3 := ne_of_none r3 hl3'
      refine ⟨((S3.put hS nq).new hl3).put hS nq, by rw [upd_ne g3.symm, upd_ne nv3, upd_ne g3.symm]; exact v3, by rw [upd_ne g1.symm, upd_ne nr3, upd_ne g1.symm]; exact r3, M.chgQ ((Same.new hl3 _) _ _ upd_same) (.str k) (.bl (!b)) (xs' := []) (by rw [upd_ne nl3q]; exact upd_same) (fun u hu => by cases hu) (by decide), _, rfl⟩
    · refine ⟨_, rfl, rfl, _, rfl, ite2 (fun _ => ?_) (fun _ => ⟨_, rfl, q0, _, 2, _, rfl, rfl, SqL.of h1, rfl, by show 0 ≤ sizeLine; decide, fun e he => ?_⟩)⟩
      · have TG := Stp.refl S3.s
        refine ⟨_, rfl, q0, _, 2, _, rfl, rfl, SqL.of (TG.k _ _ nqa h1), rfl, _, rfl, _, rfl, rl, _, rfl, .inl (SqL.of (TG.k _ _ nra r3)), a, .non, _, rfl, TG.s, .inl rfl, fun u G5 st5 pu => ⟨by show 1 ≤ sizeLine; decide, fun l4 hl4 => ?_⟩⟩
        have T5 := TG.trans st5
        have k4 := Same.new hl4 (.lst [u])
        refine ⟨l0, l4, _, _, rfl, rfl, k4 _ _ (T5.k _ _ nla h2), upd_same, by show xs.length + 1 ≤ sizeLine; exact Nat.le_trans (m := 1000) (by omega) (by decide), fun l5 hl5 => ?_⟩
        have k5 := Same.new hl5 (.lst (xs ++ [u]))
        have T7 := (T5.new hl4 (o := .lst [u])).new hl5 (o := .lst (xs ++ [u]))
        have q7 := k5 _ _ (k4 _ _ (T5.k _ _ nqa h1))
        have nl5 : l5 ≠ q0 := (ne_of_none (k4 _ _ (T5.k _ _ nqa h1)) hl5).symm
        have d := doneQ T7 (x := .str nm) (y := .bl b) (l' := l5) (xs' := xs ++ [u]) (.str k) (.bl b) (by rw [upd_ne nl5]; exact upd_same) (fun v hv => by
          rcases List.mem_append.mp hv with h | h
          · exact keepF v h
          · rw [List.mem_singleton.mp h]
            exact ((pu.keep (KeepT.of k4)).keep (KeepT.of k5)).keep (keepT_lst q7)) (by rw [List.length_append]; show xs.length + 1 ≤ 100; omega)
        exact ⟨_, rfl, q0, _, 2, _, rfl, rfl, q7, rfl, d.1, d.2.1, d.2.2.1, d.2.2.2, _, rfl⟩

      have TG := Stp.of_same S3.s (Same.new he (.lst []))
      refine ⟨l0, e, _, rfl, rfl, SqL.of (TG.k _ _ nla h2), SqL.of upd_same, _, rfl, ite2 (fun _ => ?_) (fun hne => ?_)⟩
      · skip
        refine ⟨_, rfl, q0, _, 2, _, rfl, rfl, SqL.of (TG.k _ _ nqa h1), rfl, _, rfl, _, rfl, rl, _, rfl, .inl (SqL.of (TG.k _ _ nra r3)), a, .non, _, rfl, TG.s, .inl rfl, fun u G5 st5 pu => ⟨by show 1 ≤ sizeLine; decide, fun l4 hl4 => ?_⟩⟩
        have T5 := TG.trans st5
        have k4 := Same.new hl4 (.lst [u])
        refine ⟨l0, l4, _, _, rfl, rfl, k4 _ _ (T5.k _ _ nla h2), upd_same, by show xs.length + 1 ≤ sizeLine; exact Nat.le_trans (m := 1000) (by omega) (by decide), fun l5 hl5 => ?_⟩
        have k5 := Same.new hl5 (.lst (xs ++ [u]))
        have T7 := (T5.new hl4 (o := .lst [u])).new hl5 (o := .lst (xs ++ [u]))
        have q7 := k5 _ _ (k4 _ _ (T5.k _ _ nqa h1))
        have nl5 : l5 ≠ q0 := (ne_of_none (k4 _ _ (T5.k _ _ nqa h1)) hl5).symm
        have d := doneQ T7 (x := .str nm) (y := .bl b) (l' := l5) (xs' := xs ++ [u]) (.str k) (.bl b) (by rw [upd_ne nl5]; exact upd_same) (fun v hv => by
          rcases List.mem_append.mp hv with h | h
          · exact keepF v h
          · rw [List.mem_singleton.mp h]
            exact ((pu.keep (KeepT.of k4)).keep (KeepT.of k5)).keep (keepT_lst q7)) (by rw [List.length_append]; show xs.length + 1 ≤ 100; omega)
        exact ⟨_, rfl, q0, _, 2, _, rfl, rfl, q7, rfl, d.1, d.2.1, d.2.2.1, d.2.2.2, _, rfl⟩

      have hne : xs ≠ [] := fun z => hne (by rw [z]; rfl)
      have lpos : 0 < xs.length := by
        cases xs with
        | nil => exact absurd rfl hne
        | cons x y => exact Nat.succ_pos _
      refine ⟨_, rfl, _, rfl, q0, _, 2, _, rfl, rfl, SqL.of (TG.k _ _ nqa h1), rfl, l0, _, rfl, .inl (SqL.of (TG.k _ _ nla h2)), a, _, rfl, TG.s, by omega, fun r G4 st4 b0 b1 => ?_⟩
      obtain ⟨j, rfl⟩ := Int.eq_ofNat_of_zero_le b0
      have hj : j < xs.length := by omega
      have T4 := TG.trans st4
      have ej : xs[j]? = some xs[j] := List.getElem?_eq_getElem hj
      refine ⟨_, rfl, _, rfl, q0, _, 2, _, rfl, rfl, SqL.of (T4.k _ _ nqa h1), rfl, _, rfl, l0, _, _, _, rfl, rfl, SqL.of (T4.k _ _ nla h2), atI_nat ej, _, rfl, rl, _, rfl, .inl (SqL.of (T4.k _ _ nra r3)), a, xs[j], _, rfl, T4.s, f _ (List.getElem_mem hj), fun u G5 st5 pu => ?_⟩
      have T5 := T4.trans st5
      have e5 := T5.k _ _ nla h2
      refine ⟨_, rfl, q0, _, 2, _, rfl, rfl, SqL.of (T5.k _ _ nqa h1), rfl, _, rfl, l0, _, _, j, rfl, rfl, e5, ixN_at hj, ?_⟩
      refine ⟨(S3.trans T5).put hS nl, by rw [upd_ne g4.symm]; exact T5.k _ _ nva v3, by rw [upd_ne g2.symm]; exact T5.k _ _ nra r3, (ok3.stp hS T5).chgL e5 f (fun v hv => ?_) (by rw [List.length_set]; omega), _, rfl⟩
      rcases List.mem_or_eq_of_mem_set hv with hv | rfl
      · exact keepF v hv
      · exact pu.keep (keepT_lst e5)
end
/-! ### a tuple against the empty one -/
def rNeT0 (K : PySem.W.Frag) : R2 := fun x y H Q => ∃ (a b : Addr) (xs : List V), x = .ref a ∧ y = .ref b ∧ SqT K H a xs ∧ SqT K H b [] ∧ Q (.bl (!xs.isEmpty)) H
theorem op_neT0 {X : Cx} (hu : X.A.units < cLine) : OpR X (compareOp .NotEq) (rNeT0 X.K) := by
  intro pins s σ H x y v u Q I rx ry h
  obtain ⟨a, b, xs, rfl, rfl, ha, hb, q⟩ := h
  obtain rfl : v = Value.ref a := rx
  obtain rfl : u = Value.ref b := ry
  obtain ⟨its, r1, t1, _⟩ := I.tuple ha
  obtain ⟨its2, r2, t2, _⟩ := I.tuple hb
  cases r2
  refine SeqAt.RcNeAt.tuples (e := fun _ => true) t1 t2 hu (fun j h1 h2 => absurd h2 (by simp)) _ _ _ _ ?_
  refine ⟨.bl (!xs.isEmpty), H, I, ?_, q⟩
  have e : xs.isEmpty = its.isEmpty := by cases r1 <;> rfl
  rw [e]
  cases its <;> rfl
/-! ### keys: another form -/
theorem slA_of {K : PySem.W.Frag} {H : Hp} {p : Addr} {xs : List V} {lo hi : Option Int} {Q : VK} (h : SqT K H p xs) (q : ∀ r H', Same H H' → SqT K H' r (cutV xs lo hi) → Q (.ref r) H') : rSlA K (.ref p) lo hi H Q := by
  refine ⟨p, xs, rfl, h, fun e => ?_, fun _ r hr => q r _ (Same.new hr _) (SqT.of upd_same)⟩
  refine q p H (Same.refl _) ?_
  have : cutV xs lo hi = xs := by
    unfold cutV
    rw [e.1, e.2, List.drop_zero, Nat.sub_zero, List.take_length]
  rw [this]
  exact h
theorem catA_of {K : PySem.W.Frag} {H : Hp} {p r : Addr} {xs ys : List V} {Q : VK} (h1 : SqT K H p xs) (h2 : SqT K H r ys) (l : xs.length + ys.length ≤ 1000) (q : ∀ s H', Same H H' → SqT K H' s (xs ++ ys) → Q (.ref s) H') : rCatA K (.ref p) (.ref r) H Q := by
  refine ⟨p, r, xs, ys, rfl, rfl, h1, h2, Nat.le_trans l (by decide), fun e => ?_, fun n e => ?_, fun _ _ s hs => ?_⟩
  · subst e
    exact q r H (Same.refl _) h2
  · subst e
    exact q p H (Same.refl _) (by rw [List.append_nil]; exact h1)
  · exact q s _ (Same.new hs _) (SqT.of upd_same)
theorem cutV_mem {xs : List V} {lo hi : Option Int} : ∀ v ∈ cutV xs lo hi, v ∈ xs := fun v h => cutV_sub v h
/-- a tuple of plain values, at most so many -/
def TV (K : PySem.W.Frag) (H : Hp) (n m : Nat) (p : Addr) : Prop := ∃ xs, SqT K H p xs ∧ (∀ v ∈ xs, PV K H n v) ∧ xs.length ≤ m
theorem TV.keep {K : PySem.W.Frag} {H H' : Hp} {n m : Nat} {p : Addr} (s : Same H H') (h : TV K H n m p) : TV K H' n m p := by
  obtain ⟨xs, h, g, l⟩ := h
  exact ⟨xs, Same.tup s h, fun v hv => (g v hv).keep (KeepT.of s), l⟩
theorem TV.pv {K : PySem.W.Frag} {H : Hp} {n m : Nat} {p : Addr} (h : TV K H n m p) (l : m ≤ 100) : PV K H (n + 1) (.ref p) := by
  obtain ⟨xs, h, g, l'⟩ := h
  exact .tup h g (by omega)
theorem TV.up {K : PySem.W.Frag} {H : Hp} {n n' m m' : Nat} {p : Addr} (h : TV K H n m p) (l : n ≤ n') (l' : m ≤ m') : TV K H n' m' p := by
  obtain ⟨xs, h, g, k⟩ := h
  exact ⟨xs, h, fun v hv => (g v hv).up l, by omega⟩
theorem TV.cut {K : PySem.W.Frag} {H : Hp} {n m : Nat} {p : Addr} {lo hi : Option Int} {Q : VK} (h : TV K H n m p) (q : ∀ r H', Same H H' → TV K H' n m r → Q (.ref r) H') : rSlA K (.ref p) lo hi H Q := by
  obtain ⟨xs, h, g, l⟩ := h
  exact slA_of h fun r H' s h' => q r H' s ⟨_, h', fun v hv => (g v (cutV_sub v hv)).keep (KeepT.of s), Nat.le_trans (cutV_length _ _ _) l⟩
theorem TV.cutN {K : PySem.W.Frag} {H : Hp} {n m : Nat} {p : Addr} {lo : Option Int} {σ : L2.St} {Q : VK} (h : TV K H n m p) (q : ∀ r H', Same H H' → TV K H' n m r → Q (.ref r) H') : tNoPart σ H fun u H3 => rSlA K (.ref p) lo u H3 Q := TV.cut (hi := none) h q
theorem TV.cat {K : PySem.W.Frag} {H : Hp} {n m1 m2 : Nat} {p r : Addr} {Q : VK} (h : TV K H n m1 p) (h2 : TV K H n m2 r) (l : m1 + m2 ≤ 1000) (q : ∀ s H', Same H H' → TV K H' n (m1 + m2) s → Q (.ref s) H') : rCatA K (.ref p) (.ref r) H Q := by
  obtain ⟨xs, h, g, l1⟩ := h
  obtain ⟨ys, h2, g2, l2⟩ := h2
  exact catA_of h h2 (by omega) fun s H' k h' => q s H' k ⟨_, h', fun v hv => by
    rcases List.mem_append.mp hv with e | e
    · exact (g v e).keep (KeepT.of k)
    · exact (g2 v e).keep (KeepT.of k), by rw [List.length_append]; omega⟩
theorem TV.one {K : PySem.W.Frag} {H : Hp} {n : Nat} {p : Addr} {v : V} (h : H p = some (.tup [v])) (g : PV K H n v) : TV K H n 1 p := ⟨[v], SqT.of h, fun u hu => by rw [List.mem_singleton.mp hu]; exact g, Nat.le_refl _⟩
theorem TV.two {K : PySem.W.Frag} {H : Hp} {n : Nat} {p : Addr} {v w : V} (h : H p = some (.tup [v, w])) (g : PV K H n v) (g2 : PV K H n w) : TV K H n 2 p := ⟨[v, w], SqT.of h, fun u hu => by
  rcases List.mem_cons.mp hu with rfl | hu
  · exact g
  · rw [List.mem_singleton.mp hu]; exact g2, Nat.le_refl _⟩
theorem TV.three {K : PySem.W.Frag} {H : Hp} {n : Nat} {p : Addr} {v w x : V} (h : H p = some (.tup [v, w, x])) (g : PV K H n v) (g2 : PV K H n w) (g3 : PV K H n x) : TV K H n 3 p := ⟨[v, w, x], SqT.of h, fun u hu => by
  rcases List.mem_cons.mp hu with rfl | hu
  · exact g
  · rcases List.mem_cons.mp hu with rfl | hu
    · exact g2
    · rw [List.mem_singleton.mp hu]; exact g3, Nat.le_refl _⟩
theorem TV.keepT {K : PySem.W.Frag} {H H' : Hp} {n m : Nat} {p : Addr} (s : KeepT K H H') (h : TV K H n m p) : TV K H' n m p := by
  obtain ⟨xs, h, g, l⟩ := h
  exact ⟨xs, s _ _ h, fun v hv => (g v hv).keep s, l⟩
theorem TV.pv11 {K : PySem.W.Frag} {H : Hp} {n m : Nat} {p : Addr} (h : TV K H n m p) (l : m ≤ 100 ∧ n ≤ 10) : PV K H 11 (.ref p) := (h.pv l.1).up (by omega)
theorem TV.pv11' {K : PySem.W.Frag} {H : Hp} {n m : Nat} {p : Addr} (h : TV K H n m p) (l : m ≤ 100 ∧ n ≤ 9) : PV K H 10 (.ref p) := (h.pv l.1).up (by omega)
theorem TV.pv12 {K : PySem.W.Frag} {H : Hp} {n m : Nat} {p : Addr} (h : TV K H n m p) (l : m ≤ 100 ∧ n ≤ 11) : PV K H 12 (.ref p) := (h.pv l.1).up (by omega)
theorem TV.pv13 {K : PySem.W.Frag} {H : Hp} {n m : Nat} {p : Addr} (h : TV K H n m p) (l : m ≤ 100 ∧ n ≤ 12) : PV K H 13 (.ref p) := (h.pv l.1).up (by omega)
theorem TV.pv7 {K : PySem.W.Frag} {H : Hp} {n m : Nat} {p : Addr} (h : TV K H n m p) (l : m ≤ 100 ∧ n ≤ 6) : PV K H 7 (.ref p) := (h.pv l.1).up (by omega)
/-- what lives on -/
structure LiveF (K : PySem.W.Frag) (H0 G : Hp) (a pl t1 t2 : Addr) : Prop where
  s : Stp a H0 G
  l : TV K G 5 3 pl
  v : TV K G 5 12 t1
  r : TV K G 5 90 t2
theorem LiveF.same {K : PySem.W.Frag} {H0 G G' : Hp} {a pl t1 t2 : Addr} (k : Same G G') (h : LiveF K H0 G a pl t1 t2) : LiveF K H0 G' a pl t1 t2 := ⟨h.s.same k, h.l.keep k, h.v.keep k, h.r.keep k⟩
theorem LiveF.stp {K : PySem.W.Frag} {H0 G G' : Hp} {a pl t1 t2 : Addr} (hS : Src H0 a) (k : Stp a G G') (h : LiveF K H0 G a pl t1 t2) : LiveF K H0 G' a pl t1 t2 := ⟨h.s.trans k, h.l.keepT (k.keepT h.s.s), h.v.keepT (k.keepT h.s.s), h.r.keepT (k.keepT h.s.s)⟩
theorem LiveF.p1 {K : PySem.W.Frag} {H0 G : Hp} {a pl t1 t2 : Addr} (h : LiveF K H0 G a pl t1 t2) : PV K G 10 (.ref t1) := (h.v.pv (by decide)).up (by decide)
theorem LiveF.p1' {K : PySem.W.Frag} {H0 G : Hp} {a pl t1 t2 : Addr} (h : LiveF K H0 G a pl t1 t2) : PV K G 11 (.ref t1) := (h.v.pv (by decide)).up (by decide)
theorem LiveF.p2 {K : PySem.W.Frag} {H0 G : Hp} {a pl t1 t2 : Addr} (h : LiveF K H0 G a pl t1 t2) : PV K G 10 (.ref t2) := (h.r.pv (by decide)).up (by decide)
def AllQ (K : PySem.W.Frag) (G : Hp) (n : Nat) (vs : List V) : Prop := ∀ v ∈ vs, PV K G n v
theorem AllQ.one {K : PySem.W.Frag} {G : Hp} {n : Nat} {v : V} (h : PV K G n v) : AllQ K G n [v] := fun u hu => by rw [List.mem_singleton.mp hu]; exact h
theorem AllQ.add {K : PySem.W.Frag} {G : Hp} {n : Nat} {vs : List V} {v : V} (a : AllQ K G n vs) (h : PV K G n v) : AllQ K G n (vs ++ [v]) := fun u hu => by
  rcases List.mem_append.mp hu with e | e
  · exact a u e
  · rw [List.mem_singleton.mp e]; exact h
theorem AllQ.keep {K : PySem.W.Frag} {G G' : Hp} {n : Nat} {vs : List V} (k : Same G G') (a : AllQ K G n vs) : AllQ K G' n vs := fun u hu => (a u hu).keep (KeepT.of k)
def spOtherForm (K : PySem.W.Frag) : Sp := fun vs H Q _ => ∃ (a t1 t2 : Addr) (rxs : List V), vs = [.ref a, .ref t1, .ref t2] ∧ Src H a ∧ TV K H 3 12 t1 ∧ SqT K H t2 rxs ∧ rxs.length ≤ 90 ∧ (∀ v ∈ rxs, ∃ p, v = .ref p ∧ TV K H 4 3 p) ∧ ∀ v H', Stp a H H' → PV K H' 13 v → Q v H'
section
variable {P : Program} {w : World} {K : PySem.W.Frag} {mg : Str → Option Value} {base : Heap}
theorem ok_l_with_other_form (T : Txt w K mg) : FnOk P w K mg base CX0 3 T.a_l_with_other_form T.d_l_with_other_form p_l_with_other_form (spOtherForm K) := by
  have g_l_one := ok_l_oneG (P := P) (w := w) (K := K) (base := base) T
  refine T.F_l_with_other_form.ok sc_l_with_other_form (fun vs H Q E h => ?_) (fun cdv A outer s H vs Q E hr h => ?_)
  · obtain ⟨a, t1, t2, rxs, rfl, _⟩ := h
    rfl
  obtain ⟨a, t1, t2, rxs, rfl, hS, hv, hr2, l90, hrx, q⟩ := h
  refine ⟨_, (pss_cons (ps_set (i := 3) sc_l_with_other_form.nd rfl (Or.inl rfl) (pe_tup pa_nil))
      (C8.pss_cut (ps_if (pt_cmpR (op_neT0 hr.units0) (pv 2) (pe_tup pa_nil) (nomark _)) (pss_one (ps_set (i := 3) sc_l_with_other_form.nd rfl (Or.inl rfl) (pe_ix ix_tup (pv 2) (pe_un un_neg pe_int) (fun _ _ => rfl)))) pss_nil)
      (pss_cons (ps_set (i := 4) sc_l_with_other_form.nd rfl (Or.inl rfl) (pe_lst (pa_cons (pe_slice sl_tupA (pv 3) po_none (po_some pe_int)) (pa_cons (pe_op op_catA (pv 3) (pe_tup (pa_cons pe_non pa_nil))) (pa_cons (pe_slice sl_tupA (pv 3) (po_some pe_int) po_none) (pa_cons (pe_op op_catA (pe_slice sl_tupA (pv 3) po_none (po_some pe_int)) (pe_tup (pa_cons pe_bl (pa_cons pe_non pa_nil)))) (pa_cons (pe_op op_catA (pe_slice sl_tupA (pv 3) po_none (po_some pe_int)) (pe_tup (pa_cons pe_str pa_nil))) (pa_cons (pe_op op_catA (pe_tup (pa_cons (pe_slice sl_tupA (pv 3) po_none (po_some pe_int)) pa_nil)) (pe_slice sl_tupA (pv 3) (po_some pe_int) po_none)) (pa_cons pe_non pa_nil)))))))))
      (pss_cons (ps_set (i := 5) sc_l_with_other_form.nd rfl (Or.inl rfl) (pe_call g_l_one (hr.mono (by first | decide | omega)) rfl T.m_l_one T.F_l_one.kp T.b_l_one .nil pass0 (pa_cons (pv 0) (pa_cons (pv 4) pa_nil))))
      (pss_cons (ps_set (i := 6) sc_l_with_other_form.nd rfl (Or.inl rfl) (pe_lst (pa_cons (pe_tup (pa_cons (pv 1) (pa_cons (pv 2) (pa_cons (pe_tup pa_nil) pa_nil)))) (pa_cons (pe_tup (pa_cons (pv 1) pa_nil)) (pa_cons (pv 1) (pa_cons (pe_tup (pa_cons (pv 1) (pa_cons pe_str pa_nil))) (pa_cons (pe_tup (pa_cons pe_str (pa_cons (pv 2) pa_nil))) (pa_cons (pe_tup (pa_cons (pv 2) (pa_cons (pv 1) pa_nil))) (pa_cons pe_str (pa_cons pe_non pa_nil))))))))))
      (pss_cons (ps_set (i := 6) sc_l_with_other_form.nd rfl (Or.inl rfl) (pe_op op_cat (pv 6) (pe_lst (pa_cons (pe_tup (pa_cons (pe_op op_catA (pv 1) (pe_tup (pa_cons pe_non pa_nil))) (pa_cons (pv 2) pa_nil))) (pa_cons (pe_tup (pa_cons (pe_slice sl_tupA (pv 1) po_none (po_some (pe_un un_neg pe_int))) (pa_cons (pv 2) pa_nil))) (pa_cons (pe_tup (pa_cons (pv 1) (pa_cons (pe_op op_catA (pe_slice sl_tupA (pv 2) po_none (po_some (pe_un un_neg pe_int))) (pe_tup (pa_cons (pv 5) pa_nil))) pa_nil))) pa_nil))))))
      (pss_cons (ps_set (i := 6) sc_l_with_other_form.nd rfl (Or.inl rfl) (pe_op op_cat (pv 6) (pe_lst (pa_cons (pe_tup (pa_cons (pv 1) (pa_cons (pe_op op_catA (pe_slice sl_tupA (pv 2) po_none (po_some (pe_un un_neg pe_int))) (pe_tup (pa_cons (pv 5) pa_nil))) pa_nil))) (pa_cons (pe_tup (pa_cons (pv 1) (pa_cons pe_non pa_nil))) (pa_cons (pe_tup (pa_cons (pe_tup (pa_cons (pv 1) pa_nil)) (pa_cons (pv 2) pa_nil))) (pa_cons (pe_tup (pa_cons (pv 1) (pa_cons (pe_tup (pa_cons (pv 2) pa_nil)) pa_nil))) pa_nil)))))))
      (pss_one (ps_ret (pe_call g_l_one (hr.mono (by first | decide | omega)) rfl T.m_l_one T.F_l_one.kp T.b_l_one .nil pass0 (pa_cons (pv 0) (pa_cons (pv 6) pa_nil)))))))))))), ?_⟩
  refine ⟨by show 0 ≤ sizeLine; decide, fun e0 he0 => ?_⟩
  have s0 := Same.new he0 (.tup [])
  have h0 : TV K (upd H e0 (.tup [])) 4 3 e0 := ⟨[], SqT.of upd_same, (fun v hv => by cases hv), Nat.zero_le _⟩
  generalize (upd H e0 (.tup [])) = H0 at s0 h0
  refine ⟨fun σ G => ∃ pl, Same H G ∧ TV K G 4 3 pl ∧ σ = [some (.ref a), some (.ref t1), some (.ref t2), some (.ref pl), none, none, none], ?_, ?_⟩
  · refine ⟨_, rfl, by show 0 ≤ sizeLine; decide, fun e1 he1 => ?_⟩
    have s1 := Same.new he1 (.tup [])
    refine ⟨t2, e1, rxs, rfl, rfl, Same.tup (s0.trans s1) hr2, SqT.of upd_same, _, rfl, ite2 (fun hne => ?_) (fun _ => ⟨e0, s0.trans s1, h0.keep s1, rfl⟩)⟩
    have lpos : 0 < rxs.length := by
      cases rxs with
      | nil => cases hne
      | cons x y => exact Nat.succ_pos _
    have el : rxs[rxs.length - 1]? = some (rxs[rxs.length - 1]'(by omega)) := List.getElem?_eq_getElem _
    obtain ⟨p, ep, hp⟩ := hrx _ (List.getElem_mem (by omega : rxs.length - 1 < rxs.length))
    rw [ep] at el
    have at1 : atI rxs (-1) = some (.ref p) := by
      unfold atI ixN
      rw [if_neg (by decide), if_pos (by omega)]
      show rxs[((-1 : Int) + rxs.length).toNat]? = _
      rw [show ((-1 : Int) + rxs.length).toNat = rxs.length - 1 by omega]
      exact el
    refine ⟨_, rfl, _, rfl, t2, _, _, _, rfl, rfl, Same.tup (s0.trans s1) hr2, at1, ?_⟩
    exact ⟨p, s0.trans s1, hp.keep (s0.trans s1), rfl⟩
  rintro σ G ⟨pl, sG, hl, rfl⟩
  have hv1 := (hv.keep sG).up (show 3 ≤ 4 by decide) (Nat.le_refl 12)
  have hr3 : TV K G 5 90 t2 := ⟨rxs, Same.tup sG hr2, fun v hv => by
    obtain ⟨p, rfl, h⟩ := hrx v hv
    exact (h.keep sG).pv (by decide), l90⟩
  clear hr2 hrx h0 s0
  have L : LiveF K H G a pl t1 t2 := ⟨Stp.of_same hS sG, hl.up (by decide) (by decide), hv1.up (by decide) (by decide), hr3⟩
  clear hl hv1 hr3 sG
  refine ⟨_, rfl, 2, rfl, ?_⟩
  refine L.l.cut fun r1 G1 k1 c => ?_
  have L := L.same (k1)
  have A := AllQ.one (c.pv11 (by decide))
  refine ⟨_, rfl, by show 1 ≤ sizeLine; decide, fun e2 he2 => ?_⟩
  have n2 := Same.new he2 (.tup [.non])
  have L := L.same (n2)
  have A := A.keep (n2)
  have x : TV K (upd G1 e2 (.tup [.non])) 10 1 e2 := TV.one upd_same .non
  generalize (upd G1 e2 (.tup [.non])) = F2 at n2 L A x
  refine TV.cat (n := 10) (TV.up L.l (by decide) (Nat.le_refl _)) (TV.up x (by decide) (Nat.le_refl _)) (by decide) fun r3 G3 k3 c => ?_
  have L := L.same (k3)
  have A := A.keep (k3)
  have A := A.add (c.pv11 (by decide))
  refine ⟨_, rfl, 2, rfl, ?_⟩
  refine L.l.cutN fun r4 G4 k4 c => ?_
  have L := L.same (k4)
  have A := A.keep (k4)
  have A := A.add (c.pv11 (by decide))
  refine ⟨_, rfl, 1, rfl, ?_⟩
  refine L.l.cut fun r5 G5 k5 c1 => ?_
  have L := L.same (k5)
  have A := A.keep (k5)
  refine ⟨by show 2 ≤ sizeLine; decide, fun e6 he6 => ?_⟩
  have n6 := Same.new he6 (.tup [.bl true, .non])
  have L := L.same (n6)
  have A := A.keep (n6)
  have c1 := c1.keep (n6)
  have x : TV K (upd G5 e6 (.tup [.bl true, .non])) 10 2 e6 := TV.two upd_same (.bl true) .non
  generalize (upd G5 e6 (.tup [.bl true, .non])) = F6 at n6 L A c1 x
  refine TV.cat (n := 10) (TV.up c1 (by decide) (Nat.le_refl _)) (TV.up x (by decide) (Nat.le_refl _)) (by decide) fun r7 G7 k7 c => ?_
  have L := L.same (k7)
  have A := A.keep (k7)
  have A := A.add (c.pv11 (by decide))
  refine ⟨_, rfl, 2, rfl, ?_⟩
  refine L.l.cut fun r8 G8 k8 c1 => ?_
  have L := L.same (k8)
  have A := A.keep (k8)
  refine ⟨by show 1 ≤ sizeLine; decide, fun e9 he9 => ?_⟩
  have n9 := Same.new he9 (.tup [.str ""])
  have L := L.same (n9)
  have A := A.keep (n9)
  have c1 := c1.keep (n9)
  have x : TV K (upd G8 e9 (.tup [.str ""])) 10 1 e9 := TV.one upd_same (.str (by decide +kernel))
  generalize (upd G8 e9 (.tup [.str ""])) = F9 at n9 L A c1 x
  refine TV.cat (n := 10) (TV.up c1 (by decide) (Nat.le_refl _)) (TV.up x (by decide) (Nat.le_refl _)) (by decide) fun r10 G10 k10 c => ?_
  have L := L.same (k10)
  have A := A.keep (k10)
  have A := A.add (c.pv11 (by decide))
  refine ⟨_, rfl, 1, rfl, ?_⟩
  refine L.l.cut fun r11 G11 k11 c1 => ?_
  have L := L.same (k11)
  have A := A.keep (k11)
  have pc := c1.pv7 (by decide)
  refine ⟨by show 1 ≤ sizeLine; decide, fun e12 he12 => ?_⟩
  have n12 := Same.new he12 (.tup [.ref r11])
  have L := L.same (n12)
  have A := A.keep (n12)
  have pc := PV.keep (KeepT.of (n12)) pc
  have x : TV K (upd G11 e12 (.tup [.ref r11])) 10 1 e12 := TV.one upd_same (pc.up (by decide))
  generalize (upd G11 e12 (.tup [.ref r11])) = F12 at n12 L A pc x
  refine ⟨_, rfl, 1, rfl, ?_⟩
  refine L.l.cutN fun r13 G13 k13 c2 => ?_
  have L := L.same (k13)
  have A := A.keep (k13)
  have x := x.keep (k13)
  refine TV.cat (n := 10) (TV.up x (by decide) (Nat.le_refl _)) (TV.up c2 (by decide) (Nat.le_refl _)) (by decide) fun r14 G14 k14 c => ?_
  have L := L.same (k14)
  have A := A.keep (k14)
  have A := A.add (c.pv11 (by decide))
  have A := A.add (.non)
  refine ⟨by show 7 ≤ sizeLine; decide, fun l1 hl1 => ?_⟩
  have m1 := Same.new hl1 (.lst [.ref r1, .ref r3, .ref r4, .ref r7, .ref r10, .ref r14, .non])
  refine ⟨_, rfl, _, rfl, a, l1, _, false, rfl, (L.same m1).s.s, fun _ => (L.s.s.ne hl1).symm, SqL.of upd_same, by show 0 < 7; decide, by show 7 < 1000; decide, fun row GR hrow st8 => ?_⟩
  have prow := PV.keep (st8.keepT (L.same m1).s.s) ((A.keep m1) row hrow)
  have L := (L.same m1).stp hS st8
  clear A hrow st8 m1
  refine ⟨_, rfl, _, rfl, by show 0 ≤ sizeLine; decide, fun e15 he15 => ?_⟩
  have n15 := Same.new he15 (.tup [])
  have L := L.same (n15)
  have prow := PV.keep (KeepT.of (n15)) prow
  have x : TV K (upd GR e15 (.tup [])) 9 0 e15 := ⟨[], SqT.of upd_same, (fun v hv => by cases hv), Nat.le_refl _⟩
  generalize (upd GR e15 (.tup [])) = F15 at n15 L prow x
  refine ⟨by show 3 ≤ sizeLine; decide, fun e16 he16 => ?_⟩
  have n16 := Same.new he16 (.tup [.ref t1, .ref t2, .ref e15])
  have L := L.same (n16)
  have prow := PV.keep (KeepT.of (n16)) prow
  have x := x.keep (n16)
  have t : TV K (upd F15 e16 (.tup [.ref t1, .ref t2, .ref e15])) 12 3 e16 := TV.three upd_same (L.p1.up (by decide)) (L.p2.up (by decide)) ((x.pv11 (by decide)).up (by decide))
  generalize (upd F15 e16 (.tup [.ref t1, .ref t2, .ref e15])) = F16 at n16 L prow x t
  have A := AllQ.one (t.pv13 (by decide))
  refine ⟨_, rfl, by show 1 ≤ sizeLine; decide, fun e17 he17 => ?_⟩
  have n17 := Same.new he17 (.tup [.ref t1])
  have L := L.same (n17)
  have prow := PV.keep (KeepT.of (n17)) prow
  have A := A.keep (n17)
  have t : TV K (upd F16 e17 (.tup [.ref t1])) 12 1 e17 := TV.one upd_same (L.p1.up (by decide))
  generalize (upd F16 e17 (.tup [.ref t1])) = F17 at n17 L prow A t
  have A := A.add (t.pv13 (by decide))
  have A := A.add (L.p1.up (by decide))
  refine ⟨_, rfl, _, rfl, by show 2 ≤ sizeLine; decide, fun e18 he18 => ?_⟩
  have n18 := Same.new he18 (.tup [.ref t1, .str ""])
  have L := L.same (n18)
  have prow := PV.keep (KeepT.of (n18)) prow
  have A := A.keep (n18)
  have t : TV K (upd F17 e18 (.tup [.ref t1, .str ""])) 12 2 e18 := TV.two upd_same (L.p1.up (by decide)) (.str (by decide +kernel))
  generalize (upd F17 e18 (.tup [.ref t1, .str ""])) = F18 at n18 L prow A t
  have A := A.add (t.pv13 (by decide))
  refine ⟨_, rfl, by show 2 ≤ sizeLine; decide, fun e19 he19 => ?_⟩
  have n19 := Same.new he19 (.tup [.str "", .ref t2])
  have L := L.same (n19)
  have prow := PV.keep (KeepT.of (n19)) prow
  have A := A.keep (n19)
  have t : TV K (upd F18 e19 (.tup [.str "", .ref t2])) 12 2 e19 := TV.two upd_same (.str (by decide +kernel)) (L.p2.up (by decide))
  generalize (upd F18 e19 (.tup [.str "", .ref t2])) = F19 at n19 L prow A t
  have A := A.add (t.pv13 (by decide))
  refine ⟨_, rfl, _, rfl, by show 2 ≤ sizeLine; decide, fun e20 he20 => ?_⟩
  have n20 := Same.new he20 (.tup [.ref t2, .ref t1])
  have L := L.same (n20)
  have prow := PV.keep (KeepT.of (n20)) prow
  have A := A.keep (n20)
  have t : TV K (upd F19 e20 (.tup [.ref t2, .ref t1])) 12 2 e20 := TV.two upd_same (L.p2.up (by decide)) (L.p1.up (by decide))
  generalize (upd F19 e20 (.tup [.ref t2, .ref t1])) = F20 at n20 L prow A t
  have A := A.add (t.pv13 (by decide))
  have A := A.add (.str (z := Str.ofString "key") (by decide +kernel))
  have A := A.add (.non)
  refine ⟨by show 8 ≤ sizeLine; decide, fun lk hlk => ?_⟩
  have klk := Same.new hlk (.lst [.ref e16, .ref e17, .ref t1, .ref e18, .ref e19, .ref e20, .str "key", .non])
  have L := L.same (klk)
  have prow := PV.keep (KeepT.of (klk)) prow
  have A := A.keep (klk)
  have B1 : (upd F20 lk (.lst [.ref e16, .ref e17, .ref t1, .ref e18, .ref e19, .ref e20, .str "key", .non])) lk = some (.lst [.ref e16, .ref e17, .ref t1, .ref e18, .ref e19, .ref e20, .str "key", .non]) := upd_same
  generalize (upd F20 lk (.lst [.ref e16, .ref e17, .ref t1, .ref e18, .ref e19, .ref e20, .str "key", .non])) = Flk at klk L prow A B1
  have P1 : ∃ vs : List V, Flk lk = some (.lst vs) ∧ AllQ K Flk 13 vs ∧ vs.length = 8 := ⟨_, B1, A, rfl⟩
  obtain ⟨v1, B1, A1, len1⟩ := P1
  clear A
  refine ⟨_, rfl, ?_⟩
  refine ⟨_, rfl, by show 1 ≤ sizeLine; decide, fun e21 he21 => ?_⟩
  have n21 := Same.new he21 (.tup [.non])
  have L := L.same (n21)
  have prow := PV.keep (KeepT.of (n21)) prow
  have A1 := A1.keep (n21)
  have B1 := (n21) _ _ B1
  have x : TV K (upd Flk e21 (.tup [.non])) 11 1 e21 := TV.one upd_same .non
  generalize (upd Flk e21 (.tup [.non])) = F21 at n21 L prow A1 B1 x
  refine TV.cat (n := 11) (TV.up L.v (by decide) (Nat.le_refl _)) (TV.up x (by decide) (Nat.le_refl _)) (by decide) fun r22 G22 k22 c => ?_
  have L := L.same (k22)
  have prow := PV.keep (KeepT.of (k22)) prow
  have A1 := A1.keep (k22)
  have B1 := (k22) _ _ B1
  refine ⟨_, rfl, by show 2 ≤ sizeLine; decide, fun e23 he23 => ?_⟩
  have n23 := Same.new he23 (.tup [.ref r22, .ref t2])
  have L := L.same (n23)
  have prow := PV.keep (KeepT.of (n23)) prow
  have A1 := A1.keep (n23)
  have B1 := (n23) _ _ B1
  have c := c.keep (n23)
  have t : TV K (upd G22 e23 (.tup [.ref r22, .ref t2])) 12 2 e23 := TV.two upd_same (c.pv12 (by decide)) (L.p2.up (by decide))
  generalize (upd G22 e23 (.tup [.ref r22, .ref t2])) = F23 at n23 L prow A1 B1 c t
  have A := AllQ.one (t.pv13 (by decide))
  refine ⟨_, rfl, _, rfl, _, rfl, ?_⟩
  refine L.v.cut fun r24 G24 k24 c => ?_
  have L := L.same (k24)
  have prow := PV.keep (KeepT.of (k24)) prow
  have A1 := A1.keep (k24)
  have B1 := (k24) _ _ B1
  have A := A.keep (k24)
  refine ⟨_, rfl, by show 2 ≤ sizeLine; decide, fun e25 he25 => ?_⟩
  have n25 := Same.new he25 (.tup [.ref r24, .ref t2])
  have L := L.same (n25)
  have prow := PV.keep (KeepT.of (n25)) prow
  have A1 := A1.keep (n25)
  have B1 := (n25) _ _ B1
  have A := A.keep (n25)
  have c := c.keep (n25)
  have t : TV K (upd G24 e25 (.tup [.ref r24, .ref t2])) 12 2 e25 := TV.two upd_same (c.pv12 (by decide)) (L.p2.up (by decide))
  generalize (upd G24 e25 (.tup [.ref r24, .ref t2])) = F25 at n25 L prow A1 B1 A c t
  have A := A.add (t.pv13 (by decide))
  refine ⟨_, rfl, _, rfl, _, rfl, _, rfl, ?_⟩
  refine L.r.cut fun r26 G26 k26 c1 => ?_
  have L := L.same (k26)
  have prow := PV.keep (KeepT.of (k26)) prow
  have A1 := A1.keep (k26)
  have B1 := (k26) _ _ B1
  have A := A.keep (k26)
  refine ⟨_, rfl, by show 1 ≤ sizeLine; decide, fun e27 he27 => ?_⟩
  have n27 := Same.new he27 (.tup [row])
  have L := L.same (n27)
  have prow := PV.keep (KeepT.of (n27)) prow
  have A1 := A1.keep (n27)
  have B1 := (n27) _ _ B1
  have A := A.keep (n27)
  have c1 := c1.keep (n27)
  have x : TV K (upd G26 e27 (.tup [row])) 11 1 e27 := TV.one upd_same prow
  generalize (upd G26 e27 (.tup [row])) = F27 at n27 L prow A1 B1 A c1 x
  refine TV.cat (n := 11) (TV.up c1 (by decide) (Nat.le_refl _)) (TV.up x (by decide) (Nat.le_refl _)) (by decide) fun r28 G28 k28 c => ?_
  have L := L.same (k28)
  have prow := PV.keep (KeepT.of (k28)) prow
  have A1 := A1.keep (k28)
  have B1 := (k28) _ _ B1
  have A := A.keep (k28)
  refine ⟨by show 2 ≤ sizeLine; decide, fun e29 he29 => ?_⟩
  have n29 := Same.new he29 (.tup [.ref t1, .ref r28])
  have L := L.same (n29)
  have prow := PV.keep (KeepT.of (n29)) prow
  have A1 := A1.keep (n29)
  have B1 := (n29) _ _ B1
  have A := A.keep (n29)
  have c := c.keep (n29)
  have t : TV K (upd G28 e29 (.tup [.ref t1, .ref r28])) 12 2 e29 := TV.two upd_same (L.p1.up (by decide)) (c.pv12 (by decide))
  generalize (upd G28 e29 (.tup [.ref t1, .ref r28])) = F29 at n29 L prow A1 B1 A c t
  have A := A.add (t.pv13 (by decide))
  refine ⟨by show 3 ≤ sizeLine; decide, fun lm hlm => ?_⟩
  have klm := Same.new hlm (.lst [.ref e23, .ref e25, .ref e29])
  have L := L.same (klm)
  have prow := PV.keep (KeepT.of (klm)) prow
  have A1 := A1.keep (klm)
  have B1 := (klm) _ _ B1
  have A := A.keep (klm)
  have B2 : (upd F29 lm (.lst [.ref e23, .ref e25, .ref e29])) lm = some (.lst [.ref e23, .ref e25, .ref e29]) := upd_same
  generalize (upd F29 lm (.lst [.ref e23, .ref e25, .ref e29])) = Flm at klm L prow A1 B1 A B2
  have P2 : ∃ vs : List V, Flm lm = some (.lst vs) ∧ AllQ K Flm 13 vs ∧ vs.length = 3 := ⟨_, B2, A, rfl⟩
  obtain ⟨v2, B2, A2, len2⟩ := P2
  clear A
  refine ⟨lk, lm, _, _, rfl, rfl, B1, B2, by rw [len1, len2]; decide, fun ls3 hls3 => ?_⟩
  have ne3 := (L.s.s.ne hls3).symm
  have ks3 := Same.new hls3 (.lst (v1 ++ v2))
  have A3 : AllQ K Flm 13 (v1 ++ v2) := fun v hv => (List.mem_append.mp hv).elim (A1 v) (A2 v)
  have L := L.same (ks3)
  have prow := PV.keep (KeepT.of (ks3)) prow
  have A3 := A3.keep (ks3)
  have B3 : (upd Flm ls3 (.lst (v1 ++ v2))) ls3 = some (.lst (v1 ++ v2)) := upd_same
  have len3 : (v1 ++ v2).length = 11 := by rw [List.length_append, len1, len2]
  generalize (upd Flm ls3 (.lst (v1 ++ v2))) = FS3 at ks3 L prow A3 B3
  generalize v1 ++ v2 = v3 at A3 B3 len3
  refine ⟨_, rfl, ?_⟩
  refine ⟨_, rfl, _, rfl, _, rfl, _, rfl, ?_⟩
  refine L.r.cut fun r30 G30 k30 c1 => ?_
  have L := L.same (k30)
  have prow := PV.keep (KeepT.of (k30)) prow
  have A3 := A3.keep (k30)
  have B3 := (k30) _ _ B3
  refine ⟨_, rfl, by show 1 ≤ sizeLine; decide, fun e31 he31 => ?_⟩
  have n31 := Same.new he31 (.tup [row])
  have L := L.same (n31)
  have prow := PV.keep (KeepT.of (n31)) prow
  have A3 := A3.keep (n31)
  have B3 := (n31) _ _ B3
  have c1 := c1.keep (n31)
  have x : TV K (upd G30 e31 (.tup [row])) 11 1 e31 := TV.one upd_same prow
  generalize (upd G30 e31 (.tup [row])) = F31 at n31 L prow A3 B3 c1 x
  refine TV.cat (n := 11) (TV.up c1 (by decide) (Nat.le_refl _)) (TV.up x (by decide) (Nat.le_refl _)) (by decide) fun r32 G32 k32 c => ?_
  have L := L.same (k32)
  have prow := PV.keep (KeepT.of (k32)) prow
  have A3 := A3.keep (k32)
  have B3 := (k32) _ _ B3
  refine ⟨by show 2 ≤ sizeLine; decide, fun e33 he33 => ?_⟩
  have n33 := Same.new he33 (.tup [.ref t1, .ref r32])
  have L := L.same (n33)
  have prow := PV.keep (KeepT.of (n33)) prow
  have A3 := A3.keep (n33)
  have B3 := (n33) _ _ B3
  have c := c.keep (n33)
  have t : TV K (upd G32 e33 (.tup [.ref t1, .ref r32])) 12 2 e33 := TV.two upd_same (L.p1.up (by decide)) (c.pv12 (by decide))
  generalize (upd G32 e33 (.tup [.ref t1, .ref r32])) = F33 at n33 L prow A3 B3 c t
  have A := AllQ.one (t.pv13 (by decide))
  refine ⟨_, rfl, by show 2 ≤ sizeLine; decide, fun e34 he34 => ?_⟩
  have n34 := Same.new he34 (.tup [.ref t1, .non])
  have L := L.same (n34)
  have prow := PV.keep (KeepT.of (n34)) prow
  have A3 := A3.keep (n34)
  have B3 := (n34) _ _ B3
  have A := A.keep (n34)
  have t : TV K (upd F33 e34 (.tup [.ref t1, .non])) 12 2 e34 := TV.two upd_same (L.p1.up (by decide)) .non
  generalize (upd F33 e34 (.tup [.ref t1, .non])) = F34 at n34 L prow A3 B3 A t
  have A := A.add (t.pv13 (by decide))
  refine ⟨_, rfl, by show 1 ≤ sizeLine; decide, fun e35 he35 => ?_⟩
  have n35 := Same.new he35 (.tup [.ref t1])
  have L := L.same (n35)
  have prow := PV.keep (KeepT.of (n35)) prow
  have A3 := A3.keep (n35)
  have B3 := (n35) _ _ B3
  have A := A.keep (n35)
  have x : TV K (upd F34 e35 (.tup [.ref t1])) 11 1 e35 := TV.one upd_same (L.p1.up (by decide))
  generalize (upd F34 e35 (.tup [.ref t1])) = F35 at n35 L prow A3 B3 A x
  refine ⟨_, rfl, by show 2 ≤ sizeLine; decide, fun e36 he36 => ?_⟩
  have n36 := Same.new he36 (.tup [.ref e35, .ref t2])
  have L := L.same (n36)
  have prow := PV.keep (KeepT.of (n36)) prow
  have A3 := A3.keep (n36)
  have B3 := (n36) _ _ B3
  have A := A.keep (n36)
  have x := x.keep (n36)
  have t : TV K (upd F35 e36 (.tup [.ref e35, .ref t2])) 12 2 e36 := TV.two upd_same (x.pv12 (by decide)) (L.p2.up (by decide))
  generalize (upd F35 e36 (.tup [.ref e35, .ref t2])) = F36 at n36 L prow A3 B3 A x t
  have A := A.add (t.pv13 (by decide))
  refine ⟨_, rfl, _, rfl, by show 1 ≤ sizeLine; decide, fun e37 he37 => ?_⟩
  have n37 := Same.new he37 (.tup [.ref t2])
  have L := L.same (n37)
  have prow := PV.keep (KeepT.of (n37)) prow
  have A3 := A3.keep (n37)
  have B3 := (n37) _ _ B3
  have A := A.keep (n37)
  have x : TV K (upd F36 e37 (.tup [.ref t2])) 11 1 e37 := TV.one upd_same (L.p2.up (by decide))
  generalize (upd F36 e37 (.tup [.ref t2])) = F37 at n37 L prow A3 B3 A x
  refine ⟨by show 2 ≤ sizeLine; decide, fun e38 he38 => ?_⟩
  have n38 := Same.new he38 (.tup [.ref t1, .ref e37])
  have L := L.same (n38)
  have prow := PV.keep (KeepT.of (n38)) prow
  have A3 := A3.keep (n38)
  have B3 := (n38) _ _ B3
  have A := A.keep (n38)
  have x := x.keep (n38)
  have t : TV K (upd F37 e38 (.tup [.ref t1, .ref e37])) 12 2 e38 := TV.two upd_same (L.p1.up (by decide)) (x.pv12 (by decide))
  generalize (upd F37 e38 (.tup [.ref t1, .ref e37])) = F38 at n38 L prow A3 B3 A x t
  have A := A.add (t.pv13 (by decide))
  refine ⟨by show 4 ≤ sizeLine; decide, fun ln hln => ?_⟩
  have kln := Same.new hln (.lst [.ref e33, .ref e34, .ref e36, .ref e38])
  have L := L.same (kln)
  have prow := PV.keep (KeepT.of (kln)) prow
  have A3 := A3.keep (kln)
  have B3 := (kln) _ _ B3
  have A := A.keep (kln)
  have B4 : (upd F38 ln (.lst [.ref e33, .ref e34, .ref e36, .ref e38])) ln = some (.lst [.ref e33, .ref e34, .ref e36, .ref e38]) := upd_same
  generalize (upd F38 ln (.lst [.ref e33, .ref e34, .ref e36, .ref e38])) = Fln at kln L prow A3 B3 A B4
  have P4 : ∃ vs : List V, Fln ln = some (.lst vs) ∧ AllQ K Fln 13 vs ∧ vs.length = 4 := ⟨_, B4, A, rfl⟩
  obtain ⟨v4, B4, A4, len4⟩ := P4
  clear A
  refine ⟨ls3, ln, _, _, rfl, rfl, B3, B4, by rw [len3, len4]; decide, fun ls5 hls5 => ?_⟩
  have ne5 := (L.s.s.ne hls5).symm
  have ks5 := Same.new hls5 (.lst (v3 ++ v4))
  have A5 : AllQ K Fln 13 (v3 ++ v4) := fun v hv => (List.mem_append.mp hv).elim (A3 v) (A4 v)
  have L := L.same (ks5)
  have prow := PV.keep (KeepT.of (ks5)) prow
  have A5 := A5.keep (ks5)
  have B5 : (upd Fln ls5 (.lst (v3 ++ v4))) ls5 = some (.lst (v3 ++ v4)) := upd_same
  have len5 : (v3 ++ v4).length = 15 := by rw [List.length_append, len3, len4]
  generalize (upd Fln ls5 (.lst (v3 ++ v4))) = FS5 at ks5 L prow A5 B5
  generalize v3 ++ v4 = v5 at A5 B5 len5
  exact ⟨_, rfl, _, rfl, a, ls5, _, false, rfl, L.s.s, fun _ => ne5, SqL.of B5, by rw [len5]; decide, by rw [len5]; decide, fun u G hu st => q u G (L.s.trans st) (PV.keep (st.keepT L.s.s) (A5 u hu))⟩
end
/-! ### keys: other records -/
theorem HpG.key {rs : List Rk} {R : List Rc} {o : List Nat} (h : HpG rs R) (nd : o.Nodup) (bo : ∀ k ∈ o, k < R.length) (cl : ∀ k ∈ o, ∀ j ∈ nbR rs R k, j ∈ o) : HpG rs (o.map (movE rs R o)) := by
  refine ⟨fun r hr => ?_, by rw [List.length_map]; have := len_le nd bo; have := h.ln; omega⟩
  obtain ⟨k, hk, rfl⟩ := List.mem_map.mp hr
  have hkR := bo k hk
  have e : R[k]? = some R[k] := List.getElem?_eq_getElem hkR
  have g := h.rc _ (List.getElem_mem hkR)
  have nbk := nbR_at (rs := rs) e
  have clk := cl k hk
  have em : movE rs R o k = ⟨R[k].nm, R[k].live, trL (flOf rs R[k].nm) R[k].vals o⟩ := by
    unfold movE
    rw [e]
  rw [em]
  rw [nbk] at clk
  generalize R[k] = r at g clk
  refine ⟨g.m, fun hl => by rw [trL_len]; exact g.l hl, fun hl => by show trL _ r.vals o = []; rw [g.d hl]; rfl, fun m s hm hs => ?_, trL_flat g.f⟩
  have hm : m < r.vals.length := by rwa [trL_len] at hm
  have hs : (flOf rs r.nm).getD m .flag = .ref s := hs
  show (trL (flOf rs r.nm) r.vals o).getD m .non = .non ∨ _
  rw [trL_getD hm, hs, if_pos (show (Kd.ref s).isRef = true from rfl)]
  rcases g.v m s hm hs with v | ⟨j, r', v, e2, e3⟩
  · rw [v]
    exact .inl rfl
  · rw [v]
    have hlv : r.live = true := by
      cases hlv : r.live with
      | true => rfl
      | false => rw [g.d hlv] at hm; exact absurd hm (Nat.not_lt_zero _)
    have hj : j ∈ o := clk j (by
      rw [if_pos hlv]
      exact mem_refsAt (mem_refPl.mpr ⟨by rw [← g.l hlv]; exact hm, by rw [hs]; rfl⟩) v)
    have li := List.idxOf_lt_length_iff.mpr hj
    refine .inr ⟨o.idxOf j, movE rs R o j, rfl, ?_, ?_⟩
    · rw [List.getElem?_map, List.getElem?_eq_getElem li, List.getElem_idxOf]
      rfl
    · unfold movE
      rw [e2]
      exact e3
theorem rc_sk {rs : List Rk} {R : List Rc} {r : Rc} (w : WldOk rs) (g : RcG rs R r) : PyData.strOk r.nm = true ∧ r.vals.length ≤ 20 := by
  refine ⟨?_, ?_⟩
  · obtain ⟨k, mk, ek⟩ := g.m
    rw [← ek]
    exact w.s k mk
  · have := flOf_len w.pok (z := r.nm)
    cases hl : r.live with
    | true => rw [g.l hl]; omega
    | false => rw [g.d hl]; exact Nat.zero_le _
theorem rowP_at {K : PySem.W.Frag} {a : Addr} {H : Hp} {rs : List Rk} {R : List Rc} {r : Rc} {v : V} (w : WldOk rs) (g : RcG rs R r) (h : RowAt a H v r) : ∃ q l x y xs, RowP K H v q l x y xs := by
  obtain ⟨p, l, e, _, _, h1, h2⟩ := h
  have s := rc_sk w g
  exact ⟨p, l, _, _, r.vals, e, h1, .str s.1, .bl _, h2, fun u hu => .flat (g.f u hu), by omega⟩
theorem rowsP_at {K : PySem.W.Frag} {a : Addr} {H : Hp} {rs : List Rk} {R : List Rc} {rows : List V} (w : WldOk rs) (g : HpG rs R) (l : rows.length = R.length) (h : ∀ (i : Nat) (v : V) (r : Rc), rows[i]? = some v → R[i]? = some r → RowAt a H v r) : ∀ v ∈ rows, ∃ q l x y xs, RowP K H v q l x y xs := fun v hv => by
  obtain ⟨i, hi, rfl⟩ := List.getElem_of_mem hv
  have e : R[i]? = some (R[i]'(by omega)) := List.getElem?_eq_getElem _
  exact rowP_at w (g.rc _ (List.getElem_mem _)) (h i _ _ (List.getElem?_eq_getElem hi) e)
def spRecs (K : PySem.W.Frag) : Sp := fun vs H Q _ => ∃ (a p kl vl rl : Addr) (rs : List Rk) (R : List Rc) (kxs us rows : List V) (ks : List Kd), vs = [.ref a, .ref p, .ref kl, .ref vl, .ref rl] ∧ Src H a ∧ PgAt K H p rs ∧ WldOk rs ∧ rs ≠ [] ∧ kl ≠ a ∧ H kl = some (.lst kxs) ∧ KdsAt K H kxs ks ∧ vl ≠ a ∧ H vl = some (.lst us) ∧ VsOk ks R.length us ∧ ks.length ≤ 12 ∧
  rl ≠ a ∧ H rl = some (.lst rows) ∧ rows.length = R.length ∧ (∀ (i : Nat) (v : V) (r : Rc), rows[i]? = some v → R[i]? = some r → RowAt a H v r) ∧ HpG rs R ∧ R.length ≤ 90 ∧ ∀ v H', Stp a H H' → PV K H' 7 v → Q v H'
section
variable {P : Program} {w : World} {K : PySem.W.Frag} {mg : Str → Option Value} {base : Heap}
theorem ok_l_with_other_records (T : Txt w K mg) : FnOk P w K mg base CX0 4 T.a_l_with_other_records T.d_l_with_other_records p_l_with_other_records (spRecs K) := by
  have g_l_pick := ok_l_pick (P := P) (w := w) (base := base) T
  have g_l_one := ok_l_oneG (P := P) (w := w) (K := K) (base := base) T
  have g_l_frozen := ok_l_frozen (P := P) (w := w) (K := K) (base := base) T
  have g_l_shuffled := ok_l_shuffled (P := P) (w := w) (base := base) T
  have g_l_moved := ok_l_moved (P := P) (w := w) (K := K) (base := base) T
  have g_l_renumbered := ok_l_renumbered (P := P) (w := w) (K := K) (base := base) T
  refine T.F_l_with_other_records.ok sc_l_with_other_records (fun vs H Q E h => ?_) (fun cdv A outer s H vs Q E hr h => ?_)
  · obtain ⟨a, p, kl, vl, rl, rs, R, kxs, us, rows, ks, rfl, _⟩ := h
    rfl
  obtain ⟨a, p, kl, vl, rl, rs, R, kxs, us, rows, ks, rfl, hS, ⟨pr, x1, y1, z1, as, hp, hpr, las, has⟩, wok, rne, nkl, hkl, hks, nvl, hvl, vok, k12, nrl, hrl, lrw, hrow, hg, l90, q⟩ := h
  refine ⟨_, (pss_cons (ps_set (i := 5) sc_l_with_other_records.nd rfl (Or.inl rfl) (pe_call g_l_pick (hr.mono (by first | decide | omega)) rfl T.m_l_pick T.F_l_pick.kp T.b_l_pick .nil pass0 (pa_cons (pv 0) (pa_cons pe_int pa_nil))))
      (pss_cons (ps_set (i := 6) sc_l_with_other_records.nd rfl (Or.inl rfl) (pe_callB call_len_seq rfl T.z_len PySem.boot_len (pa_cons (pv 4) pa_nil)))
      (pss_cons (ps_set (i := 7) sc_l_with_other_records.nd rfl (Or.inl rfl) pe_dnewK)
      (pss_cons (ps_for PassesOwn.never rfl (pi_tup (pe_ix ix_tup (pv 1) pe_int (fun _ _ => rfl))) (pg_name (i := 8) sc_l_with_other_records.nd rfl (Or.inl rfl))
        (pss_one (ps_dput (hu_of hr) (pv 7) (pe_ix ix_tup (pv 8) pe_int (fun _ _ => rfl)) (pe_ix ix_tup (pv 8) pe_int (fun _ _ => rfl)) rfl)))
      (pss_cons (ps_if (PW.pt (pw_or (pt_cmpR op_eq (pv 6) pe_int (nomark _)) (pw_or1 (pt_cmpR op_eq (pv 5) pe_int (nomark _))))) (pss_one (ps_ret (pe_call g_l_frozen (hr.mono (by first | decide | omega)) rfl T.m_l_frozen T.F_l_frozen.kp T.b_l_frozen .nil pass0 (pa_cons (pv 3) (pa_cons (pe_op op_cat (pv 4) (pe_lst (pa_cons (pe_lst (pa_cons (pe_ix ix_tup (pe_call g_l_one (hr.mono (by first | decide | omega)) rfl T.m_l_one T.F_l_one.kp T.b_l_one .nil pass0 (pa_cons (pv 0) (pa_cons (pe_ix ix_tup (pv 1) pe_int (fun _ _ => rfl)) pa_nil))) pe_int (fun _ _ => rfl)) (pa_cons pe_bl (pa_cons (pe_lst pa_nil) pa_nil)))) pa_nil))) pa_nil))))) pss_nil)
      (pss_cons (ps_if (pt_cmpR op_eq (pv 5) pe_int (nomark _)) (pss_one (ps_ret (pe_call g_l_frozen (hr.mono (by first | decide | omega)) rfl T.m_l_frozen T.F_l_frozen.kp T.b_l_frozen .nil pass0 (pa_cons (pv 3) (pa_cons (pe_slice sl_list (pv 4) po_none (po_some (pe_un un_neg pe_int))) pa_nil))))) pss_nil)
      (pss_cons (ps_set (i := 9) sc_l_with_other_records.nd rfl (Or.inr rfl) (pe_call g_l_shuffled (hr.mono (by first | decide | omega)) rfl T.m_l_shuffled T.F_l_shuffled.kp T.b_l_shuffled .nil pass0 (pa_cons (pv 0) (pa_cons (pv 6) pa_nil))))
      (C8.pss_cut (ps_if (pt_cmpR op_gt (pv 5) pe_int (nomark _)) (pss_cons (ps_set (i := 10) sc_l_with_other_records.nd rfl (Or.inr rfl) (pe_call g_l_pick (hr.mono (by first | decide | omega)) rfl T.m_l_pick T.F_l_pick.kp T.b_l_pick .nil pass0 (pa_cons (pv 0) (pa_cons (pv 6) pa_nil))))
      (pss_cons (ps_set (i := 9) sc_l_with_other_records.nd rfl (Or.inr rfl) (pe_lc (own := [("_law_k", 11)]) (g := gName 11) rfl sc_l_with_other_records.nd (pi_range1 rfl T.z_range (pa_cons (pv 6) pa_nil)) (blkOk_by (own := [("_law_k", 11)]) (N := n_l_with_other_records) (sc := defScope s_l_with_other_records) (by decide +kernel)) (fun _ _ _ _ _ => (pg_name (i := 11) sc_l_with_other_records.nd rfl (Or.inl rfl))) (fun _ _ _ _ _ => (pts_one (pt_cmpR op_ne (pv 11) (pv 10) (nomark _)))) (fun _ _ _ _ _ => (pv 11))))
      (pss_one (ps_expr (pe_bm PySem.F.plainAttrs_list PySem.F.slot_list_insert PySem.F.type_list_insert mt_insert (pv 9) (pa_cons (pe_callB (call_min2 rfl) rfl T.z_min bb_min (pa_cons (pe_op op_add (pv 10) pe_int) (pa_cons (pe_op op_sub (pv 6) pe_int) pa_nil))) (pa_cons (pv 10) pa_nil))))))) pss_nil)
      (pss_cons (ps_if (pt_cmpR op_eq (pv 5) pe_int (nomark _)) (pss_one (ps_ret (pe_call g_l_frozen (hr.mono (by first | decide | omega)) rfl T.m_l_frozen T.F_l_frozen.kp T.b_l_frozen .nil pass0 (pa_cons (pv 3) (pa_cons (pe_lc (own := [("_law_k", 11)]) (g := gName 11) (tt := tYes) rfl sc_l_with_other_records.nd (pi_list (pv 9)) (blkOk_by (own := [("_law_k", 11)]) (N := n_l_with_other_records) (sc := defScope s_l_with_other_records) (by decide +kernel)) (fun _ _ _ _ _ => (pg_name (i := 11) sc_l_with_other_records.nd rfl (Or.inl rfl))) (fun _ _ _ _ _ => pts_nil) (fun _ _ _ _ _ => (pe_ix (show IxR _ (rIxL K) from ix_list) (pv 4) (pv 11) (fun _ _ => rfl)))) pa_nil))))) pss_nil)
      (pss_cons (ps_set (i := 12) sc_l_with_other_records.nd rfl (Or.inl rfl) (pe_call g_l_moved (hr.mono (by first | decide | omega)) rfl T.m_l_moved T.F_l_moved.kp T.b_l_moved .nil pass0 (pa_cons (pe_disp (pps_cons pe_str (pv 4) (pps_cons pe_str (pv 7) pps_nil)) (by rfl) (by rfl) (fun z => by cases z) (by decide)) (pa_cons (pv 9) pa_nil))))
      (pss_one (ps_ret (pe_call g_l_frozen (hr.mono (by first | decide | omega)) rfl T.m_l_frozen T.F_l_frozen.kp T.b_l_frozen .nil pass0 (pa_cons (pe_lc (own := [("_law_k", 11)]) (g := gName 11) (tt := tYes) rfl sc_l_with_other_records.nd (pi_range1 rfl T.z_range (pa_cons (pe_callB call_len_seq rfl T.z_len PySem.boot_len (pa_cons (pv 2) pa_nil)) pa_nil)) (blkOk_by (own := [("_law_k", 11)]) (N := n_l_with_other_records) (sc := defScope s_l_with_other_records) (by decide +kernel)) (fun _ _ _ _ _ => (pg_name (i := 11) sc_l_with_other_records.nd rfl (Or.inl rfl))) (fun _ _ _ _ _ => pts_nil) (fun _ _ _ _ _ => (pe_call g_l_renumbered (hr.mono (by first | decide | omega)) rfl T.m_l_renumbered T.F_l_renumbered.kp T.b_l_renumbered .nil pass0 (pa_cons (pe_ix (show IxR _ (rIxL K) from ix_list) (pv 2) (pv 11) (fun _ _ => rfl)) (pa_cons (pe_ix (show IxR _ (rIxL K) from ix_list) (pv 3) (pv 11) (fun _ _ => rfl)) (pa_cons (pv 9) pa_nil)))))) (pa_cons (pe_dget (hu_of hr) (pv 12) pe_str (fun _ _ => rfl)) pa_nil))))))))))))))), ?_⟩
  have l4 := wok.l
  have rpos : 0 < rs.length := List.length_pos_iff.mpr rne
  have lus := vok.l
  refine ⟨_, rfl, a, 5, rfl, hS, by decide, fun ch H1 st1 _ _ => ?_⟩
  refine ⟨_, rfl, rl, _, rfl, .inl (SqL.of (st1.k _ _ nrl hrl)), fun df hdf => ?_⟩
  have hdf0 := st1.free hdf
  have ndfa := (hS.ne hdf0).symm
  have s0 := Same.new hdf (.dK [])
  have st2 := st1.same s0
  have e0 : (upd H1 df (.dK [])) df = some (.dK []) := upd_same
  generalize (upd H1 df (.dK [])) = F0 at s0 st2 e0
  refine ⟨_, rfl, p, _, 0, _, rfl, rfl, st2.rd hp hS, rfl, pr, rfl, ⟨_, st2.rd hpr hS⟩, for_tup (K := K) (a := pr) (xs := as.map V.ref) (fun i σ F => Stp a H F ∧ (∃ kf : List (Key × V), F df = some (.dK kf) ∧ kf.length ≤ i ∧ ∀ r ∈ rs.take i, ∃ pf, valV kf (Sum.inr r.1) = some (.ref pf) ∧ FdAt K H pf r.2) ∧ ∃ v8 : Option V, σ = [some (.ref a), some (.ref p), some (.ref kl), some (.ref vl), some (.ref rl), some (.int ch), some (.int (rows.length : Int)), some (.ref df), v8, none, none, none, none])
    ⟨st2, ⟨[], e0, Nat.le_refl _, fun r hr => by simp at hr⟩, none, rfl⟩ (fun i σ F _ P => P.1.rd hpr hS) ?_ ?_⟩
  · rintro i y σ F ey ⟨sF, ⟨kf, fF, lkf, hkf⟩, v5, rfl⟩
    have hi : i < as.length := by
      have := (List.getElem?_eq_some_iff.mp ey).1
      rwa [List.length_map] at this
    have ea : as[i]? = some as[i] := List.getElem?_eq_getElem hi
    have hi2 : i < rs.length := by rw [← las]; exact hi
    have er : rs[i]? = some rs[i] := List.getElem?_eq_getElem hi2
    rw [map_get ea] at ey
    obtain rfl := Option.some.inj ey
    obtain ⟨pf, h1, h2⟩ := has i _ _ ea er
    have tk : rs.take (i + 1) = rs.take i ++ [rs[i]] := by
      rw [List.take_add_one, er]
      rfl
    generalize rs[i] = r at er h1 h2 tk
    generalize as[i] = ai at ea h1
    refine ⟨_, rfl, ai, _, 1, _, rfl, rfl, sF.rd h1 hS, rfl, _, rfl, _, rfl, ai, _, 0, _, rfl, rfl, sF.rd h1 hS, rfl, df, _, rfl, DPut.k (k := Sum.inr r.1) fF (small1000 (by omega)), ?_⟩
    refine ⟨sF.put hS hdf0, ⟨_, upd_same, Nat.le_trans (length_putK _ _ _) (by omega), fun c hc => ?_⟩, _, rfl⟩
    rw [valV_put]
    split
    · rename_i e
      have e2 : c.1 = r.1 := Sum.inr.inj e
      have cr : c = r := by
        rw [tk] at hc
        rcases List.mem_append.mp hc with hc | hc
        · exact eq_of_key wok.nd (List.mem_of_mem_take hc) (List.mem_of_getElem? er) e2
        · exact List.mem_singleton.mp hc
      rw [cr]
      exact ⟨pf, rfl, h2⟩
    · rename_i e
      rw [tk] at hc
      rcases List.mem_append.mp hc with hc | hc
      · exact hkf c hc
      · rw [List.mem_singleton.mp hc] at e
        exact absurd rfl e
  rintro σ F ⟨sF, ⟨kf, fF, _, hkf⟩, v8, rfl⟩
  have hkf : FldAt K H kf rs := fun r hr => hkf r (by rw [List.length_map, las, List.take_length]; exact hr)
  clear s0 st2 e0 F0 hdf st1 H1
  -- what stays
  have rowK : ∀ {G : Hp}, Stp a H G → ∀ (i : Nat) (v : V) (r : Rc), rows[i]? = some v → R[i]? = some r → RowAt a G v r := fun {G} st i v r e1 e2 => (hrow i v r e1 e2).but fun b o n e => st.k b o n e
  have pus : ∀ {G : Hp}, ∀ u ∈ us, PV K G 3 u := fun u hu => .flat (vok.f u hu)
  have frz : ∀ {G : Hp} {l2 : Addr} {vs2 : List V}, Stp a H G → G l2 = some (.lst vs2) → vs2.length ≤ 100 → (∀ v ∈ vs2, ∃ q l x y xs, RowP K G v q l x y xs) → spFrozen K ([V.ref vl, V.ref l2] ++ []) G Q E0 := fun {G l2 vs2} st hl ln hrw => ⟨vl, l2, us, vs2, rfl, st.k _ _ nvl hvl, pus, by omega, hl, ln, hrw, fun v H' s pv => q v H' (st.same s) pv⟩
  by_cases hc : (rows.length : Int) = 0 ∨ ch = 0
  · refine ⟨_, rfl, rfl, _, rfl, iteBoth (fun hn x => ⟨_, rfl, rfl, _, rfl, ifT (decide_eq_true (congrArg V.int (hc.resolve_left fun z => hn (decide_eq_true (congrArg V.int z))))) x⟩) ?_⟩
    refine ⟨_, rfl, _, rfl, _, rfl, _, rfl, p, _, 0, _, rfl, rfl, sF.rd hp hS, rfl, a, pr, as.map V.ref, true, rfl, sF.s, (fun h => by cases h), sF.rd hpr hS, by rw [List.length_map]; omega, by rw [List.length_map]; omega, fun v G hv st => ?_⟩
    obtain ⟨b, hb, rfl⟩ := List.mem_map.mp hv
    obtain ⟨j, hj, rfl⟩ := List.getElem_of_mem hb
    have er : rs[j]? = some (rs[j]'(by omega)) := List.getElem?_eq_getElem _
    obtain ⟨pf, h1, _⟩ := has j _ _ (List.getElem?_eq_getElem hj) er
    have sk := wok.s _ (List.mem_of_getElem? er)
    have sG := sF.trans st
    refine ⟨_, _, 0, _, rfl, rfl, sG.rd h1 hS, rfl, by show 0 ≤ sizeLine; decide, fun e he => ⟨by show 3 ≤ sizeLine; decide, fun t ht => ⟨by show 1 ≤ sizeLine; decide, fun l1 hl1 => ?_⟩⟩⟩
    have k1 := Same.new he (.lst [])
    have k2 := Same.new ht (.lst [.str (rs[j]'(by omega)).1, .bl false, .ref e])
    have k3 := Same.new hl1 (.lst [.ref t])
    have sE := sG.same ((k1.trans k2).trans k3)
    refine ⟨rl, l1, _, _, rfl, rfl, sE.k _ _ nrl hrl, upd_same, by show rows.length + 1 ≤ sizeLine; exact Nat.le_trans (m := 1000) (by omega) (by decide), fun l2 hl2 => ?_⟩
    have k4 := Same.new hl2 (.lst (rows ++ [.ref t]))
    refine frz (sE.same k4) upd_same (by rw [List.length_append]; show _ + 1 ≤ 100; omega) fun v hv => ?_
    rcases List.mem_append.mp hv with h | h
    · exact rowsP_at wok hg lrw (rowK (sE.same k4)) v h
    · rw [List.mem_singleton.mp h]
      exact ⟨t, e, _, _, [], rfl, (k3.trans k4) _ _ upd_same, .str sk, .bl _, ((k2.trans k3).trans k4) _ _ upd_same, (fun u hu => by cases hu), by decide⟩
  · refine ⟨_, rfl, rfl, _, rfl, ifF (decide_eq_false fun z => hc (.inl (V.int.inj z))) ⟨_, rfl, rfl, _, rfl, ifF (decide_eq_false fun z => hc (.inr (V.int.inj z))) ?_⟩⟩
    have np : 0 < rows.length := by
      by_cases h : rows.length = 0
      · exact absurd (.inl (by rw [h]; rfl)) hc
      · omega
    refine ⟨_, rfl, rfl, _, rfl, ite2 (fun _ => ?_) (fun _ => ?_)⟩
    · refine ⟨_, rfl, _, rfl, _, rfl, _, rfl, rl, _, rfl, SqL.of (sF.k _ _ nrl hrl), fun l2 hl2 => ?_⟩
      have k4 := Same.new hl2 (.lst (cutV rows none (some (-1))))
      refine frz (sF.same k4) upd_same (by have := cutV_length rows none (some (-1)); omega) fun v hv => ?_
      exact rowsP_at wok hg lrw (rowK (sF.same k4)) v (cutV_sub v hv)
    refine ⟨_, rfl, _, rfl, a, rows.length, rfl, sF.s, by omega, fun lo o G st hlo eo pm => ?_⟩
    have nlo := (sF.s.ne hlo).symm
    have sG := sF.trans st
    have fG := st.k _ _ ndfa fF
    refine ⟨fun σ G => ∃ (lo : Addr) (o : List Nat) (v10 : Option V), Stp a H G ∧ lo ≠ a ∧ G lo = some (.lst (natsV o)) ∧ o.Perm (List.range rows.length) ∧ G df = some (.dK kf) ∧ σ = [some (.ref a), some (.ref p), some (.ref kl), some (.ref vl), some (.ref rl), some (.int ch), some (.int (rows.length : Int)), some (.ref df), v8, some (.ref lo), v10, none, none], ?_, ?_⟩
    · refine ⟨_, rfl, _, _, rfl, rfl, _, rfl, ite2 (fun _ => ?_) (fun _ => ⟨lo, o, none, sG, nlo, eo, pm, fG, rfl⟩)⟩
      refine ⟨_, rfl, _, rfl, a, _, rfl, sG.s, by omega, fun r G2 st2 r0 r1 => ?_⟩
      obtain ⟨j, rfl⟩ := Int.eq_ofNat_of_zero_le r0
      have hj : j < rows.length := by omega
      have sG2 := sG.trans st2
      have fG2 := st2.k _ _ ndfa fG
      refine ⟨_, rfl, _, rfl, by omega, by omega, fun D hD => ?_⟩
      have nD := (sG2.s.ne hD).symm
      refine lc_it walk_range (fun m F => Same G2 F ∧ F D = some (.lst (natsV ((List.range m).filter fun k => k ≠ j)))) ⟨Same.new hD _, upd_same⟩ (fun _ _ _ _ => trivial) ?_ ?_
      · rintro m x F F' hm ⟨sF2, eD⟩ ⟨rfl, rfl⟩
        have hm : m < rows.length := by omega
        have fl : (List.range (m + 1)).filter (fun k => k ≠ j) = (List.range m).filter (fun k => k ≠ j) ++ (if m ≠ j then [m] else []) := by
          rw [List.range_succ, List.filter_append]
          congr 1
          by_cases h : m = j
          · simp [h]
          · simp [h]
        refine ⟨rfl, _, rfl, _, rfl, rfl, _, rfl, ite2 (fun h => ?_) (fun h => ?_)⟩
        · have hmj : m ≠ j := fun z => by
            subst z
            have h2 : (!decide (V.int (0 + (m : Int)) = V.int (m : Int))) = true := h
            rw [decide_eq_true (congrArg V.int (Int.zero_add _))] at h2
            cases h2
          refine ⟨_, rfl, _, eD, lt_line (by rw [natsV_len]; have := List.length_filter_le (fun k => decide (k ≠ j)) (List.range m); rw [List.length_range] at this; omega), fun b u e => by rw [upd_ne (ne_of_none e hD)]; exact sF2 _ _ e, ?_⟩
          rw [fl, if_pos hmj, natsV_app, upd_same]
          dsimp only
          rw [Int.zero_add]
          rfl
        · have hmj : m = j := by
            by_cases z : m = j
            · exact z
            · exact absurd (by rw [decide_eq_false fun w => z (by have := V.int.inj w; omega)]; rfl) h
          refine ⟨sF2, ?_⟩
          rw [fl, if_neg (fun z => z hmj), List.append_nil]
          exact eD
      rintro F2 ⟨sF2, eD⟩
      have eD : F2 D = some (.lst (natsV ((List.range rows.length).filter fun k => k ≠ j))) := by
        have e9 : ((rows.length : Int)).toNat = rows.length := by omega
        first | exact eD | (rw [e9] at eD; exact eD)
      have pmL : ((List.range rows.length).filter (fun k => k ≠ j) ++ [j]).Perm (List.range rows.length) := by
        refine (List.perm_ext_iff_of_nodup ?_ List.nodup_range).mpr fun k => ?_
        · rw [List.nodup_append]
          refine ⟨List.nodup_range.filter _, by simp, fun x hx y hy => ?_⟩
          rw [List.mem_singleton.mp hy]
          exact fun z => by simpa [z] using (List.mem_filter.mp hx).2
        · rw [List.mem_append, List.mem_filter, List.mem_singleton, List.mem_range]
          constructor
          · rintro (h | rfl)
            · exact h.1
            · exact hj
          · intro h
            by_cases z : k = j
            · exact .inr z
            · exact .inl ⟨h, by simpa using z⟩
      generalize (List.range rows.length).filter (fun k => k ≠ j) = L at eD pmL
      have lL : L.length + 1 = rows.length := by
        have := pmL.length_eq
        rw [List.length_append, List.length_range] at this
        exact this
      refine ⟨_, rfl, .inl ⟨rfl, _, SqL.of eD⟩, ?_⟩
      refine ⟨_, rfl, _, _, rfl, rfl, _, rfl, _, _, rfl, rfl, _, _, rfl, _, rfl, D, _, _, _, rfl, rfl, eD, by rw [natsV_len]; exact lt_line (by omega), ?_, ?_, ?_⟩
      · show (0 : Int) ≤ if (rows.length : Int) - 1 < (j : Int) + 1 then (rows.length : Int) - 1 else (j : Int) + 1
        split <;> omega
      · show (if (rows.length : Int) - 1 < (j : Int) + 1 then (rows.length : Int) - 1 else (j : Int) + 1) < 2 ^ 63
        split <;> omega
      have e2 : ∀ i : Nat, (natsV L).take i ++ [V.int (j : Int)] ++ (natsV L).drop i = natsV (L.take i ++ [j] ++ L.drop i) := fun i => by
        unfold natsV
        rw [List.map_append, List.map_append, List.map_take, List.map_drop]
        rfl
      rw [e2]
      refine ⟨D, _, _, (sG2.same sF2).put hS (sG2.free hD), nD, upd_same, ?_, by rw [upd_ne (ne_of_none fG2 hD)]; exact sF2 _ _ fG2, rfl⟩
      refine List.Perm.trans ?_ pmL
      have p2 : ∀ i : Nat, (L.take i ++ ([j] ++ L.drop i)).Perm (L.take i ++ (L.drop i ++ [j])) := fun i => List.Perm.append_left _ List.perm_append_comm
      have p3 := p2
      simp only [← List.append_assoc, List.take_append_drop] at p3
      exact p3 _
    rintro σ G2 ⟨lo2, o2, v10, s2, nlo2, eo2, pm2, fG2, rfl⟩
    clear pm eo nlo hlo st sG fG
    refine ⟨_, rfl, rfl, _, rfl, ite2 (fun _ => ?_) (fun _ => ?_)⟩
    · refine ⟨_, rfl, _, rfl, lo2, rfl, ⟨_, SqL.of eo2⟩, fun D hD => ?_⟩
      refine lc_it (walk_list (xs := natsV o2)) (fun m F => Same G2 F ∧ ∃ vs : List V, F D = some (.lst vs) ∧ vs.length = m ∧ ∀ v ∈ vs, v ∈ rows) ⟨Same.new hD _, [], upd_same, rfl, fun v hv => by cases hv⟩ (fun i F _ P => SqL.of (P.1 _ _ eo2)) ?_ ?_
      · rintro m x F F' hm ⟨sF2, vs, eD, lvs, hvs⟩ ⟨rfl, ex⟩
        obtain ⟨k, ek, rfl⟩ := natsV_inv ex
        have hk : k < rows.length := by
          have := (pm2.mem_iff (a := k)).mp (List.mem_of_getElem? ek)
          rwa [List.mem_range] at this
        rw [natsV_len, pm2.length_eq, List.length_range] at hm
        have e1 : rows[k]? = some rows[k] := List.getElem?_eq_getElem hk
        refine ⟨rfl, tyes ?_⟩
        refine ⟨_, rfl, _, rfl, rl, _, _, _, rfl, rfl, SqL.of ((s2.same sF2).k _ _ nrl hrl), atI_nat e1, ?_⟩
        refine ⟨_, eD, lt_line (by omega), fun b u e => by rw [upd_ne (ne_of_none e hD)]; exact sF2 _ _ e, _, upd_same, by rw [List.length_append, lvs]; rfl, fun v hv => ?_⟩
        rcases List.mem_append.mp hv with h | h
        · exact hvs v h
        · rw [List.mem_singleton.mp h]
          exact List.getElem_mem hk
      rintro F2 ⟨sF2, vs, eD, lvs, hvs⟩
      rw [natsV_len, pm2.length_eq, List.length_range] at lvs
      exact frz (s2.same sF2) eD (by omega) fun v hv => rowsP_at wok hg lrw (rowK (s2.same sF2)) v (hvs v hv)
    -- moved
    refine fun dd hdd => ?_
    have ndd0 := s2.free hdd
    have ndda := (hS.ne ndd0).symm
    refine ⟨_, rfl, _, rfl, upd_same, [(Sum.inr "records", .ref rl), (Sum.inr "fields", .ref df)], rfl, by show 2 ≤ 15; decide, ?_⟩
    rw [kvR_mk]
    have kd : Same G2 (upd (upd G2 dd (.dK [])) dd (.dK (kvR rl df))) := fun b u e => by
      rw [upd_ne (ne_of_none e hdd), upd_ne (ne_of_none e hdd)]
      exact e
    have sD := s2.same kd
    have dD : (upd (upd G2 dd (.dK [])) dd (.dK (kvR rl df))) dd = some (.dK (kvR rl df)) := upd_same
    generalize (upd (upd G2 dd (.dK [])) dd (.dK (kvR rl df))) = G3 at kd sD dD
    have runD : RunAt K a G3 dd rs R := ⟨_, kf, rl, df, rows, ndda, nrl, ndfa, dD, kvR_rec, kvR_fld, sD.k _ _ nrl hrl, lrw, rowK sD, kd _ _ fG2, fun c hc => by
      obtain ⟨pc, e, g⟩ := hkf c hc
      exact ⟨pc, e, g.keep (sD.keepT hS)⟩⟩
    rw [lrw] at pm2
    refine ⟨_, rfl, dd, lo2, a, rs, R, o2, rfl, wok, hg, sD.s, runD, kd _ _ eo2, pm2, fun d2 G4 s4 hd2 run4 => ?_⟩
    have sD4 := sD.same s4
    have eo4 := s4 _ _ (kd _ _ eo2)
    refine ⟨_, rfl, kl, _, rfl, .inl (SqL.of (sD4.k _ _ nkl hkl)), _, rfl, by omega, by rw [hks.1]; omega, fun D hD => ?_⟩
    refine lc_it walk_range (fun m F => Same G4 F ∧ ∃ vs : List V, F D = some (.lst vs) ∧ vs.length = m ∧ ∀ v ∈ vs, Flat3 v) ⟨Same.new hD _, [], upd_same, rfl, fun v hv => by cases hv⟩ (fun _ _ _ _ => trivial) ?_ ?_
    · rintro m x F F' hm ⟨sF2, vs, eD, lvs, hvs⟩ ⟨rfl, rfl⟩
      rw [hks.1] at hm
      have hm : m < ks.length := by omega
      have e1 : kxs[m]? = some (kxs[m]'(by rw [hks.1]; exact hm)) := List.getElem?_eq_getElem _
      have e2 : ks[m]? = some ks[m] := List.getElem?_eq_getElem hm
      have sE := sD4.same sF2
      have hkd := (hks.2 m _ _ e1 e2).keep (sE.keepT hS)
      have ekd : ks.getD m .flag = ks[m] := getD_at e2
      have vv := vok.v m (by omega)
      rw [ekd] at vv
      generalize ks[m] = kd2 at e2 hkd ekd vv
      generalize (kxs[m]'(by rw [hks.1]; exact hm)) = kx at e1 hkd
      have at1 : atI kxs (0 + (m : Int)) = some kx := by rw [Int.zero_add]; exact atI_nat e1
      have at2 : atI us (0 + (m : Int)) = some (us.getD m .non) := by rw [Int.zero_add]; exact atI_nat (getD_some (by omega))
      have fu : Flat3 (us.getD m .non) := vok.f _ (List.mem_of_getElem? (getD_some (by omega)))
      refine ⟨rfl, tyes ?_⟩
      refine ⟨_, rfl, _, rfl, kl, _, _, _, rfl, rfl, SqL.of (sE.k _ _ nkl hkl), at1, _, rfl, _, rfl, vl, _, _, _, rfl, rfl, SqL.of (sE.k _ _ nvl hvl), at2, _, rfl, kx, us.getD m .non, lo2, kd2, o2, rfl, hkd, sF2 _ _ eo4, fun hrf => ?_, fun _ => fu, ?_⟩
      · rcases vv hrf with h | ⟨j, h, hj⟩
        · exact .inl h
        · exact .inr ⟨j, h, pm2.mem_iff.mpr (List.mem_range.mpr hj)⟩
      · refine ⟨_, eD, lt_line (by omega), fun b u e => by rw [upd_ne (ne_of_none e hD)]; exact sF2 _ _ e, _, upd_same, by rw [List.length_append, lvs]; rfl, fun v hv => ?_⟩
        rcases List.mem_append.mp hv with h | h
        · exact hvs v h
        · rw [List.mem_singleton.mp h]
          split
          · exact tr_flat fu
          · exact fu
    rintro F2 ⟨sF2, vs, eD, lvs, hvs⟩
    rw [hks.1] at lvs
    obtain ⟨kvs4, kf4, lr4, df4, rows4, r4⟩ := run4.same sF2
    have hg4 := hg.mov pm2
    have l4' : (movR rs R o2).length = R.length := by unfold movR; rw [List.length_map, pm2.length_eq, List.length_range]
    exact ⟨_, rfl, d2, _, rfl, DGet.at (k := Sum.inr "records") r4.hd r4.kr, D, lr4, vs, rows4, rfl, eD, fun u hu => .flat (hvs u hu), by omega, r4.hl, by rw [r4.lr, l4']; omega, rowsP_at wok hg4 r4.lr r4.rw, fun v H' s pv => q v H' ((sD4.same sF2).same s) pv⟩
end
/-! ### keys: a value to ask of -/
structure KeyAt (K : PySem.W.Frag) (H : Hp) (tk : Addr) (rs : List Rk) (ks : List Kd) (us : List V) (R : List Rc) : Prop where
  h : ∃ tv tr xs, SqT K H tk [.ref tv, .ref tr] ∧ SqT K H tv us ∧ SqT K H tr xs ∧ RcsAt K H xs R
  g : HpG rs R
  v : VsOk ks R.length us
  n : R.length ≤ 90
theorem KeyAt.keep {K : PySem.W.Frag} {H H' : Hp} {tk : Addr} {rs : List Rk} {ks : List Kd} {us : List V} {R : List Rc} (s : KeepT K H H') (h : KeyAt K H tk rs ks us R) : KeyAt K H' tk rs ks us R := by
  obtain ⟨⟨tv, tr, xs, h1, h2, h3, h4⟩, g, v, n⟩ := h
  exact ⟨⟨tv, tr, xs, s _ _ h1, s _ _ h2, s _ _ h3, h4.1, fun i v r e1 e2 => (h4.2 i v r e1 e2).keep s⟩, g, v, n⟩
def spAsked (K : PySem.W.Frag) : Sp := fun vs H Q _ => ∃ (a p c tk : Addr) (H0 : Hp) (rs : List Rk) (rd kl vl xl : Addr) (R : List Rc) (kxs us : List V) (ks : List Kd) (fx : List Nat) (us2 : List V) (R2 : List Rc), vs = [.ref a, .ref p, .ref c, .ref tk] ∧ Src H a ∧ Same H0 H ∧ H0 a = none ∧ PgAt K H0 p rs ∧ WldOk rs ∧ rs ≠ [] ∧
  CaseE K H0 c rs rd kl vl xl R kxs us ks fx ∧ KeyAt K H0 tk rs ks us2 R2 ∧ ∀ t H' v (n : Nat), Stp a H H' → SqT K H' t [v, .int (n : Int)] → PV K H' 13 v → n ≤ 1000 → Q (.ref t) H'
section
variable {P : Program} {w : World} {K : PySem.W.Frag} {mg : Str → Option Value} {base : Heap}
theorem ok_l_asked (T : Txt w K mg) : FnOk P w K mg base CX0 9 T.a_l_asked T.d_l_asked p_l_asked (spAsked K) := by
  have g_l_pick := ok_l_pick (P := P) (w := w) (base := base) T
  have g_l_frozen := ok_l_frozen (P := P) (w := w) (K := K) (base := base) T
  have g_l_with_other_part := ok_l_with_other_part (P := P) (w := w) (K := K) (base := base) T
  have g_l_with_other_records := ok_l_with_other_records (P := P) (w := w) (K := K) (base := base) T
  have g_l_with_other_form := ok_l_with_other_form (P := P) (w := w) (K := K) (base := base) T
  have g_l_garbage := ok_l_garbage (P := P) (w := w) (K := K) (base := base) T 6
  refine T.F_l_asked.ok sc_l_asked (fun vs H Q E h => ?_) (fun cdv A outer s H vs Q E hr h => ?_)
  · obtain ⟨a, p, c, tk, H0, rs, rd, kl, vl, xl, R, kxs, us, ks, fx, us2, R2, rfl, _⟩ := h
    rfl
  obtain ⟨a, p, c, tk, H0, rs, rd, kl, vl, xl, R, kxs, us, ks, fx, us2, R2, rfl, hS, sH, na, hp, wok, rne, hc, hk, q⟩ := h
  refine ⟨_, (pss_cons (ps_set (i := 4) sc_l_asked.nd rfl (Or.inl rfl) (pe_callB call_len_seq rfl T.z_len PySem.boot_len (pa_cons (pe_dget (hu_of hr) (pv 2) pe_str (fun _ _ => rfl)) pa_nil)))
      (pss_cons (ps_set (i := 5) sc_l_asked.nd rfl (Or.inl rfl) (pe_call g_l_pick (hr.mono (by first | decide | omega)) rfl T.m_l_pick T.F_l_pick.kp T.b_l_pick .nil pass0 (pa_cons (pv 0) (pa_cons pe_int pa_nil))))
      (pss_cons (ps_set (i := 6) sc_l_asked.nd rfl (Or.inl rfl) (pe_callTy call_list_of rfl T.z_list bt_list (pa_cons (pe_ix ix_tup (pv 3) pe_int (fun _ _ => rfl)) pa_nil)))
      (pss_cons (ps_setLc (i := 7) (own := [("_law_row", 8)]) (g := gName 8) (tt := tYes) rfl sc_l_asked.nd rfl rfl (sw_true rfl rfl rfl (by decide +kernel)) (pi_tup (pe_ix ix_tup (pv 3) pe_int (fun _ _ => rfl))) (blkOk_by (own := [("_law_row", 8)]) (N := n_l_asked) (sc := defScope s_l_asked) (by decide +kernel)) (fun _ _ _ _ _ => (pg_name (i := 8) sc_l_asked.nd rfl (Or.inl rfl))) (fun _ _ _ _ _ => pts_nil) (fun _ _ _ _ _ => (pe_lst (pa_cons (pe_ix (show IxR _ (rIxT K) from ix_tup) (pv 8) pe_int (fun _ _ => rfl)) (pa_cons (pe_ix (show IxR _ (rIxT K) from ix_tup) (pv 8) pe_int (fun _ _ => rfl)) (pa_cons (pe_callTy (show CallR _ _ (rListOf K) from call_list_of) rfl T.z_list bt_list (pa_cons (pe_ix (show IxR _ (rIxT K) from ix_tup) (pv 8) pe_int (fun _ _ => rfl)) pa_nil)) pa_nil))))))
      (pss_cons (ps_if (pt_cmpR op_lt (pv 5) pe_int (nomark _)) (pss_one (ps_ret (pe_tup (pa_cons (pe_call g_l_with_other_part (hr.mono (by first | decide | omega)) rfl T.m_l_with_other_part T.F_l_with_other_part.kp T.b_l_with_other_part .nil pass0 (pa_cons (pv 0) (pa_cons (pv 1) (pa_cons (pv 6) (pa_cons (pv 7) pa_nil))))) (pa_cons (pv 4) pa_nil))))) pss_nil)
      (pss_cons (ps_if (pt_cmpR op_lt (pv 5) pe_int (nomark _)) (pss_one (ps_ret (pe_tup (pa_cons (pe_call g_l_with_other_records (hr.mono (by first | decide | omega)) rfl T.m_l_with_other_records T.F_l_with_other_records.kp T.b_l_with_other_records .nil pass0 (pa_cons (pv 0) (pa_cons (pv 1) (pa_cons (pe_dget (hu_of hr) (pv 2) pe_str (fun _ _ => rfl)) (pa_cons (pv 6) (pa_cons (pv 7) pa_nil)))))) (pa_cons (pv 4) pa_nil))))) pss_nil)
      (pss_cons (ps_if (pt_cmpR op_eq (pv 5) pe_int (nomark _)) (pss_one (ps_ret (pe_tup (pa_cons (pe_call g_l_with_other_form (hr.mono (by first | decide | omega)) rfl T.m_l_with_other_form T.F_l_with_other_form.kp T.b_l_with_other_form .nil pass0 (pa_cons (pv 0) (pa_cons (pe_ix ix_tup (pv 3) pe_int (fun _ _ => rfl)) (pa_cons (pe_ix ix_tup (pv 3) pe_int (fun _ _ => rfl)) pa_nil)))) (pa_cons (pv 4) pa_nil))))) pss_nil)
      (pss_cons (ps_if (pt_cmpR op_eq (pv 5) pe_int (nomark _)) (pss_one (ps_ret (pe_tup (pa_cons (pv 3) (pa_cons (pe_call g_l_pick (hr.mono (by first | decide | omega)) rfl T.m_l_pick T.F_l_pick.kp T.b_l_pick .nil pass0 (pa_cons (pv 0) (pa_cons (pe_op op_add (pe_callB call_len_seq rfl T.z_len PySem.boot_len (pa_cons (pv 7) pa_nil)) pe_int) pa_nil))) pa_nil))))) pss_nil)
      (pss_cons (ps_if (pt_cmpR op_eq (pv 5) pe_int (nomark _)) (pss_one (ps_ret (pe_tup (pa_cons (pe_call g_l_frozen (hr.mono (by first | decide | omega)) rfl T.m_l_frozen T.F_l_frozen.kp T.b_l_frozen .nil pass0 (pa_cons (pe_dget (hu_of hr) (pv 2) pe_str (fun _ _ => rfl)) (pa_cons (pe_dget (hu_of hr) (pe_dget (hu_of hr) (pv 2) pe_str (fun _ _ => rfl)) pe_str (fun _ _ => rfl)) pa_nil))) (pa_cons (pv 4) pa_nil))))) pss_nil)
      (pss_one (ps_ret (pe_tup (pa_cons (pe_call g_l_garbage (hr.mono (by first | decide | omega)) rfl T.m_l_garbage T.F_l_garbage.kp T.b_l_garbage .nil pass0 (pa_cons (pv 0) (pa_cons pe_int pa_nil))) (pa_cons (pe_call g_l_pick (hr.mono (by first | decide | omega)) rfl T.m_l_pick T.F_l_pick.kp T.b_l_pick .nil pass0 (pa_cons (pv 0) (pa_cons pe_int pa_nil))) pa_nil)))))))))))))), ?_⟩
  have lR := hc.ln
  have lx : fx.length ≤ 90 := by have := len_le hc.x2 hc.x3; omega
  have sOf : ∀ {G : Hp}, Stp a H G → Same H0 G := fun {G} st => Stp.fresh sH na st
  have cH := hc.same sH
  refine ⟨_, rfl, c, _, rfl, DGet.at (k := Sum.inr "fixed") cH.c kvC_fixed, xl, _, rfl, .inl (SqL.of cH.x1), ?_⟩
  have efx : (natsV fx).length = fx.length := natsV_len
  rw [efx]
  refine ⟨_, rfl, a, 9, rfl, hS, by decide, fun ch H1 st1 _ _ => ?_⟩
  have s1 := sOf st1
  obtain ⟨⟨tv, tr, xs, h1, h2, h3, h4⟩, hg2, vok2, l90⟩ := hk
  refine ⟨_, rfl, tk, _, 0, _, rfl, rfl, Same.tup s1 h1, rfl, tv, _, rfl, .inr (Same.tup s1 h2), fun vl2 hvl2 => ?_⟩
  have k2 := Same.new hvl2 (.lst us2)
  have e2 : (upd H1 vl2 (.lst us2)) vl2 = some (.lst us2) := upd_same
  have st2 := st1.same k2
  generalize hH2 : (upd H1 vl2 (.lst us2)) = H2 at k2 e2 st2
  refine ⟨_, rfl, tk, _, 1, _, rfl, rfl, Same.tup (s1.trans k2) h1, rfl, tr, rfl, ⟨_, Same.tup (s1.trans k2) h3⟩, fun D hD => ?_⟩
  refine lc_it (walk_tup (xs := xs)) (fun m F => Same H2 F ∧ ∃ rows : List V, F D = some (.lst rows) ∧ RowsF H2 D F rows (R2.take m)) ⟨Same.new hD _, [], upd_same, rfl, fun i v r e => by simp at e⟩ (fun i F _ P => Same.tup ((s1.trans k2).trans P.1) h3) ?_ ?_
  · rintro j y F F' hj ⟨sF, rows, eD, rf⟩ ⟨rfl, ex⟩
    have hj2 : j < R2.length := by rw [← h4.1]; exact hj
    have er : R2[j]? = some R2[j] := List.getElem?_eq_getElem hj2
    obtain ⟨q3, t3, rfl, h5, h6⟩ := h4.2 j y _ ex er
    have tk2 : R2.take (j + 1) = R2.take j ++ [R2[j]] := by
      rw [List.take_add_one, er]
      rfl
    generalize R2[j] = r at er h5 h6 tk2
    have sHF := (s1.trans k2).trans sF
    have lrows : rows.length = j := by
      rw [rf.1, List.length_take]
      omega
    have h5' := Same.tup sHF h5
    refine ⟨rfl, tyes ?_⟩
    refine ⟨_, rfl, q3, _, 0, _, rfl, rfl, h5', atI_nat (j := 0) rfl, _, rfl, q3, _, 1, _, rfl, rfl, h5', atI_nat (j := 1) rfl, _, rfl, q3, _, 2, _, rfl, rfl, h5', atI_nat (j := 2) rfl, t3, _, rfl, .inr (Same.tup sHF h6), fun l hl => ⟨by show 3 ≤ sizeLine; decide, fun t ht => ?_⟩⟩
    have n1 := Same.new hl (.lst r.vals)
    have n2 := Same.new ht (.lst [.str r.nm, .bl r.live, .ref l])
    have sE := n1.trans n2
    have eE := sE _ _ eD
    have htF := n1.free ht
    have ntD := ne_of_none eD htF
    have nlD := ne_of_none eD hl
    have ntl : l ≠ t := ne_of_none upd_same ht
    refine ⟨_, eE, lt_line (by omega), fun b u e => by rw [upd_ne (ne_of_none e hD)]; exact sE _ _ (sF _ _ e), _, upd_same, ?_⟩
    rw [tk2]
    refine RowsF.push (rf.up fun b u _ ne e => by rw [upd_ne ne]; exact sE _ _ e) ?_
    refine ⟨t, l, rfl, sF.free htF, sF.free hl, ntD.symm, nlD.symm, ?_, ?_⟩
    · rw [upd_ne ntD.symm]
      exact upd_same
    · rw [upd_ne nlD.symm]
      exact n2 _ _ upd_same
  rintro F ⟨sF, rows, eD, rf⟩
  rw [h4.1, List.take_length] at rf
  have stF := st2.same sF
  have s0F := sOf stF
  have cF := hc.same s0F
  have eV := sF _ _ e2
  have hD1 : H1 D = none := k2.free hD
  have nDv : vl2 ≠ D := ne_of_none e2 hD
  have nDa := (st2.s.ne hD).symm
  have nva := (st1.s.ne hvl2).symm
  have fin : ∀ {G : Hp} {u : V} {n : Nat}, Stp a H G → PV K G 13 u → n ≤ 1000 → ([u, V.int (n : Int)].length ≤ sizeLine ∧ ∀ t, G t = none → Q (.ref t) (upd G t (.tup [u, .int (n : Int)]))) := fun {G u n} st pu hn =>
    ⟨by show 2 ≤ sizeLine; decide, fun t ht => q t _ u n (st.new ht) (SqT.of upd_same) (pu.keep (KeepT.of (Same.new ht _))) hn⟩
  have l12 : us2.length ≤ 12 := by rw [vok2.l]; exact hc.lk
  have lrw : rows.length = R2.length := rf.1
  have h1F := Same.tup s0F h1
  have nkl : kl ≠ a := ne_of_none hc.k1 na
  have rowA : ∀ (i : Nat) (v : V) (r : Rc), rows[i]? = some v → R2[i]? = some r → RowAt a F v r := fun i v r e1 e2 => (rf.2 i v r e1 e2).at st2.s
  have recP : ∀ {G : Hp}, Same H0 G → ∀ v ∈ xs, ∃ p, v = .ref p ∧ TV K G 4 3 p := fun {G} s v hv => by
    obtain ⟨i, hi, rfl⟩ := List.getElem_of_mem hv
    have er : R2[i]? = some (R2[i]'(by rw [← h4.1]; exact hi)) := List.getElem?_eq_getElem _
    have g := hg2.rc _ (List.getElem_mem (by rw [← h4.1]; exact hi))
    obtain ⟨p3, t3, ep, h5, h6⟩ := h4.2 i _ _ (List.getElem?_eq_getElem hi) er
    have sk := rc_sk wok g
    refine ⟨p3, ep, _, Same.tup s h5, fun u hu => ?_, Nat.le_refl _⟩
    rcases List.mem_cons.mp hu with rfl | hu
    · exact .str sk.1
    · rcases List.mem_cons.mp hu with rfl | hu
      · exact .bl _
      · rw [List.mem_singleton.mp hu]
        exact PV.tup (n := 3) (Same.tup s h6) (fun v hv => .flat (g.f v hv)) (by omega)
  have keyP : ∀ {G : Hp}, Same H0 G → PV K G 13 (.ref tk) := fun {G} s => PV.up (show 7 ≤ 13 by decide) (PV.tup (n := 6) (Same.tup s h1) (fun u hu => by
    rcases List.mem_cons.mp hu with rfl | hu
    · exact PV.up (show 4 ≤ 6 by decide) (PV.tup (n := 3) (Same.tup s h2) (fun v hv => .flat (vok2.f v hv)) (by omega))
    · rw [List.mem_singleton.mp hu]
      exact PV.tup (n := 5) (Same.tup s h3) (fun v hv => by
        obtain ⟨p3, rfl, h⟩ := recP s v hv
        exact h.pv (by decide)) (by rw [h4.1]; omega)) (by show 2 ≤ 100; decide))
  refine ⟨_, rfl, _, _, rfl, rfl, _, rfl, ite2 (fun _ => ?_) (fun _ => ⟨_, rfl, _, _, rfl, rfl, _, rfl, ite2 (fun _ => ?_) (fun _ => ⟨_, rfl, rfl, _, rfl, ite2 (fun _ => ?_) (fun _ => ⟨_, rfl, rfl, _, rfl, ite2 (fun _ => ?_) (fun _ => ⟨_, rfl, rfl, _, rfl, ite2 (fun _ => ?_) (fun _ => ?_)⟩)⟩)⟩)⟩)⟩
  · have T1 := Stp.of_same st1.s (k2.trans sF)
    refine ⟨_, rfl, _, rfl, _, rfl, _, rfl, a, p, vl2, D, H1, rs, us2, rows, rfl, st1.s, T1, hvl2, hD1, hp.keep (KeepT.of s1), wok, rne, eV, vok2.f, l12, eD, by omega, fun v hv => ?_, fun q0 l nm b hm h => ?_, nDv, fun v G st pv => ⟨_, rfl, fin (st1.trans st) (pv.up (by decide)) (by omega)⟩⟩
    · obtain ⟨i, hi, rfl⟩ := List.getElem_of_mem hv
      have er : R2[i]? = some (R2[i]'(by omega)) := List.getElem?_eq_getElem _
      have g := hg2.rc _ (List.getElem_mem (by omega : i < R2.length))
      obtain ⟨x1, x2, e, m1, m2, _, _, t1, t2⟩ := rf.2 i _ _ (List.getElem?_eq_getElem hi) er
      have sk := rc_sk wok g
      exact ⟨x1, x2, _, _, _, e, k2.free m1, k2.free m2, t1, sk.1, t2, g.f, sk.2⟩
    · obtain ⟨i, hi, e0⟩ := List.getElem_of_mem hm
      have er : R2[i]? = some (R2[i]'(by omega)) := List.getElem?_eq_getElem _
      obtain ⟨x1, x2, e, m1, m2, n1, n2, t1, t2⟩ := rf.2 i _ _ (List.getElem?_eq_getElem hi) er
      rw [e0] at e
      obtain rfl := V.ref.inj e
      rw [h] at t1
      cases HO.lst.inj (Option.some.inj t1)
      exact ⟨n1, n2, (ne_of_none e2 m1).symm, (ne_of_none e2 m2).symm⟩
  · exact ⟨_, rfl, _, rfl, _, rfl, c, _, rfl, DGet.at (k := Sum.inr "kinds") cF.c kvC_kinds, _, rfl, _, rfl, a, p, kl, vl2, D, rs, R2, kxs, us2, rows, ks, rfl, stF.s, hp.keep (KeepT.of s0F), wok, rne, nkl, cF.k1, cF.k2, nva, eV, vok2, hc.lk, nDa, eD, lrw, rowA, hg2, l90, fun v G st pv => ⟨_, rfl, fin (stF.trans st) (pv.up (by decide)) (by omega)⟩⟩
  · exact ⟨_, rfl, _, rfl, tk, _, 0, _, rfl, rfl, h1F, rfl, _, rfl, tk, _, 1, _, rfl, rfl, h1F, rfl, a, tv, tr, xs, rfl, stF.s, ⟨_, Same.tup s0F h2, fun v hv => .flat (vok2.f v hv), l12⟩, Same.tup s0F h3, by rw [h4.1]; exact l90, recP s0F, fun v G st pv => ⟨_, rfl, fin (stF.trans st) pv (by omega)⟩⟩
  · refine ⟨_, rfl, _, rfl, _, rfl, D, _, rfl, .inl (SqL.of eD), _, _, rfl, rfl, a, _, rfl, stF.s, by omega, fun r G st r0 r1 => ?_⟩
    obtain ⟨n, rfl⟩ := Int.eq_ofNat_of_zero_le r0
    exact fin (stF.trans st) (keyP (sOf (stF.trans st))) (by omega)
  · obtain ⟨a0, hrun⟩ := cF.r
    obtain ⟨kvs0, kf0, lr0, df0, rows0, run0⟩ := id hrun
    exact ⟨_, rfl, c, _, rfl, DGet.at (k := Sum.inr "values") cF.c kvC_values, _, rfl, c, _, rfl, DGet.at (k := Sum.inr "run") cF.c kvC_run, rd, _, rfl, DGet.at (k := Sum.inr "records") run0.hd run0.kr, vl, lr0, us, rows0, rfl, cF.v1, fun u hu => .flat (hc.v2.f u hu), by rw [hc.v2.l]; have := hc.lk; omega, run0.hl, by rw [run0.lr]; omega, rowsP_at wok hc.g run0.lr run0.rw, fun v G s pv => ⟨_, rfl, fin (stF.same s) (pv.up (by decide)) (by omega)⟩⟩
  · refine ⟨_, rfl, a, rfl, stF.s, fun u G st pu => ⟨_, rfl, a, 2, rfl, st.s, by decide, fun r G2 st2 r0 r1 => ?_⟩⟩
    obtain ⟨n, rfl⟩ := Int.eq_ofNat_of_zero_le r0
    exact fin ((stF.trans st).trans st2) ((pu.keep (st2.keepT st.s)).up (by decide)) (by omega)
end
/-! ### law k30 -/
def spLaw (K : PySem.W.Frag) : Sp := fun vs H Q _ => ∃ (a : Addr) (ns : List Int), vs = [.ref a] ∧ SqL K H a (ns.map V.int) ∧ ns.length ≤ 63 ∧ ∀ H', Q (.bl true) H'
theorem vD_inj {K : PySem.W.Frag} {H : Hp} {v u : V} (h : Dp K H v (vD u)) (f : Flat3 u) : v = u := by
  rcases f with rfl | ⟨b, rfl⟩ | ⟨i, rfl⟩ <;> (cases h; rfl)
theorem vD_row {K : PySem.W.Frag} {H : Hp} : ∀ {us vs : List V}, DpAll K H vs (us.map vD) → (∀ u ∈ us, Flat3 u) → vs = us
  | [], _, h, _ => by cases h; rfl
  | u :: us, _, h, f => by
    cases h with
    | cons h1 h2 => rw [vD_inj h1 (f u List.mem_cons_self), vD_row h2 fun x hx => f x (List.mem_cons_of_mem _ hx)]
/-- the told key as values and records -/
theorem key_at {K : PySem.W.Frag} {H : Hp} {tk : V} {rs : List Rk} {R : List Rc} {ks : List Kd} {us : List V} {o : List Nat} (h : Dp K H tk (keyH rs R ks us o)) (fu : ∀ u ∈ us, Flat3 u) (hg : HpG rs R) (bo : ∀ k ∈ o, k < R.length) : ∃ t tv tr xs, tk = .ref t ∧ SqT K H t [.ref tv, .ref tr] ∧ SqT K H tv (trL ks us o) ∧ SqT K H tr xs ∧ RcsAt K H xs (o.map (movE rs R o)) := by
  cases h with
  | @tup t ws _ h1 hws =>
  cases hws with
  | cons g1 g2 =>
  cases g2 with
  | cons g2 g3 =>
  cases g3
  cases g1 with
  | @tup tv vs _ h2 hvs =>
  cases g2 with
  | @tup tr xs _ h3 hxs =>
  have ev := vD_row hvs (trL_flat fu)
  subst ev
  refine ⟨t, tv, tr, xs, rfl, h1, h2, h3, by have := dpAll_len hxs; rw [List.length_map] at this; rw [List.length_map]; exact this, fun i v r e1 e2 => ?_⟩
  rw [List.getElem?_map] at e2
  cases ei : o[i]? with
  | none => rw [ei] at e2; cases e2
  | some k =>
  rw [ei] at e2
  obtain rfl := Option.some.inj e2
  obtain ⟨d, ed, hv⟩ := dpAll_at hxs e1
  rw [List.getElem?_map, ei] at ed
  obtain rfl := Option.some.inj ed
  have hk := bo k (List.mem_of_getElem? ei)
  have er : R[k]? = some R[k] := List.getElem?_eq_getElem hk
  have g := hg.rc _ (List.getElem_mem hk)
  have em : movE rs R o k = ⟨R[k].nm, R[k].live, trL (flOf rs R[k].nm) R[k].vals o⟩ := by
    unfold movE
    rw [er]
  have ed2 : recD rs R o k = .tuple [.str R[k].nm, .bool R[k].live, .tuple ((trL (flOf rs R[k].nm) R[k].vals o).map vD)] := by
    unfold recD
    rw [er]
  rw [em]
  have hv : Dp K H v (recD rs R o k) := hv
  rw [ed2] at hv
  generalize R[k] = r at g hv
  cases hv with
  | @tup p ys _ h5 hys =>
  cases hys with
  | cons g1 g2 =>
  cases g2 with
  | cons g2 g3 =>
  cases g3 with
  | cons g3 g4 =>
  cases g4
  cases g1
  cases g2
  cases g3 with
  | @tup t3 zs _ h6 hzs =>
  have ez := vD_row hzs (trL_flat g.f)
  subst ez
  exact ⟨p, t3, rfl, h5, h6⟩
/-- a pair to ask of -/
def PairAt (K : PySem.W.Frag) (H : Hp) (v : V) : Prop := ∃ t u, ∃ n : Nat, v = .ref t ∧ SqT K H t [u, .int (n : Int)] ∧ PV K H 13 u ∧ n ≤ 1000
theorem PairAt.keep {K : PySem.W.Frag} {H H' : Hp} {v : V} (s : KeepT K H H') (h : PairAt K H v) : PairAt K H' v := by
  obtain ⟨t, u, n, e, h1, h2, h3⟩ := h
  exact ⟨t, u, n, e, s _ _ h1, h2.keep s, h3⟩
section
variable {P : Program} {w : World} {K : PySem.W.Frag} {mg : Str → Option Value} {base : Heap}
theorem ok_law (T : Txt w K mg) : FnOk P w K mg base CX0 20 T.a_law T.d_law p_law (spLaw K) := by
  have g_l_cell := ok_l_cell (P := P) (w := w) (K := K) (base := base) T
  have g_l_source := ok_l_source (P := P) (w := w) (base := base) T
  have g_l_pick := ok_l_pick (P := P) (w := w) (base := base) T
  have g_l_world := ok_l_world (P := P) (w := w) (K := K) (base := base) T
  have g_l_case := ok_l_case (P := P) (w := w) (K := K) (base := base) T
  have g_l_key := ok_l_key (P := P) (w := w) (K := K) (base := base) T
  have g_l_asked := ok_l_asked (P := P) (w := w) (K := K) (base := base) T
  have g_l_judge := ok_l_judge (P := P) (w := w) (K := K) (base := base) T
  have g_is_key := ok_is_key (P := P) (w := w) (K := K) (base := base) T
  refine T.F_law.ok sc_law (fun vs H Q E h => ?_) (fun cdv A outer s H vs Q E hr h => ?_)
  · obtain ⟨a, ns, rfl, _⟩ := h
    rfl
  obtain ⟨a, ns, rfl, hS, h63, q⟩ := h
  refine ⟨_, (pss_cons (ps_set (i := 1) sc_law.nd rfl (Or.inl rfl) (pe_call g_l_source (hr.mono (by first | decide | omega)) rfl T.m_l_source T.F_l_source.kp T.b_l_source .nil pass0 (pa_cons (pe_call g_l_cell (hr.mono (by first | decide | omega)) rfl T.m_l_cell T.F_l_cell.kp T.b_l_cell .nil pass0 (pa_cons (pv 0) (pa_cons pe_int pa_nil))) pa_nil)))
      (pss_cons (ps_set (i := 2) sc_law.nd rfl (Or.inl rfl) (pe_call g_l_world (hr.mono (by first | decide | omega)) rfl T.m_l_world T.F_l_world.kp T.b_l_world .nil pass0 (pa_cons (pv 1) (pa_cons (pe_call g_l_pick (hr.mono (by first | decide | omega)) rfl T.m_l_pick T.F_l_pick.kp T.b_l_pick .nil pass0 (pa_cons (pv 1) (pa_cons pe_int pa_nil))) pa_nil))))
      (pss_cons (ps_set (i := 3) sc_law.nd rfl (Or.inl rfl) (pe_call g_l_case (hr.mono (by first | decide | omega)) rfl T.m_l_case T.F_l_case.kp T.b_l_case .nil pass0 (pa_cons (pe_call g_l_source (hr.mono (by first | decide | omega)) rfl T.m_l_source T.F_l_source.kp T.b_l_source .nil pass0 (pa_cons (pe_op op_add (pe_call g_l_cell (hr.mono (by first | decide | omega)) rfl T.m_l_cell T.F_l_cell.kp T.b_l_cell .nil pass0 (pa_cons (pv 0) (pa_cons pe_int pa_nil))) pe_int) pa_nil)) (pa_cons (pv 2) pa_nil))))
      (pss_cons (ps_set (i := 4) sc_law.nd rfl (Or.inl rfl) (pe_dget (hu_of hr) (pv 3) pe_str (fun _ _ => rfl)))
      (pss_cons (ps_set (i := 5) sc_law.nd rfl (Or.inl rfl) (pe_ix ix_tup (pe_call g_l_key (hr.mono (by first | decide | omega)) rfl T.m_l_key T.F_l_key.kp T.b_l_key .nil pass0 (pa_cons (pe_dget (hu_of hr) (pv 3) pe_str (fun _ _ => rfl)) (pa_cons (pv 4) (pa_cons (pe_dget (hu_of hr) (pv 3) pe_str (fun _ _ => rfl)) (pa_cons (pe_dget (hu_of hr) (pv 3) pe_str (fun _ _ => rfl)) pa_nil))))) pe_int (fun _ _ => rfl)))
      (pss_cons (ps_set (i := 6) sc_law.nd rfl (Or.inl rfl) (pe_lst (pa_cons (pe_tup (pa_cons (pv 5) (pa_cons (pe_callB call_len_seq rfl T.z_len PySem.boot_len (pa_cons (pe_dget (hu_of hr) (pv 3) pe_str (fun _ _ => rfl)) pa_nil)) pa_nil))) pa_nil)))
      (pss_cons (ps_for PassesOwn.never rfl (pi_range1 rfl T.z_range (pa_cons pe_int pa_nil)) (pg_name (i := 7) sc_law.nd rfl (Or.inl rfl))
        (pss_one (ps_expr (pe_bm PySem.F.plainAttrs_list PySem.F.slot_list_append PySem.F.type_list_append mt_append (pv 6) (pa_cons (pe_call g_l_asked (hr.mono (by first | decide | omega)) rfl T.m_l_asked T.F_l_asked.kp T.b_l_asked .nil pass0 (pa_cons (pe_call g_l_source (hr.mono (by first | decide | omega)) rfl T.m_l_source T.F_l_source.kp T.b_l_source .nil pass0 (pa_cons (pe_op op_add (pe_op op_add (pe_call g_l_cell (hr.mono (by first | decide | omega)) rfl T.m_l_cell T.F_l_cell.kp T.b_l_cell .nil pass0 (pa_cons (pv 0) (pa_cons (pe_op op_add pe_int (pv 7)) pa_nil))) pe_int) (pv 7)) pa_nil)) (pa_cons (pv 2) (pa_cons (pv 3) (pa_cons (pv 5) pa_nil))))) pa_nil)))))
      (pss_cons (ps_expr (pe_bm PySem.F.plainAttrs_list PySem.F.slot_list_append PySem.F.type_list_append mt_append (pv 6) (pa_cons (pe_tup (pa_cons (pv 5) (pa_cons (pe_callB call_len_seq rfl T.z_len PySem.boot_len (pa_cons (pe_dget (hu_of hr) (pv 3) pe_str (fun _ _ => rfl)) pa_nil)) pa_nil))) pa_nil)))
      (pss_cons (ps_for PassesOwn.never rfl (pi_list (pv 6)) (pg_name (i := 8) sc_law.nd rfl (Or.inl rfl))
        (pss_cons (ps_set (i := 9) sc_law.nd rfl (Or.inl rfl) (pe_call g_is_key (hr.mono (by first | decide | omega)) rfl T.m_is_key T.F_is_key.kp T.b_is_key .nil pass0 (pa_cons (pv 2) (pa_cons (pe_callTy call_tuple_of rfl T.z_tuple bt_tuple (pa_cons (pv 4) pa_nil)) (pa_cons (pe_ix ix_tup (pv 8) pe_int (fun _ _ => rfl)) (pa_cons (pe_ix ix_tup (pv 8) pe_int (fun _ _ => rfl)) pa_nil))))))
      (pss_one (ps_if (PW.pt (pw_or (pt_not (pt_val (pe_callB call_isi rfl T.z_isinstance bb_isinstance (pa_cons (pv 9) (pa_cons (pe_bltn (v := .ty "bool") rfl T.z_bool bt_bool rfl) pa_nil))))) (pw_or1 (pt_cmpR op_ne (pv 9) (pe_call g_l_judge (hr.mono (by first | decide | omega)) rfl T.m_l_judge T.F_l_judge.kp T.b_l_judge .nil pass0 (pa_cons (pv 2) (pa_cons (pv 4) (pa_cons (pe_ix ix_tup (pv 8) pe_int (fun _ _ => rfl)) (pa_cons (pe_ix ix_tup (pv 8) pe_int (fun _ _ => rfl)) pa_nil))))) (nomark _))))) (pss_one (ps_ret pe_bl)) pss_nil))))
      (pss_one (ps_ret pe_bl))))))))))), ?_⟩
  refine ⟨_, rfl, a, ns, 0, rfl, hS, by decide, fun c0 => ⟨c0, rfl, fun pS H1 hp0 s1 src => ?_⟩⟩
  refine ⟨_, rfl, _, rfl, pS, 8, rfl, src, by decide, fun sh H2 st2 y0 y1 => ⟨pS, sh, rfl, st2.s, y0, by omega, fun p rs H3 st3 hp wok rne => ?_⟩⟩
  have S3 := Stp.fresh s1 hp0 (st2.trans st3)
  refine ⟨_, rfl, a, ns, 1, rfl, S3.seq hS, by decide, fun c1 => ⟨_, _, rfl, rfl, _, rfl, fun p1 H4 hp1 s4 src4 => ?_⟩⟩
  refine ⟨_, rfl, p1, p, rs, rfl, src4, hp.keep (KeepT.of s4), wok, rne, fun c H5 st5 hc => ?_⟩
  obtain ⟨rd, kl, vl, xl, R, kxs, us, ks, fx, hc⟩ := hc
  have S5 := Stp.fresh s4 hp1 st5
  have SH5 := S3.trans S5
  have hp5 := hp.keep (KeepT.of S5)
  have ok := hc.g.ok wok
  obtain ⟨a0, hrun⟩ := hc.r
  refine ⟨_, rfl, c, _, rfl, DGet.at (k := Sum.inr "kinds") hc.c kvC_kinds, ?_⟩
  refine ⟨_, rfl, c, _, rfl, DGet.at (k := Sum.inr "run") hc.c kvC_run, _, rfl, _, rfl, c, _, rfl, DGet.at (k := Sum.inr "values") hc.c kvC_values, _, rfl, c, _, rfl, DGet.at (k := Sum.inr "fixed") hc.c kvC_fixed, rd, kl, vl, xl, a0, rs, R, kxs, us, ks, fx, _, rfl, ok, hrun, hc.k1, hc.k2, .inl (SqL.of hc.v1), hc.v2, .inl (SqL.of hc.x1), hc.x2, hc.x3, fun qk H6 s6 dk => ?_⟩
  have bfst := refsAt_lt (vs := us) (pl := refPl ks) fun i hi => (hc.v2.pl i hi).2
  obtain ⟨ndo, bo, infst⟩ := order_ok ok.rn hc.x2 hc.x3 bfst
  have clo := order_closed ok.rn fx (refsAt us (refPl ks))
  generalize orderF (nbR rs R) fx (refsAt us (refPl ks)) = o at dk ndo bo infst clo
  have lo := len_le ndo bo
  have hgK := hc.g.key ndo bo clo
  cases dk with
  | @tup _ ws _ hq hws =>
  cases hws with
  | @cons w1 _ _ _ h1 h2 =>
  have h1' : Dp K H6 w1 (keyH rs R ks us o) := h1
  obtain ⟨tk, tv, tr, xs, rfl, t1, t2, t3, t4⟩ := key_at h1' hc.v2.f hc.g bo
  refine ⟨qk, _, 0, _, rfl, rfl, hq, atI_nat (j := 0) rfl, ?_⟩
  have l12 := hc.lk
  have vokK : VsOk ks (o.map (movE rs R o)).length (trL ks us o) := by
    refine ⟨by rw [trL_len]; exact hc.v2.l, fun k hk hrf => ?_, trL_flat hc.v2.f, by omega⟩
    rw [trL_len] at hk
    rw [trL_getD hk, if_pos hrf, List.length_map]
    rcases hc.v2.v k hk hrf with h | ⟨j, h, hj⟩
    · rw [h]
      exact .inl rfl
    · rw [h]
      exact .inr ⟨o.idxOf j, rfl, List.idxOf_lt_length_iff.mpr (infst j (mem_refsAt (mem_refPl.mpr ⟨by rw [← hc.v2.l]; exact hk, hrf⟩) h))⟩
  have hkey : KeyAt K H6 tk rs ks (trL ks us o) (o.map (movE rs R o)) := ⟨⟨tv, tr, xs, t1, t2, t3, t4⟩, hgK, vokK, by rw [List.length_map]; have := hc.ln; omega⟩
  have c6 := hc.same s6
  have hp6 := hp5.keep (KeepT.of s6)
  have S6 := SH5.trans s6
  have lx : fx.length ≤ 90 := by have := len_le hc.x2 hc.x3; have := hc.ln; omega
  have keyPV : PV K H6 13 (.ref tk) := ⟨_, h1', (pl_key (by rw [hc.v2.l]; omega) (by have := hc.ln; omega) (fun r hr => by have := (rc_sk wok (hc.g.rc r hr)).2; omega) (fun r hr => (rc_sk wok (hc.g.rc r hr)).1) hc.v2.f (fun r hr => (hc.g.rc r hr).f)).up (by decide)⟩
  have lnx : (natsV fx).length = fx.length := natsV_len
  refine ⟨_, rfl, _, rfl, c, _, rfl, DGet.at (k := Sum.inr "fixed") c6.c kvC_fixed, xl, _, rfl, .inl (SqL.of c6.x1), by show 2 ≤ sizeLine; decide, fun t0 ht0 => ⟨by show 1 ≤ sizeLine; decide, fun la hla => ?_⟩⟩
  have k1 := Same.new ht0 (.tup [.ref tk, .int ((natsV fx).length : Int)])
  have k2 := Same.new hla (.lst [.ref t0])
  have hla6 : H6 la = none := k1.free hla
  have p0 : PairAt K (upd (upd H6 t0 (.tup [.ref tk, .int ((natsV fx).length : Int)])) la (.lst [.ref t0])) (.ref t0) := ⟨t0, .ref tk, (natsV fx).length, rfl, SqT.of (k2 _ _ upd_same), keyPV.keep (KeepT.of (k1.trans k2)), by omega⟩
  have ela : (upd (upd H6 t0 (.tup [.ref tk, .int ((natsV fx).length : Int)])) la (.lst [.ref t0])) la = some (.lst [.ref t0]) := upd_same
  have s7 := k1.trans k2
  generalize (upd (upd H6 t0 (.tup [.ref tk, .int ((natsV fx).length : Int)])) la (.lst [.ref t0])) = H7 at s7 p0 ela
  refine ⟨6, rfl, by decide, by decide, for_range (lo := 0) (fun i σ F => Same H6 F ∧ (∃ ps : List V, F la = some (.lst ps) ∧ ps.length = i + 1 ∧ ∀ v ∈ ps, PairAt K F v) ∧ ∃ v7 : Option V, σ = [some (.ref a), some (.ref pS), some (.ref p), some (.ref c), some (.ref kl), some (.ref tk), some (.ref la), v7, none, none])
    ⟨s7, ⟨[.ref t0], ela, rfl, fun v hv => by rw [List.mem_singleton.mp hv]; exact p0⟩, none, rfl⟩ ?_ ?_⟩
  · rintro i σ F hi ⟨sF, ⟨ps, eF, lps, hps⟩, v7, rfl⟩
    have hi : i < 6 := by omega
    refine ⟨_, rfl, .inl ⟨rfl, _, SqL.of eF⟩, ?_⟩
    refine ⟨_, rfl, _, rfl, _, _, rfl, rfl, a, ns, _, rfl, (S6.trans sF).seq hS, by omega, fun ci => ⟨_, _, rfl, rfl, _, rfl, _, _, rfl, rfl, _, rfl, fun pi G hpi si srci => ?_⟩⟩
    refine ⟨_, rfl, _, rfl, _, rfl, pi, p, c, tk, F, rs, rd, kl, vl, xl, R, kxs, us, ks, fx, _, _, rfl, srci, si, hpi, hp6.keep (KeepT.of sF), wok, rne, c6.same sF, hkey.keep (KeepT.of sF), fun t F2 u n st ht pu hn => ?_⟩
    have sF2 := Stp.fresh si hpi st
    have e2 := sF2 _ _ eF
    refine ⟨la, _, _, rfl, rfl, e2, lt_line (by omega), fun b o e => by rw [upd_ne (ne_of_none e hla6)]; exact sF2 _ _ (sF _ _ e), ⟨_, upd_same, by rw [List.length_append, lps]; rfl, fun v hv => ?_⟩, _, rfl⟩
    rcases List.mem_append.mp hv with h | h
    · exact ((hps v h).keep (KeepT.of sF2)).keep (keepT_lst e2)
    · rw [List.mem_singleton.mp h]
      exact PairAt.keep (keepT_lst e2) ⟨t, u, n, rfl, ht, pu, hn⟩
  rintro σ F ⟨sF, ⟨ps, eF, lps, hps⟩, v7, rfl⟩
  have lps7 : ps.length ≤ 7 := by omega
  have cF := c6.same sF
  refine ⟨_, rfl, .inl ⟨rfl, _, SqL.of eF⟩, ?_⟩
  refine ⟨_, rfl, _, rfl, c, _, rfl, DGet.at (k := Sum.inr "fixed") cF.c kvC_fixed, xl, _, rfl, .inl (SqL.of cF.x1), by show 2 ≤ sizeLine; decide, fun t1' ht1 => ?_⟩
  have k3 := Same.new ht1 (.tup [.ref tk, .int ((natsV fx).length : Int)])
  have e3 := k3 _ _ eF
  refine ⟨la, _, _, rfl, rfl, e3, lt_line (by omega), ?_⟩
  have p1' : PairAt K (upd F t1' (.tup [.ref tk, .int ((natsV fx).length : Int)])) (.ref t1') := ⟨t1', .ref tk, (natsV fx).length, rfl, SqT.of upd_same, keyPV.keep (KeepT.of (sF.trans k3)), by omega⟩
  have s9 : Same H6 (upd (upd F t1' (.tup [.ref tk, .int ((natsV fx).length : Int)])) la (.lst (ps ++ [.ref t1']))) := fun b o e => by rw [upd_ne (ne_of_none e hla6)]; exact k3 _ _ (sF _ _ e)
  have e9 : (upd (upd F t1' (.tup [.ref tk, .int ((natsV fx).length : Int)])) la (.lst (ps ++ [.ref t1']))) la = some (.lst (ps ++ [.ref t1'])) := upd_same
  have p9 : ∀ v ∈ ps ++ [.ref t1'], PairAt K (upd (upd F t1' (.tup [.ref tk, .int ((natsV fx).length : Int)])) la (.lst (ps ++ [.ref t1']))) v := fun v hv => by
    rcases List.mem_append.mp hv with h | h
    · exact ((hps v h).keep (KeepT.of k3)).keep (keepT_lst e3)
    · rw [List.mem_singleton.mp h]
      exact p1'.keep (keepT_lst e3)
  generalize (upd (upd F t1' (.tup [.ref tk, .int ((natsV fx).length : Int)])) la (.lst (ps ++ [.ref t1']))) = H9 at s9 e9 p9
  generalize ps ++ [.ref t1'] = ps9 at e9 p9
  refine ⟨_, rfl, la, rfl, ⟨_, SqL.of e9⟩, for_list (K := K) (a := la) (xs := ps9) (fun i σ F => Same H9 F ∧ ∃ v8 v9 : Option V, σ = [some (.ref a), some (.ref pS), some (.ref p), some (.ref c), some (.ref kl), some (.ref tk), some (.ref la), v7, v8, v9])
    ⟨Same.refl _, none, none, rfl⟩ (fun i σ F _ P => SqL.of (P.1 _ _ e9)) ?_ ?_⟩
  · rintro i y σ F ey ⟨sF, v8, v9, rfl⟩
    obtain ⟨t, u, n, rfl, ht, ⟨d, du, pu⟩, hn⟩ := p9 y (List.mem_of_getElem? ey)
    have s9F := s9.trans sF
    have cF := c6.same s9F
    have hpF := hp6.keep (KeepT.of s9F)
    have htF := Same.tup sF ht
    have duF := Dp.same sF _ _ du
    refine ⟨_, rfl, _, rfl, kl, _, rfl, .inl ⟨SqL.of cF.k1, fun tt htt => ?_⟩⟩
    have kt := Same.new htt (.tup kxs)
    refine ⟨_, rfl, t, _, 0, _, rfl, rfl, Same.tup kt htF, rfl, _, rfl, t, _, 1, _, rfl, rfl, Same.tup kt htF, rfl, p, tt, u, n, 13, d, rs, kxs, ks, rfl, hpF.keep (KeepT.of kt), wok, SqT.of upd_same, cF.k2.keep (KeepT.of kt), by omega, Dp.same kt _ _ duF, pu, by decide, hn, fun F2 s2 => ?_⟩
    have sA := kt.trans s2
    refine ⟨_, rfl, _, _, _, _, true, rfl, .ty _, .base (.bl _), kit_ty kb_bb, _, rfl, iteF ?_⟩
    refine ⟨_, rfl, _, rfl, _, rfl, _, rfl, t, _, 0, _, rfl, rfl, Same.tup sA htF, rfl, _, rfl, t, _, 1, _, rfl, rfl, Same.tup sA htF, rfl, p, kl, u, n, 13, d, rs, kxs, ks, rfl, hpF.keep (KeepT.of sA), wok, sA _ _ cF.k1, cF.k2.keep (KeepT.of sA), by omega, Dp.same sA _ _ duF, pu, by decide, hn, fun F3 s3 => ?_⟩
    refine ⟨rfl, _, rfl, ifF (by rw [decide_eq_true rfl]; rfl) ?_⟩
    exact ⟨sF.trans (sA.trans s3), _, _, rfl⟩
  · rintro σ F ⟨sF, v8, v9, rfl⟩
    exact q F
end
theorem all_mk {l : PySem.W.OpenLaw} {w : World} {K : PySem.W.Frag} {h : Heap} {mg : Str → Option Value} {fa : Addr} (X : K.In h) (G : h.Ns mainGlobals mg) (hfa : mg "law" = some (.ref fa))
    {f_reference_places : Addr} {od_reference_places an_reference_places : Option Addr} {sl_reference_places : Array (Option Value)} {oc_reference_places kV_reference_places dc_reference_places pm_reference_places cd_reference_places ct_reference_places : Value}
    (A_reference_places : PySem.W.nsIn K mainGlobals "reference_places" = some (some (.ref f_reference_places))) (L_reference_places : K.lookup f_reference_places = some ⟨oc_reference_places, od_reference_places, .func (PySem.W.fnOf "reference_places" "reference_places" (defArgs s_reference_places) (defBody s_reference_places) (defScope s_reference_places) .none kV_reference_places dc_reference_places pm_reference_places an_reference_places cd_reference_places ct_reference_places), sl_reference_places⟩) (C_reference_places : PySem.W.codeIn K cd_reference_places "reference_places" = true) (K_reference_places : PySem.W.keepIn K (.ref f_reference_places) = true)
    {f_places_in_records : Addr} {od_places_in_records an_places_in_records : Option Addr} {sl_places_in_records : Array (Option Value)} {oc_places_in_records kV_places_in_records dc_places_in_records pm_places_in_records cd_places_in_records ct_places_in_records : Value}
    (A_places_in_records : PySem.W.nsIn K mainGlobals "places_in_records" = some (some (.ref f_places_in_records))) (L_places_in_records : K.lookup f_places_in_records = some ⟨oc_places_in_records, od_places_in_records, .func (PySem.W.fnOf "places_in_records" "places_in_records" (defArgs s_places_in_records) (defBody s_places_in_records) (defScope s_places_in_records) .none kV_places_in_records dc_places_in_records pm_places_in_records an_places_in_records cd_places_in_records ct_places_in_records), sl_places_in_records⟩) (C_places_in_records : PySem.W.codeIn K cd_places_in_records "places_in_records" = true) (K_places_in_records : PySem.W.keepIn K (.ref f_places_in_records) = true)
    {f_referred : Addr} {od_referred an_referred : Option Addr} {sl_referred : Array (Option Value)} {oc_referred kV_referred dc_referred pm_referred cd_referred ct_referred : Value}
    (A_referred : PySem.W.nsIn K mainGlobals "referred" = some (some (.ref f_referred))) (L_referred : K.lookup f_referred = some ⟨oc_referred, od_referred, .func (PySem.W.fnOf "referred" "referred" (defArgs s_referred) (defBody s_referred) (defScope s_referred) .none kV_referred dc_referred pm_referred an_referred cd_referred ct_referred), sl_referred⟩) (C_referred : PySem.W.codeIn K cd_referred "referred" = true) (K_referred : PySem.W.keepIn K (.ref f_referred) = true)
    {f_translated : Addr} {od_translated an_translated : Option Addr} {sl_translated : Array (Option Value)} {oc_translated kV_translated dc_translated pm_translated cd_translated ct_translated : Value}
    (A_translated : PySem.W.nsIn K mainGlobals "translated" = some (some (.ref f_translated))) (L_translated : K.lookup f_translated = some ⟨oc_translated, od_translated, .func (PySem.W.fnOf "translated" "translated" (defArgs s_translated) (defBody s_translated) (defScope s_translated) .none kV_translated dc_translated pm_translated an_translated cd_translated ct_translated), sl_translated⟩) (C_translated : PySem.W.codeIn K cd_translated "translated" = true) (K_translated : PySem.W.keepIn K (.ref f_translated) = true)
    {f_translated_record : Addr} {od_translated_record an_translated_record : Option Addr} {sl_translated_record : Array (Option Value)} {oc_translated_record kV_translated_record dc_translated_record pm_translated_record cd_translated_record ct_translated_record : Value}
    (A_translated_record : PySem.W.nsIn K mainGlobals "translated_record" = some (some (.ref f_translated_record))) (L_translated_record : K.lookup f_translated_record = some ⟨oc_translated_record, od_translated_record, .func (PySem.W.fnOf "translated_record" "translated_record" (defArgs s_translated_record) (defBody s_translated_record) (defScope s_translated_record) .none kV_translated_record dc_translated_record pm_translated_record an_translated_record cd_translated_record ct_translated_record), sl_translated_record⟩) (C_translated_record : PySem.W.codeIn K cd_translated_record "translated_record" = true) (K_translated_record : PySem.W.keepIn K (.ref f_translated_record) = true)
    {f_neighbours : Addr} {od_neighbours an_neighbours : Option Addr} {sl_neighbours : Array (Option Value)} {oc_neighbours kV_neighbours dc_neighbours pm_neighbours cd_neighbours ct_neighbours : Value}
    (A_neighbours : PySem.W.nsIn K mainGlobals "neighbours" = some (some (.ref f_neighbours))) (L_neighbours : K.lookup f_neighbours = some ⟨oc_neighbours, od_neighbours, .func (PySem.W.fnOf "neighbours" "neighbours" (defArgs s_neighbours) (defBody s_neighbours) (defScope s_neighbours) .none kV_neighbours dc_neighbours pm_neighbours an_neighbours cd_neighbours ct_neighbours), sl_neighbours⟩) (C_neighbours : PySem.W.codeIn K cd_neighbours "neighbours" = true) (K_neighbours : PySem.W.keepIn K (.ref f_neighbours) = true)
    {f_visit_records : Addr} {od_visit_records an_visit_records : Option Addr} {sl_visit_records : Array (Option Value)} {oc_visit_records kV_visit_records dc_visit_records pm_visit_records cd_visit_records ct_visit_records : Value}
    (A_visit_records : PySem.W.nsIn K mainGlobals "visit_records" = some (some (.ref f_visit_records))) (L_visit_records : K.lookup f_visit_records = some ⟨oc_visit_records, od_visit_records, .func (PySem.W.fnOf "visit_records" "visit_records" (defArgs s_visit_records) (defBody s_visit_records) (defScope s_visit_records) .none kV_visit_records dc_visit_records pm_visit_records an_visit_records cd_visit_records ct_visit_records), sl_visit_records⟩) (C_visit_records : PySem.W.codeIn K cd_visit_records "visit_records" = true) (K_visit_records : PySem.W.keepIn K (.ref f_visit_records) = true)
    {f_number_key : Addr} {od_number_key an_number_key : Option Addr} {sl_number_key : Array (Option Value)} {oc_number_key kV_number_key dc_number_key pm_number_key cd_number_key ct_number_key : Value}
    (A_number_key : PySem.W.nsIn K mainGlobals "number_key" = some (some (.ref f_number_key))) (L_number_key : K.lookup f_number_key = some ⟨oc_number_key, od_number_key, .func (PySem.W.fnOf "number_key" "number_key" (defArgs s_number_key) (defBody s_number_key) (defScope s_number_key) .none kV_number_key dc_number_key pm_number_key an_number_key cd_number_key ct_number_key), sl_number_key⟩) (C_number_key : PySem.W.codeIn K cd_number_key "number_key" = true) (K_number_key : PySem.W.keepIn K (.ref f_number_key) = true)
    {f_is_key : Addr} {od_is_key an_is_key : Option Addr} {sl_is_key : Array (Option Value)} {oc_is_key kV_is_key dc_is_key pm_is_key cd_is_key ct_is_key : Value}
    (A_is_key : PySem.W.nsIn K mainGlobals "is_key" = some (some (.ref f_is_key))) (L_is_key : K.lookup f_is_key = some ⟨oc_is_key, od_is_key, .func (PySem.W.fnOf "is_key" "is_key" (defArgs s_is_key) (defBody s_is_key) (defScope s_is_key) .none kV_is_key dc_is_key pm_is_key an_is_key cd_is_key ct_is_key), sl_is_key⟩) (C_is_key : PySem.W.codeIn K cd_is_key "is_key" = true) (K_is_key : PySem.W.keepIn K (.ref f_is_key) = true)
    {f_has_record_form : Addr} {od_has_record_form an_has_record_form : Option Addr} {sl_has_record_form : Array (Option Value)} {oc_has_record_form kV_has_record_form dc_has_record_form pm_has_record_form cd_has_record_form ct_has_record_form : Value}
    (A_has_record_form : PySem.W.nsIn K mainGlobals "has_record_form" = some (some (.ref f_has_record_form))) (L_has_record_form : K.lookup f_has_record_form = some ⟨oc_has_record_form, od_has_record_form, .func (PySem.W.fnOf "has_record_form" "has_record_form" (defArgs s_has_record_form) (defBody s_has_record_form) (defScope s_has_record_form) .none kV_has_record_form dc_has_record_form pm_has_record_form an_has_record_form cd_has_record_form ct_has_record_form), sl_has_record_form⟩) (C_has_record_form : PySem.W.codeIn K cd_has_record_form "has_record_form" = true) (K_has_record_form : PySem.W.keepIn K (.ref f_has_record_form) = true)
    {f_all_fit : Addr} {od_all_fit an_all_fit : Option Addr} {sl_all_fit : Array (Option Value)} {oc_all_fit kV_all_fit dc_all_fit pm_all_fit cd_all_fit ct_all_fit : Value}
    (A_all_fit : PySem.W.nsIn K mainGlobals "all_fit" = some (some (.ref f_all_fit))) (L_all_fit : K.lookup f_all_fit = some ⟨oc_all_fit, od_all_fit, .func (PySem.W.fnOf "all_fit" "all_fit" (defArgs s_all_fit) (defBody s_all_fit) (defScope s_all_fit) .none kV_all_fit dc_all_fit pm_all_fit an_all_fit cd_all_fit ct_all_fit), sl_all_fit⟩) (C_all_fit : PySem.W.codeIn K cd_all_fit "all_fit" = true) (K_all_fit : PySem.W.keepIn K (.ref f_all_fit) = true)
    {f_has_kind : Addr} {od_has_kind an_has_kind : Option Addr} {sl_has_kind : Array (Option Value)} {oc_has_kind kV_has_kind dc_has_kind pm_has_kind cd_has_kind ct_has_kind : Value}
    (A_has_kind : PySem.W.nsIn K mainGlobals "has_kind" = some (some (.ref f_has_kind))) (L_has_kind : K.lookup f_has_kind = some ⟨oc_has_kind, od_has_kind, .func (PySem.W.fnOf "has_kind" "has_kind" (defArgs s_has_kind) (defBody s_has_kind) (defScope s_has_kind) .none kV_has_kind dc_has_kind pm_has_kind an_has_kind cd_has_kind ct_has_kind), sl_has_kind⟩) (C_has_kind : PySem.W.codeIn K cd_has_kind "has_kind" = true) (K_has_kind : PySem.W.keepIn K (.ref f_has_kind) = true)
    {f_l_cell : Addr} {od_l_cell an_l_cell : Option Addr} {sl_l_cell : Array (Option Value)} {oc_l_cell kV_l_cell dc_l_cell pm_l_cell cd_l_cell ct_l_cell : Value}
    (A_l_cell : PySem.W.nsIn K mainGlobals "_law_cell" = some (some (.ref f_l_cell))) (L_l_cell : K.lookup f_l_cell = some ⟨oc_l_cell, od_l_cell, .func (PySem.W.fnOf "_law_cell" "_law_cell" (defArgs s_l_cell) (defBody s_l_cell) (defScope s_l_cell) .none kV_l_cell dc_l_cell pm_l_cell an_l_cell cd_l_cell ct_l_cell), sl_l_cell⟩) (C_l_cell : PySem.W.codeIn K cd_l_cell "_law_cell" = true) (K_l_cell : PySem.W.keepIn K (.ref f_l_cell) = true)
    {f_l_source : Addr} {od_l_source an_l_source : Option Addr} {sl_l_source : Array (Option Value)} {oc_l_source kV_l_source dc_l_source pm_l_source cd_l_source ct_l_source : Value}
    (A_l_source : PySem.W.nsIn K mainGlobals "_law_source" = some (some (.ref f_l_source))) (L_l_source : K.lookup f_l_source = some ⟨oc_l_source, od_l_source, .func (PySem.W.fnOf "_law_source" "_law_source" (defArgs s_l_source) (defBody s_l_source) (defScope s_l_source) .none kV_l_source dc_l_source pm_l_source an_l_source cd_l_source ct_l_source), sl_l_source⟩) (C_l_source : PySem.W.codeIn K cd_l_source "_law_source" = true) (K_l_source : PySem.W.keepIn K (.ref f_l_source) = true)
    {f_l_pick : Addr} {od_l_pick an_l_pick : Option Addr} {sl_l_pick : Array (Option Value)} {oc_l_pick kV_l_pick dc_l_pick pm_l_pick cd_l_pick ct_l_pick : Value}
    (A_l_pick : PySem.W.nsIn K mainGlobals "_law_pick" = some (some (.ref f_l_pick))) (L_l_pick : K.lookup f_l_pick = some ⟨oc_l_pick, od_l_pick, .func (PySem.W.fnOf "_law_pick" "_law_pick" (defArgs s_l_pick) (defBody s_l_pick) (defScope s_l_pick) .none kV_l_pick dc_l_pick pm_l_pick an_l_pick cd_l_pick ct_l_pick), sl_l_pick⟩) (C_l_pick : PySem.W.codeIn K cd_l_pick "_law_pick" = true) (K_l_pick : PySem.W.keepIn K (.ref f_l_pick) = true)
    {f_l_one : Addr} {od_l_one an_l_one : Option Addr} {sl_l_one : Array (Option Value)} {oc_l_one kV_l_one dc_l_one pm_l_one cd_l_one ct_l_one : Value}
    (A_l_one : PySem.W.nsIn K mainGlobals "_law_one" = some (some (.ref f_l_one))) (L_l_one : K.lookup f_l_one = some ⟨oc_l_one, od_l_one, .func (PySem.W.fnOf "_law_one" "_law_one" (defArgs s_l_one) (defBody s_l_one) (defScope s_l_one) .none kV_l_one dc_l_one pm_l_one an_l_one cd_l_one ct_l_one), sl_l_one⟩) (C_l_one : PySem.W.codeIn K cd_l_one "_law_one" = true) (K_l_one : PySem.W.keepIn K (.ref f_l_one) = true)
    {f_l_names : Addr} {od_l_names an_l_names : Option Addr} {sl_l_names : Array (Option Value)} {oc_l_names kV_l_names dc_l_names pm_l_names cd_l_names ct_l_names : Value}
    (A_l_names : PySem.W.nsIn K mainGlobals "_law_names" = some (some (.ref f_l_names))) (L_l_names : K.lookup f_l_names = some ⟨oc_l_names, od_l_names, .func (PySem.W.fnOf "_law_names" "_law_names" (defArgs s_l_names) (defBody s_l_names) (defScope s_l_names) .none kV_l_names dc_l_names pm_l_names an_l_names cd_l_names ct_l_names), sl_l_names⟩) (C_l_names : PySem.W.codeIn K cd_l_names "_law_names" = true) (K_l_names : PySem.W.keepIn K (.ref f_l_names) = true)
    {f_l_follow : Addr} {od_l_follow an_l_follow : Option Addr} {sl_l_follow : Array (Option Value)} {oc_l_follow kV_l_follow dc_l_follow pm_l_follow cd_l_follow ct_l_follow : Value}
    (A_l_follow : PySem.W.nsIn K mainGlobals "_law_follow" = some (some (.ref f_l_follow))) (L_l_follow : K.lookup f_l_follow = some ⟨oc_l_follow, od_l_follow, .func (PySem.W.fnOf "_law_follow" "_law_follow" (defArgs s_l_follow) (defBody s_l_follow) (defScope s_l_follow) .none kV_l_follow dc_l_follow pm_l_follow an_l_follow cd_l_follow ct_l_follow), sl_l_follow⟩) (C_l_follow : PySem.W.codeIn K cd_l_follow "_law_follow" = true) (K_l_follow : PySem.W.keepIn K (.ref f_l_follow) = true)
    {f_l_meet : Addr} {od_l_meet an_l_meet : Option Addr} {sl_l_meet : Array (Option Value)} {oc_l_meet kV_l_meet dc_l_meet pm_l_meet cd_l_meet ct_l_meet : Value}
    (A_l_meet : PySem.W.nsIn K mainGlobals "_law_meet" = some (some (.ref f_l_meet))) (L_l_meet : K.lookup f_l_meet = some ⟨oc_l_meet, od_l_meet, .func (PySem.W.fnOf "_law_meet" "_law_meet" (defArgs s_l_meet) (defBody s_l_meet) (defScope s_l_meet) .none kV_l_meet dc_l_meet pm_l_meet an_l_meet cd_l_meet ct_l_meet), sl_l_meet⟩) (C_l_meet : PySem.W.codeIn K cd_l_meet "_law_meet" = true) (K_l_meet : PySem.W.keepIn K (.ref f_l_meet) = true)
    {f_l_renumbered : Addr} {od_l_renumbered an_l_renumbered : Option Addr} {sl_l_renumbered : Array (Option Value)} {oc_l_renumbered kV_l_renumbered dc_l_renumbered pm_l_renumbered cd_l_renumbered ct_l_renumbered : Value}
    (A_l_renumbered : PySem.W.nsIn K mainGlobals "_law_renumbered" = some (some (.ref f_l_renumbered))) (L_l_renumbered : K.lookup f_l_renumbered = some ⟨oc_l_renumbered, od_l_renumbered, .func (PySem.W.fnOf "_law_renumbered" "_law_renumbered" (defArgs s_l_renumbered) (defBody s_l_renumbered) (defScope s_l_renumbered) .none kV_l_renumbered dc_l_renumbered pm_l_renumbered an_l_renumbered cd_l_renumbered ct_l_renumbered), sl_l_renumbered⟩) (C_l_renumbered : PySem.W.codeIn K cd_l_renumbered "_law_renumbered" = true) (K_l_renumbered : PySem.W.keepIn K (.ref f_l_renumbered) = true)
    {f_l_key : Addr} {od_l_key an_l_key : Option Addr} {sl_l_key : Array (Option Value)} {oc_l_key kV_l_key dc_l_key pm_l_key cd_l_key ct_l_key : Value}
    (A_l_key : PySem.W.nsIn K mainGlobals "_law_key" = some (some (.ref f_l_key))) (L_l_key : K.lookup f_l_key = some ⟨oc_l_key, od_l_key, .func (PySem.W.fnOf "_law_key" "_law_key" (defArgs s_l_key) (defBody s_l_key) (defScope s_l_key) .none kV_l_key dc_l_key pm_l_key an_l_key cd_l_key ct_l_key), sl_l_key⟩) (C_l_key : PySem.W.codeIn K cd_l_key "_law_key" = true) (K_l_key : PySem.W.keepIn K (.ref f_l_key) = true)
    {f_l_drawn_value : Addr} {od_l_drawn_value an_l_drawn_value : Option Addr} {sl_l_drawn_value : Array (Option Value)} {oc_l_drawn_value kV_l_drawn_value dc_l_drawn_value pm_l_drawn_value cd_l_drawn_value ct_l_drawn_value : Value}
    (A_l_drawn_value : PySem.W.nsIn K mainGlobals "_law_drawn_value" = some (some (.ref f_l_drawn_value))) (L_l_drawn_value : K.lookup f_l_drawn_value = some ⟨oc_l_drawn_value, od_l_drawn_value, .func (PySem.W.fnOf "_law_drawn_value" "_law_drawn_value" (defArgs s_l_drawn_value) (defBody s_l_drawn_value) (defScope s_l_drawn_value) .none kV_l_drawn_value dc_l_drawn_value pm_l_drawn_value an_l_drawn_value cd_l_drawn_value ct_l_drawn_value), sl_l_drawn_value⟩) (C_l_drawn_value : PySem.W.codeIn K cd_l_drawn_value "_law_drawn_value" = true) (K_l_drawn_value : PySem.W.keepIn K (.ref f_l_drawn_value) = true)
    {f_l_number_kind : Addr} {od_l_number_kind an_l_number_kind : Option Addr} {sl_l_number_kind : Array (Option Value)} {oc_l_number_kind kV_l_number_kind dc_l_number_kind pm_l_number_kind cd_l_number_kind ct_l_number_kind : Value}
    (A_l_number_kind : PySem.W.nsIn K mainGlobals "_law_number_kind" = some (some (.ref f_l_number_kind))) (L_l_number_kind : K.lookup f_l_number_kind = some ⟨oc_l_number_kind, od_l_number_kind, .func (PySem.W.fnOf "_law_number_kind" "_law_number_kind" (defArgs s_l_number_kind) (defBody s_l_number_kind) (defScope s_l_number_kind) .none kV_l_number_kind dc_l_number_kind pm_l_number_kind an_l_number_kind cd_l_number_kind ct_l_number_kind), sl_l_number_kind⟩) (C_l_number_kind : PySem.W.codeIn K cd_l_number_kind "_law_number_kind" = true) (K_l_number_kind : PySem.W.keepIn K (.ref f_l_number_kind) = true)
    {f_l_world : Addr} {od_l_world an_l_world : Option Addr} {sl_l_world : Array (Option Value)} {oc_l_world kV_l_world dc_l_world pm_l_world cd_l_world ct_l_world : Value}
    (A_l_world : PySem.W.nsIn K mainGlobals "_law_world" = some (some (.ref f_l_world))) (L_l_world : K.lookup f_l_world = some ⟨oc_l_world, od_l_world, .func (PySem.W.fnOf "_law_world" "_law_world" (defArgs s_l_world) (defBody s_l_world) (defScope s_l_world) .none kV_l_world dc_l_world pm_l_world an_l_world cd_l_world ct_l_world), sl_l_world⟩) (C_l_world : PySem.W.codeIn K cd_l_world "_law_world" = true) (K_l_world : PySem.W.keepIn K (.ref f_l_world) = true)
    {f_l_shuffled : Addr} {od_l_shuffled an_l_shuffled : Option Addr} {sl_l_shuffled : Array (Option Value)} {oc_l_shuffled kV_l_shuffled dc_l_shuffled pm_l_shuffled cd_l_shuffled ct_l_shuffled : Value}
    (A_l_shuffled : PySem.W.nsIn K mainGlobals "_law_shuffled" = some (some (.ref f_l_shuffled))) (L_l_shuffled : K.lookup f_l_shuffled = some ⟨oc_l_shuffled, od_l_shuffled, .func (PySem.W.fnOf "_law_shuffled" "_law_shuffled" (defArgs s_l_shuffled) (defBody s_l_shuffled) (defScope s_l_shuffled) .none kV_l_shuffled dc_l_shuffled pm_l_shuffled an_l_shuffled cd_l_shuffled ct_l_shuffled), sl_l_shuffled⟩) (C_l_shuffled : PySem.W.codeIn K cd_l_shuffled "_law_shuffled" = true) (K_l_shuffled : PySem.W.keepIn K (.ref f_l_shuffled) = true)
    {f_l_moved : Addr} {od_l_moved an_l_moved : Option Addr} {sl_l_moved : Array (Option Value)} {oc_l_moved kV_l_moved dc_l_moved pm_l_moved cd_l_moved ct_l_moved : Value}
    (A_l_moved : PySem.W.nsIn K mainGlobals "_law_moved" = some (some (.ref f_l_moved))) (L_l_moved : K.lookup f_l_moved = some ⟨oc_l_moved, od_l_moved, .func (PySem.W.fnOf "_law_moved" "_law_moved" (defArgs s_l_moved) (defBody s_l_moved) (defScope s_l_moved) .none kV_l_moved dc_l_moved pm_l_moved an_l_moved cd_l_moved ct_l_moved), sl_l_moved⟩) (C_l_moved : PySem.W.codeIn K cd_l_moved "_law_moved" = true) (K_l_moved : PySem.W.keepIn K (.ref f_l_moved) = true)
    {f_l_heap : Addr} {od_l_heap an_l_heap : Option Addr} {sl_l_heap : Array (Option Value)} {oc_l_heap kV_l_heap dc_l_heap pm_l_heap cd_l_heap ct_l_heap : Value}
    (A_l_heap : PySem.W.nsIn K mainGlobals "_law_heap" = some (some (.ref f_l_heap))) (L_l_heap : K.lookup f_l_heap = some ⟨oc_l_heap, od_l_heap, .func (PySem.W.fnOf "_law_heap" "_law_heap" (defArgs s_l_heap) (defBody s_l_heap) (defScope s_l_heap) .none kV_l_heap dc_l_heap pm_l_heap an_l_heap cd_l_heap ct_l_heap), sl_l_heap⟩) (C_l_heap : PySem.W.codeIn K cd_l_heap "_law_heap" = true) (K_l_heap : PySem.W.keepIn K (.ref f_l_heap) = true)
    {f_l_variables : Addr} {od_l_variables an_l_variables : Option Addr} {sl_l_variables : Array (Option Value)} {oc_l_variables kV_l_variables dc_l_variables pm_l_variables cd_l_variables ct_l_variables : Value}
    (A_l_variables : PySem.W.nsIn K mainGlobals "_law_variables" = some (some (.ref f_l_variables))) (L_l_variables : K.lookup f_l_variables = some ⟨oc_l_variables, od_l_variables, .func (PySem.W.fnOf "_law_variables" "_law_variables" (defArgs s_l_variables) (defBody s_l_variables) (defScope s_l_variables) .none kV_l_variables dc_l_variables pm_l_variables an_l_variables cd_l_variables ct_l_variables), sl_l_variables⟩) (C_l_variables : PySem.W.codeIn K cd_l_variables "_law_variables" = true) (K_l_variables : PySem.W.keepIn K (.ref f_l_variables) = true)
    {f_l_case : Addr} {od_l_case an_l_case : Option Addr} {sl_l_case : Array (Option Value)} {oc_l_case kV_l_case dc_l_case pm_l_case cd_l_case ct_l_case : Value}
    (A_l_case : PySem.W.nsIn K mainGlobals "_law_case" = some (some (.ref f_l_case))) (L_l_case : K.lookup f_l_case = some ⟨oc_l_case, od_l_case, .func (PySem.W.fnOf "_law_case" "_law_case" (defArgs s_l_case) (defBody s_l_case) (defScope s_l_case) .none kV_l_case dc_l_case pm_l_case an_l_case cd_l_case ct_l_case), sl_l_case⟩) (C_l_case : PySem.W.codeIn K cd_l_case "_law_case" = true) (K_l_case : PySem.W.keepIn K (.ref f_l_case) = true)
    {f_l_frozen : Addr} {od_l_frozen an_l_frozen : Option Addr} {sl_l_frozen : Array (Option Value)} {oc_l_frozen kV_l_frozen dc_l_frozen pm_l_frozen cd_l_frozen ct_l_frozen : Value}
    (A_l_frozen : PySem.W.nsIn K mainGlobals "_law_frozen" = some (some (.ref f_l_frozen))) (L_l_frozen : K.lookup f_l_frozen = some ⟨oc_l_frozen, od_l_frozen, .func (PySem.W.fnOf "_law_frozen" "_law_frozen" (defArgs s_l_frozen) (defBody s_l_frozen) (defScope s_l_frozen) .none kV_l_frozen dc_l_frozen pm_l_frozen an_l_frozen cd_l_frozen ct_l_frozen), sl_l_frozen⟩) (C_l_frozen : PySem.W.codeIn K cd_l_frozen "_law_frozen" = true) (K_l_frozen : PySem.W.keepIn K (.ref f_l_frozen) = true)
    {f_l_strange : Addr} {od_l_strange an_l_strange : Option Addr} {sl_l_strange : Array (Option Value)} {oc_l_strange kV_l_strange dc_l_strange pm_l_strange cd_l_strange ct_l_strange : Value}
    (A_l_strange : PySem.W.nsIn K mainGlobals "_law_strange" = some (some (.ref f_l_strange))) (L_l_strange : K.lookup f_l_strange = some ⟨oc_l_strange, od_l_strange, .func (PySem.W.fnOf "_law_strange" "_law_strange" (defArgs s_l_strange) (defBody s_l_strange) (defScope s_l_strange) .none kV_l_strange dc_l_strange pm_l_strange an_l_strange cd_l_strange ct_l_strange), sl_l_strange⟩) (C_l_strange : PySem.W.codeIn K cd_l_strange "_law_strange" = true) (K_l_strange : PySem.W.keepIn K (.ref f_l_strange) = true)
    {f_l_with_other_part : Addr} {od_l_with_other_part an_l_with_other_part : Option Addr} {sl_l_with_other_part : Array (Option Value)} {oc_l_with_other_part kV_l_with_other_part dc_l_with_other_part pm_l_with_other_part cd_l_with_other_part ct_l_with_other_part : Value}
    (A_l_with_other_part : PySem.W.nsIn K mainGlobals "_law_with_other_part" = some (some (.ref f_l_with_other_part))) (L_l_with_other_part : K.lookup f_l_with_other_part = some ⟨oc_l_with_other_part, od_l_with_other_part, .func (PySem.W.fnOf "_law_with_other_part" "_law_with_other_part" (defArgs s_l_with_other_part) (defBody s_l_with_other_part) (defScope s_l_with_other_part) .none kV_l_with_other_part dc_l_with_other_part pm_l_with_other_part an_l_with_other_part cd_l_with_other_part ct_l_with_other_part), sl_l_with_other_part⟩) (C_l_with_other_part : PySem.W.codeIn K cd_l_with_other_part "_law_with_other_part" = true) (K_l_with_other_part : PySem.W.keepIn K (.ref f_l_with_other_part) = true)
    {f_l_with_other_records : Addr} {od_l_with_other_records an_l_with_other_records : Option Addr} {sl_l_with_other_records : Array (Option Value)} {oc_l_with_other_records kV_l_with_other_records dc_l_with_other_records pm_l_with_other_records cd_l_with_other_records ct_l_with_other_records : Value}
    (A_l_with_other_records : PySem.W.nsIn K mainGlobals "_law_with_other_records" = some (some (.ref f_l_with_other_records))) (L_l_with_other_records : K.lookup f_l_with_other_records = some ⟨oc_l_with_other_records, od_l_with_other_records, .func (PySem.W.fnOf "_law_with_other_records" "_law_with_other_records" (defArgs s_l_with_other_records) (defBody s_l_with_other_records) (defScope s_l_with_other_records) .none kV_l_with_other_records dc_l_with_other_records pm_l_with_other_records an_l_with_other_records cd_l_with_other_records ct_l_with_other_records), sl_l_with_other_records⟩) (C_l_with_other_records : PySem.W.codeIn K cd_l_with_other_records "_law_with_other_records" = true) (K_l_with_other_records : PySem.W.keepIn K (.ref f_l_with_other_records) = true)
    {f_l_with_other_form : Addr} {od_l_with_other_form an_l_with_other_form : Option Addr} {sl_l_with_other_form : Array (Option Value)} {oc_l_with_other_form kV_l_with_other_form dc_l_with_other_form pm_l_with_other_form cd_l_with_other_form ct_l_with_other_form : Value}
    (A_l_with_other_form : PySem.W.nsIn K mainGlobals "_law_with_other_form" = some (some (.ref f_l_with_other_form))) (L_l_with_other_form : K.lookup f_l_with_other_form = some ⟨oc_l_with_other_form, od_l_with_other_form, .func (PySem.W.fnOf "_law_with_other_form" "_law_with_other_form" (defArgs s_l_with_other_form) (defBody s_l_with_other_form) (defScope s_l_with_other_form) .none kV_l_with_other_form dc_l_with_other_form pm_l_with_other_form an_l_with_other_form cd_l_with_other_form ct_l_with_other_form), sl_l_with_other_form⟩) (C_l_with_other_form : PySem.W.codeIn K cd_l_with_other_form "_law_with_other_form" = true) (K_l_with_other_form : PySem.W.keepIn K (.ref f_l_with_other_form) = true)
    {f_l_garbage : Addr} {od_l_garbage an_l_garbage : Option Addr} {sl_l_garbage : Array (Option Value)} {oc_l_garbage kV_l_garbage dc_l_garbage pm_l_garbage cd_l_garbage ct_l_garbage : Value}
    (A_l_garbage : PySem.W.nsIn K mainGlobals "_law_garbage" = some (some (.ref f_l_garbage))) (L_l_garbage : K.lookup f_l_garbage = some ⟨oc_l_garbage, od_l_garbage, .func (PySem.W.fnOf "_law_garbage" "_law_garbage" (defArgs s_l_garbage) (defBody s_l_garbage) (defScope s_l_garbage) .none kV_l_garbage dc_l_garbage pm_l_garbage an_l_garbage cd_l_garbage ct_l_garbage), sl_l_garbage⟩) (C_l_garbage : PySem.W.codeIn K cd_l_garbage "_law_garbage" = true) (K_l_garbage : PySem.W.keepIn K (.ref f_l_garbage) = true)
    {f_l_asked : Addr} {od_l_asked an_l_asked : Option Addr} {sl_l_asked : Array (Option Value)} {oc_l_asked kV_l_asked dc_l_asked pm_l_asked cd_l_asked ct_l_asked : Value}
    (A_l_asked : PySem.W.nsIn K mainGlobals "_law_asked" = some (some (.ref f_l_asked))) (L_l_asked : K.lookup f_l_asked = some ⟨oc_l_asked, od_l_asked, .func (PySem.W.fnOf "_law_asked" "_law_asked" (defArgs s_l_asked) (defBody s_l_asked) (defScope s_l_asked) .none kV_l_asked dc_l_asked pm_l_asked an_l_asked cd_l_asked ct_l_asked), sl_l_asked⟩) (C_l_asked : PySem.W.codeIn K cd_l_asked "_law_asked" = true) (K_l_asked : PySem.W.keepIn K (.ref f_l_asked) = true)
    {f_l_fits : Addr} {od_l_fits an_l_fits : Option Addr} {sl_l_fits : Array (Option Value)} {oc_l_fits kV_l_fits dc_l_fits pm_l_fits cd_l_fits ct_l_fits : Value}
    (A_l_fits : PySem.W.nsIn K mainGlobals "_law_fits" = some (some (.ref f_l_fits))) (L_l_fits : K.lookup f_l_fits = some ⟨oc_l_fits, od_l_fits, .func (PySem.W.fnOf "_law_fits" "_law_fits" (defArgs s_l_fits) (defBody s_l_fits) (defScope s_l_fits) .none kV_l_fits dc_l_fits pm_l_fits an_l_fits cd_l_fits ct_l_fits), sl_l_fits⟩) (C_l_fits : PySem.W.codeIn K cd_l_fits "_law_fits" = true) (K_l_fits : PySem.W.keepIn K (.ref f_l_fits) = true)
    {f_l_formed : Addr} {od_l_formed an_l_formed : Option Addr} {sl_l_formed : Array (Option Value)} {oc_l_formed kV_l_formed dc_l_formed pm_l_formed cd_l_formed ct_l_formed : Value}
    (A_l_formed : PySem.W.nsIn K mainGlobals "_law_formed" = some (some (.ref f_l_formed))) (L_l_formed : K.lookup f_l_formed = some ⟨oc_l_formed, od_l_formed, .func (PySem.W.fnOf "_law_formed" "_law_formed" (defArgs s_l_formed) (defBody s_l_formed) (defScope s_l_formed) .none kV_l_formed dc_l_formed pm_l_formed an_l_formed cd_l_formed ct_l_formed), sl_l_formed⟩) (C_l_formed : PySem.W.codeIn K cd_l_formed "_law_formed" = true) (K_l_formed : PySem.W.keepIn K (.ref f_l_formed) = true)
    {f_l_judge : Addr} {od_l_judge an_l_judge : Option Addr} {sl_l_judge : Array (Option Value)} {oc_l_judge kV_l_judge dc_l_judge pm_l_judge cd_l_judge ct_l_judge : Value}
    (A_l_judge : PySem.W.nsIn K mainGlobals "_law_judge" = some (some (.ref f_l_judge))) (L_l_judge : K.lookup f_l_judge = some ⟨oc_l_judge, od_l_judge, .func (PySem.W.fnOf "_law_judge" "_law_judge" (defArgs s_l_judge) (defBody s_l_judge) (defScope s_l_judge) .none kV_l_judge dc_l_judge pm_l_judge an_l_judge cd_l_judge ct_l_judge), sl_l_judge⟩) (C_l_judge : PySem.W.codeIn K cd_l_judge "_law_judge" = true) (K_l_judge : PySem.W.keepIn K (.ref f_l_judge) = true)
    {f_law : Addr} {od_law an_law : Option Addr} {sl_law : Array (Option Value)} {oc_law kV_law dc_law pm_law cd_law ct_law : Value}
    (A_law : PySem.W.nsIn K mainGlobals "law" = some (some (.ref f_law))) (L_law : K.lookup f_law = some ⟨oc_law, od_law, .func (PySem.W.fnOf "law" "law" (defArgs s_law) (defBody s_law) (defScope s_law) .none kV_law dc_law pm_law an_law cd_law ct_law), sl_law⟩) (C_law : PySem.W.codeIn K cd_law "law" = true) (K_law : PySem.W.keepIn K (.ref f_law) = true)
    (Z_all : PySem.W.nsIn K mainGlobals "all" = some none)
    (Z_bool : PySem.W.nsIn K mainGlobals "bool" = some none)
    (Z_enumerate : PySem.W.nsIn K mainGlobals "enumerate" = some none)
    (Z_int : PySem.W.nsIn K mainGlobals "int" = some none)
    (Z_isinstance : PySem.W.nsIn K mainGlobals "isinstance" = some none)
    (Z_len : PySem.W.nsIn K mainGlobals "len" = some none)
    (Z_list : PySem.W.nsIn K mainGlobals "list" = some none)
    (Z_max : PySem.W.nsIn K mainGlobals "max" = some none)
    (Z_min : PySem.W.nsIn K mainGlobals "min" = some none)
    (Z_range : PySem.W.nsIn K mainGlobals "range" = some none)
    (Z_reversed : PySem.W.nsIn K mainGlobals "reversed" = some none)
    (Z_sorted : PySem.W.nsIn K mainGlobals "sorted" = some none)
    (Z_str : PySem.W.nsIn K mainGlobals "str" = some none)
    (Z_tuple : PySem.W.nsIn K mainGlobals "tuple" = some none)
    (Z_zip : PySem.W.nsIn K mainGlobals "zip" = some none) :
    ∃ fd : FuncData, (∀ (s : Shared) (v : Value), BindsTo s fd ⟨[v], []⟩ [("_law_script", v)]) ∧ ∀ base : Heap, K.In base → base.Ns mainGlobals mg → FnOk l.prog w K mg base CX0 20 fa fd ["_law_script"] (spLaw K) := by
  have e := hfa.symm.trans (PySem.W.mg_of X G A_law)
  cases e
  let T : Txt w K mg := {
    a_reference_places := f_reference_places, d_reference_places := _, F_reference_places := fun_mk (st := s_reference_places) L_reference_places C_reference_places K_reference_places, b_reference_places := (fun_mk (st := s_reference_places) L_reference_places C_reference_places K_reference_places).binds (ps := p_reference_places) (fun _ _ _ _ _ _ us hl => match us, hl with | [_], _ => rfl), m_reference_places := PySem.W.mg_of X G A_reference_places,
    a_places_in_records := f_places_in_records, d_places_in_records := _, F_places_in_records := fun_mk (st := s_places_in_records) L_places_in_records C_places_in_records K_places_in_records, b_places_in_records := (fun_mk (st := s_places_in_records) L_places_in_records C_places_in_records K_places_in_records).binds (ps := p_places_in_records) (fun _ _ _ _ _ _ us hl => match us, hl with | [_], _ => rfl), m_places_in_records := PySem.W.mg_of X G A_places_in_records,
    a_referred := f_referred, d_referred := _, F_referred := fun_mk (st := s_referred) L_referred C_referred K_referred, b_referred := (fun_mk (st := s_referred) L_referred C_referred K_referred).binds (ps := p_referred) (fun _ _ _ _ _ _ us hl => match us, hl with | [_, _], _ => rfl), m_referred := PySem.W.mg_of X G A_referred,
    a_translated := f_translated, d_translated := _, F_translated := fun_mk (st := s_translated) L_translated C_translated K_translated, b_translated := (fun_mk (st := s_translated) L_translated C_translated K_translated).binds (ps := p_translated) (fun _ _ _ _ _ _ us hl => match us, hl with | [_, _, _], _ => rfl), m_translated := PySem.W.mg_of X G A_translated,
    a_translated_record := f_translated_record, d_translated_record := _, F_translated_record := fun_mk (st := s_translated_record) L_translated_record C_translated_record K_translated_record, b_translated_record := (fun_mk (st := s_translated_record) L_translated_record C_translated_record K_translated_record).binds (ps := p_translated_record) (fun _ _ _ _ _ _ us hl => match us, hl with | [_, _, _], _ => rfl), m_translated_record := PySem.W.mg_of X G A_translated_record,
    a_neighbours := f_neighbours, d_neighbours := _, F_neighbours := fun_mk (st := s_neighbours) L_neighbours C_neighbours K_neighbours, b_neighbours := (fun_mk (st := s_neighbours) L_neighbours C_neighbours K_neighbours).binds (ps := p_neighbours) (fun _ _ _ _ _ _ us hl => match us, hl with | [_, _], _ => rfl), m_neighbours := PySem.W.mg_of X G A_neighbours,
    a_visit_records := f_visit_records, d_visit_records := _, F_visit_records := fun_mk (st := s_visit_records) L_visit_records C_visit_records K_visit_records, b_visit_records := (fun_mk (st := s_visit_records) L_visit_records C_visit_records K_visit_records).binds (ps := p_visit_records) (fun _ _ _ _ _ _ us hl => match us, hl with | [_, _, _, _], _ => rfl), m_visit_records := PySem.W.mg_of X G A_visit_records,
    a_number_key := f_number_key, d_number_key := _, F_number_key := fun_mk (st := s_number_key) L_number_key C_number_key K_number_key, b_number_key := (fun_mk (st := s_number_key) L_number_key C_number_key K_number_key).binds (ps := p_number_key) (fun _ _ _ _ _ _ us hl => match us, hl with | [_, _, _, _, _], _ => rfl), m_number_key := PySem.W.mg_of X G A_number_key,
    a_is_key := f_is_key, d_is_key := _, F_is_key := fun_mk (st := s_is_key) L_is_key C_is_key K_is_key, b_is_key := (fun_mk (st := s_is_key) L_is_key C_is_key K_is_key).binds (ps := p_is_key) (fun _ _ _ _ _ _ us hl => match us, hl with | [_, _, _, _], _ => rfl), m_is_key := PySem.W.mg_of X G A_is_key,
    a_has_record_form := f_has_record_form, d_has_record_form := _, F_has_record_form := fun_mk (st := s_has_record_form) L_has_record_form C_has_record_form K_has_record_form, b_has_record_form := (fun_mk (st := s_has_record_form) L_has_record_form C_has_record_form K_has_record_form).binds (ps := p_has_record_form) (fun _ _ _ _ _ _ us hl => match us, hl with | [_, _], _ => rfl), m_has_record_form := PySem.W.mg_of X G A_has_record_form,
    a_all_fit := f_all_fit, d_all_fit := _, F_all_fit := fun_mk (st := s_all_fit) L_all_fit C_all_fit K_all_fit, b_all_fit := (fun_mk (st := s_all_fit) L_all_fit C_all_fit K_all_fit).binds (ps := p_all_fit) (fun _ _ _ _ _ _ us hl => match us, hl with | [_, _, _], _ => rfl), m_all_fit := PySem.W.mg_of X G A_all_fit,
    a_has_kind := f_has_kind, d_has_kind := _, F_has_kind := fun_mk (st := s_has_kind) L_has_kind C_has_kind K_has_kind, b_has_kind := (fun_mk (st := s_has_kind) L_has_kind C_has_kind K_has_kind).binds (ps := p_has_kind) (fun _ _ _ _ _ _ us hl => match us, hl with | [_, _, _], _ => rfl), m_has_kind := PySem.W.mg_of X G A_has_kind,
    a_l_cell := f_l_cell, d_l_cell := _, F_l_cell := fun_mk (st := s_l_cell) L_l_cell C_l_cell K_l_cell, b_l_cell := (fun_mk (st := s_l_cell) L_l_cell C_l_cell K_l_cell).binds (ps := p_l_cell) (fun _ _ _ _ _ _ us hl => match us, hl with | [_, _], _ => rfl), m_l_cell := PySem.W.mg_of X G A_l_cell,
    a_l_source := f_l_source, d_l_source := _, F_l_source := fun_mk (st := s_l_source) L_l_source C_l_source K_l_source, b_l_source := (fun_mk (st := s_l_source) L_l_source C_l_source K_l_source).binds (ps := p_l_source) (fun _ _ _ _ _ _ us hl => match us, hl with | [_], _ => rfl), m_l_source := PySem.W.mg_of X G A_l_source,
    a_l_pick := f_l_pick, d_l_pick := _, F_l_pick := fun_mk (st := s_l_pick) L_l_pick C_l_pick K_l_pick, b_l_pick := (fun_mk (st := s_l_pick) L_l_pick C_l_pick K_l_pick).binds (ps := p_l_pick) (fun _ _ _ _ _ _ us hl => match us, hl with | [_, _], _ => rfl), m_l_pick := PySem.W.mg_of X G A_l_pick,
    a_l_one := f_l_one, d_l_one := _, F_l_one := fun_mk (st := s_l_one) L_l_one C_l_one K_l_one, b_l_one := (fun_mk (st := s_l_one) L_l_one C_l_one K_l_one).binds (ps := p_l_one) (fun _ _ _ _ _ _ us hl => match us, hl with | [_, _], _ => rfl), m_l_one := PySem.W.mg_of X G A_l_one,
    a_l_names := f_l_names, d_l_names := _, F_l_names := fun_mk (st := s_l_names) L_l_names C_l_names K_l_names, b_l_names := (fun_mk (st := s_l_names) L_l_names C_l_names K_l_names).binds (ps := p_l_names) (fun _ _ _ _ _ _ us hl => match us, hl with | [_], _ => rfl), m_l_names := PySem.W.mg_of X G A_l_names,
    a_l_follow := f_l_follow, d_l_follow := _, F_l_follow := fun_mk (st := s_l_follow) L_l_follow C_l_follow K_l_follow, b_l_follow := (fun_mk (st := s_l_follow) L_l_follow C_l_follow K_l_follow).binds (ps := p_l_follow) (fun _ _ _ _ _ _ us hl => match us, hl with | [_, _, _], _ => rfl), m_l_follow := PySem.W.mg_of X G A_l_follow,
    a_l_meet := f_l_meet, d_l_meet := _, F_l_meet := fun_mk (st := s_l_meet) L_l_meet C_l_meet K_l_meet, b_l_meet := (fun_mk (st := s_l_meet) L_l_meet C_l_meet K_l_meet).binds (ps := p_l_meet) (fun _ _ _ _ _ _ us hl => match us, hl with | [_, _, _], _ => rfl), m_l_meet := PySem.W.mg_of X G A_l_meet,
    a_l_renumbered := f_l_renumbered, d_l_renumbered := _, F_l_renumbered := fun_mk (st := s_l_renumbered) L_l_renumbered C_l_renumbered K_l_renumbered, b_l_renumbered := (fun_mk (st := s_l_renumbered) L_l_renumbered C_l_renumbered K_l_renumbered).binds (ps := p_l_renumbered) (fun _ _ _ _ _ _ us hl => match us, hl with | [_, _, _], _ => rfl), m_l_renumbered := PySem.W.mg_of X G A_l_renumbered,
    a_l_key := f_l_key, d_l_key := _, F_l_key := fun_mk (st := s_l_key) L_l_key C_l_key K_l_key, b_l_key := (fun_mk (st := s_l_key) L_l_key C_l_key K_l_key).binds (ps := p_l_key) (fun _ _ _ _ _ _ us hl => match us, hl with | [_, _, _, _], _ => rfl), m_l_key := PySem.W.mg_of X G A_l_key,
    a_l_drawn_value := f_l_drawn_value, d_l_drawn_value := _, F_l_drawn_value := fun_mk (st := s_l_drawn_value) L_l_drawn_value C_l_drawn_value K_l_drawn_value, b_l_drawn_value := (fun_mk (st := s_l_drawn_value) L_l_drawn_value C_l_drawn_value K_l_drawn_value).binds (ps := p_l_drawn_value) (fun _ _ _ _ _ _ us hl => match us, hl with | [_, _, _], _ => rfl), m_l_drawn_value := PySem.W.mg_of X G A_l_drawn_value,
    a_l_number_kind := f_l_number_kind, d_l_number_kind := _, F_l_number_kind := fun_mk (st := s_l_number_kind) L_l_number_kind C_l_number_kind K_l_number_kind, b_l_number_kind := (fun_mk (st := s_l_number_kind) L_l_number_kind C_l_number_kind K_l_number_kind).binds (ps := p_l_number_kind) (fun _ _ _ _ _ _ us hl => match us, hl with | [_], _ => rfl), m_l_number_kind := PySem.W.mg_of X G A_l_number_kind,
    a_l_world := f_l_world, d_l_world := _, F_l_world := fun_mk (st := s_l_world) L_l_world C_l_world K_l_world, b_l_world := (fun_mk (st := s_l_world) L_l_world C_l_world K_l_world).binds (ps := p_l_world) (fun _ _ _ _ _ _ us hl => match us, hl with | [_, _], _ => rfl), m_l_world := PySem.W.mg_of X G A_l_world,
    a_l_shuffled := f_l_shuffled, d_l_shuffled := _, F_l_shuffled := fun_mk (st := s_l_shuffled) L_l_shuffled C_l_shuffled K_l_shuffled, b_l_shuffled := (fun_mk (st := s_l_shuffled) L_l_shuffled C_l_shuffled K_l_shuffled).binds (ps := p_l_shuffled) (fun _ _ _ _ _ _ us hl => match us, hl with | [_, _], _ => rfl), m_l_shuffled := PySem.W.mg_of X G A_l_shuffled,
    a_l_moved := f_l_moved, d_l_moved := _, F_l_moved := fun_mk (st := s_l_moved) L_l_moved C_l_moved K_l_moved, b_l_moved := (fun_mk (st := s_l_moved) L_l_moved C_l_moved K_l_moved).binds (ps := p_l_moved) (fun _ _ _ _ _ _ us hl => match us, hl with | [_, _], _ => rfl), m_l_moved := PySem.W.mg_of X G A_l_moved,
    a_l_heap := f_l_heap, d_l_heap := _, F_l_heap := fun_mk (st := s_l_heap) L_l_heap C_l_heap K_l_heap, b_l_heap := (fun_mk (st := s_l_heap) L_l_heap C_l_heap K_l_heap).binds (ps := p_l_heap) (fun _ _ _ _ _ _ us hl => match us, hl with | [_, _, _, _], _ => rfl), m_l_heap := PySem.W.mg_of X G A_l_heap,
    a_l_variables := f_l_variables, d_l_variables := _, F_l_variables := fun_mk (st := s_l_variables) L_l_variables C_l_variables K_l_variables, b_l_variables := (fun_mk (st := s_l_variables) L_l_variables C_l_variables K_l_variables).binds (ps := p_l_variables) (fun _ _ _ _ _ _ us hl => match us, hl with | [_, _, _], _ => rfl), m_l_variables := PySem.W.mg_of X G A_l_variables,
    a_l_case := f_l_case, d_l_case := _, F_l_case := fun_mk (st := s_l_case) L_l_case C_l_case K_l_case, b_l_case := (fun_mk (st := s_l_case) L_l_case C_l_case K_l_case).binds (ps := p_l_case) (fun _ _ _ _ _ _ us hl => match us, hl with | [_, _], _ => rfl), m_l_case := PySem.W.mg_of X G A_l_case,
    a_l_frozen := f_l_frozen, d_l_frozen := _, F_l_frozen := fun_mk (st := s_l_frozen) L_l_frozen C_l_frozen K_l_frozen, b_l_frozen := (fun_mk (st := s_l_frozen) L_l_frozen C_l_frozen K_l_frozen).binds (ps := p_l_frozen) (fun _ _ _ _ _ _ us hl => match us, hl with | [_, _], _ => rfl), m_l_frozen := PySem.W.mg_of X G A_l_frozen,
    a_l_strange := f_l_strange, d_l_strange := _, F_l_strange := fun_mk (st := s_l_strange) L_l_strange C_l_strange K_l_strange, b_l_strange := (fun_mk (st := s_l_strange) L_l_strange C_l_strange K_l_strange).binds (ps := p_l_strange) (fun _ _ _ _ _ _ us hl => match us, hl with | [_, _, _], _ => rfl), m_l_strange := PySem.W.mg_of X G A_l_strange,
    a_l_with_other_part := f_l_with_other_part, d_l_with_other_part := _, F_l_with_other_part := fun_mk (st := s_l_with_other_part) L_l_with_other_part C_l_with_other_part K_l_with_other_part, b_l_with_other_part := (fun_mk (st := s_l_with_other_part) L_l_with_other_part C_l_with_other_part K_l_with_other_part).binds (ps := p_l_with_other_part) (fun _ _ _ _ _ _ us hl => match us, hl with | [_, _, _, _], _ => rfl), m_l_with_other_part := PySem.W.mg_of X G A_l_with_other_part,
    a_l_with_other_records := f_l_with_other_records, d_l_with_other_records := _, F_l_with_other_records := fun_mk (st := s_l_with_other_records) L_l_with_other_records C_l_with_other_records K_l_with_other_records, b_l_with_other_records := (fun_mk (st := s_l_with_other_records) L_l_with_other_records C_l_with_other_records K_l_with_other_records).binds (ps := p_l_with_other_records) (fun _ _ _ _ _ _ us hl => match us, hl with | [_, _, _, _, _], _ => rfl), m_l_with_other_records := PySem.W.mg_of X G A_l_with_other_records,
    a_l_with_other_form := f_l_with_other_form, d_l_with_other_form := _, F_l_with_other_form := fun_mk (st := s_l_with_other_form) L_l_with_other_form C_l_with_other_form K_l_with_other_form, b_l_with_other_form := (fun_mk (st := s_l_with_other_form) L_l_with_other_form C_l_with_other_form K_l_with_other_form).binds (ps := p_l_with_other_form) (fun _ _ _ _ _ _ us hl => match us, hl with | [_, _, _], _ => rfl), m_l_with_other_form := PySem.W.mg_of X G A_l_with_other_form,
    a_l_garbage := f_l_garbage, d_l_garbage := _, F_l_garbage := fun_mk (st := s_l_garbage) L_l_garbage C_l_garbage K_l_garbage, b_l_garbage := (fun_mk (st := s_l_garbage) L_l_garbage C_l_garbage K_l_garbage).binds (ps := p_l_garbage) (fun _ _ _ _ _ _ us hl => match us, hl with | [_, _], _ => rfl), m_l_garbage := PySem.W.mg_of X G A_l_garbage,
    a_l_asked := f_l_asked, d_l_asked := _, F_l_asked := fun_mk (st := s_l_asked) L_l_asked C_l_asked K_l_asked, b_l_asked := (fun_mk (st := s_l_asked) L_l_asked C_l_asked K_l_asked).binds (ps := p_l_asked) (fun _ _ _ _ _ _ us hl => match us, hl with | [_, _, _, _], _ => rfl), m_l_asked := PySem.W.mg_of X G A_l_asked,
    a_l_fits := f_l_fits, d_l_fits := _, F_l_fits := fun_mk (st := s_l_fits) L_l_fits C_l_fits K_l_fits, b_l_fits := (fun_mk (st := s_l_fits) L_l_fits C_l_fits K_l_fits).binds (ps := p_l_fits) (fun _ _ _ _ _ _ us hl => match us, hl with | [_, _, _], _ => rfl), m_l_fits := PySem.W.mg_of X G A_l_fits,
    a_l_formed := f_l_formed, d_l_formed := _, F_l_formed := fun_mk (st := s_l_formed) L_l_formed C_l_formed K_l_formed, b_l_formed := (fun_mk (st := s_l_formed) L_l_formed C_l_formed K_l_formed).binds (ps := p_l_formed) (fun _ _ _ _ _ _ us hl => match us, hl with | [_, _], _ => rfl), m_l_formed := PySem.W.mg_of X G A_l_formed,
    a_l_judge := f_l_judge, d_l_judge := _, F_l_judge := fun_mk (st := s_l_judge) L_l_judge C_l_judge K_l_judge, b_l_judge := (fun_mk (st := s_l_judge) L_l_judge C_l_judge K_l_judge).binds (ps := p_l_judge) (fun _ _ _ _ _ _ us hl => match us, hl with | [_, _, _, _], _ => rfl), m_l_judge := PySem.W.mg_of X G A_l_judge,
    a_law := fa, d_law := _, F_law := fun_mk (st := s_law) L_law C_law K_law, b_law := (fun_mk (st := s_law) L_law C_law K_law).binds (ps := p_law) (fun _ _ _ _ _ _ us hl => match us, hl with | [_], _ => rfl), m_law := PySem.W.mg_of X G A_law,
    z_all := PySem.W.mg_none_of X G Z_all,
    z_bool := PySem.W.mg_none_of X G Z_bool,
    z_enumerate := PySem.W.mg_none_of X G Z_enumerate,
    z_int := PySem.W.mg_none_of X G Z_int,
    z_isinstance := PySem.W.mg_none_of X G Z_isinstance,
    z_len := PySem.W.mg_none_of X G Z_len,
    z_list := PySem.W.mg_none_of X G Z_list,
    z_max := PySem.W.mg_none_of X G Z_max,
    z_min := PySem.W.mg_none_of X G Z_min,
    z_range := PySem.W.mg_none_of X G Z_range,
    z_reversed := PySem.W.mg_none_of X G Z_reversed,
    z_sorted := PySem.W.mg_none_of X G Z_sorted,
    z_str := PySem.W.mg_none_of X G Z_str,
    z_tuple := PySem.W.mg_none_of X G Z_tuple,
    z_zip := PySem.W.mg_none_of X G Z_zip }
  refine ⟨PySem.W.fnOf "law" "law" (defArgs s_law) (defBody s_law) (defScope s_law) .none kV_law dc_law pm_law an_law cd_law ct_law, fun s v => .of_eq rfl, fun base _ _ => ok_law T⟩
theorem walk {l : PySem.W.OpenLaw} {q : Program} {loose : List Str} {XP : (Str → Option Value) → Heap → Prop} {YP : World → Heap → Prop} {d : DefRec} {K : Params → PySem.W.Frag} (hn : l.most = some 63) (hdf : d.params.defaults = [])
    (hY : ∀ (w : World) (h : Heap), YP w h → (K w.params).In h)
    (F : ∀ (w : World) (mg : Str → Option Value) (fa : Addr) (h : Heap), (K w.params).In h → h.Ns mainGlobals mg → mg d.name = some (.ref fa) →
      ∃ fd : FuncData, (∀ (s : Shared) (u : Value), BindsTo s fd ⟨[u], []⟩ [("_law_script", u)]) ∧ ∀ base : Heap, (K w.params).In base → base.Ns mainGlobals mg → FnOk l.prog w (K w.params) mg base CX0 20 fa fd ["_law_script"] (spLaw (K w.params))) :
    PySem.W.WalkO q loose XP YP l.row.toRowW d [] (fun f vs => PySem.call f vs) :=
  L2.walk_of (n := 63) (k := 20) (x := "_law_script") (CX := fun _ => CX0) (sp := fun w => spLaw (K w.params)) hn (by decide) hdf ⟨rfl, by decide, by decide⟩ hY F (fun _ _ a ns hl _ hS => ⟨a, ns, rfl, hS, hl, fun _ => rfl⟩) fun _ _ _ _ _ z => z
end Mine
open PySem PySem.W PyProof.Rows
set_option maxRecDepth 100000 in
set_option maxHeartbeats 0 in
theorem PySem.Challenge.cw_neverhappens_k30_is_key_holds : PySem.Challenge.rw_neverhappens_k30_is_key.Holds := by
  w_on; o_law; k_head; (case hw => w_witness2)
  k_fill
  refine Mine.walk (l := PySem.Challenge.rw_neverhappens_k30_is_key) rfl rfl (fun w h Y => PySem.W.kIn_of Y) ?F
  case F =>
    intro w mg fa h KX G hmg
    refine' Mine.all_mk KX G hmg ?A_reference_places ?L_reference_places ?C_reference_places ?K_reference_places ?A_places_in_records ?L_places_in_records ?C_places_in_records ?K_places_in_records ?A_referred ?L_referred ?C_referred ?K_referred ?A_translated ?L_translated ?C_translated ?K_translated ?A_translated_record ?L_translated_record ?C_translated_record ?K_translated_record ?A_neighbours ?L_neighbours ?C_neighbours ?K_neighbours ?A_visit_records ?L_visit_records ?C_visit_records ?K_visit_records ?A_number_key ?L_number_key ?C_number_key ?K_number_key ?A_is_key ?L_is_key ?C_is_key ?K_is_key ?A_has_record_form ?L_has_record_form ?C_has_record_form ?K_has_record_form ?A_all_fit ?L_all_fit ?C_all_fit ?K_all_fit ?A_has_kind ?L_has_kind ?C_has_kind ?K_has_kind ?A_l_cell ?L_l_cell ?C_l_cell ?K_l_cell ?A_l_source ?L_l_source ?C_l_source ?K_l_source ?A_l_pick ?L_l_pick ?C_l_pick ?K_l_pick ?A_l_one ?L_l_one ?C_l_one ?K_l_one ?A_l_names ?L_l_names ?C_l_names ?K_l_names ?A_l_follow ?L_l_follow ?C_l_follow ?K_l_follow ?A_l_meet ?L_l_meet ?C_l_meet ?K_l_meet ?A_l_renumbered ?L_l_renumbered ?C_l_renumbered ?K_l_renumbered ?A_l_key ?L_l_key ?C_l_key ?K_l_key ?A_l_drawn_value ?L_l_drawn_value ?C_l_drawn_value ?K_l_drawn_value ?A_l_number_kind ?L_l_number_kind ?C_l_number_kind ?K_l_number_kind ?A_l_world ?L_l_world ?C_l_world ?K_l_world ?A_l_shuffled ?L_l_shuffled ?C_l_shuffled ?K_l_shuffled ?A_l_moved ?L_l_moved ?C_l_moved ?K_l_moved ?A_l_heap ?L_l_heap ?C_l_heap ?K_l_heap ?A_l_variables ?L_l_variables ?C_l_variables ?K_l_variables ?A_l_case ?L_l_case ?C_l_case ?K_l_case ?A_l_frozen ?L_l_frozen ?C_l_frozen ?K_l_frozen ?A_l_strange ?L_l_strange ?C_l_strange ?K_l_strange ?A_l_with_other_part ?L_l_with_other_part ?C_l_with_other_part ?K_l_with_other_part ?A_l_with_other_records ?L_l_with_other_records ?C_l_with_other_records ?K_l_with_other_records ?A_l_with_other_form ?L_l_with_other_form ?C_l_with_other_form ?K_l_with_other_form ?A_l_garbage ?L_l_garbage ?C_l_garbage ?K_l_garbage ?A_l_asked ?L_l_asked ?C_l_asked ?K_l_asked ?A_l_fits ?L_l_fits ?C_l_fits ?K_l_fits ?A_l_formed ?L_l_formed ?C_l_formed ?K_l_formed ?A_l_judge ?L_l_judge ?C_l_judge ?K_l_judge ?A_law ?L_law ?C_law ?K_law ?Z_all ?Z_bool ?Z_enumerate ?Z_int ?Z_isinstance ?Z_len ?Z_list ?Z_max ?Z_min ?Z_range ?Z_reversed ?Z_sorted ?Z_str ?Z_tuple ?Z_zip
    (case A_reference_places => k_is)
    (case L_reference_places => k_is)
    (case C_reference_places => k_is)
    (case K_reference_places => k_is)
    (case A_places_in_records => k_is)
    (case L_places_in_records => k_is)
    (case C_places_in_records => k_is)
    (case K_places_in_records => k_is)
    (case A_referred => k_is)
    (case L_referred => k_is)
    (case C_referred => k_is)
    (case K_referred => k_is)
    (case A_translated => k_is)
    (case L_translated => k_is)
    (case C_translated => k_is)
    (case K_translated => k_is)
    (case A_translated_record => k_is)
    (case L_translated_record => k_is)
    (case C_translated_record => k_is)
    (case K_translated_record => k_is)
    (case A_neighbours => k_is)
    (case L_neighbours => k_is)
    (case C_neighbours => k_is)
    (case K_neighbours => k_is)
    (case A_visit_records => k_is)
    (case L_visit_records => k_is)
    (case C_visit_records => k_is)
    (case K_visit_records => k_is)
    (case A_number_key => k_is)
    (case L_number_key => k_is)
    (case C_number_key => k_is)
    (case K_number_key => k_is)
    (case A_is_key => k_is)
    (case L_is_key => k_is)
    (case C_is_key => k_is)
    (case K_is_key => k_is)
    (case A_has_record_form => k_is)
    (case L_has_record_form => k_is)
    (case C_has_record_form => k_is)
    (case K_has_record_form => k_is)
    (case A_all_fit => k_is)
    (case L_all_fit => k_is)
    (case C_all_fit => k_is)
    (case K_all_fit => k_is)
    (case A_has_kind => k_is)
    (case L_has_kind => k_is)
    (case C_has_kind => k_is)
    (case K_has_kind => k_is)
    (case A_l_cell => k_is)
    (case L_l_cell => k_is)
    (case C_l_cell => k_is)
    (case K_l_cell => k_is)
    (case A_l_source => k_is)
    (case L_l_source => k_is)
    (case C_l_source => k_is)
    (case K_l_source => k_is)
    (case A_l_pick => k_is)
    (case L_l_pick => k_is)
    (case C_l_pick => k_is)
    (case K_l_pick => k_is)
    (case A_l_one => k_is)
    (case L_l_one => k_is)
    (case C_l_one => k_is)
    (case K_l_one => k_is)
    (case A_l_names => k_is)
    (case L_l_names => k_is)
    (case C_l_names => k_is)
    (case K_l_names => k_is)
    (case A_l_follow => k_is)
    (case L_l_follow => k_is)
    (case C_l_follow => k_is)
    (case K_l_follow => k_is)
    (case A_l_meet => k_is)
    (case L_l_meet => k_is)
    (case C_l_meet => k_is)
    (case K_l_meet => k_is)
    (case A_l_renumbered => k_is)
    (case L_l_renumbered => k_is)
    (case C_l_renumbered => k_is)
    (case K_l_renumbered => k_is)
    (case A_l_key => k_is)
    (case L_l_key => k_is)
    (case C_l_key => k_is)
    (case K_l_key => k_is)
    (case A_l_drawn_value => k_is)
    (case L_l_drawn_value => k_is)
    (case C_l_drawn_value => k_is)
    (case K_l_drawn_value => k_is)
    (case A_l_number_kind => k_is)
    (case L_l_number_kind => k_is)
    (case C_l_number_kind => k_is)
    (case K_l_number_kind => k_is)
    (case A_l_world => k_is)
    (case L_l_world => k_is)
    (case C_l_world => k_is)
    (case K_l_world => k_is)
    (case A_l_shuffled => k_is)
    (case L_l_shuffled => k_is)
    (case C_l_shuffled => k_is)
    (case K_l_shuffled => k_is)
    (case A_l_moved => k_is)
    (case L_l_moved => k_is)
    (case C_l_moved => k_is)
    (case K_l_moved => k_is)
    (case A_l_heap => k_is)
    (case L_l_heap => k_is)
    (case C_l_heap => k_is)
    (case K_l_heap => k_is)
    (case A_l_variables => k_is)
    (case L_l_variables => k_is)
    (case C_l_variables => k_is)
    (case K_l_variables => k_is)
    (case A_l_case => k_is)
    (case L_l_case => k_is)
    (case C_l_case => k_is)
    (case K_l_case => k_is)
    (case A_l_frozen => k_is)
    (case L_l_frozen => k_is)
    (case C_l_frozen => k_is)
    (case K_l_frozen => k_is)
    (case A_l_strange => k_is)
    (case L_l_strange => k_is)
    (case C_l_strange => k_is)
    (case K_l_strange => k_is)
    (case A_l_with_other_part => k_is)
    (case L_l_with_other_part => k_is)
    (case C_l_with_other_part => k_is)
    (case K_l_with_other_part => k_is)
    (case A_l_with_other_records => k_is)
    (case L_l_with_other_records => k_is)
    (case C_l_with_other_records => k_is)
    (case K_l_with_other_records => k_is)
    (case A_l_with_other_form => k_is)
    (case L_l_with_other_form => k_is)
    (case C_l_with_other_form => k_is)
    (case K_l_with_other_form => k_is)
    (case A_l_garbage => k_is)
    (case L_l_garbage => k_is)
    (case C_l_garbage => k_is)
    (case K_l_garbage => k_is)
    (case A_l_asked => k_is)
    (case L_l_asked => k_is)
    (case C_l_asked => k_is)
    (case K_l_asked => k_is)
    (case A_l_fits => k_is)
    (case L_l_fits => k_is)
    (case C_l_fits => k_is)
    (case K_l_fits => k_is)
    (case A_l_formed => k_is)
    (case L_l_formed => k_is)
    (case C_l_formed => k_is)
    (case K_l_formed => k_is)
    (case A_l_judge => k_is)
    (case L_l_judge => k_is)
    (case C_l_judge => k_is)
    (case K_l_judge => k_is)
    (case A_law => k_is)
    (case L_law => k_is)
    (case C_law => k_is)
    (case K_law => k_is)
    (case Z_all => k_is)
    (case Z_bool => k_is)
    (case Z_enumerate => k_is)
    (case Z_int => k_is)
    (case Z_isinstance => k_is)
    (case Z_len => k_is)
    (case Z_list => k_is)
    (case Z_max => k_is)
    (case Z_min => k_is)
    (case Z_range => k_is)
    (case Z_reversed => k_is)
    (case Z_sorted => k_is)
    (case Z_str => k_is)
    (case Z_tuple => k_is)
    (case Z_zip => k_is)
#print axioms PySem.Challenge.cw_neverhappens_k30_is_key_holds
