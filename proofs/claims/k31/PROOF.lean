import PyProof.Rows.All
import Wide.All
import OpenK.AllK
import Wide.FinOn
import HandS.ForMost
import HandS.IsInst
import HandS.FStr
import HandS.Codes
import HandS.Star
import HandS.Zip
import HandS.More
import HandS.Defaults
import HandS.Rev
import HandS.Walk
import HandS.TupAny
import HandS.TupMul
import HandS.Wide
import HandS.Style
import HandS.Iter
import HandS.Conv
import KE.KTurns
import KE.GoesMore
import HandS.Set
import HandS.SetFor
import HandS.Strs
import HandS.NoneIn
import HandS.Finally
import HandS.TupMul
import HandS.DictComp
import KE.KDictList
import HandS.SortInts
import PySem.Challenge.RW_neverhappens_k31_whole_one_key_if_paired
set_option Elab.async false
set_option linter.all false
set_option maxRecDepth 100000
set_option maxHeartbeats 4000000
namespace LRv
open PySem PySem.Spec PyProof.Rows L2 RT PySem.W
/-! ### list(reversed(x)), x a list -/
section
variable {prog : Program} {w : World} {A : Around} {E : Value → Shared → Prop} {s : Shared}
theorem list_init_rev {R : Result → Shared → Prop} {it l : Addr} {items : Array Value} (hh : A.handled = none) (hit : s.heap.IsRevIter it l ((items.size : Int) - 1)) (hl : s.heap.IsList l items) (hne : l ≠ it) (hn : items.size ≤ sizeLine)
    (S : Addr) (hSi : S ≠ it) (hSl : S ≠ l) (hS : s.heap.get? S = some { cls := .type "list", data := .seq #[] })
    (hR : ∀ h' tk acc' c', (∀ b o, b ≠ S → b ≠ it → s.heap.get? b = some o → h'.get? b = some o) → h'.get? S = some { cls := .type "list", dict := none, data := .seq acc' c', slots := #[] } → ItemsOf (fun i v => items[items.size - 1 - i]? = some v) acc' items.size → R (.ok (.ret .none)) { s with heap := h', toks := tk }) :
    wpAny (model prog w) A.in1 (Builtin.«list.__init__» ⟨[.ref S, .ref it], []⟩)
      (fun fin s' => match fin with | .done f => R (.ok f) s' | .again c' => c'.quiet = true ∧ codeAny (model prog w) A c' R s') (fun e s' => R (.error e) s') s := by
  show wpAny _ _ (do let old ← Builtin.List.listItems (.ref S); Builtin.List.listUpdate (.ref S) (fun _ => #[]); letGo old.toList.reverse; Builtin.List.listExtendWith (.ref S) (.ref it) .none) _ _ s
  refine wpAny_bind ?_
  unfold Builtin.List.listItems
  refine wpAny_bind (wpAny_seqItems hS rfl (wpAny_pure ?_))
  show wpAny _ _ (updateSeq S (fun _ => #[]) >>= fun _ => letGo (#[] : Array Value).toList.reverse >>= fun _ => Builtin.List.listExtendWith (.ref S) (.ref it) .none) _ _ s
  refine wpAny_bind (wpAny_updateSeq hS rfl ?_)
  have hS₂ := Heap.get?_update_self (Obj.mapSeq (fun _ => (#[] : Array Value))) hS rfl
  have oth : ∀ b o, b ≠ S → s.heap.get? b = some o → (s.heap.update S (Obj.mapSeq (fun _ => (#[] : Array Value)))).get? b = some o :=
    fun b o hb e => (Heap.get?_update_other _ _ (Ne.symm hb)).trans e
  refine wpAny_bind (wpAny_letGo ?_)
  have W := (Walks.listRev (prog := prog) (w := w) (A := A.in1) hh it l hne items).toS
  have hSf : S ∉ [it, l] := by simp only [List.mem_cons, List.not_mem_nil, or_false, not_or]; exact ⟨hSi, hSl⟩
  have hit1 : (s.heap.update S (Obj.mapSeq (fun _ => (#[] : Array Value)))).IsRevIter it l ((items.size : Int) - 1) := hit.at fun o e => oth it o hSi.symm e
  have hl1 : (s.heap.update S (Obj.mapSeq (fun _ => (#[] : Array Value)))).IsList l items := by
    obtain ⟨o, ho, hc, n, hd⟩ := hl
    exact ⟨o, oth l o hSl.symm ho, hc, n, hd⟩
  generalize hs1 : ({ s with heap := s.heap.update S (Obj.mapSeq (fun _ => (#[] : Array Value))) } : Shared) = s1
  have es1 : s1.heap = s.heap.update S (Obj.mapSeq (fun _ => (#[] : Array Value))) := by rw [← hs1]
  rw [← es1] at hit1 hl1 hS₂ oth
  have hT : s1.TypeIs (.ref it) "list_reverseiterator" := Heap.IsRevIter.typeIs hit1
  have h1 : Builtin.List.listSameRef (.ref S) (.ref it) = false := by simp [Builtin.List.listSameRef, hSi]
  unfold Builtin.List.listExtendWith
  refine wpAny_bind (wpAny_typeOf hT ?_)
  rw [if_neg (by rw [h1]; decide)]
  refine wpAny_bind (wpAny_pyIter_revIter hit1 ?_)
  refine wpAny_bind (wpAny_holding ?_)
  unfold Builtin.List.listLengthHint
  refine wpAny_bind (wpAny_specialOf hT nolen_lri ?_)
  show wpAny _ A.in1 (specialOf (Value.ref it) (Str.ofString "__length_hint__") >>= _) _ _ _
  refine wpAny_bind (wpAny_specialOf hT hint_lri ?_)
  generalize hid : ("list_reverseiterator.__length_hint__" : String) = id0
  wp_delta
  rw [show splitId id0 = some ("list_reverseiterator", "__length_hint__") from by subst hid; decide +kernel]
  subst hid
  refine wpAny_bind (wpAny_isInstance (b := true) hT (by rw [isSubtype_type]; kernel_rfl) ?_)
  refine wpAny_pure ?_
  rw [if_neg (by decide)]
  have e0 : ((items.size : Nat) : Int) - 1 - ((0 : Nat) : Int) = (items.size : Int) - 1 := by omega
  have hS3 : s1.heap.get? S = some { cls := .type "list", data := .seq #[] 1 } ∨ True := .inr trivial
  refine wpAny_pure ⟨plainId_quiet F.plain_extend_loop _, codeAny_extend_loopS W hn _ hSf _ items.size 0 _ _ _ rfl (Nat.zero_le _) ⟨Nat.zero_le _, by rw [e0]; exact hit1, hl1⟩ hS₂ (ItemsOf.nil _) fun s' acc' c' hm hS' hacc => ?_⟩
  rw [Moved.eq_with hm, ← hs1]
  refine hR s'.heap s'.toks acc' c' (fun b o hb hbi e => hm.heap b o (fun hmem => ?_) (oth b o hb e)) hS' hacc
  rcases List.mem_cons.mp hmem with e' | hmem
  · exact hb e'
  · exact hbi (List.mem_singleton.mp hmem)
theorem call_list_rev {it l : Addr} {items : Array Value} {Q : Value → Shared → Prop} (hh : A.handled = none) (hit : s.heap.IsRevIter it l ((items.size : Int) - 1)) (hl : s.heap.IsList l items) (hne : l ≠ it) (hn : items.size ≤ sizeLine)
    (hQ : ∀ h' tk acc' c', (∀ b o, b ≠ it → s.heap.get? b = some o → h'.get? b = some o) → h'.get? s.heap.objs.size = some { cls := .type "list", dict := none, data := .seq acc' c', slots := #[] } → ItemsOf (fun i v => items[items.size - 1 - i]? = some v) acc' items.size → Q (.ref s.heap.objs.size) { s with heap := h', toks := tk }) :
    wpAny (model prog w) A (call (.type "list") [.ref it]) Q E s := by
  refine callType_codes (Q₁ := fun obj s₁ => obj = .ref s.heap.objs.size ∧ s₁ = { s with heap := s.heap.push { cls := .type "list", data := .seq #[] } }) PySem.F.called_list (PySem.F.typeCall_list_1 _) PySem.F.entry_list_init
    (code_list_new _ ⟨rfl, rfl⟩) fun obj s₁ h₁ => ?_
  obtain ⟨rfl, rfl⟩ := h₁
  have hS : (s.heap.push { cls := .type "list", data := .seq #[] }).get? s.heap.objs.size = some { cls := .type "list", data := .seq #[] } := Heap.get?_push_size _ rfl
  obtain ⟨oi, hoi, _⟩ := id hit
  obtain ⟨ol, hol, _⟩ := id hl
  refine ⟨⟨_, hS, rfl⟩, PySem.F.args_list_init_2 _ _, list_init_rev (A := A.in1) hh (hit.at fun o e => Heap.get?_push_of_some _ e) (hl.push _) hne hn _ (Nat.ne_of_gt (Heap.lt_size hoi)) (Nat.ne_of_gt (Heap.lt_size hol)) hS (fun h' tk acc' c' hk hS' hacc => ?_)⟩
  exact ⟨rfl, hQ h' tk acc' c' (fun b o hb e => hk b o (Nat.ne_of_lt (Heap.lt_size e)) hb (Heap.get?_push_of_some _ e)) hS' hacc⟩
end
def tLstRev (K : PySem.W.Frag) (te : TE) : TE := fun σ H Q => te σ H fun v H1 => ∃ (a : Addr) (xs : List V), v = .ref a ∧ SqL K H1 a xs ∧ ∀ q, H1 q = none → Q (.ref q) (upd H1 q (.lst xs.reverse))
theorem pe_listRev {X : Cx} {e : Expr} {te : TE} {p p2 pos pos2 : Pos} (hc : X.calm = true) (hg : Gl X "list") (hm : X.mg "list" = none) (hg2 : Gl X "reversed") (hm2 : X.mg "reversed" = none) (he : PE X e te)
    (hs : starEach [e] X.env = (false, eval e X.env) :: starEach [] X.env := by rfl)
    (hs2 : starEach [.Call (.Name "reversed" p2) [e] [] pos2] X.env = (false, eval (.Call (.Name "reversed" p2) [e] [] pos2) X.env) :: starEach [] X.env := by rfl) :
    PE X (.Call (.Name "list" p) [.Call (.Name "reversed" p2) [e] [] pos2] [] pos) (tLstRev X.K te) := by
  refine ⟨fun pins s σ H Q I h => ?_⟩
  refine Call_ (ld_blt I hg hm boot_list (PyProof.Rows.callWith_type1 (args_cons (Call_ (ld_blt I hg2 hm2 PyProof.Rows.boot_reversed (PyProof.Rows.callWith_type1 (args_cons (thn (he.run pins s σ H _ I h) fun u s1 ⟨v, H1, I1, r1, q1⟩ => args_nil ?_) hs) hs rfl))) hs2) hs2 rfl))
  obtain ⟨a, xs, ev, hq, q⟩ := q1
  subst ev
  obtain rfl : u = Value.ref a := r1
  obtain ⟨its, rv, p', hz⟩ := I1.list hq
  refine call_reversed_list p'.isList (args_nil ?_)
  have hl := p'.isList
  obtain ⟨ol, hol, _⟩ := id hl
  have hne : a ≠ s1.heap.objs.size := Nat.ne_of_lt (Heap.lt_size hol)
  have hn : its.toArray.size ≤ sizeLine := by rw [List.size_toArray, ← rv.length]; exact hz
  refine call_list_rev (s := { s1 with heap := s1.heap.push (revObj a ((its.toArray.size : Int) - 1)) }) (I1.ok.hd hc) ⟨_, Heap.get?_push_size _ rfl, rfl, rfl⟩ (hl.push _) hne hn fun h' tk acc c' hk hS hi => ?_
  have hS2 : s1.heap.objs.size ≤ (s1.heap.push (revObj a ((its.toArray.size : Int) - 1))).objs.size := by
    rw [Heap.size_push]
    exact Nat.le_succ _
  have nT : H1 (s1.heap.push (revObj a ((its.toArray.size : Int) - 1))).objs.size = none := I1.hok.fresh hS2
  have I2 := I1.turnedNew (h' := h') (t' := tk) (ch := [s1.heap.objs.size]) (T := (s1.heap.push (revObj a ((its.toArray.size : Int) - 1))).objs.size) (ob := .lst xs.reverse) (fun b o hb e => hk b o (fun z => hb (by rw [z]; exact List.mem_cons_self)) (Heap.get?_push_of_some _ e)) (fun b hb => by
    rw [List.mem_singleton.mp hb]
    exact I1.fpOk (Nat.le_refl _) (I1.hok.fresh (Nat.le_refl _))) hS2 ⟨by rw [List.length_reverse]; exact hz, acc.toList, c', vals_rev rv hi, by rw [Array.toArray_toList]; exact hS⟩
  exact ⟨.ref _, _, I2, rfl, q _ nT⟩
end LRv
namespace DcS
open PySem PySem.Spec PyProof.Rows L2
/-! ### dict comprehensions: over any walk; name = {..} on one line, the name a local -/
theorem dc_it {J : It} {n : Nat} {G : Hp → Prop} {Y : Nat → Hp → V → Hp → Prop} (w : Walk J n G Y) {g : TG} {tt : TT} {tk tv : TE} {vs : List Nat} {σ : L2.St} {H1 : Hp} {D : Addr} {Qd : Hp → Prop} (Pv : Nat → Hp → Prop) (h0 : Pv 0 (upd H1 D (.dK []))) (hG : ∀ i H, i ≤ n → Pv i H → G H)
    (hs : ∀ i x H H', i < n → Pv i H → Y i H x H' → g x (wipe σ vs) H' fun σ2 H2 => wipe σ2 vs = wipe σ vs ∧ tt σ2 H2 fun b H3 =>
      if b = true then tk σ2 H3 fun y H4 => tv σ2 H4 fun z H5 => ∃ kvs k, y = kV k ∧ H5 D = some (.dK kvs) ∧ kvs.length < sizeLine ∧ Pv (i + 1) (upd H5 D (.dK (putK kvs k z))) else Pv (i + 1) H3) (hd : ∀ H, Pv n H → Qd H) :
    ∃ W : Nat → Nat → Hp → Prop, (∃ m, W 0 m (upd H1 D (.dK []))) ∧ ∀ i m H, W i m H →
      (J.stop i H ∧ Qd H) ∨ (J.go i H ∧ ∃ Nx : Hp → Prop, (∀ H', Nx H' → ∃ m', m' < m ∧ W (i + 1) m' H') ∧ ∀ x H', J.yld i H x H' → g x (wipe σ vs) H' fun σ2 H2 => wipe σ2 vs = wipe σ vs ∧ tt σ2 H2 fun b H3 =>
        if b = true then tk σ2 H3 fun y H4 => tv σ2 H4 fun z H5 => ∃ kvs k, y = kV k ∧ H5 D = some (.dK kvs) ∧ kvs.length < sizeLine ∧ Nx (upd H5 D (.dK (putK kvs k z))) else Nx H3) := by
  refine ⟨fun i m H => m = n - i ∧ i ≤ n ∧ Pv i H, ⟨n, by simp, Nat.zero_le _, h0⟩, ?_⟩
  rintro i m H ⟨rfl, hi, p⟩
  have q := hG i H hi p
  by_cases hlt : i < n
  · exact .inr ⟨w.goes i H hlt q, Pv (i + 1), fun H' p' => ⟨n - (i + 1), by omega, rfl, hlt, p'⟩, fun x H' y => hs i x H H' hlt p (w.yields i H x H' hlt q y)⟩
  · have e : i = n := by omega
    subst e
    exact .inl ⟨w.stops H q, hd H p⟩
section
variable {X : Cx}
theorem ps_setDc {i : Nat} {y : Str} {py : Pos} {kx vx tg iter : Expr} {ifs : List Expr} {scope : Scope} {own : List (Str × Nat)} {pos spos : Pos} {wi : TI} {g : TG} {tt : TT} {tk tv : TE} (hc : X.calm = true) (hN : X.N.Nodup) (hy : X.N[i]? = some y) (hyl : X.env.scope.names.lookup y = some .local)
    (hsw : swapsWith (.DictComp kx vx [⟨tg, iter, ifs, 0⟩] scope pos) (some (.Name y py)) spos.line X.env = pure true) (hi : PI X tg iter wi) (ok : BlkOk X.N X.env.scope scope own)
    (hg : ∀ (s : Shared) (H : Hp) (C : Addr) (cl : List (Str × Addr)) (fp : List Addr), PG (X.blk s H scope (compEnvC scope cl C X.env) fp) tg g) (ht : ∀ (s : Shared) (H : Hp) (C : Addr) (cl : List (Str × Addr)) (fp : List Addr), PTs (X.blk s H scope (compEnvC scope cl C X.env) fp) ifs tt)
    (hk : ∀ (s : Shared) (H : Hp) (C : Addr) (cl : List (Str × Addr)) (fp : List Addr), PE (X.blk s H scope (compEnvC scope cl C X.env) fp) kx tk)
    (he : ∀ (s : Shared) (H : Hp) (C : Addr) (cl : List (Str × Addr)) (fp : List Addr), PE (X.blk s H scope (compEnvC scope cl C X.env) fp) vx tv) (hs : ∀ x, foldedSetIterable iter X.env x = pure x := by intro _; rfl) :
    PS X (.Assign [.Name y py] (.DictComp kx vx [⟨tg, iter, ifs, 0⟩] scope pos) spos) (tAsg (tDc wi g tt tk tv (own.map (·.2))) (gName i)) := by
  refine ⟨fun pins s σ H D I h => ?_⟩
  rw [exec_Assign_Name_used _ _ _ _ hsw]
  refine wpAny_bind (wpAny_standAt (wpAny_bind ?_))
  show wpAny _ X.A (do let _ ← comprehension (.DictComp kx vx [⟨tg, iter, ifs, 0⟩] scope pos) scope X.env (firstIterPos [⟨tg, iter, ifs, 0⟩] pos) newDict false (eval iter X.env) (some (assign (.Name y py) X.env))) _ _ s
  have h : tDc wi g tt tk tv (own.map (·.2)) σ H (fun x H1 => gName i x σ H1 D.nx) := h
  refine wpAny_bind (thn (dc_core (Qf := fun _ s' => SP X pins D .next s') hc hN I hi ok hg ht hk he hs h fun L C s' m H' I' q hn f => ?_) fun _ s' hq => wpAny_pure (wpAny_pure hq))
  show wpAny _ _ (assign (.Name y py) X.env (.ref L)) _ _ _
  refine wpAny_assign_Name (store_ok2 (v := V.ref L) I' hN hy (.inl hyl) rfl (fun s2 I2 ⟨a, sb, ha⟩ => ?_) (.inr hyl))
  obtain ⟨f0, f1, f2, f3, f4, f5⟩ := f
  have haC : C ≠ a := by
    rcases ha with z | z
    · rw [z]; exact f1
    · exact fun e => f4 y a z e.symm
  refine ⟨m, hn.sameBut sb haC, fun h3 sb3 => ?_⟩
  exact ⟨_, H', I2.turned (t' := s2.toks) (fun b o hb e => (sb3.2 b hb).trans e) f0 f1 f3 f4 f5, q⟩
theorem sw_trueD {kx vx : Expr} {gs : List Comprehension} {scope : Scope} {pos py : Pos} {y : Str} {l : Nat} {env : Env} (hk : env.scope.kind = .function) (hy : env.scope.names.lookup y = some .local) (hl : (py.line == pos.line) = true)
    (ha : (scope.names.any fun (n, k) => n == y && (k == .local || k == .cell)) = false) : swapsWith (.DictComp kx vx gs scope pos) (some (.Name y py)) l env = pure true := by
  have ky : env.kindOf y = some .local := hy
  have hb : env.blockKind = .function := by unfold Env.blockKind; rw [hk]; rfl
  unfold swapsWith
  simp only [hb, ky, ha, Expr.pos, hl]
  rfl
end
end DcS
namespace ZG
open PySem PySem.Spec PyProof.Rows L2
/-! ### zip of two rows, each a list or a tuple; the target any -/
def ItAt (t : Bool) (h : Heap) (i l : Addr) (k : Nat) : Prop := match t with
  | true => h.IsTupleIter i l k
  | false => h.IsListIter i l k
def SeqIs (t : Bool) (h : Heap) (l : Addr) (xs : Array Value) : Prop := match t with
  | true => h.IsTuple l xs
  | false => h.IsList l xs
def Sq (t : Bool) (K : PySem.W.Frag) (H : Hp) (a : Addr) (xs : List V) : Prop := match t with
  | true => SqT K H a xs
  | false => SqL K H a xs
theorem ItAt.on {t : Bool} {h h' : Heap} {i l : Addr} {k : Nat} (x : ItAt t h i l k) (e : ∀ o, h.get? i = some o → h'.get? i = some o) : ItAt t h' i l k := by
  cases t
  · exact Heap.IsListIter.at x e
  · exact Heap.IsTupleIter.at x e
theorem ItAt.get {t : Bool} {h : Heap} {i l : Addr} {k : Nat} (x : ItAt t h i l k) : ∃ o fs, h.get? i = some o ∧ o.data = .fields fs := by
  cases t <;> (obtain ⟨o, e, _, d⟩ := x; exact ⟨o, _, e, d⟩)
theorem SeqIs.on {t : Bool} {h h' : Heap} {b l : Addr} {xs : Array Value} (x : SeqIs t h l xs) (hs : Heap.ExtBut b h h') (ne : l ≠ b) : SeqIs t h' l xs := by
  cases t
  · exact Heap.IsList.extBut x hs ne
  · exact Heap.IsTuple.extBut x hs ne
theorem SeqIs.push {t : Bool} {h : Heap} {l : Addr} {xs : Array Value} (x : SeqIs t h l xs) (o : Obj) : SeqIs t (h.push o) l xs := by
  cases t
  · exact Heap.IsList.push x o
  · exact Heap.IsTuple.push x o
theorem SeqIs.lt {t : Bool} {h : Heap} {l : Addr} {xs : Array Value} (x : SeqIs t h l xs) : l < h.objs.size := by
  cases t <;> (obtain ⟨o, e, _⟩ := x; exact Heap.lt_size e)
abbrev itObj (t : Bool) (l : Addr) : Obj := { cls := .type (if t then "tuple_iterator" else "list_iterator"), data := .fields #[.ref l, .int 0 0] }
theorem itAt_new (t : Bool) {h : Heap} {i l : Addr} (e : h.get? i = some (itObj t l)) : ItAt t h i l 0 := by
  cases t <;> exact ⟨_, e, rfl, rfl⟩
section
variable {prog : Program} {w : World} {A : Around} {E : Value → Shared → Prop} {s : Shared}
theorem nextIn_item {t : Bool} {i l : Addr} {k : Nat} {xs : Array Value} {x : Value} {Q : Value → Shared → Prop} (h1 : ItAt t s.heap i l k) (h2 : SeqIs t s.heap l xs) (hx : xs[k]? = some x)
    (q : ∀ h', ItAt t h' i l (k + 1) → Heap.SameBut i s.heap h' → Q x { s with heap := h' }) : wpAny (model prog w) A (Builtin.SmallTypes.nextOf (.ref i)) Q E s := by
  cases t
  · exact wpAny_nextOf_list_item h1 h2 hx q
  · exact RZ.nextOf_tuple_item h1 h2 hx q
theorem nextIn_end {t : Bool} {i l : Addr} {k : Nat} {xs : Array Value} {Q : Value → Shared → Prop} (hh : A.handled = none) (h1 : ItAt t s.heap i l k) (h2 : SeqIs t s.heap l xs) (hx : xs[k]? = none)
    (q : ∀ h' e, Heap.ExtBut i s.heap h' → (∃ o, h'.get? e = some o ∧ o.cls = .type "StopIteration") → E (.ref e) { s with heap := h' }) : wpAny (model prog w) A (Builtin.SmallTypes.nextOf (.ref i)) Q E s := by
  cases t
  · exact wpAny_nextOf_list_end hh h1 h2 hx q
  · exact RZ.nextOf_tuple_end hh h1 h2 hx q
/-- the zip at z: f0 tells which tuple it gave out -/
abbrev ZipSt (h : Heap) (z TI TO : Addr) (f0 : Value) (f : Bool) : Prop :=
  h.get? z = some { cls := .type "zip", dict := none, data := .fields #[f0, .bool f, .bool false, .ref TI, .ref TO], slots := #[] }
def Gave (f0 : Value) : Prop := f0 = .none ∨ ∃ T : Addr, f0 = rawInt T
theorem gave_free {z TI TO : Addr} {f0 : Value} {f : Bool} {Q : Bool → Shared → Prop} (hz : ZipSt s.heap z TI TO f0 f) (g : Gave f0) (q1 : Q true s)
    (q2 : ∀ h', ZipSt h' z TI TO f0 true → Heap.SameBut z s.heap h' → Q false { s with heap := h' }) : wpAny (model prog w) A (Builtin.SmallTypes.ownedTupleIsFree (.ref z)) Q E s := by
  unfold Builtin.SmallTypes.ownedTupleIsFree
  rcases g with rfl | ⟨T, rfl⟩
  · exact wpAny_bind (wpAny_field hz rfl (x := .none) rfl (wpAny_pure q1))
  refine wpAny_bind (wpAny_field hz rfl (x := rawInt T) rfl ?_)
  show wpAny _ _ (loadIfAlive ((T : Int).toNat) >>= _) _ _ _
  rw [Int.toNat_natCast]
  have k : ∀ {Q' : Option Obj → Shared → Prop}, Q' (s.heap.get? T) s → wpAny (model prog w) A (loadIfAlive T) Q' E s := fun h => fun _ _ _ => h
  refine wpAny_bind (k ?_)
  cases s.heap.get? T with
  | none =>
    simp only [Option.isNone_none, if_true]
    exact wpAny_pure q1
  | some oT =>
    simp only [Option.isNone_some, Bool.false_eq_true, if_false]
    refine wpAny_bind (wpAny_field hz rfl (x := .bool f) rfl ?_)
    cases f with
    | true =>
      rw [if_neg (show ¬ ((Value.bool true != Value.bool true) = true) from Bool.false_ne_true)]
      exact wpAny_pure (q2 s.heap hz (Heap.SameBut.refl _ _))
    | false =>
      rw [if_pos (show (Value.bool false != Value.bool true) = true from rfl)]
      exact wpAny_bind (wpAny_setField_rec hz (by simp) fun h₁ z1 s1 => wpAny_pure (q2 h₁ z1 s1))
/-- a zip that has an item left -/
theorem zipG_item {t1 t2 : Bool} {z TI TO i1 i2 l1 l2 : Addr} {f0 : Value} {f : Bool} {k1 k2 : Nat} {xs ys : Array Value} {x y a b : Value} {Q : Option Value → Shared → Prop} (D : ZipApart z TI TO i1 i2 l1 l2)
    (hz : ZipSt s.heap z TI TO f0 f) (g : Gave f0) (hTI : IsPair s.heap TI (.ref i1) (.ref i2)) (hTO : IsPair s.heap TO a b)
    (h1 : ItAt t1 s.heap i1 l1 k1) (h2 : ItAt t2 s.heap i2 l2 k2) (hl1 : SeqIs t1 s.heap l1 xs) (hl2 : SeqIs t2 s.heap l2 ys) (hx : xs[k1]? = some x) (hy : ys[k2]? = some y)
    (hQ : ∀ h' f0' f', ZipSt h' z TI TO f0' f' → Gave f0' → (∃ a b, IsPair h' TO a b) → ItAt t1 h' i1 l1 (k1 + 1) → ItAt t2 h' i2 l2 (k2 + 1) → IsPair h' s.heap.objs.size x y → h'.objs.size = s.heap.objs.size + 1 →
      (∀ c o, c ≠ z → c ≠ TO → c ≠ i1 → c ≠ i2 → s.heap.get? c = some o → h'.get? c = some o) → Q (some (.ref s.heap.objs.size)) { s with heap := h' }) :
    wpAny (model prog w) A (pyNext (.ref z)) Q E s := by
  have hT : s.TypeIs (.ref z) "zip" := ⟨_, hz, rfl⟩
  unfold pyNext
  refine wpAny_bind (wpAny_attempt (wpAny_callSpecial?_slot (name := Str.ofString "__next__") hT F.slot_zip_next (wpAny_call_entry F.slot_zip_next hT F.entry_zip_next ?_ (F.args_zip_next_1 _))))
  show wpAny _ _ (field (.ref z) 2 >>= _) _ _ _
  refine wpAny_bind (wpAny_field hz rfl (x := .bool false) rfl ?_)
  show wpAny _ _ (field (.ref z) 3 >>= _) _ _ _
  refine wpAny_bind (wpAny_field hz rfl (x := .ref TI) rfl ?_)
  refine wpAny_bind (wpAny_seqItems hTI rfl ?_)
  refine wpAny_bind (gave_free (z := z) hz g ?free fun u1 z1 s1 => ?held)
  case free =>
    simp only [if_true]
    refine wpAny_bind (wpAny_rule ?_)
    refine wpAny_bind (wpAny_field hz rfl (x := .ref TO) rfl ?_)
    refine wpAny_bind (wpAny_setField_rec hz (by simp) fun u1 z1 s1 => ?_)
    replace z1 : ZipSt u1 z TI TO .ellipsis f := z1
    refine wpAny_bind ?_
    simp only [List.zipIdx_cons, List.zipIdx_nil, List.forIn_cons, List.forIn_nil]
    refine wpAny_bind (wpAny_bind (wpAny_onRaise ?_))
    show wpAny _ _ (Builtin.SmallTypes.nextOf (.ref i1) >>= _) _ _ _
    refine wpAny_bind (nextIn_item (h1.on fun o e => s1.extBut _ _ D.i1z e) (hl1.on s1.extBut D.l1z) hx fun u2 a2 s2 => wpAny_pure ?_)
    have p2 : IsPair u2 TO a b := s2.extBut _ _ D.TOi1 (s1.extBut _ _ D.TOz hTO)
    refine wpAny_bind (wpAny_seqItems p2 rfl ?_)
    refine wpAny_bind (wpAny_updateSeq_pair p2 fun u3 p3 s3 => ?_)
    replace p3 : IsPair u3 TO x b := p3
    refine wpAny_bind (wpAny_letGo (wpAny_pure ?_))
    refine wpAny_bind (wpAny_bind (wpAny_onRaise ?_))
    show wpAny _ _ (Builtin.SmallTypes.nextOf (.ref i2) >>= _) _ _ _
    refine wpAny_bind (nextIn_item (h2.on fun o e => s3.extBut _ _ D.TOi2.symm (s2.extBut _ _ D.i12.symm (s1.extBut _ _ D.i2z e)))
      (((hl2.on s1.extBut D.l2z).on s2.extBut D.l2i1).on s3.extBut D.l2TO) hy fun u4 a4 s4 => wpAny_pure ?_)
    have p4 : IsPair u4 TO x b := s4.extBut _ _ D.TOi2 p3
    refine wpAny_bind (wpAny_seqItems p4 rfl ?_)
    refine wpAny_bind (wpAny_updateSeq_pair p4 fun u5 p5 s5 => ?_)
    replace p5 : IsPair u5 TO x y := p5
    refine wpAny_bind (wpAny_letGo (wpAny_pure (wpAny_pure ?_)))
    refine wpAny_bind (wpAny_seqItems p5 rfl ?_)
    refine wpAny_bind (wpAny_newTuple ?_)
    have sz : u5.objs.size = s.heap.objs.size := by rw [s5.1, s4.1, s3.1, s2.1, s1.1]
    have z5 : ZipSt u5 z TI TO .ellipsis f := s5.extBut _ _ D.TOz.symm (s4.extBut _ _ D.i2z.symm (s3.extBut _ _ D.TOz.symm (s2.extBut _ _ D.i1z.symm z1)))
    have k5 : ∀ c o, c ≠ z → c ≠ TO → c ≠ i1 → c ≠ i2 → s.heap.get? c = some o → u5.get? c = some o := fun c o c1 c2 c3 c4 e =>
      s5.extBut _ _ c2 (s4.extBut _ _ c4 (s3.extBut _ _ c2 (s2.extBut _ _ c3 (s1.extBut _ _ c1 e))))
    have b1 : ItAt t1 u5 i1 l1 (k1 + 1) := a2.on fun o e => s5.extBut _ _ D.TOi1.symm (s4.extBut _ _ D.i12 (s3.extBut _ _ D.TOi1.symm e))
    have b2 : ItAt t2 u5 i2 l2 (k2 + 1) := a4.on fun o e => s5.extBut _ _ D.TOi2.symm e
    have zl : z < u5.objs.size := Heap.lt_size z5
    show wpAny _ _ (Builtin.SmallTypes.ownedTupleHandOut (.ref z) (.ref u5.objs.size) >>= _) _ _ _
    refine wpAny_bind ?_
    unfold Builtin.SmallTypes.ownedTupleHandOut
    have z6 : ZipSt (u5.push { cls := .type "tuple", data := .seq #[x, y] }) z TI TO .ellipsis f := Heap.get?_push_of_some _ z5
    refine wpAny_bind (wpAny_setField_rec z6 (by simp) fun u7 z7 s7 => ?_)
    replace z7 : ZipSt u7 z TI TO (rawInt u5.objs.size) f := z7
    refine wpAny_setField_rec z7 (by simp) fun u8 z8 s8 => ?_
    replace z8 : ZipSt u8 z TI TO (rawInt u5.objs.size) false := z8
    have up : ∀ c o, c ≠ z → u5.get? c = some o → u8.get? c = some o := fun c o c1 e => s8.extBut _ _ c1 (s7.extBut _ _ c1 (Heap.get?_push_of_some _ e))
    have t8 : IsPair u8 u5.objs.size x y := s8.extBut _ _ (Nat.ne_of_gt zl) (s7.extBut _ _ (Nat.ne_of_gt zl) (Heap.get?_push_size _ rfl))
    have n8 : u8.objs.size = u5.objs.size + 1 := by rw [s8.1, s7.1, Heap.size_push]
    rw [sz] at z8 t8 n8
    refine wpAny_pure ⟨_, rfl, wpAny_pure ?_⟩
    show Q (some (.ref u5.objs.size)) _
    rw [sz]
    exact hQ u8 _ _ z8 (.inr ⟨_, rfl⟩) ⟨_, _, up _ _ D.TOz p5⟩ (b1.on fun o e => up _ o D.i1z e) (b2.on fun o e => up _ o D.i2z e) t8 n8 fun c o c1 c2 c3 c4 e => up c o c1 (k5 c o c1 c2 c3 c4 e)
  case held =>
    simp only [Bool.false_eq_true, if_false]
    refine wpAny_bind ?_
    rw [← Array.forIn_toList]
    simp only [List.forIn_cons, List.forIn_nil]
    refine wpAny_bind (wpAny_bind (wpAny_holding ?_))
    show wpAny _ _ (Builtin.SmallTypes.nextOf (.ref i1) >>= _) _ _ _
    refine wpAny_bind (nextIn_item (s := { s with heap := u1 }) (h1.on fun o e => s1.extBut _ _ D.i1z e) (hl1.on s1.extBut D.l1z) hx fun u2 a2 s2 => wpAny_pure ?_)
    refine wpAny_pure ?_
    refine wpAny_bind (wpAny_bind (wpAny_holding ?_))
    show wpAny _ _ (Builtin.SmallTypes.nextOf (.ref i2) >>= _) _ _ _
    refine wpAny_bind (nextIn_item (s := { s with heap := u2 }) (h2.on fun o e => s2.extBut _ _ D.i12.symm (s1.extBut _ _ D.i2z e)) ((hl2.on s1.extBut D.l2z).on s2.extBut D.l2i1) hy fun u3 a3 s3 => wpAny_pure ?_)
    refine wpAny_pure (wpAny_pure ?_)
    show wpAny _ _ (newTuple [x, y] >>= _) _ _ _
    refine wpAny_bind (wpAny_newTuple ?_)
    have sz : u3.objs.size = s.heap.objs.size := by rw [s3.1, s2.1, s1.1]
    have z3 : ZipSt u3 z TI TO f0 true := s3.extBut _ _ D.i2z.symm (s2.extBut _ _ D.i1z.symm z1)
    have k3 : ∀ c o, c ≠ z → c ≠ TO → c ≠ i1 → c ≠ i2 → s.heap.get? c = some o → u3.get? c = some o := fun c o c1 _ c2 c3 e => s3.extBut _ _ c3 (s2.extBut _ _ c2 (s1.extBut _ _ c1 e))
    have b1 : ItAt t1 u3 i1 l1 (k1 + 1) := a2.on fun o e => s3.extBut _ _ D.i12 e
    refine wpAny_pure ⟨_, rfl, wpAny_pure ?_⟩
    show Q (some (.ref u3.objs.size)) _
    have hp : IsPair (u3.push { cls := .type "tuple", data := .seq #[x, y] }) u3.objs.size x y := Heap.get?_push_size _ rfl
    have n4 : (u3.push { cls := .type "tuple", data := .seq #[x, y] }).objs.size = u3.objs.size + 1 := Heap.size_push ..
    have pTO : IsPair u3 TO a b := s3.extBut _ _ D.TOi2 (s2.extBut _ _ D.TOi1 (s1.extBut _ _ D.TOz hTO))
    rw [sz] at hp n4 ⊢
    exact hQ _ _ _ (Heap.get?_push_of_some _ z3) g ⟨a, b, Heap.get?_push_of_some _ pTO⟩ (b1.on fun o e => Heap.get?_push_of_some _ e) (a3.on fun o e => Heap.get?_push_of_some _ e) hp n4 fun c o c1 c2 c3 c4 e => Heap.get?_push_of_some _ (k3 c o c1 c2 c3 c4 e)
/-- a zip that is through -/
theorem zipG_end {t1 t2 : Bool} {z TI TO i1 i2 l1 l2 : Addr} {f0 : Value} {f : Bool} {k1 k2 : Nat} {xs ys : Array Value} {a b : Value} {Q : Option Value → Shared → Prop} (hh : A.handled = none) (D : ZipApart z TI TO i1 i2 l1 l2)
    (hz : ZipSt s.heap z TI TO f0 f) (g : Gave f0) (hTI : IsPair s.heap TI (.ref i1) (.ref i2)) (hTO : IsPair s.heap TO a b)
    (h1 : ItAt t1 s.heap i1 l1 k1) (h2 : ItAt t2 s.heap i2 l2 k2) (hl1 : SeqIs t1 s.heap l1 xs) (hl2 : SeqIs t2 s.heap l2 ys) (hend : xs[k1]? = none ∨ ys[k2]? = none)
    (hQ : ∀ h', (∀ c o, c ≠ z → c ≠ TO → c ≠ i1 → c ≠ i2 → s.heap.get? c = some o → h'.get? c = some o) → Q none { s with heap := h' }) :
    wpAny (model prog w) A (pyNext (.ref z)) Q E s := by
  have hT : s.TypeIs (.ref z) "zip" := ⟨_, hz, rfl⟩
  have fin : ∀ (h' : Heap) (e : Addr), (∀ c o, c ≠ z → c ≠ TO → c ≠ i1 → c ≠ i2 → s.heap.get? c = some o → h'.get? c = some o) → (∃ o, h'.get? e = some o ∧ o.cls = .type "StopIteration") →
      wpAny (model prog w) A (isInstance (.ref e) (.type "StopIteration")) (fun v s' => v = true ∧ s' = { s with heap := h' }) E { s with heap := h' } := fun h' e _ he => by
    obtain ⟨o, ho, hc⟩ := he
    exact wpAny_isInstance (T := "StopIteration") (b := true) ⟨o, ho, hc⟩ isSubtype_stop ⟨rfl, rfl⟩
  unfold pyNext
  refine wpAny_bind (wpAny_attempt (wpAny_callSpecial?_slot (name := Str.ofString "__next__") hT F.slot_zip_next (wpAny_call_entry F.slot_zip_next hT F.entry_zip_next ?_ (F.args_zip_next_1 _))))
  show wpAny _ _ (field (.ref z) 2 >>= _) _ _ _
  refine wpAny_bind (wpAny_field hz rfl (x := .bool false) rfl ?_)
  show wpAny _ _ (field (.ref z) 3 >>= _) _ _ _
  refine wpAny_bind (wpAny_field hz rfl (x := .ref TI) rfl ?_)
  refine wpAny_bind (wpAny_seqItems hTI rfl ?_)
  refine wpAny_bind (gave_free (z := z) hz g ?free fun u1 z1 s1 => ?held)
  case free =>
    simp only [if_true]
    refine wpAny_bind (wpAny_rule ?_)
    refine wpAny_bind (wpAny_field hz rfl (x := .ref TO) rfl ?_)
    refine wpAny_bind (wpAny_setField_rec hz (by simp) fun u1 z1 s1 => ?_)
    replace z1 : ZipSt u1 z TI TO .ellipsis f := z1
    refine wpAny_bind ?_
    simp only [List.zipIdx_cons, List.zipIdx_nil, List.forIn_cons, List.forIn_nil]
    refine wpAny_bind (wpAny_bind (wpAny_onRaise ?_))
    show wpAny _ _ (Builtin.SmallTypes.nextOf (.ref i1) >>= _) _ _ _
    cases hx : xs[k1]? with
    | none =>
      refine wpAny_bind (nextIn_end hh (h1.on fun o e => s1.extBut _ _ D.i1z e) (hl1.on s1.extBut D.l1z) hx fun u2 e s2 he => ?_)
      obtain ⟨oe, hoe, hce⟩ := he
      have z2 : ZipSt u2 z TI TO .ellipsis f := s2 _ _ D.i1z.symm z1
      have hez : e ≠ z := fun x => by subst x; rw [z2] at hoe; cases hoe; simp at hce
      refine wpAny_setField_rec z2 (by simp) fun u3 _ s3 => ?_
      refine wpAny_bind (wpAny_isInstance (T := "StopIteration") (b := true) ⟨oe, s3.extBut _ _ hez hoe, hce⟩ isSubtype_stop ?_)
      exact wpAny_pure (hQ u3 fun c o c1 _ c3 _ x => s3.extBut _ _ c1 (s2 _ _ c3 (s1.extBut _ _ c1 x)))
    | some x =>
      have hy : ys[k2]? = none := by rcases hend with h | h; rw [hx] at h; cases h; exact h
      refine wpAny_bind (nextIn_item (h1.on fun o e => s1.extBut _ _ D.i1z e) (hl1.on s1.extBut D.l1z) hx fun u2 a2 s2 => wpAny_pure ?_)
      have p2 : IsPair u2 TO a b := s2.extBut _ _ D.TOi1 (s1.extBut _ _ D.TOz hTO)
      refine wpAny_bind (wpAny_seqItems p2 rfl ?_)
      refine wpAny_bind (wpAny_updateSeq_pair p2 fun u3 p3 s3 => ?_)
      refine wpAny_bind (wpAny_letGo (wpAny_pure ?_))
      refine wpAny_bind (wpAny_bind (wpAny_onRaise ?_))
      show wpAny _ _ (Builtin.SmallTypes.nextOf (.ref i2) >>= _) _ _ _
      refine wpAny_bind (nextIn_end hh (h2.on fun o e => s3.extBut _ _ D.TOi2.symm (s2.extBut _ _ D.i12.symm (s1.extBut _ _ D.i2z e)))
        (((hl2.on s1.extBut D.l2z).on s2.extBut D.l2i1).on s3.extBut D.l2TO) hy fun u4 e s4 he => ?_)
      obtain ⟨oe, hoe, hce⟩ := he
      have z4 : ZipSt u4 z TI TO .ellipsis f := s4 _ _ D.i2z.symm (s3.extBut _ _ D.TOz.symm (s2.extBut _ _ D.i1z.symm z1))
      have hez : e ≠ z := fun x => by subst x; rw [z4] at hoe; cases hoe; simp at hce
      refine wpAny_setField_rec z4 (by simp) fun u5 _ s5 => ?_
      refine wpAny_bind (wpAny_isInstance (T := "StopIteration") (b := true) ⟨oe, s5.extBut _ _ hez hoe, hce⟩ isSubtype_stop ?_)
      exact wpAny_pure (hQ u5 fun c o c1 c2 c3 c4 x => s5.extBut _ _ c1 (s4 _ _ c4 (s3.extBut _ _ c2 (s2.extBut _ _ c3 (s1.extBut _ _ c1 x)))))
  case held =>
    simp only [Bool.false_eq_true, if_false]
    refine wpAny_bind ?_
    rw [← Array.forIn_toList]
    simp only [List.forIn_cons, List.forIn_nil]
    refine wpAny_bind (wpAny_bind (wpAny_holding ?_))
    show wpAny _ _ (Builtin.SmallTypes.nextOf (.ref i1) >>= _) _ _ _
    cases hx : xs[k1]? with
    | none =>
      refine wpAny_bind (nextIn_end (s := { s with heap := u1 }) hh (h1.on fun o e => s1.extBut _ _ D.i1z e) (hl1.on s1.extBut D.l1z) hx fun u2 e s2 he => ?_)
      obtain ⟨oe, hoe, hce⟩ := he
      refine wpAny_bind (wpAny_isInstance (T := "StopIteration") (b := true) ⟨oe, hoe, hce⟩ isSubtype_stop ?_)
      exact wpAny_pure (hQ u2 fun c o c1 _ c3 _ x => s2 _ _ c3 (s1.extBut _ _ c1 x))
    | some x =>
      have hy : ys[k2]? = none := by rcases hend with h | h; rw [hx] at h; cases h; exact h
      refine wpAny_bind (nextIn_item (s := { s with heap := u1 }) (h1.on fun o e => s1.extBut _ _ D.i1z e) (hl1.on s1.extBut D.l1z) hx fun u2 a2 s2 => wpAny_pure ?_)
      refine wpAny_pure ?_
      refine wpAny_bind (wpAny_bind (wpAny_holding ?_))
      show wpAny _ _ (Builtin.SmallTypes.nextOf (.ref i2) >>= _) _ _ _
      refine wpAny_bind (nextIn_end (s := { s with heap := u2 }) hh (h2.on fun o e => s2.extBut _ _ D.i12.symm (s1.extBut _ _ D.i2z e)) ((hl2.on s1.extBut D.l2z).on s2.extBut D.l2i1) hy fun u3 e s3 he => ?_)
      obtain ⟨oe, hoe, hce⟩ := he
      refine wpAny_bind (wpAny_isInstance (T := "StopIteration") (b := true) ⟨oe, hoe, hce⟩ isSubtype_stop ?_)
      exact wpAny_pure (hQ u3 fun c o c1 _ c3 c4 x => s3 _ _ c4 (s2.extBut _ _ c3 (s1.extBut _ _ c1 x)))
/-- what is done with the tuple that it gave out ahead of a target -/
theorem goG {tg : Expr} {z TI TO T : Addr} {f0 : Value} {f : Bool} {Q : Unit → Shared → Prop} (hz : ZipSt s.heap z TI TO f0 f) (g : Gave f0)
    (hQ : ∀ h' f0', ZipSt h' z TI TO f0' f → Gave f0' → Heap.SameBut z s.heap h' → Q () { s with heap := h' }) : wpAny (model prog w) A (letOwnedTupleGo tg (.ref z) (.ref T)) Q E s := by
  have q0 : Q () s := hQ s.heap f0 hz g (Heap.SameBut.refl _ _)
  unfold letOwnedTupleGo
  cases tg <;> first
    | exact wpAny_pure q0
    | (refine wpAny_bind (wpAny_load hz ?_)
       show wpAny _ _ (if (["enumerate", "zip", "dict_itemiterator", "dict_reverseitemiterator", "odict_iterator", "itertools.zip_longest", "itertools.pairwise"].contains "zip" && (#[f0, .bool f, .bool false, .ref TI, .ref TO] : Array Value)[0]? == some (rawInt T)) = true then _ else _) Q E s
       split
       · refine wpAny_bind (wpAny_rule ?_)
         show wpAny _ _ (setField (.ref z) 0 .none) Q E s
         exact wpAny_setField_rec hz (by simp) fun h' z' s' => hQ h' .none z' (.inl rfl) s'
       · exact wpAny_pure q0)
abbrev zG1 (t : Bool) (h : Heap) (l1 : Addr) : Heap := h.push (itObj t l1)
abbrev zG2 (t1 t2 : Bool) (h : Heap) (l1 l2 : Addr) : Heap := (zG1 t1 h l1).push (itObj t2 l2)
abbrev zG3 (t1 t2 : Bool) (h : Heap) (l1 l2 : Addr) : Heap := (zG2 t1 t2 h l1 l2).push { cls := .type "tuple", data := .seq #[.ref h.objs.size, .ref (zG1 t1 h l1).objs.size] }
abbrev zG4 (t1 t2 : Bool) (h : Heap) (l1 l2 : Addr) : Heap := (zG3 t1 t2 h l1 l2).push { cls := .type "tuple", data := .seq #[.none, .none] }
abbrev zG5 (t1 t2 : Bool) (h : Heap) (l1 l2 : Addr) : Heap := (zG4 t1 t2 h l1 l2).push { cls := .type "zip", data := .fields #[.none, .bool false, .bool false, .ref (zG2 t1 t2 h l1 l2).objs.size, .ref (zG3 t1 t2 h l1 l2).objs.size] }
theorem iterG {t : Bool} {l : Addr} {xs : Array Value} {Q : Value → Shared → Prop} (hl : SeqIs t s.heap l xs) (q : Q (.ref s.heap.objs.size) { s with heap := s.heap.push (itObj t l) }) : wpAny (model prog w) A (pyIter (.ref l)) Q E s := by
  cases t
  · exact wpAny_pyIter_list hl q
  · exact wpAny_pyIter_tuple hl q
end
theorem meets_zipG (t1 t2 : Bool) (l1 l2 : Addr) (xs ys : Array Value) :
    Meets (Builtin.«zip.__new__» ⟨[.type "zip", .ref l1, .ref l2], []⟩) (fun _ R s => SeqIs t1 s.heap l1 xs ∧ SeqIs t2 s.heap l2 ys ∧
      R (.ok (.ret (.ref (zG4 t1 t2 s.heap l1 l2).objs.size))) { s with heap := zG5 t1 t2 s.heap l1 l2 }) :=
  .of_wp fun prog w A R s h => by
    obtain ⟨hp, g, d, tk, os⟩ := s
    obtain ⟨hl1, hl2, h⟩ := h
    have hsub := sub_zip
    have q1 : SeqIs t1 (Shared.heap ⟨hp, g, d, tk, os⟩) l1 xs := hl1
    have q2 : SeqIs t2 (Shared.heap ⟨hp.push (itObj t1 l1), g, d, tk, os⟩) l2 ys := SeqIs.push hl2 _
    wp_walk using iterG q1, iterG q2
    exact ⟨_, rfl, h⟩
theorem call_zipG {prog : Program} {w : World} {A : Around} {E : Value → Shared → Prop} {s : Shared} {t1 t2 : Bool} {l1 l2 : Addr} {xs ys : Array Value} {Q : Value → Shared → Prop} (hl1 : SeqIs t1 s.heap l1 xs) (hl2 : SeqIs t2 s.heap l2 ys)
    (h : ∀ h', ZipSt h' (s.heap.objs.size + 4) (s.heap.objs.size + 2) (s.heap.objs.size + 3) .none false → IsPair h' (s.heap.objs.size + 2) (.ref s.heap.objs.size) (.ref (s.heap.objs.size + 1)) →
      IsPair h' (s.heap.objs.size + 3) .none .none → ItAt t1 h' s.heap.objs.size l1 0 → ItAt t2 h' (s.heap.objs.size + 1) l2 0 →
      (∀ c o, s.heap.get? c = some o → h'.get? c = some o) → Q (.ref (s.heap.objs.size + 4)) { s with heap := h' }) :
    wpAny (model prog w) A (call (.type "zip") [.ref l1, .ref l2]) Q E s := by
  refine callType_new F.called_zip (by decide) (F.typeCall_zip_2 _ _) (F.newCall_zip_2 _ _) (fun obj => F.args_object_init_3 obj _ _) F.entry_zip_new (meets_zipG t1 t2 l1 l2 xs ys) ⟨hl1, hl2, ?_⟩
  have z1 : (zG1 t1 s.heap l1).objs.size = s.heap.objs.size + 1 := Heap.size_push ..
  have z2 : (zG2 t1 t2 s.heap l1 l2).objs.size = s.heap.objs.size + 2 := by rw [Heap.size_push, z1]
  have z3 : (zG3 t1 t2 s.heap l1 l2).objs.size = s.heap.objs.size + 3 := by rw [Heap.size_push, z2]
  have z4 : (zG4 t1 t2 s.heap l1 l2).objs.size = s.heap.objs.size + 4 := by rw [Heap.size_push, z3]
  have g5 : (zG5 t1 t2 s.heap l1 l2).get? (zG4 t1 t2 s.heap l1 l2).objs.size = some _ := Heap.get?_push_size _ rfl
  have g4 : (zG5 t1 t2 s.heap l1 l2).get? (zG3 t1 t2 s.heap l1 l2).objs.size = some _ := Heap.get?_push_of_some _ (Heap.get?_push_size _ rfl)
  have g3 : (zG5 t1 t2 s.heap l1 l2).get? (zG2 t1 t2 s.heap l1 l2).objs.size = some _ := Heap.get?_push_of_some _ (Heap.get?_push_of_some _ (Heap.get?_push_size _ rfl))
  have g2 : (zG5 t1 t2 s.heap l1 l2).get? (zG1 t1 s.heap l1).objs.size = some (itObj t2 l2) := Heap.get?_push_of_some _ (Heap.get?_push_of_some _ (Heap.get?_push_of_some _ (Heap.get?_push_size _ (by cases t2 <;> rfl))))
  have g1 : (zG5 t1 t2 s.heap l1 l2).get? s.heap.objs.size = some (itObj t1 l1) := Heap.get?_push_of_some _ (Heap.get?_push_of_some _ (Heap.get?_push_of_some _ (Heap.get?_push_of_some _ (Heap.get?_push_size _ (by cases t1 <;> rfl)))))
  show _ ∧ _
  rw [z2, z3, z4] at g5
  rw [z1, z2] at g3
  rw [z3] at g4
  rw [z1] at g2
  rw [z4]
  exact ⟨⟨_, g5, rfl⟩, h _ g5 g3 g4 (itAt_new t1 g1) (itAt_new t2 g2) fun c o x =>
    Heap.get?_push_of_some _ (Heap.get?_push_of_some _ (Heap.get?_push_of_some _ (Heap.get?_push_of_some _ (Heap.get?_push_of_some _ x))))⟩
theorem Sq.at {X : Cx} {pins : List (Addr × Obj)} {σ : L2.St} {H : Hp} {s : Shared} {t : Bool} {a : Addr} {xs : List V} (I : Inv X pins σ H s) (h : Sq t X.K H a xs) : ∃ its : List Value, Vals xs its ∧ SeqIs t s.heap a its.toArray := by
  cases t
  · obtain ⟨its, r, p, _⟩ := I.list h
    exact ⟨its, r, p.isList⟩
  · obtain ⟨its, r, p, _⟩ := I.tuple h
    exact ⟨its, r, p⟩
theorem Sq.inj {X : Cx} {pins : List (Addr × Obj)} {σ : L2.St} {H : Hp} {s : Shared} {t : Bool} {a : Addr} {xs ys : List V} (I : Inv X pins σ H s) (h : Sq t X.K H a xs) (h' : Sq t X.K H a ys) : xs = ys := by
  cases t
  · exact I.list_inj h h'
  · exact I.tuple_inj h h'
/-- the rows at a and b as they stand at each turn, the items in new pairs -/
def ItzG (K : PySem.W.Frag) (t1 t2 : Bool) (a b : Addr) : It :=
  ⟨fun i H => ∃ (xs ys : List V) (x y : V), Sq t1 K H a xs ∧ Sq t2 K H b ys ∧ xs[i]? = some x ∧ ys[i]? = some y,
    fun i H v H' => ∃ T x y, v = .ref T ∧ H T = none ∧ H' = upd H T (.tup [x, y]) ∧ (∀ xs, Sq t1 K H a xs → xs[i]? = some x) ∧ ∀ ys, Sq t2 K H b ys → ys[i]? = some y,
    fun i H => ∃ xs ys : List V, Sq t1 K H a xs ∧ Sq t2 K H b ys ∧ (xs.length ≤ i ∨ ys.length ≤ i)⟩
theorem turn_zipG {P : Program} {w : World} {K : PySem.W.Frag} {tg : Expr} {t1 t2 : Bool} {a b z TI TO i1 i2 : Addr} (D : ZipApart z TI TO i1 i2 a b) :
    Turn P w K tg (ItzG K t1 t2 a b) [z, TI, TO, i1, i2] z (fun i h => (∃ f0 f, ZipSt h z TI TO f0 f ∧ Gave f0) ∧ IsPair h TI (.ref i1) (.ref i2) ∧ (∃ x y, IsPair h TO x y) ∧ ItAt t1 h i1 a i ∧ ItAt t2 h i2 b i) where
  mem := by simp
  obj := fun i h st c hc => by
    obtain ⟨⟨f0, f, hz, _⟩, hTI, ⟨x, y, hTO⟩, h1, h2⟩ := st
    obtain ⟨o1, fs1, e1, d1⟩ := h1.get
    obtain ⟨o2, fs2, e2, d2⟩ := h2.get
    have e' : c = z ∨ c = TI ∨ c = TO ∨ c = i1 ∨ c = i2 := by simpa using hc
    rcases e' with q | q | q | q | q
    · rw [q]; exact ⟨_, hz, fun v q => nomatch q⟩
    · rw [q]; exact ⟨_, hTI, fun v q => nomatch q⟩
    · rw [q]; exact ⟨_, hTO, fun v q => nomatch q⟩
    · rw [q]; exact ⟨o1, e1, fun v q => by rw [d1] at q; cases q⟩
    · rw [q]; exact ⟨o2, e2, fun v q => by rw [d2] at q; cases q⟩
  keep := fun i h h' st k => by
    obtain ⟨⟨f0, f, hz, g⟩, hTI, ⟨x, y, hTO⟩, h1, h2⟩ := st
    exact ⟨⟨f0, f, k z (by simp) _ hz, g⟩, k TI (by simp) _ hTI, ⟨x, y, k TO (by simp) _ hTO⟩, h1.on fun o q => k i1 (by simp) o q, h2.on fun o q => k i2 (by simp) o q⟩
  item := by
    intro X hP hw hK hc i pins s σ H E I hf st hg
    subst hP hw hK
    obtain ⟨⟨f0, f, hz, g⟩, hTI, ⟨x0, y0, hTO⟩, h1, h2⟩ := st
    obtain ⟨xs, ys, x, y, hqx, hqy, hx, hy⟩ := hg
    obtain ⟨its, rv, p⟩ := hqx.at I
    obtain ⟨its2, rv2, p2⟩ := hqy.at I
    obtain ⟨u, hu, ru⟩ := rv.get hx
    obtain ⟨u2, hu2, ru2⟩ := rv2.get hy
    have hzl : z < s.heap.objs.size := Heap.lt_size hz
    refine zipG_item D hz g hTI hTO h1 h2 p p2 (x := u) (y := u2) (by simpa using hu) (by simpa using hu2) fun h' f0' f' z' g' TO' h1' h2' hT hsz hk => ?_
    refine ⟨_, rfl, goG (s := { s with heap := h' }) z' g' fun h'' f0'' z'' g'' sb => ?_⟩
    have hT2 : h''.get? s.heap.objs.size = some { cls := .type "tuple", data := .seq #[u, u2] } := (sb.2 _ (Nat.ne_of_gt hzl)).trans hT
    have new : ObjOk X.prog X.w (upd H s.heap.objs.size (.tup [x, y])) h'' s.heap.objs.size (.tup [x, y]) :=
      ⟨by show 2 ≤ sizeLine; decide, [u, u2], .cons ru (.cons ru2 .nil), ⟨_, hT2, rfl, _, rfl⟩⟩
    have I1 : Inv X pins σ (upd H s.heap.objs.size (.tup [x, y])) { s with heap := h'' } :=
      I.turnedNew (t' := s.toks) (ch := [z, TI, TO, i1, i2]) (fun c o hb q => (sb.2 c (fun q' => hb (by simp [q']))).trans (hk c o (fun q' => hb (by simp [q'])) (fun q' => hb (by simp [q'])) (fun q' => hb (by simp [q'])) (fun q' => hb (by simp [q'])) q)) hf (Nat.le_refl _) new
    have TI' : IsPair h' TI (.ref i1) (.ref i2) := hk _ _ D.TIz D.TITO D.TIi1 D.TIi2 hTI
    obtain ⟨x1, y1, TO'⟩ := TO'
    refine ⟨.ref s.heap.objs.size, _, I1, rfl, ⟨_, x, y, rfl, I.hok.fresh (Nat.le_refl _), rfl, fun l hl => by rw [hl.inj I hqx]; exact hx, fun l hl => by rw [hl.inj I hqy]; exact hy⟩, ⟨⟨_, _, z'', g''⟩, ?_, ⟨x1, y1, ?_⟩, ?_, ?_⟩, fun c hcm => ?_⟩
    · exact (sb.2 _ D.TIz).trans TI'
    · exact (sb.2 _ D.TOz).trans TO'
    · exact h1'.on fun o q => (sb.2 _ D.i1z).trans q
    · exact h2'.on fun o q => (sb.2 _ D.i2z).trans q
    · have hlt : c < s.heap.objs.size := by
        obtain ⟨o1, _, e1, _⟩ := h1.get
        obtain ⟨o2, _, e2, _⟩ := h2.get
        have e' : c = z ∨ c = TI ∨ c = TO ∨ c = i1 ∨ c = i2 := by simpa using hcm
        rcases e' with q | q | q | q | q
        · rw [q]; exact hzl
        · rw [q]; exact Heap.lt_size hTI
        · rw [q]; exact Heap.lt_size hTO
        · rw [q]; exact Heap.lt_size e1
        · rw [q]; exact Heap.lt_size e2
      rw [upd_ne (Nat.ne_of_lt hlt)]
      exact (hf c hcm).1
  done := by
    intro X hP hw hK hc i pins s σ H E I hf st hg
    subst hP hw hK
    obtain ⟨⟨f0, f, hz, g⟩, hTI, ⟨x0, y0, hTO⟩, h1, h2⟩ := st
    obtain ⟨xs, ys, hqx, hqy, hend⟩ := hg
    obtain ⟨its, rv, p⟩ := hqx.at I
    obtain ⟨its2, rv2, p2⟩ := hqy.at I
    have l1 := rv.length
    have l2 := rv2.length
    have he : its.toArray[i]? = none ∨ its2.toArray[i]? = none := by
      rcases hend with q | q
      · exact .inl (by simp; omega)
      · exact .inr (by simp; omega)
    exact zipG_end (I.ok.hd hc) D hz g hTI hTO h1 h2 p p2 he fun h' hk => ⟨rfl, I.turnedL (t' := s.toks) (ch := [z, TI, TO, i1, i2]) (fun c o hb q =>
      hk c o (fun q' => hb (by simp [q'])) (fun q' => hb (by simp [q'])) (fun q' => hb (by simp [q'])) (fun q' => hb (by simp [q'])) q) hf⟩
  self := fun A i s Q E st h => by
    obtain ⟨⟨f0, f, hz, g⟩, _⟩ := st
    have hT : s.TypeIs (.ref z) "zip" := ⟨_, hz, rfl⟩
    refine wpAny_pyIter_slot hT F.slot_zip_iter (wpAny_call_entry F.slot_zip_iter hT F.entry_zip_iter ?_ (F.args_zip_iter_1 _))
    show wpAny _ _ (ret (.ref z)) _ _ s
    exact wpAny_pure ⟨_, rfl, "zip", _, hT, F.slot_zip_next.lookup, h⟩
def iZipG (K : PySem.W.Frag) (ta : TA) : TI := fun σ H R => ta σ H fun vs H1 => ∃ (t1 t2 : Bool) (a b : Addr) (xs ys : List V), vs = [.ref a, .ref b] ∧ Sq t1 K H1 a xs ∧ Sq t2 K H1 b ys ∧ R (ItzG K t1 t2 a b) H1
theorem pi_zipG {X : Cx} {tg e e2 : Expr} {ta : TA} {p pos : Pos} (hg : Gl X "zip") (hm : X.mg "zip" = none) (ha : PA X [e, e2] ta)
    (hs : starEach [e, e2] X.env = (false, eval e X.env) :: starEach [e2] X.env := by rfl) (hpl : (backTo pos (starEach [e2] X.env)).any (·.1) = false := by rfl) :
    PI X tg (.Call (.Name "zip" p) [e, e2] [] pos) (iZipG X.K ta) := by
  refine ⟨fun pins s σ H R I h => ?_⟩
  refine Call_ (ld_blt I hg hm PyProof.Rows.boot_zip (PyProof.Rows.callWith_type1 (thn (ha.run pos pins s σ H _ I h) fun us s1 ⟨vs, H1, I1, r1, q1⟩ => ?_) hs hpl))
  obtain ⟨t1, t2, a, b, xs, ys, ex, hqx, hqy, q⟩ := q1
  subst ex
  cases r1 with
  | cons r rr =>
    cases rr with
    | cons r' rr =>
      cases rr
      cases r
      cases r'
      obtain ⟨its, rv, p1⟩ := hqx.at I1
      obtain ⟨its2, rv2, p2⟩ := hqy.at I1
      refine call_zipG p1 p2 fun h' hz hTI hTO h1 h2 hk => ?_
      have hT : Shared.TypeIs { s1 with heap := h' } (.ref (s1.heap.objs.size + 4)) "zip" := ⟨_, hz, rfl⟩
      refine wpAny_pyIter_slot hT F.slot_zip_iter (wpAny_call_entry F.slot_zip_iter hT F.entry_zip_iter ?_ (F.args_zip_iter_1 _))
      show wpAny _ _ (ret (.ref _)) _ _ _
      refine wpAny_pure ⟨_, rfl, "zip", _, hT, F.slot_zip_next.lookup, ?_⟩
      have I2 : Inv X pins σ H1 { s1 with heap := h' } := I1.kept (t' := s1.toks) hk
      refine ⟨s1.heap.objs.size + 4, [s1.heap.objs.size + 4, s1.heap.objs.size + 2, s1.heap.objs.size + 3, s1.heap.objs.size, s1.heap.objs.size + 1], _, _, H1, rfl, I2, turn_zipG (PySem.W.ktu_apart s1.heap.objs.size a b p1.lt p2.lt), ⟨⟨_, _, hz, .inl rfl⟩, hTI, ⟨_, _, hTO⟩, h1, h2⟩, fun c hcm => ?_, q⟩
      have e' : c = s1.heap.objs.size + 4 ∨ c = s1.heap.objs.size + 2 ∨ c = s1.heap.objs.size + 3 ∨ c = s1.heap.objs.size ∨ c = s1.heap.objs.size + 1 := by simpa using hcm
      have hle : s1.heap.objs.size ≤ c := by
        rcases e' with z | z | z | z | z <;> (rw [z]; omega)
      exact I1.fpOk hle (I1.hok.fresh hle)
theorem walk_zipG {K : PySem.W.Frag} {t1 t2 : Bool} {a b : Addr} {xs ys : List V} {n : Nat} (hn : n = min xs.length ys.length) : Walk (ItzG K t1 t2 a b) n (fun H => Sq t1 K H a xs ∧ Sq t2 K H b ys) (YPair (fun i => xs[i]?) (fun i => ys[i]?)) := by
  subst hn
  refine ⟨fun i _ hi q => ?_, fun _ q => ⟨xs, ys, q.1, q.2, by omega⟩, fun i H v H' _ q y => ?_⟩
  · have h1 : i < xs.length := by omega
    have h2 : i < ys.length := by omega
    exact ⟨xs, ys, xs[i], ys[i], q.1, q.2, by simp [h1], by simp [h2]⟩
  · obtain ⟨T, x, z, h1, h2, h3, h4, h5⟩ := y
    exact ⟨T, x, z, h1, h2, h3, h4 xs q.1, h5 ys q.2⟩
end ZG
namespace EnT
open PySem PySem.Spec PyProof.Rows L2
/-! ### enumerate over a tuple -/
theorem meets_enumT (l : Addr) (items : Array Value) :
    Meets (Builtin.«enumerate.__new__» ⟨[.type "enumerate", .ref l], []⟩) (fun _ R s => s.heap.IsTuple l items ∧
      R (.ok (.ret (.ref (s.heap.push { cls := .type "tuple_iterator", data := .fields #[.ref l, .int 0 0] }).objs.size)))
        { s with heap := (s.heap.push { cls := .type "tuple_iterator", data := .fields #[.ref l, .int 0 0] }).push { cls := .type "enumerate", data := .fields #[.none, .bool false, .ref s.heap.objs.size, rawInt 0, .none, .none] } }) :=
  .of_wp fun prog w A R s h => by
    obtain ⟨hp, g, d, tk, os⟩ := s; obtain ⟨hl, h⟩ := h
    have hsub := sub_enumerate
    have q1 : ∀ {A' : Around} {E : Value → Shared → Prop} {Q : Value → Shared → Prop}, Q (.ref hp.objs.size) ⟨hp.push { cls := .type "tuple_iterator", data := .fields #[.ref l, .int 0 0] }, g, d, tk, os⟩ → wpAny (model prog w) A' (pyIter (.ref l)) Q E ⟨hp, g, d, tk, os⟩ :=
      fun q => wpAny_pyIter_tuple (s := ⟨hp, g, d, tk, os⟩) hl q
    wp_walk using q1
    refine wpAny_stack_any fun st => wpAny_pure ?_
    split
    · rename_i c _ _ _ _ _
      cases (c == Value.type "enumerate")
      · wp_walk using q1
        exact ⟨_, rfl, h⟩
      · wp_walk using q1
        exact ⟨_, rfl, h⟩
    · wp_walk using q1
      exact ⟨_, rfl, h⟩
theorem call_enumT {prog : Program} {w : World} {A : Around} {E : Value → Shared → Prop} {s : Shared} {l : Addr} {items : Array Value} {Q : Value → Shared → Prop} (hL : s.heap.IsTuple l items)
    (h : ∀ h', IsEnum h' (s.heap.objs.size + 1) s.heap.objs.size 0 .none → h'.IsTupleIter s.heap.objs.size l 0 → h'.objs.size = s.heap.objs.size + 2 →
      (∀ b o, s.heap.get? b = some o → h'.get? b = some o) → Q (.ref (s.heap.objs.size + 1)) { s with heap := h' }) :
    wpAny (model prog w) A (call (.type "enumerate") [.ref l]) Q E s := by
  refine callType_new F.called_enumerate (by decide) (F.typeCall_enumerate_1 _) (F.newCall_enumerate_1 _) (fun obj => F.args_object_init_2 obj _) F.entry_enumerate_new
    (meets_enumT l items) ⟨hL, ?_⟩
  have hz : (s.heap.push { cls := .type "tuple_iterator", data := .fields #[.ref l, .int 0 0] }).objs.size = s.heap.objs.size + 1 := Heap.size_push ..
  show _ ∧ _
  rw [hz]
  have he : IsEnum ((s.heap.push { cls := .type "tuple_iterator", data := .fields #[.ref l, .int 0 0] }).push
      { cls := .type "enumerate", data := .fields #[.none, .bool false, .ref s.heap.objs.size, rawInt 0, .none, .none] }) (s.heap.objs.size + 1) s.heap.objs.size 0 .none := by
    have := Heap.get?_push_size (s.heap.push { cls := .type "tuple_iterator", data := .fields #[.ref l, .int 0 0] })
      (o := { cls := .type "enumerate", data := .fields #[.none, .bool false, .ref s.heap.objs.size, rawInt 0, .none, .none] }) rfl
    rw [hz] at this; exact this
  refine ⟨⟨_, he, rfl⟩, h _ he ⟨_, Heap.get?_push_of_some _ (Heap.get?_push_size _ rfl), rfl, rfl⟩ (by rw [Heap.size_push, hz]) fun b o x => Heap.get?_push_of_some _ (Heap.get?_push_of_some _ x)⟩
/-- the tuple at a as it stands at each turn, each item in a new pair -/
def IteT (K : PySem.W.Frag) (a : Addr) : It :=
  ⟨fun i H => ∃ (xs : List V) (x : V), SqT K H a xs ∧ xs[i]? = some x, fun i H v H' => ∃ T x, v = .ref T ∧ H T = none ∧ H' = upd H T (.tup [.int (i : Nat), x]) ∧ ∀ xs, SqT K H a xs → xs[i]? = some x, fun i H => ∃ xs : List V, SqT K H a xs ∧ xs.length ≤ i⟩
theorem enumT_end {prog : Program} {w : World} {A : Around} {E : Value → Shared → Prop} {s : Shared} {e it t : Addr} {i : Nat} {items : Array Value} {old : Value} {Q : Option Value → Shared → Prop} (hh : A.handled = none)
    (he : IsEnum s.heap e it i old) (hit : s.heap.IsTupleIter it t i) (ht : s.heap.IsTuple t items) (hx : items[i]? = none)
    (hQ : ∀ h', Heap.ExtBut it s.heap h' → Q none { s with heap := h' }) : wpAny (model prog w) A (pyNext (.ref e)) Q E s := by
  have hT : s.TypeIs (.ref e) "enumerate" := ⟨_, he, rfl⟩
  unfold pyNext
  refine wpAny_bind (wpAny_attempt (wpAny_callSpecial?_slot (name := Str.ofString "__next__") hT F.slot_enumerate_next
    (wpAny_call_entry F.slot_enumerate_next hT F.entry_enumerate_next ?_ (F.args_enumerate_next_1 _))))
  show wpAny _ _ (field (.ref e) 2 >>= _) _ _ _
  refine wpAny_bind (wpAny_field he rfl (x := .ref it) rfl ?_)
  refine wpAny_bind (wpAny_nextOf_tuple_end (A := A.in1) hh hit ht hx fun h' x he' hx' => ?_)
  obtain ⟨o, ho, hc⟩ := hx'
  refine wpAny_bind (wpAny_isInstance (T := "StopIteration") (b := true) ⟨o, ho, hc⟩ isSubtype_stop ?_)
  exact wpAny_pure (hQ _ he')
theorem turn_enumT {P : Program} {w : World} {K : PySem.W.Frag} {elts : List Expr} {kk : Nat} {tpos : Pos} (a e it : Addr) :
    Turn P w K (.Tuple elts kk tpos) (IteT K a) [e, it] e (fun i h => (∃ old, IsEnum h e it ((i : Nat) : Int) old) ∧ h.IsTupleIter it a i ∧ e ≠ it) where
  mem := by simp
  obj := fun i h st b hb => by
    obtain ⟨⟨old, he⟩, ⟨o, ho, hc, hd⟩, _⟩ := st
    have e' : b = e ∨ b = it := by simpa using hb
    rcases e' with z | z
    · rw [z]; exact ⟨_, he, fun v q => nomatch q⟩
    · rw [z]; exact ⟨o, ho, fun v q => by rw [hd] at q; cases q⟩
  keep := fun i h h' st k => let ⟨⟨old, he⟩, hi, hne⟩ := st; ⟨⟨old, k e (by simp) _ he⟩, hi.at fun o q => k it (by simp) o q, hne⟩
  item := by
    intro X hP hw hK hc i pins s σ H E I hf st hg
    subst hP hw hK
    obtain ⟨⟨old, he⟩, hit, hne⟩ := st
    obtain ⟨xs, x, hq, hx⟩ := hg
    obtain ⟨its, rv, p, hz⟩ := I.tuple hq
    obtain ⟨u, hu, ru⟩ := rv.get hx
    have hel : e < s.heap.objs.size := Heap.lt_size he
    have hil : it < s.heap.objs.size := by obtain ⟨_, q, _⟩ := hit; exact Heap.lt_size q
    have hT0 : s.heap.IsTuple a its.toArray := p
    have nae : e ≠ a := fun z => by
      obtain ⟨o, ho, hcl, _⟩ := hT0
      rw [← z, he] at ho
      obtain rfl := Option.some.inj ho
      exact absurd (show Value.type "enumerate" = Value.type "tuple" from hcl) (by decide)
    have nai : a ≠ it := fun z => by
      obtain ⟨o, ho, hcl, _⟩ := hT0
      obtain ⟨o2, ho2, hcl2, _⟩ := hit
      rw [z, ho2] at ho
      obtain rfl := Option.some.inj ho
      rw [hcl2] at hcl
      exact absurd (show Value.type "tuple_iterator" = Value.type "tuple" from hcl) (by decide)
    refine wpAny_pyNext_enum_itemD (i := i) (Draws.tuple (A := X.A.in1) (I.ok.hd hc) it a nai its.toArray) he ⟨hit, hT0⟩ (by
      have := (List.getElem?_eq_some_iff.mp hu).1
      simpa using this) hne (by simp [hne, nae]) fun y h' tk hy ho hst' hT hsz hk => ?_
    have ey : y = u := by
      have hy' : its[i]? = some y := by simpa using hy
      rw [hu] at hy'
      exact (Option.some.inj hy').symm
    subst ey
    refine ⟨_, rfl, wpAny_letOwnedTupleGo_enum (s := { s with heap := h', toks := tk + 1 }) ho fun h'' he' sb => ?_⟩
    have hT2 : h''.get? s.heap.objs.size = some { cls := .type "tuple", data := .seq #[.int i tk, y] } := (sb.2 _ (Nat.ne_of_gt hel)).trans hT
    have new : ObjOk X.prog X.w (upd H s.heap.objs.size (.tup [.int (i : Nat), x])) h'' s.heap.objs.size (.tup [.int (i : Nat), x]) :=
      ⟨by show 2 ≤ sizeLine; decide, [.int i tk, y], .cons ⟨_, rfl⟩ (.cons ru .nil), ⟨_, hT2, rfl, _, rfl⟩⟩
    have I1 : Inv X pins σ (upd H s.heap.objs.size (.tup [.int (i : Nat), x])) { s with heap := h'', toks := tk + 1 } :=
      I.turnedNew (ch := [e, it]) (fun b ob hb q => (sb.2 b (fun z => hb (by simp [z]))).trans (hk b ob (fun z => hb (by simp [z])) (fun z => hb (by simp [z])) q)) hf (Nat.le_refl _) new
    refine ⟨.ref s.heap.objs.size, _, I1, rfl, ⟨_, x, rfl, I.hok.fresh (Nat.le_refl _), rfl, fun ys hy => by rw [I.tuple_inj hy hq]; exact hx⟩, ⟨⟨y, ?_⟩, hst'.1.at fun o q => (sb.2 it (Ne.symm hne)).trans q, hne⟩, fun b hb => ?_⟩
    · have e1 : ((i + 1 : Nat) : Int) = (i : Int) + 1 := by omega
      rw [e1]; exact he'
    · have hb' : b < s.heap.objs.size := by
        have e' : b = e ∨ b = it := by simpa using hb
        rcases e' with z | z
        · rw [z]; exact hel
        · rw [z]; exact hil
      rw [upd_ne (Nat.ne_of_lt hb')]
      exact (hf b hb).1
  done := by
    intro X hP hw hK hc i pins s σ H E I hf st hg
    subst hP hw hK
    obtain ⟨⟨old, he⟩, hit, hne⟩ := st
    obtain ⟨xs, hq, hx⟩ := hg
    obtain ⟨its, rv, p, hz⟩ := I.tuple hq
    obtain ⟨f0, f1, f2, f3, f4, f5⟩ := hf it (by simp)
    have hl := rv.length
    exact enumT_end (I.ok.hd hc) he hit p (by simp; omega) fun h' eb => ⟨rfl, I.turned (t' := s.toks) (fun b o hb q => eb b o hb q) f0 f1 f3 f4 f5⟩
  self := fun A i s Q E st h => let ⟨⟨_, he⟩, _⟩ := st; wpAny_pyIter_enum he h
def iEnumT (K : PySem.W.Frag) (ta : TA) : TI := fun σ H R => ta σ H fun vs H1 => ∃ a xs, vs = [.ref a] ∧ SqT K H1 a xs ∧ R (IteT K a) H1
theorem pi_enumT {X : Cx} {e : Expr} {ta : TA} {p pos tpos : Pos} {elts : List Expr} {kk : Nat} (hg : Gl X "enumerate") (hm : X.mg "enumerate" = none) (ha : PA X [e] ta) (hs : starEach [e] X.env = [(false, eval e X.env)] := by rfl) :
    PI X (.Tuple elts kk tpos) (.Call (.Name "enumerate" p) [e] [] pos) (iEnumT X.K ta) := by
  refine ⟨fun pins s σ H R I h => ?_⟩
  refine Call_ (ld_blt I hg hm boot_enumerate (PyProof.Rows.callWith_type1 (thn (ha.run pos pins s σ H _ I h) fun us s1 ⟨vs, H1, I1, r1, q1⟩ => ?_) hs rfl))
  obtain ⟨a, xs, ex, hq, q⟩ := q1
  subst ex
  cases r1 with
  | cons r rr =>
    cases rr
    cases r
    obtain ⟨its, rv, p', hz⟩ := I1.tuple hq
    refine call_enumT (show s1.heap.IsTuple a its.toArray from p') fun h' he hit hsz hk => wpAny_pyIter_enum he ?_
    have I2 : Inv X pins σ H1 { s1 with heap := h' } := I1.kept (t' := s1.toks) hk
    refine ⟨s1.heap.objs.size + 1, [s1.heap.objs.size + 1, s1.heap.objs.size], _, _, H1, rfl, I2, turn_enumT a (s1.heap.objs.size + 1) s1.heap.objs.size, ⟨⟨.none, he⟩, hit, Nat.succ_ne_self _⟩, fun b hb => ?_, q⟩
    have e' : b = s1.heap.objs.size + 1 ∨ b = s1.heap.objs.size := by simpa using hb
    have hle : s1.heap.objs.size ≤ b := by
      rcases e' with z | z
      · rw [z]; exact Nat.le_add_right _ _
      · rw [z]; exact Nat.le_refl _
    exact I1.fpOk hle (I1.hok.fresh hle)
/-- a loop over enumerate of a tuple -/
theorem for_enumT {K : PySem.W.Frag} {a : Addr} {xs : List V} {g : TG} {tb : TS} {D : Ends} {σ : L2.St} {H : Hp} (Pv : Nat → L2.St → Hp → Prop) (h0 : Pv 0 σ H) (hq : ∀ i σ H, Pv i σ H → SqT K H a xs)
    (hs : ∀ (i : Nat) (x : V) (T : Addr) (σ : L2.St) (H : Hp), xs[i]? = some x → Pv i σ H → H T = none → g (.ref T) σ (upd H T (.tup [.int (i : Nat), x])) fun σ2 H2 => tb { D with nx := Pv (i + 1), ct := Pv (i + 1), bk := D.nx } σ2 H2) (hd : ∀ σ H, Pv xs.length σ H → D.nx σ H) :
    ∃ W : Nat → Nat → L2.St → Hp → Prop, (∃ m, W 0 m σ H) ∧ ∀ i m σ H, W i m σ H →
      ((IteT K a).stop i H ∧ D.nx σ H) ∨ ((IteT K a).go i H ∧ ∃ N : L2.St → Hp → Prop, (∀ σ' H', N σ' H' → ∃ m', m' < m ∧ W (i + 1) m' σ' H') ∧ ∀ v H', (IteT K a).yld i H v H' → g v σ H' fun σ2 H2 => tb { D with nx := N, ct := N, bk := D.nx } σ2 H2) := by
  refine ⟨fun i m σ H => m = xs.length - i ∧ i ≤ xs.length ∧ Pv i σ H, ⟨xs.length, rfl, Nat.zero_le _, h0⟩, ?_⟩
  rintro i m σ H ⟨rfl, hi, p⟩
  have q := hq i σ H p
  rcases Nat.lt_or_ge i xs.length with hlt | hge
  · have ex := List.getElem?_eq_getElem hlt
    refine .inr ⟨⟨xs, _, q, ex⟩, Pv (i + 1), fun σ' H' p' => ⟨xs.length - (i + 1), by omega, rfl, hlt, p'⟩, ?_⟩
    rintro v H' ⟨T, x, rfl, hT, rfl, f1⟩
    exact hs i x T σ H (f1 xs q) p hT
  · have e : i = xs.length := by omega
    subst e
    exact .inl ⟨⟨xs, q, hge⟩, hd σ H p⟩
/-! ### enumerate over a list or a tuple -/
def ItEG (K : PySem.W.Frag) (t : Bool) (a : Addr) : It := match t with
  | true => IteT K a
  | false => Ite K a
def iEnumG (K : PySem.W.Frag) (ta : TA) : TI := fun σ H R => ta σ H fun vs H1 => ∃ (t : Bool) (a : Addr) (xs : List V), vs = [.ref a] ∧ ZG.Sq t K H1 a xs ∧ R (ItEG K t a) H1
theorem pi_enumG {X : Cx} {e : Expr} {ta : TA} {p pos tpos : Pos} {elts : List Expr} {kk : Nat} (hg : Gl X "enumerate") (hm : X.mg "enumerate" = none) (ha : PA X [e] ta) (hs : starEach [e] X.env = [(false, eval e X.env)] := by rfl) :
    PI X (.Tuple elts kk tpos) (.Call (.Name "enumerate" p) [e] [] pos) (iEnumG X.K ta) := by
  refine ⟨fun pins s σ H R I h => ?_⟩
  refine Call_ (ld_blt I hg hm boot_enumerate (PyProof.Rows.callWith_type1 (thn (ha.run pos pins s σ H _ I h) fun us s1 ⟨vs, H1, I1, r1, q1⟩ => ?_) hs rfl))
  obtain ⟨t, a, xs, ex, hq, q⟩ := q1
  subst ex
  have hle : ∀ b, b ∈ [s1.heap.objs.size + 1, s1.heap.objs.size] → s1.heap.objs.size ≤ b := fun b hb => by
    have e' : b = s1.heap.objs.size + 1 ∨ b = s1.heap.objs.size := by simpa using hb
    rcases e' with z | z
    · rw [z]; exact Nat.le_add_right _ _
    · rw [z]; exact Nat.le_refl _
  cases r1 with
  | cons r rr =>
    cases rr
    cases r
    cases t with
    | true =>
      obtain ⟨its, rv, p', hz⟩ := I1.tuple hq
      refine call_enumT (show s1.heap.IsTuple a its.toArray from p') fun h' he hit hsz hk => wpAny_pyIter_enum he ?_
      have I2 : Inv X pins σ H1 { s1 with heap := h' } := I1.kept (t' := s1.toks) hk
      exact ⟨s1.heap.objs.size + 1, [s1.heap.objs.size + 1, s1.heap.objs.size], _, _, H1, rfl, I2, turn_enumT a (s1.heap.objs.size + 1) s1.heap.objs.size, ⟨⟨.none, he⟩, hit, Nat.succ_ne_self _⟩, fun b hb => I1.fpOk (hle b hb) (I1.hok.fresh (hle b hb)), q⟩
    | false =>
      obtain ⟨its, rv, p', hz⟩ := I1.list hq
      refine call_enumerate_list p'.isList fun h' he hit hsz hk => wpAny_pyIter_enum he ?_
      have I2 : Inv X pins σ H1 { s1 with heap := h' } := I1.kept (t' := s1.toks) hk
      exact ⟨s1.heap.objs.size + 1, [s1.heap.objs.size + 1, s1.heap.objs.size], _, _, H1, rfl, I2, turn_enum a (s1.heap.objs.size + 1) s1.heap.objs.size, ⟨⟨.none, he⟩, hit, Nat.succ_ne_self _⟩, fun b hb => I1.fpOk (hle b hb) (I1.hok.fresh (hle b hb)), q⟩
theorem walk_enumG {K : PySem.W.Frag} {t : Bool} {a : Addr} {xs : List V} : Walk (ItEG K t a) xs.length (fun H => ZG.Sq t K H a xs) (YPair (fun i => some (.int (i : Nat))) (fun i => xs[i]?)) := by
  cases t with
  | false => exact walk_enum
  | true =>
    refine ⟨fun i H hi q => ⟨xs, xs[i], q, List.getElem?_eq_getElem hi⟩, fun H q => ⟨xs, q, Nat.le_refl _⟩, fun i H v H' _ q y => ?_⟩
    obtain ⟨T, x, h1, h2, h3, h4⟩ := y
    exact ⟨T, .int (i : Nat), x, h1, h2, h3, rfl, h4 xs q⟩
end EnT
namespace RpT
open PySem PySem.Spec PyProof.Rows L2
/-! ### tuple * int, for any int from 0 on (the library has it from 2 on) -/
theorem tuple_mul1 (l : Addr) (items : Array Value) (n : Nat) (dd : Option Addr) (sl : Array (Option Value)) (u : Tok) :
    Meets (Builtin.«tuple.__mul__» ⟨[.ref l, .int 1 u], []⟩) (fun _ R s => s.heap.get? l = some { cls := .type "tuple", dict := dd, data := .seq items n, slots := sl } ∧
      R (.ok (.ret (Value.ref l))) s) :=
  .of_wp fun prog w A R s h => by
    obtain ⟨hp, g, d, tk, os⟩ := s
    obtain ⟨hl, h⟩ := h
    have f1 := AutoSeq1.idx_int
    have c0 : (decide ((1 : Int) < -(2 ^ 63)) || decide ((1 : Int) ≥ 2 ^ 63)) = false := by decide
    have c1 : (items.isEmpty || (1 : Int) == 1) = true := by rw [show ((1 : Int) == 1) = true from rfl, Bool.or_true]
    wp_walk using wpAny_loadPart' hl
    repeat (first
      | (refine wpAny_ite_false (decide_eq_false (by rw [c0]; exact Bool.false_ne_true)) ?_; wp_walk using wpAny_loadPart' hl)
      | (refine wpAny_ite_true (decide_eq_true c1) ?_; wp_walk using wpAny_loadPart' hl))
    exact ⟨_, rfl, h⟩
theorem tuple_mul0 (l : Addr) (items : Array Value) (n : Nat) (dd : Option Addr) (sl : Array (Option Value)) (u : Tok) (hne : items.isEmpty = false) :
    Meets (Builtin.«tuple.__mul__» ⟨[.ref l, .int 0 u], []⟩) (fun _ R s => s.heap.get? l = some { cls := .type "tuple", dict := dd, data := .seq items n, slots := sl } ∧
      R (.ok (.ret (Value.ref s.heap.objs.size))) { s with heap := s.heap.push { cls := Value.type "tuple", data := Data.seq #[] }, toks := s.toks }) :=
  .of_wp fun prog w A R s h => by
    obtain ⟨hp, g, d, tk, os⟩ := s
    obtain ⟨hl, h⟩ := h
    have f1 := AutoSeq1.idx_int
    have c0 : (decide ((0 : Int) < -(2 ^ 63)) || decide ((0 : Int) ≥ 2 ^ 63)) = false := by decide
    have c1 : (items.isEmpty || (0 : Int) == 1) = false := by rw [hne]; rfl
    have c2 : (decide ((0 : Int) ≤ 0) || items.isEmpty) = true := by rw [decide_eq_true (Int.le_refl 0)]; rfl
    wp_walk using wpAny_loadPart' hl
    repeat (first
      | (refine wpAny_ite_false (decide_eq_false (by rw [c0]; exact Bool.false_ne_true)) ?_; wp_walk using wpAny_loadPart' hl)
      | (refine wpAny_ite_false (decide_eq_false (by rw [c1]; exact Bool.false_ne_true)) ?_; wp_walk using wpAny_loadPart' hl)
      | (refine wpAny_ite_true (decide_eq_true c2) ?_; wp_walk using wpAny_loadPart' hl))
    exact ⟨_, rfl, h⟩
def rRepTA (K : PySem.W.Frag) : R2 := fun x y H Q => ∃ l k xs, x = .ref l ∧ y = .int k ∧ SqT K H l xs ∧ xs ≠ [] ∧ 0 ≤ k ∧ k ≤ 1000 ∧ xs.length ≤ 1000 ∧ (k = 1 → Q (.ref l) H) ∧ (k ≠ 1 → ∀ p, H p = none → Q (.ref p) (upd H p (.tup (List.replicate k.toNat xs).flatten)))
theorem op_repTA {X : Cx} : OpR X (binaryOp .Mult) (rRepTA X.K) := by
  intro pins s σ H x y v u Q I rx ry h
  obtain ⟨l, k, xs, rfl, rfl, hT, hne, h0, h1, hz, q1, q⟩ := h
  by_cases k2 : 2 ≤ k
  · exact op_repT pins s σ H _ _ v u Q I rx ry ⟨l, k, xs, rfl, rfl, hT, hne, k2, h1, hz, q (by omega)⟩
  cases rx
  obtain ⟨t, rfl⟩ := ry
  obtain ⟨its, r, ⟨⟨cls, dd, data, sl⟩, ho, hc, n, hd⟩, hs⟩ := I.tuple hT
  simp only at hc hd
  subst hc hd
  have hle : its.length = xs.length := r.length.symm
  have hi : its.toArray.isEmpty = false := by
    cases its with
    | nil => exact absurd (List.eq_nil_of_length_eq_zero hle.symm) hne
    | cons a b => rfl
  by_cases k1 : k = 1
  · subst k1
    exact wpAny_binaryOp_repeat_ref (T := "tuple") (U := "int") (by decide) ⟨_, ho, rfl⟩ (fun s' => typeIs_int s' 1 t) noFill_tuple_mul F.fills_int_mul F.slot_int_rmul repeat_tuple F.slot_int_index.lookup
      (call_meets F.slot_int_rmul (typeIs_int s 1 t) F.entry_int_rmul (F.args_int_rmul_2 _ _) (int_rmul_tuple 1 t l its.toArray n dd sl)
        ⟨ho, rfl, ⟨_, ho, rfl⟩, call_meets F.slot_tuple_mul ⟨_, ho, rfl⟩ F.entry_tuple_mul (F.args_tuple_mul_2 _ _) (tuple_mul1 l its.toArray n dd sl t) ⟨ho, ⟨.ref l, H, I, rfl, q1 rfl⟩⟩⟩)
  · have k0 : k = 0 := by omega
    subst k0
    refine wpAny_binaryOp_repeat_ref (T := "tuple") (U := "int") (by decide) ⟨_, ho, rfl⟩ (fun s' => typeIs_int s' 0 t) noFill_tuple_mul F.fills_int_mul F.slot_int_rmul repeat_tuple F.slot_int_index.lookup
      (call_meets F.slot_int_rmul (typeIs_int s 0 t) F.entry_int_rmul (F.args_int_rmul_2 _ _) (int_rmul_tuple 0 t l its.toArray n dd sl)
        ⟨ho, rfl, ⟨_, ho, rfl⟩, call_meets F.slot_tuple_mul ⟨_, ho, rfl⟩ F.entry_tuple_mul (F.args_tuple_mul_2 _ _) (tuple_mul0 l its.toArray n dd sl t hi) ⟨ho, ?_⟩⟩)
    refine ⟨.ref s.heap.objs.size, _, I.laid (t' := s.toks) (o := .tup []) (fun b ob q => Heap.get?_push_of_some _ q) (Nat.le_refl _) ?_, rfl, q (by decide) _ (I.hok.fresh (Nat.le_refl _))⟩
    exact ⟨by rw [sizeLine_eq]; decide, _, .nil, IsTup.new _ _⟩
/-! ### a method of a tuple that was made on the way (and stays as it is) -/
section
variable {X : Cx}
def TupFz (H : Hp) (p : Addr) : Prop := ∃ o ys, H p = some (.frz o (.tup ys)) ∧ o.dict = none
def tBMT (r : V → List V → Hp → VK → Prop) (to : TE) (t : TA) : TE := fun σ H Q => to σ H fun x H1 => (∃ p, x = .ref p ∧ TupFz H1 p) ∧ t σ H1 fun xs H2 => r x xs H2 Q
variable {o e : Expr} {es : List Expr} {to : TE} {t : TA} {name : Str} {apos cpos : Pos} {id : String} {r : V → List V → Hp → VK → Prop}
theorem pe_bmT (pa : PlainAttrs "tuple") (slot : Slot "tuple" name id) (hty : typeOf (.builtin id) = pure (.type "method_descriptor")) (hm : MtR X id r) (ho : PE X o to) (ha : PA X (e :: es) t)
    (hbase : attributeBase o name X.env (eval o X.env) = eval o X.env := by rfl)
    (hfew : ((backTo cpos (starEach (e :: es) X.env)).all (fun x => !x.1) && (backToKw cpos (keywordEach [] X.env)).all (fun x => x.1.isSome)
      && decide ((e :: es).length + ([] : List Keyword).length + (if ([] : List Keyword).isEmpty then 0 else 1) < 30)) = true := by rfl)
    (hline : (apos.endLine == cpos.line) = true := by rfl) (hs : starEach (e :: es) X.env = (false, eval e X.env) :: starEach es X.env := by rfl) (hplain : (backTo cpos (starEach es X.env)).any (·.1) = false := by rfl) :
    PE X (.Call (.Attribute o name apos) (e :: es) [] cpos) (tBMT r to t) := by
  refine ⟨fun pins s σ H Q I h => ?_⟩
  refine wpAny_Call_method_late hbase hfew hline rfl (thn (ho.run pins s σ H _ I h) fun v s1 ⟨x, H1, I1, r1, ⟨p, ex, o, ys, hp, hd⟩, q1⟩ => ?_)
  subst ex
  cases r1
  obtain ⟨e1, _, its, _, ob, e2, hc, _⟩ := (show ObjOk X.prog X.w H1 s1.heap p (.frz o (.tup ys)) from I1.hok _ _ hp)
  rw [e1] at e2
  cases e2
  refine ⟨"tuple", id, pa, slot, hty, ⟨o, e1, hc⟩, fun a e => ?_, ?_⟩
  · cases e
    exact ⟨o, e1, hd⟩
  have hA := ha.run cpos pins s1 σ H1 _ I1 q1
  rw [hs] at hA ⊢
  refine Calls.callWith_builtin (by show (false || (backTo cpos (starEach es X.env)).any (·.1)) = false; rw [hplain] <;> rfl) (Calls.evalArgs_plain ?_)
  exact thn hA fun us s2 ⟨vs, H2, I2, r2, q2⟩ => hm pins s2 σ H2 (.ref p) vs _ us Q I2 rfl r2 q2
end
end RpT
namespace TZ
open PySem PySem.Spec PyProof.Rows L2
/-! ### tuple(list): a tuple whose object is told -/
variable {X : Cx}
theorem call_tuple_fz : CallR X (.type "tuple") (fun xs H Q => ∃ p ys, xs = [.ref p] ∧ SqL X.K H p ys ∧ ∀ l o, H l = none → o.cls = .type "tuple" → o.dict = none → Q (.ref l) (upd H l (.frz o (.tup ys)))) := by
  intro pins s σ H xs us Q I r h
  obtain ⟨p, ys, rfl, hq, q⟩ := h
  obtain ⟨u, rfl, rx⟩ := vals1 r
  cases rx
  obtain ⟨its, r', pl, hz⟩ := I.list hq
  have hlen := r'.length
  refine call_tuple_list pl.isList (fun h' kp => ?_) (by simp only [List.size_toArray] <;> omega)
  have I1 : Inv X pins σ H { s with heap := h' } := I.kept (t' := s.toks) kp
  have I2 : Inv X pins σ (upd H h'.objs.size (.frz { cls := .type "tuple", data := .seq its.toArray } (.tup ys))) { s with heap := h'.push { cls := .type "tuple", data := .seq its.toArray } } :=
    I1.laid (t' := s.toks) (fun b o e => Heap.get?_push_of_some _ e) (Nat.le_refl _) (show ObjOk X.prog X.w _ _ _ (.frz _ (.tup ys)) from ⟨Heap.get?_push_size _ rfl, hz, its, r', IsTup.new _ _⟩)
  exact ⟨.ref h'.objs.size, _, I2, rfl, q _ _ (I1.hok.fresh (Nat.le_refl _)) rfl rfl⟩
end TZ
namespace MxT
open PySem PySem.Spec PyProof.Rows L2
/-! ### max and min of a tuple of whole numbers -/
section
variable {prog : Program} {w : World} {A : Around} {E : Value → Shared → Prop} {s : Shared} {l : Addr} {its : List Value} {ns : List Int} {Q : Value → Shared → Prop}
theorem old_keptT {h' : Heap} (hk : ∀ b o, b ∉ [s.heap.objs.size] → (s.heap.push { cls := .type "tuple_iterator", data := .fields #[.ref l, .int 0 0] }).get? b = some o → h'.get? b = some o) :
    ∀ b o, s.heap.get? b = some o → h'.get? b = some o := fun b o e =>
  hk b o (fun z => absurd (Heap.lt_size e) ((List.mem_singleton.mp z) ▸ Nat.lt_irrefl _)) (Heap.get?_push_of_some _ e)
theorem maxT_raw (hh : A.handled = none) (hl : s.heap.IsTuple l its.toArray) (hi : IntsAre its ns) (hne : 0 < ns.length)
    (h : ∀ h' tk M t', (∀ b o, s.heap.get? b = some o → h'.get? b = some o) → M ∈ ns → (∀ a, a ∈ ns → a ≤ M) → Q (.int M t') { s with heap := h', toks := tk }) : wpAny (model prog w) A (call (.builtin "max") [.ref l]) Q E s := by
  obtain ⟨xs, e⟩ := hi.allInts.items
  have hn : numsOf (intItems xs).toList = ns := by rw [← e]; exact hi.numsOf
  rw [nums_intItems] at hn
  subst hn
  rw [e] at hl
  have hsz : 0 < xs.size := by simpa using hne
  have hlt : l < s.heap.objs.size := by
    obtain ⟨_, e, _⟩ := hl
    exact Heap.lt_size e
  refine PySem.call_max_walk (wpAny_pyIter_tuple hl ?_)
  refine ⟨_, _, _, _, _, _, _, rfl, Walks.tuple (A := A.in1) hh _ l (Nat.ne_of_lt hlt) (intItems xs), ⟨⟨_, Heap.get?_push_size _ rfl, rfl, rfl⟩, hl.push _⟩, fun b hb => ?_, by simpa [intItems] using hsz, CmpOf.ints_gt (numAt xs) (fun _ _ => intItems_at), fun v h' tk hv hk => ?_⟩
  · show b < (s.heap.push _).objs.size
    rw [Heap.size_push]
    have hb' : b = s.heap.objs.size ∨ b = l := by simpa using hb
    rcases hb' with z | z
    · rw [z]; exact Nat.lt_succ_self _
    · rw [z]; exact Nat.lt_succ_of_lt hlt
  · have hv' : (intItems xs)[argBest (fun i j => decide (numAt xs i > numAt xs j)) (xs.size - 1)]? = some v := by simpa [intItems] using hv
    obtain ⟨t, rfl⟩ := intItems_at hv'
    obtain ⟨h1, h2⟩ := argBest_gt (numAt xs) (xs.size - 1)
    refine h h' tk _ t (old_keptT hk) ?_ fun a ha => ?_
    · rw [numAt_eq]; exact PySem.getD_mem (by rw [List.length_map, Array.length_toList]; omega)
    · obtain ⟨j, hj, rfl⟩ := mem_getD ha
      have hj2 : j < xs.size := by simpa using hj
      rw [← numAt_eq]; exact h2 j (by omega)
theorem minT_raw (hh : A.handled = none) (hl : s.heap.IsTuple l its.toArray) (hi : IntsAre its ns) (hne : 0 < ns.length)
    (h : ∀ h' tk M t', (∀ b o, s.heap.get? b = some o → h'.get? b = some o) → M ∈ ns → (∀ a, a ∈ ns → M ≤ a) → Q (.int M t') { s with heap := h', toks := tk }) : wpAny (model prog w) A (call (.builtin "min") [.ref l]) Q E s := by
  obtain ⟨xs, e⟩ := hi.allInts.items
  have hn : numsOf (intItems xs).toList = ns := by rw [← e]; exact hi.numsOf
  rw [nums_intItems] at hn
  subst hn
  rw [e] at hl
  have hsz : 0 < xs.size := by simpa using hne
  have hlt : l < s.heap.objs.size := by
    obtain ⟨_, e, _⟩ := hl
    exact Heap.lt_size e
  refine PySem.call_min_walk (wpAny_pyIter_tuple hl ?_)
  refine ⟨_, _, _, _, _, _, _, rfl, Walks.tuple (A := A.in1) hh _ l (Nat.ne_of_lt hlt) (intItems xs), ⟨⟨_, Heap.get?_push_size _ rfl, rfl, rfl⟩, hl.push _⟩, fun b hb => ?_, by simpa [intItems] using hsz, CmpOf.ints_lt (numAt xs) (fun _ _ => intItems_at), fun v h' tk hv hk => ?_⟩
  · show b < (s.heap.push _).objs.size
    rw [Heap.size_push]
    have hb' : b = s.heap.objs.size ∨ b = l := by simpa using hb
    rcases hb' with z | z
    · rw [z]; exact Nat.lt_succ_self _
    · rw [z]; exact Nat.lt_succ_of_lt hlt
  · have hv' : (intItems xs)[argBest (fun i j => decide (numAt xs i < numAt xs j)) (xs.size - 1)]? = some v := by simpa [intItems] using hv
    obtain ⟨t, rfl⟩ := intItems_at hv'
    obtain ⟨h1, h2⟩ := argBest_lt (numAt xs) (xs.size - 1)
    refine h h' tk _ t (old_keptT hk) ?_ fun a ha => ?_
    · rw [numAt_eq]; exact PySem.getD_mem (by rw [List.length_map, Array.length_toList]; omega)
    · obtain ⟨j, hj, rfl⟩ := mem_getD ha
      have hj2 : j < xs.size := by simpa using hj
      rw [← numAt_eq]; exact h2 j (by omega)
end
section
variable {X : Cx}
def rMaxT (K : PySem.W.Frag) : List V → Hp → VK → Prop := fun vs H Q => ∃ (a : Addr) (ns : List Int), vs = [V.ref a] ∧ SqT K H a (ns.map V.int) ∧ 0 < ns.length ∧ ∀ m, m ∈ ns → (∀ y, y ∈ ns → y ≤ m) → Q (.int m) H
def rMinT (K : PySem.W.Frag) : List V → Hp → VK → Prop := fun vs H Q => ∃ (a : Addr) (ns : List Int), vs = [V.ref a] ∧ SqT K H a (ns.map V.int) ∧ 0 < ns.length ∧ ∀ m, m ∈ ns → (∀ y, y ∈ ns → m ≤ y) → Q (.int m) H
theorem call_maxT (hc : X.calm = true) : CallR X (.builtin "max") (rMaxT X.K) := by
  intro pins s σ H vs us Q I r h
  obtain ⟨a, ns, rfl, hs, hne, q⟩ := h
  obtain ⟨its, rv, hl, _⟩ := I.tuple hs
  rw [Vals.ref1 r]
  exact maxT_raw (I.ok.hd hc) hl rv.ints hne fun h' tk m t' hk h1 h2 => ⟨.int _, H, I.kept hk, ⟨_, rfl⟩, q m h1 h2⟩
theorem call_minT (hc : X.calm = true) : CallR X (.builtin "min") (rMinT X.K) := by
  intro pins s σ H vs us Q I r h
  obtain ⟨a, ns, rfl, hs, hne, q⟩ := h
  obtain ⟨its, rv, hl, _⟩ := I.tuple hs
  rw [Vals.ref1 r]
  exact minT_raw (I.ok.hd hc) hl rv.ints hne fun h' tk m t' hk h1 h2 => ⟨.int _, H, I.kept hk, ⟨_, rfl⟩, q m h1 h2⟩
end
end MxT
namespace SD
open PySem PySem.Spec PyProof.Rows L2
/-! ### sorted of a tuple of whole numbers -/
section
variable {X : Cx}
theorem cr_sortedTup : CallR X (.builtin "sorted") (fun vs H Q => ∃ (a : Addr) (ns : List Int), vs = [.ref a] ∧ SqT X.K H a (ns.map V.int) ∧
    ∀ (ns' : List Int) (p : Addr), ns'.Perm ns → ns'.Pairwise (· ≤ ·) → H p = none → Q (.ref p) (upd H p (.lst (ns'.map V.int)))) := by
  intro pins s σ H xs us Q I r q
  obtain ⟨b, ks, ex, ht, q⟩ := q
  subst ex
  obtain ⟨u, eu, rx⟩ := vals1 r
  subst eu
  cases rx
  obtain ⟨its, rv, ⟨o, ho, hc, n, hd⟩, hz⟩ := I.tuple ht
  have hGI := rv.ints
  have hlen := rv.length
  refine Calls.call_function_entry kind_sorted plain_sorted entry_sorted (args_sorted1 _) ?_
  unfold Builtin.«sorted»
  refine wpAny_bind (m := checkCount "sorted" 1 1 _) (wpAny_pure ?_)
  have hz2 : its.toArray.size ≤ sizeLine := by rw [List.size_toArray, ← hlen]; exact hz
  refine wpAny_bind (wpAny_collect_seq (A := X.A.in1) b (.inr rfl) ho hc hd (fun G hk => ?_) hz2)
  have J : Inv X pins σ H { s with heap := G } := I.kept (t' := s.toks) hk
  refine wpAny_bind (wpAny_newList ?_ (by rw [← hlen]; exact hz))
  have hnew : (G.push (seqObj "list" its.toArray 0)).get? G.objs.size = some (seqObj "list" its.toArray 0) := Heap.get?_push_size _ rfl
  show wpAny _ _ _ _ _ { s with heap := G.push (seqObj "list" its.toArray 0) }
  refine wpAny_bind (wpAny_holding (wpAny_call_entry slot_list_sort ⟨_, hnew, rfl⟩ entry_list_sort
    (SrtO.list_sort_ord (s := { s with heap := G.push (seqObj "list" its.toArray 0) }) SrtO.swo_int hnew (by rw [← hlen]; exact hz) (fun h2 => SrtO.ints_sortable hGI h2) fun out g1 g2 => ⟨_, rfl, ?_⟩) (args_list_sort _)))
  obtain ⟨o1, o2, o3⟩ := SrtO.ints_out hGI g1 g2
  obtain ⟨c0, hc0⟩ := sortedHeap_at (vs := its) (out := out.toArray) hnew
  have hol : ((out.map SrtO.iv).map V.int).length ≤ sizeLine := by
    rw [List.length_map, o2.length_eq]
    rw [List.length_map] at hz
    exact hz
  refine wpAny_pure ⟨_, rfl, .ref G.objs.size, upd H G.objs.size (.lst ((out.map SrtO.iv).map V.int)), J.laid (t' := s.toks) (fun b u e => ?_) (Nat.le_refl _)
    (show ObjOk X.prog X.w _ _ _ (.lst ((out.map SrtO.iv).map V.int)) from ⟨hol, out, c0, vals_of_ints o1, hc0⟩), rfl, q _ _ o2 o3 (J.hok.fresh (Nat.le_refl _))⟩
  have hlt : b < G.objs.size := Heap.lt_size e
  rw [sortedHeap_old (Nat.ne_of_lt hlt) (by rw [size_push'] <;> exact Nat.lt_succ_of_lt hlt)]
  exact Heap.get?_push_of_some _ e
end
end SD
namespace Mine
open PySem L2
def top (i : Nat) : Stmt := PySem.Challenge.pw_neverhappens_k31_whole_one_key_if_paired.main.body.getD i (.Pass ⟨0, 0, 0, 0⟩)
abbrev s_reference_places : Stmt := top 1
abbrev s_places_in_records : Stmt := top 2
abbrev s_referred : Stmt := top 3
abbrev s_translated : Stmt := top 4
abbrev s_translated_record : Stmt := top 5
abbrev s_neighbours : Stmt := top 6
abbrev s_visit_records : Stmt := top 7
abbrev s_number_key : Stmt := top 8
abbrev s_l_cell : Stmt := top 10
abbrev s_l_source : Stmt := top 11
abbrev s_l_pick : Stmt := top 12
abbrev s_l_one : Stmt := top 13
abbrev s_l_names : Stmt := top 14
abbrev s_l_renumbered : Stmt := top 15
abbrev s_l_drawn_value : Stmt := top 16
abbrev s_l_same : Stmt := top 17
abbrev s_l_number_kind : Stmt := top 18
abbrev s_l_world : Stmt := top 19
abbrev s_l_shuffled : Stmt := top 20
abbrev s_l_moved : Stmt := top 21
abbrev s_l_heap : Stmt := top 22
abbrev s_l_variables : Stmt := top 23
abbrev s_l_redraw : Stmt := top 24
abbrev s_l_first : Stmt := top 25
abbrev s_l_copy : Stmt := top 26
abbrev s_l_led : Stmt := top 27
abbrev s_l_reached : Stmt := top 28
abbrev s_l_twin : Stmt := top 29
abbrev s_l_with_other_fixed : Stmt := top 30
abbrev s_l_changed : Stmt := top 31
abbrev s_l_kept : Stmt := top 32
abbrev s_l_keeps : Stmt := top 33
abbrev s_l_orders : Stmt := top 34
abbrev s_l_paired : Stmt := top 35
abbrev s_l_is_order : Stmt := top 36
abbrev s_l_told : Stmt := top 37
abbrev s_l_right : Stmt := top 38
abbrev s_law : Stmt := top 39
abbrev p_reference_places : List Str := ["kinds"]
abbrev p_places_in_records : List Str := ["program"]
abbrev p_referred : List Str := ["values", "places"]
abbrev p_translated : List Str := ["values", "places", "numbers"]
abbrev p_translated_record : List Str := ["record", "places", "numbers"]
abbrev p_neighbours : List Str := ["record", "places"]
abbrev p_visit_records : List Str := ["places", "first", "records", "fixed"]
abbrev p_number_key : List Str := ["program", "kinds", "values", "records", "fixed"]
abbrev p_l_cell : List Str := ["_law_script", "_law_at"]
abbrev p_l_source : List Str := ["_law_cell_here"]
abbrev p_l_pick : List Str := ["_law_source_here", "_law_size"]
abbrev p_l_one : List Str := ["_law_source_here", "_law_row"]
abbrev p_l_names : List Str := ["_law_source_here"]
abbrev p_l_renumbered : List Str := ["_law_kind", "_law_value", "_law_order"]
abbrev p_l_drawn_value : List Str := ["_law_source_here", "_law_run", "_law_kind"]
abbrev p_l_same : List Str := ["_law_actual", "_law_due"]
abbrev p_l_number_kind : List Str := ["_law_source_here"]
abbrev p_l_world : List Str := ["_law_source_here", "_law_shape"]
abbrev p_l_shuffled : List Str := ["_law_source_here", "_law_size"]
abbrev p_l_moved : List Str := ["_law_run", "_law_order"]
abbrev p_l_heap : List Str := ["_law_source_here", "_law_program", "_law_size", "_law_times"]
abbrev p_l_variables : List Str := ["_law_source_here", "_law_program", "_law_longest"]
abbrev p_l_redraw : List Str := ["_law_source_here", "_law_run", "_law_row"]
abbrev p_l_first : List Str := ["_law_source_here", "_law_program", "_law_kinds"]
abbrev p_l_copy : List Str := ["_law_run"]
abbrev p_l_led : List Str := ["_law_run", "_law_where"]
abbrev p_l_reached : List Str := ["_law_run", "_law_kinds"]
abbrev p_l_twin : List Str := ["_law_source_here", "_law_program", "_law_first_here", "_law_kinds"]
abbrev p_l_with_other_fixed : List Str := ["_law_source_here", "_law_program", "_law_other", "_law_kinds", "_law_choice"]
abbrev p_l_changed : List Str := ["_law_source_here", "_law_program", "_law_twin_here", "_law_kinds"]
abbrev p_l_kept : List Str := ["_law_kind", "_law_one_here", "_law_other", "_law_mine", "_law_others"]
abbrev p_l_keeps : List Str := ["_law_first_here", "_law_second", "_law_kinds", "_law_mine", "_law_others"]
abbrev p_l_orders : List Str := ["_law_size"]
abbrev p_l_paired : List Str := ["_law_first_here", "_law_second", "_law_kinds", "_law_mine", "_law_others"]
abbrev p_l_is_order : List Str := ["_law_order", "_law_reached_here"]
abbrev p_l_told : List Str := ["_law_program", "_law_run", "_law_kinds"]
abbrev p_l_right : List Str := ["_law_program", "_law_first_here", "_law_second", "_law_kinds"]
abbrev p_law : List Str := ["_law_script"]
/-- what the program's top leaves: where each def stands -/
structure Txt (w : World) (K : PySem.W.Frag) (mg : Str → Option Value) where
  a_reference_places : Addr
  d_reference_places : FuncData
  F_reference_places : Fun K "reference_places" "reference_places" s_reference_places a_reference_places d_reference_places
  b_reference_places : Binds K d_reference_places p_reference_places []
  m_reference_places : mg "reference_places" = some (.ref a_reference_places)
  a_places_in_records : Addr
  d_places_in_records : FuncData
  F_places_in_records : Fun K "places_in_records" "places_in_records" s_places_in_records a_places_in_records d_places_in_records
  b_places_in_records : Binds K d_places_in_records p_places_in_records []
  m_places_in_records : mg "places_in_records" = some (.ref a_places_in_records)
  a_referred : Addr
  d_referred : FuncData
  F_referred : Fun K "referred" "referred" s_referred a_referred d_referred
  b_referred : Binds K d_referred p_referred []
  m_referred : mg "referred" = some (.ref a_referred)
  a_translated : Addr
  d_translated : FuncData
  F_translated : Fun K "translated" "translated" s_translated a_translated d_translated
  b_translated : Binds K d_translated p_translated []
  m_translated : mg "translated" = some (.ref a_translated)
  a_translated_record : Addr
  d_translated_record : FuncData
  F_translated_record : Fun K "translated_record" "translated_record" s_translated_record a_translated_record d_translated_record
  b_translated_record : Binds K d_translated_record p_translated_record []
  m_translated_record : mg "translated_record" = some (.ref a_translated_record)
  a_neighbours : Addr
  d_neighbours : FuncData
  F_neighbours : Fun K "neighbours" "neighbours" s_neighbours a_neighbours d_neighbours
  b_neighbours : Binds K d_neighbours p_neighbours []
  m_neighbours : mg "neighbours" = some (.ref a_neighbours)
  a_visit_records : Addr
  d_visit_records : FuncData
  F_visit_records : Fun K "visit_records" "visit_records" s_visit_records a_visit_records d_visit_records
  b_visit_records : Binds K d_visit_records p_visit_records []
  m_visit_records : mg "visit_records" = some (.ref a_visit_records)
  a_number_key : Addr
  d_number_key : FuncData
  F_number_key : Fun K "number_key" "number_key" s_number_key a_number_key d_number_key
  b_number_key : Binds K d_number_key p_number_key []
  m_number_key : mg "number_key" = some (.ref a_number_key)
  a_l_cell : Addr
  d_l_cell : FuncData
  F_l_cell : Fun K "_law_cell" "_law_cell" s_l_cell a_l_cell d_l_cell
  b_l_cell : Binds K d_l_cell p_l_cell []
  m_l_cell : mg "_law_cell" = some (.ref a_l_cell)
  a_l_source : Addr
  d_l_source : FuncData
  F_l_source : Fun K "_law_source" "_law_source" s_l_source a_l_source d_l_source
  b_l_source : Binds K d_l_source p_l_source []
  m_l_source : mg "_law_source" = some (.ref a_l_source)
  a_l_pick : Addr
  d_l_pick : FuncData
  F_l_pick : Fun K "_law_pick" "_law_pick" s_l_pick a_l_pick d_l_pick
  b_l_pick : Binds K d_l_pick p_l_pick []
  m_l_pick : mg "_law_pick" = some (.ref a_l_pick)
  a_l_one : Addr
  d_l_one : FuncData
  F_l_one : Fun K "_law_one" "_law_one" s_l_one a_l_one d_l_one
  b_l_one : Binds K d_l_one p_l_one []
  m_l_one : mg "_law_one" = some (.ref a_l_one)
  a_l_names : Addr
  d_l_names : FuncData
  F_l_names : Fun K "_law_names" "_law_names" s_l_names a_l_names d_l_names
  b_l_names : Binds K d_l_names p_l_names []
  m_l_names : mg "_law_names" = some (.ref a_l_names)
  a_l_renumbered : Addr
  d_l_renumbered : FuncData
  F_l_renumbered : Fun K "_law_renumbered" "_law_renumbered" s_l_renumbered a_l_renumbered d_l_renumbered
  b_l_renumbered : Binds K d_l_renumbered p_l_renumbered []
  m_l_renumbered : mg "_law_renumbered" = some (.ref a_l_renumbered)
  a_l_drawn_value : Addr
  d_l_drawn_value : FuncData
  F_l_drawn_value : Fun K "_law_drawn_value" "_law_drawn_value" s_l_drawn_value a_l_drawn_value d_l_drawn_value
  b_l_drawn_value : Binds K d_l_drawn_value p_l_drawn_value []
  m_l_drawn_value : mg "_law_drawn_value" = some (.ref a_l_drawn_value)
  a_l_same : Addr
  d_l_same : FuncData
  F_l_same : Fun K "_law_same" "_law_same" s_l_same a_l_same d_l_same
  b_l_same : Binds K d_l_same p_l_same []
  m_l_same : mg "_law_same" = some (.ref a_l_same)
  a_l_number_kind : Addr
  d_l_number_kind : FuncData
  F_l_number_kind : Fun K "_law_number_kind" "_law_number_kind" s_l_number_kind a_l_number_kind d_l_number_kind
  b_l_number_kind : Binds K d_l_number_kind p_l_number_kind []
  m_l_number_kind : mg "_law_number_kind" = some (.ref a_l_number_kind)
  a_l_world : Addr
  d_l_world : FuncData
  F_l_world : Fun K "_law_world" "_law_world" s_l_world a_l_world d_l_world
  b_l_world : Binds K d_l_world p_l_world []
  m_l_world : mg "_law_world" = some (.ref a_l_world)
  a_l_shuffled : Addr
  d_l_shuffled : FuncData
  F_l_shuffled : Fun K "_law_shuffled" "_law_shuffled" s_l_shuffled a_l_shuffled d_l_shuffled
  b_l_shuffled : Binds K d_l_shuffled p_l_shuffled []
  m_l_shuffled : mg "_law_shuffled" = some (.ref a_l_shuffled)
  a_l_moved : Addr
  d_l_moved : FuncData
  F_l_moved : Fun K "_law_moved" "_law_moved" s_l_moved a_l_moved d_l_moved
  b_l_moved : Binds K d_l_moved p_l_moved []
  m_l_moved : mg "_law_moved" = some (.ref a_l_moved)
  a_l_heap : Addr
  d_l_heap : FuncData
  F_l_heap : Fun K "_law_heap" "_law_heap" s_l_heap a_l_heap d_l_heap
  b_l_heap : Binds K d_l_heap p_l_heap []
  m_l_heap : mg "_law_heap" = some (.ref a_l_heap)
  a_l_variables : Addr
  d_l_variables : FuncData
  F_l_variables : Fun K "_law_variables" "_law_variables" s_l_variables a_l_variables d_l_variables
  b_l_variables : Binds K d_l_variables p_l_variables []
  m_l_variables : mg "_law_variables" = some (.ref a_l_variables)
  a_l_redraw : Addr
  d_l_redraw : FuncData
  F_l_redraw : Fun K "_law_redraw" "_law_redraw" s_l_redraw a_l_redraw d_l_redraw
  b_l_redraw : Binds K d_l_redraw p_l_redraw []
  m_l_redraw : mg "_law_redraw" = some (.ref a_l_redraw)
  a_l_first : Addr
  d_l_first : FuncData
  F_l_first : Fun K "_law_first" "_law_first" s_l_first a_l_first d_l_first
  b_l_first : Binds K d_l_first p_l_first []
  m_l_first : mg "_law_first" = some (.ref a_l_first)
  a_l_copy : Addr
  d_l_copy : FuncData
  F_l_copy : Fun K "_law_copy" "_law_copy" s_l_copy a_l_copy d_l_copy
  b_l_copy : Binds K d_l_copy p_l_copy []
  m_l_copy : mg "_law_copy" = some (.ref a_l_copy)
  a_l_led : Addr
  d_l_led : FuncData
  F_l_led : Fun K "_law_led" "_law_led" s_l_led a_l_led d_l_led
  b_l_led : Binds K d_l_led p_l_led []
  m_l_led : mg "_law_led" = some (.ref a_l_led)
  a_l_reached : Addr
  d_l_reached : FuncData
  F_l_reached : Fun K "_law_reached" "_law_reached" s_l_reached a_l_reached d_l_reached
  b_l_reached : Binds K d_l_reached p_l_reached []
  m_l_reached : mg "_law_reached" = some (.ref a_l_reached)
  a_l_twin : Addr
  d_l_twin : FuncData
  F_l_twin : Fun K "_law_twin" "_law_twin" s_l_twin a_l_twin d_l_twin
  b_l_twin : Binds K d_l_twin p_l_twin []
  m_l_twin : mg "_law_twin" = some (.ref a_l_twin)
  a_l_with_other_fixed : Addr
  d_l_with_other_fixed : FuncData
  F_l_with_other_fixed : Fun K "_law_with_other_fixed" "_law_with_other_fixed" s_l_with_other_fixed a_l_with_other_fixed d_l_with_other_fixed
  b_l_with_other_fixed : Binds K d_l_with_other_fixed p_l_with_other_fixed []
  m_l_with_other_fixed : mg "_law_with_other_fixed" = some (.ref a_l_with_other_fixed)
  a_l_changed : Addr
  d_l_changed : FuncData
  F_l_changed : Fun K "_law_changed" "_law_changed" s_l_changed a_l_changed d_l_changed
  b_l_changed : Binds K d_l_changed p_l_changed []
  m_l_changed : mg "_law_changed" = some (.ref a_l_changed)
  a_l_kept : Addr
  d_l_kept : FuncData
  F_l_kept : Fun K "_law_kept" "_law_kept" s_l_kept a_l_kept d_l_kept
  b_l_kept : Binds K d_l_kept p_l_kept []
  m_l_kept : mg "_law_kept" = some (.ref a_l_kept)
  a_l_keeps : Addr
  d_l_keeps : FuncData
  F_l_keeps : Fun K "_law_keeps" "_law_keeps" s_l_keeps a_l_keeps d_l_keeps
  b_l_keeps : Binds K d_l_keeps p_l_keeps []
  m_l_keeps : mg "_law_keeps" = some (.ref a_l_keeps)
  a_l_orders : Addr
  d_l_orders : FuncData
  F_l_orders : Fun K "_law_orders" "_law_orders" s_l_orders a_l_orders d_l_orders
  b_l_orders : Binds K d_l_orders p_l_orders []
  m_l_orders : mg "_law_orders" = some (.ref a_l_orders)
  a_l_paired : Addr
  d_l_paired : FuncData
  F_l_paired : Fun K "_law_paired" "_law_paired" s_l_paired a_l_paired d_l_paired
  b_l_paired : Binds K d_l_paired p_l_paired []
  m_l_paired : mg "_law_paired" = some (.ref a_l_paired)
  a_l_is_order : Addr
  d_l_is_order : FuncData
  F_l_is_order : Fun K "_law_is_order" "_law_is_order" s_l_is_order a_l_is_order d_l_is_order
  b_l_is_order : Binds K d_l_is_order p_l_is_order []
  m_l_is_order : mg "_law_is_order" = some (.ref a_l_is_order)
  a_l_told : Addr
  d_l_told : FuncData
  F_l_told : Fun K "_law_told" "_law_told" s_l_told a_l_told d_l_told
  b_l_told : Binds K d_l_told p_l_told []
  m_l_told : mg "_law_told" = some (.ref a_l_told)
  a_l_right : Addr
  d_l_right : FuncData
  F_l_right : Fun K "_law_right" "_law_right" s_l_right a_l_right d_l_right
  b_l_right : Binds K d_l_right p_l_right []
  m_l_right : mg "_law_right" = some (.ref a_l_right)
  a_law : Addr
  d_law : FuncData
  F_law : Fun K "law" "law" s_law a_law d_law
  b_law : Binds K d_law p_law []
  m_law : mg "law" = some (.ref a_law)
  z_bool : mg "bool" = none
  z_enumerate : mg "enumerate" = none
  z_int : mg "int" = none
  z_isinstance : mg "isinstance" = none
  z_len : mg "len" = none
  z_list : mg "list" = none
  z_max : mg "max" = none
  z_range : mg "range" = none
  z_reversed : mg "reversed" = none
  z_sorted : mg "sorted" = none
  z_str : mg "str" = none
  z_tuple : mg "tuple" = none
abbrev n_reference_places : List Str := ["kinds", "at", "kind"]
theorem sc_reference_places : FnScope n_reference_places p_reference_places (defScope s_reference_places) := ⟨rfl, rfl, rfl, by decide +kernel, rfl, by decide +kernel, by decide +kernel⟩
abbrev n_places_in_records : List Str := ["program", "_", "kind", "name", "fields"]
theorem sc_places_in_records : FnScope n_places_in_records p_places_in_records (defScope s_places_in_records) := ⟨rfl, rfl, rfl, by decide +kernel, rfl, by decide +kernel, by decide +kernel⟩
abbrev n_referred : List Str := ["values", "places", "at"]
theorem sc_referred : FnScope n_referred p_referred (defScope s_referred) := ⟨rfl, rfl, rfl, by decide +kernel, rfl, by decide +kernel, by decide +kernel⟩
abbrev n_translated : List Str := ["values", "places", "numbers", "changed", "at"]
theorem sc_translated : FnScope n_translated p_translated (defScope s_translated) := ⟨rfl, rfl, rfl, by decide +kernel, rfl, by decide +kernel, by decide +kernel⟩
abbrev n_translated_record : List Str := ["record", "places", "numbers", "name", "live", "fields"]
theorem sc_translated_record : FnScope n_translated_record p_translated_record (defScope s_translated_record) := ⟨rfl, rfl, rfl, by decide +kernel, rfl, by decide +kernel, by decide +kernel⟩
abbrev n_neighbours : List Str := ["record", "places", "name", "live", "fields"]
theorem sc_neighbours : FnScope n_neighbours p_neighbours (defScope s_neighbours) := ⟨rfl, rfl, rfl, by decide +kernel, rfl, by decide +kernel, by decide +kernel⟩
abbrev n_visit_records : List Str := ["places", "first", "records", "fixed", "order", "seen", "index", "starts", "found", "pending"]
theorem sc_visit_records : FnScope n_visit_records p_visit_records (defScope s_visit_records) := ⟨rfl, rfl, rfl, by decide +kernel, rfl, by decide +kernel, by decide +kernel⟩
abbrev n_number_key : List Str := ["program", "kinds", "values", "records", "fixed", "own", "places", "order", "numbers", "at", "index", "kept"]
theorem sc_number_key : FnScope n_number_key p_number_key (defScope s_number_key) := ⟨rfl, rfl, rfl, by decide +kernel, rfl, by decide +kernel, by decide +kernel⟩
abbrev n_l_cell : List Str := ["_law_script", "_law_at"]
theorem sc_l_cell : FnScope n_l_cell p_l_cell (defScope s_l_cell) := ⟨rfl, rfl, rfl, by decide +kernel, rfl, by decide +kernel, by decide +kernel⟩
abbrev n_l_source : List Str := ["_law_cell_here"]
theorem sc_l_source : FnScope n_l_source p_l_source (defScope s_l_source) := ⟨rfl, rfl, rfl, by decide +kernel, rfl, by decide +kernel, by decide +kernel⟩
abbrev n_l_pick : List Str := ["_law_source_here", "_law_size", "_law_k", "_law_digit", "_law_mixed"]
theorem sc_l_pick : FnScope n_l_pick p_l_pick (defScope s_l_pick) := ⟨rfl, rfl, rfl, by decide +kernel, rfl, by decide +kernel, by decide +kernel⟩
abbrev n_l_one : List Str := ["_law_source_here", "_law_row"]
theorem sc_l_one : FnScope n_l_one p_l_one (defScope s_l_one) := ⟨rfl, rfl, rfl, by decide +kernel, rfl, by decide +kernel, by decide +kernel⟩
abbrev n_l_names : List Str := ["_law_source_here", "_law_style", "_law_names_here", "_law_k", "_law_word"]
theorem sc_l_names : FnScope n_l_names p_l_names (defScope s_l_names) := ⟨rfl, rfl, rfl, by decide +kernel, rfl, by decide +kernel, by decide +kernel⟩
abbrev n_l_renumbered : List Str := ["_law_kind", "_law_value", "_law_order"]
theorem sc_l_renumbered : FnScope n_l_renumbered p_l_renumbered (defScope s_l_renumbered) := ⟨rfl, rfl, rfl, by decide +kernel, rfl, by decide +kernel, by decide +kernel⟩
abbrev n_l_drawn_value : List Str := ["_law_source_here", "_law_run", "_law_kind", "_law_pool", "_law_k"]
theorem sc_l_drawn_value : FnScope n_l_drawn_value p_l_drawn_value (defScope s_l_drawn_value) := ⟨rfl, rfl, rfl, by decide +kernel, rfl, by decide +kernel, by decide +kernel⟩
abbrev n_l_same : List Str := ["_law_actual", "_law_due", "_law_k"]
theorem sc_l_same : FnScope n_l_same p_l_same (defScope s_l_same) := ⟨rfl, rfl, rfl, by decide +kernel, rfl, by decide +kernel, by decide +kernel⟩
abbrev n_l_number_kind : List Str := ["_law_source_here", "_law_low"]
theorem sc_l_number_kind : FnScope n_l_number_kind p_l_number_kind (defScope s_l_number_kind) := ⟨rfl, rfl, rfl, by decide +kernel, rfl, by decide +kernel, by decide +kernel⟩
abbrev n_l_world : List Str := ["_law_source_here", "_law_shape", "_law_names_here", "_law_turn", "_law_records", "_law_at", "_law_earlier", "_law_record", "_law_size", "_law_fields", "_law_k", "_law_kind", "_law_choice"]
theorem sc_l_world : FnScope n_l_world p_l_world (defScope s_l_world) := ⟨rfl, rfl, rfl, by decide +kernel, rfl, by decide +kernel, by decide +kernel⟩
abbrev n_l_shuffled : List Str := ["_law_source_here", "_law_size", "_law_order", "_law_k"]
theorem sc_l_shuffled : FnScope n_l_shuffled p_l_shuffled (defScope s_l_shuffled) := ⟨rfl, rfl, rfl, by decide +kernel, rfl, by decide +kernel, by decide +kernel⟩
abbrev n_l_moved : List Str := ["_law_run", "_law_order", "_law_moved_here", "_law_where", "_law_row", "_law_told_here", "_law_fields", "_law_k"]
theorem sc_l_moved : FnScope n_l_moved p_l_moved (defScope s_l_moved) := ⟨rfl, rfl, rfl, by decide +kernel, rfl, by decide +kernel, by decide +kernel⟩
abbrev n_l_heap : List Str := ["_law_source_here", "_law_program", "_law_size", "_law_times", "_law_run", "_law_record", "_law_wanted", "_law_k", "_law_at", "_law_name", "_law_row", "_law_field"]
theorem sc_l_heap : FnScope n_l_heap p_l_heap (defScope s_l_heap) := ⟨rfl, rfl, rfl, by decide +kernel, rfl, by decide +kernel, by decide +kernel⟩
abbrev n_l_variables : List Str := ["_law_source_here", "_law_program", "_law_longest", "_law_kinds", "_law_k", "_law_choice"]
theorem sc_l_variables : FnScope n_l_variables p_l_variables (defScope s_l_variables) := ⟨rfl, rfl, rfl, by decide +kernel, rfl, by decide +kernel, by decide +kernel⟩
abbrev n_l_redraw : List Str := ["_law_source_here", "_law_run", "_law_row", "_law_field"]
theorem sc_l_redraw : FnScope n_l_redraw p_l_redraw (defScope s_l_redraw) := ⟨rfl, rfl, rfl, by decide +kernel, rfl, by decide +kernel, by decide +kernel⟩
abbrev n_l_first : List Str := ["_law_source_here", "_law_program", "_law_kinds", "_law_size", "_law_times", "_law_run", "_law_kind"]
theorem sc_l_first : FnScope n_l_first p_l_first (defScope s_l_first) := ⟨rfl, rfl, rfl, by decide +kernel, rfl, by decide +kernel, by decide +kernel⟩
abbrev n_l_copy : List Str := ["_law_run", "_law_other", "_law_row"]
theorem sc_l_copy : FnScope n_l_copy p_l_copy (defScope s_l_copy) := ⟨rfl, rfl, rfl, by decide +kernel, rfl, by decide +kernel, by decide +kernel⟩
abbrev n_l_led : List Str := ["_law_run", "_law_where", "_law_row", "_law_told_here", "_law_k"]
theorem sc_l_led : FnScope n_l_led p_l_led (defScope s_l_led) := ⟨rfl, rfl, rfl, by decide +kernel, rfl, by decide +kernel, by decide +kernel⟩
abbrev n_l_reached : List Str := ["_law_run", "_law_kinds", "_law_seen", "_law_k", "_law_turn", "_law_where", "_law_other"]
theorem sc_l_reached : FnScope n_l_reached p_l_reached (defScope s_l_reached) := ⟨rfl, rfl, rfl, by decide +kernel, rfl, by decide +kernel, by decide +kernel⟩
abbrev n_l_twin : List Str := ["_law_source_here", "_law_program", "_law_first_here", "_law_kinds", "_law_twin_here", "_law_reached_here", "_law_k", "_law_row", "_law_order", "_law_moved_here", "_law_where"]
theorem sc_l_twin : FnScope n_l_twin p_l_twin (defScope s_l_twin) := ⟨rfl, rfl, rfl, by decide +kernel, rfl, by decide +kernel, by decide +kernel⟩
abbrev n_l_with_other_fixed : List Str := ["_law_source_here", "_law_program", "_law_other", "_law_kinds", "_law_choice", "_law_fixed", "_law_at", "_law_next_at", "_law_kept_here", "_law_free", "_law_k", "_law_used", "_law_row"]
theorem sc_l_with_other_fixed : FnScope n_l_with_other_fixed p_l_with_other_fixed (defScope s_l_with_other_fixed) := ⟨rfl, rfl, rfl, by decide +kernel, rfl, by decide +kernel, by decide +kernel⟩
abbrev n_l_changed : List Str := ["_law_source_here", "_law_program", "_law_twin_here", "_law_kinds", "_law_other", "_law_choice", "_law_pool", "_law_at", "_law_values", "_law_row", "_law_told_here", "_law_fields"]
theorem sc_l_changed : FnScope n_l_changed p_l_changed (defScope s_l_changed) := ⟨rfl, rfl, rfl, by decide +kernel, rfl, by decide +kernel, by decide +kernel⟩
abbrev n_l_kept : List Str := ["_law_kind", "_law_one_here", "_law_other", "_law_mine", "_law_others"]
theorem sc_l_kept : FnScope n_l_kept p_l_kept (defScope s_l_kept) := ⟨rfl, rfl, rfl, by decide +kernel, rfl, by decide +kernel, by decide +kernel⟩
abbrev n_l_keeps : List Str := ["_law_first_here", "_law_second", "_law_kinds", "_law_mine", "_law_others", "_law_k", "_law_at", "_law_one_here", "_law_other", "_law_told_here"]
theorem sc_l_keeps : FnScope n_l_keeps p_l_keeps (defScope s_l_keeps) := ⟨rfl, rfl, rfl, by decide +kernel, rfl, by decide +kernel, by decide +kernel⟩
abbrev n_l_orders : List Str := ["_law_size", "_law_orders_here", "_law_k", "_law_longer", "_law_order", "_law_at"]
theorem sc_l_orders : FnScope n_l_orders p_l_orders (defScope s_l_orders) := ⟨rfl, rfl, rfl, by decide +kernel, rfl, by decide +kernel, by decide +kernel⟩
abbrev n_l_paired : List Str := ["_law_first_here", "_law_second", "_law_kinds", "_law_mine", "_law_others", "_law_order", "_law_k"]
theorem sc_l_paired : FnScope n_l_paired p_l_paired (defScope s_l_paired) := ⟨rfl, rfl, rfl, by decide +kernel, rfl, by decide +kernel, by decide +kernel⟩
abbrev n_l_is_order : List Str := ["_law_order", "_law_reached_here", "_law_where"]
theorem sc_l_is_order : FnScope n_l_is_order p_l_is_order (defScope s_l_is_order) := ⟨rfl, rfl, rfl, by decide +kernel, rfl, by decide +kernel, by decide +kernel⟩
abbrev n_l_told : List Str := ["_law_program", "_law_run", "_law_kinds", "_law_records", "_law_row"]
theorem sc_l_told : FnScope n_l_told p_l_told (defScope s_l_told) := ⟨rfl, rfl, rfl, by decide +kernel, rfl, by decide +kernel, by decide +kernel⟩
abbrev n_l_right : List Str := ["_law_program", "_law_first_here", "_law_second", "_law_kinds", "_law_mine", "_law_others", "_law_one_here", "_law_other"]
theorem sc_l_right : FnScope n_l_right p_l_right (defScope s_l_right) := ⟨rfl, rfl, rfl, by decide +kernel, rfl, by decide +kernel, by decide +kernel⟩
abbrev n_law : List Str := ["_law_script", "_law_source_here", "_law_program", "_law_kinds", "_law_first_here", "_law_twin_here", "_law_turn"]
theorem sc_law : FnScope n_law p_law (defScope s_law) := ⟨rfl, rfl, rfl, by decide +kernel, rfl, by decide +kernel, by decide +kernel⟩
/-! ### a list against the empty one -/
def rEqL0 (K : PySem.W.Frag) (neg : Bool) : R2 := fun x y H Q => ∃ (a b : Addr) (xs : List V), x = .ref a ∧ y = .ref b ∧ SqL K H a xs ∧ SqL K H b [] ∧ Q (.bl (if neg then !xs.isEmpty else xs.isEmpty)) H
theorem op_neL0 {X : Cx} (hu : X.A.units < cLine) : OpR X (compareOp .NotEq) (rEqL0 X.K true) := by
  intro pins s σ H x y v u Q I rx ry h
  obtain ⟨a, b, xs, rfl, rfl, ha, hb, q⟩ := h
  obtain rfl : v = Value.ref a := rx
  obtain rfl : u = Value.ref b := ry
  obtain ⟨its, r1, t1, _⟩ := I.list ha
  obtain ⟨its2, r2, t2, _⟩ := I.list hb
  cases r2
  cases r1 with
  | nil => exact SeqAt.RcNeAt.lists (e := fun _ => true) t1.isList t2.isList rfl hu (fun j h1 h2 => absurd h2 (by simp)) _ _ _ _ ⟨.bl _, H, I, rfl, q⟩
  | cons _ _ => exact SeqAt.RcNeAt.lists_lengths t1.isList t2.isList (by simp) hu _ _ _ _ ⟨.bl _, H, I, rfl, q⟩
theorem op_eqL0 {X : Cx} (hu : X.A.units < cLine) : OpR X (compareOp .Eq) (rEqL0 X.K false) := by
  intro pins s σ H x y v u Q I rx ry h
  obtain ⟨a, b, xs, rfl, rfl, ha, hb, q⟩ := h
  obtain rfl : v = Value.ref a := rx
  obtain rfl : u = Value.ref b := ry
  obtain ⟨its, r1, t1, _⟩ := I.list ha
  obtain ⟨its2, r2, t2, _⟩ := I.list hb
  cases r2
  cases r1 with
  | nil => exact SeqAt.eq_listAt (e := fun _ => true) t1.isList t2.isList rfl hu (fun j h1 h2 => absurd h2 (by simp)) ⟨.bl _, H, I, rfl, q⟩
  | cons _ _ => exact SeqAt.eq_list_lengthsAt t1.isList t2.isList (by simp) hu ⟨.bl _, H, I, rfl, q⟩
/-! ### built-in names -/
theorem bt_int : bootBuiltins "int" = some (.type "int") := by decide +kernel
theorem bt_str : bootBuiltins "str" = some (.type "str") := by decide +kernel
theorem bt_bool : bootBuiltins "bool" = some (.type "bool") := by decide +kernel
theorem bt_tuple : bootBuiltins "tuple" = some (.type "tuple") := by decide +kernel
theorem bt_list : bootBuiltins "list" = some (.type "list") := by decide +kernel
theorem bt_dict : bootBuiltins "dict" = some (.type "dict") := by decide +kernel
theorem bb_max : bootBuiltins "max" = some (.builtin "max") := by decide +kernel
theorem bb_min : bootBuiltins "min" = some (.builtin "min") := by decide +kernel
theorem bb_isinstance : bootBuiltins "isinstance" = some (.builtin "isinstance") := by decide +kernel
/-! ### a source of draws: a list of three ints, which draws alone change -/
def Src (H : Hp) (a : Addr) : Prop := ∃ c m k : Int, H a = some (.lst [.int c, .int m, .int k])
/-- a source stands at a, and nothing else that was tracked has changed -/
structure Stp (a : Addr) (H H' : Hp) : Prop where
  s : Src H' a
  k : ∀ b o, b ≠ a → H b = some o → H' b = some o
theorem Stp.refl {a : Addr} {H : Hp} (h : Src H a) : Stp a H H := ⟨h, fun _ _ _ e => e⟩
theorem Stp.trans {a : Addr} {H H1 H2 : Hp} (x : Stp a H H1) (y : Stp a H1 H2) : Stp a H H2 := ⟨y.s, fun b o hb e => y.k b o hb (x.k b o hb e)⟩
theorem Src.ne {a p : Addr} {H : Hp} (h : Src H a) (n : H p = none) : a ≠ p := by
  obtain ⟨c, m, k, h⟩ := h
  exact ne_of_none h n
theorem Stp.free {a p : Addr} {H H' : Hp} (x : Stp a H H') (n : H' p = none) : H p = none := by
  cases q : H p with
  | none => rfl
  | some o =>
    have ne : p ≠ a := fun z => x.s.ne n z.symm
    rw [x.k p o ne q] at n
    cases n
/-- a new object beside the source -/
theorem Stp.new {a p : Addr} {H H' : Hp} {o : HO} (x : Stp a H H') (n : H' p = none) : Stp a H (upd H' p o) := by
  have ne := x.s.ne n
  obtain ⟨c, m, k, h⟩ := x.s
  refine ⟨⟨c, m, k, by rw [upd_ne ne]; exact h⟩, fun b u hb e => ?_⟩
  have e' := x.k b u hb e
  rw [upd_ne (ne_of_none e' n)]
  exact e'
theorem Stp.same {a : Addr} {H H' H2 : Hp} (x : Stp a H H') (s : Same H' H2) : Stp a H H2 := by
  obtain ⟨c, m, k, h⟩ := x.s
  exact ⟨⟨c, m, k, s _ _ h⟩, fun b o hb e => s b o (x.k b o hb e)⟩
theorem Stp.of_same {a : Addr} {H H' : Hp} (h : Src H a) (s : Same H H') : Stp a H H' := (Stp.refl h).same s
theorem Same.new {H : Hp} {p : Addr} (h : H p = none) (o : HO) : Same H (upd H p o) := fun b u q => by rw [upd_ne (ne_of_none q h)]; exact q
/-- a source that is new ahead of its draws: all that was tracked stands -/
theorem Stp.fresh {a : Addr} {H H1 H2 : Hp} (s : Same H H1) (n : H a = none) (x : Stp a H1 H2) : Same H H2 := fun b o e => x.k b o (ne_of_none e n) (s b o e)
theorem Stp.rd {K : PySem.W.Frag} {a p : Addr} {H H' : Hp} {xs : List V} (x : Stp a H H') (h : SqT K H p xs) (hs : Src H a) : SqT K H' p xs := by
  obtain ⟨c, m, k, hs⟩ := hs
  rcases h with (h | ⟨o, h⟩) | h
  · exact .inl (.inl (x.k _ _ (ne_of h hs (by intro z; cases z)) h))
  · exact .inl (.inr ⟨o, x.k _ _ (ne_of h hs (by intro z; cases z)) h⟩)
  · exact .inr h
theorem Stp.rdL {K : PySem.W.Frag} {a p : Addr} {H H' : Hp} {xs : List V} (x : Stp a H H') (h : SqL K H p xs) (ne : p ≠ a) : SqL K H' p xs := by
  rcases h with (h | ⟨o, h⟩) | h
  · exact .inl (.inl (x.k _ _ ne h))
  · exact .inl (.inr ⟨o, x.k _ _ ne h⟩)
  · exact .inr h
theorem Same.tup {K : PySem.W.Frag} {p : Addr} {H H' : Hp} {xs : List V} (x : Same H H') (h : SqT K H p xs) : SqT K H' p xs := by
  rcases h with (h | ⟨o, h⟩) | h
  · exact .inl (.inl (x _ _ h))
  · exact .inl (.inr ⟨o, x _ _ h⟩)
  · exact .inr h
/-! ### numbers -/
theorem ifT {c : Bool} {A B : Prop} (h : c = true) (a : A) : if c = true then A else B := by rw [if_pos h]; exact a
theorem ifF {c : Bool} {A B : Prop} (h : c = false) (b : B) : if c = true then A else B := by rw [h]; exact iteF b
theorem fmod_bd {x m : Int} (h : 0 < m) : 0 ≤ x.fmod m ∧ x.fmod m < m := ⟨Int.fmod_nonneg_of_pos x h, Int.fmod_lt_of_pos x h⟩
theorem fm64 {x m : Int} (h : 0 < m) (h2 : m ≤ 2 ^ 64) : -(2 ^ 64) < x.fmod m ∧ x.fmod m < 2 ^ 64 :=
  ⟨Int.lt_of_lt_of_le (by decide) (fmod_bd h).1, Int.lt_of_lt_of_le (fmod_bd h).2 h2⟩
theorem atI_int {α : Type} {xs : List α} {r : Int} (h0 : 0 ≤ r) (h : r.toNat < xs.length) : atI xs r = some xs[r.toNat] := by
  have e := atI_nat (xs := xs) (j := r.toNat) (List.getElem?_eq_getElem h)
  rwa [Int.toNat_of_nonneg h0] at e
/-! ### the promises of the draws -/
def spCell (K : PySem.W.Frag) : Sp := fun vs H Q _ => ∃ (l : Addr) (ns : List Int) (j : Int), vs = [.ref l, .int j] ∧ SqL K H l (ns.map V.int) ∧ 0 ≤ j ∧ ∀ i : Int, Q (.int i) H
def spSource : Sp := fun vs H Q _ => ∃ c : Int, vs = [.int c] ∧ ∀ p H', H p = none → Same H H' → Src H' p → Q (.ref p) H'
def spPick : Sp := fun vs H Q _ => ∃ (a : Addr) (n : Int), vs = [.ref a, .int n] ∧ Src H a ∧ n < 1073741824 ∧ ∀ (r : Int) (H' : Hp), Stp a H H' → 0 ≤ r → (r < n ∨ r = 0) → Q (.int r) H'
def spOne (K : PySem.W.Frag) : Sp := fun vs H Q _ => ∃ (a : Addr) (row : V), vs = [.ref a, row] ∧ Src H a ∧
  ((∃ (p : Addr) (xs : List V), row = .ref p ∧ p ≠ a ∧ SqL K H p xs ∧ 0 < xs.length ∧ xs.length < 1000 ∧ ∀ v H', v ∈ xs → Stp a H H' → Q v H') ∨
   (∃ z : Str, row = .str z ∧ 0 < z.length ∧ z.length < 1000 ∧ ∀ (c : Nat) H', c ∈ z.cps.toList → Stp a H H' → Q (.str ⟨#[c]⟩) H'))
section
variable {P : Program} {w : World} {K : PySem.W.Frag} {mg : Str → Option Value} {base : Heap}
theorem ok_l_cell (T : Txt w K mg) : FnOk P w K mg base CX0 1 T.a_l_cell T.d_l_cell p_l_cell (spCell K) := by
  refine T.F_l_cell.ok sc_l_cell (fun vs H Q E h => ?_) (fun cdv A outer s H vs Q E hr h => ?_)
  · obtain ⟨l, ns, j, rfl, _⟩ := h
    rfl
  obtain ⟨l, ns, j, rfl, hS, h0, q⟩ := h
  refine ⟨_, (pss_cons (ps_if (pt_cmpR op_lt (pv 1) (pe_callB call_len_seq rfl T.z_len PySem.boot_len (pa_cons (pv 0) pa_nil)) (nomark _)) (pss_one (ps_ret (pe_ix ix_list (pv 0) (pv 1) (fun _ _ => rfl)))) pss_nil)
      (pss_one (ps_ret pe_int))), ?_⟩
  have hl : (ns.map V.int).length = ns.length := List.length_map _
  refine ⟨_, rfl, _, rfl, l, _, rfl, .inl hS, _, _, rfl, rfl, _, rfl, ?_⟩
  refine ite2 (fun c => ?_) (fun c => ?_)
  · have c' : j < (((ns.map V.int).length : Nat) : Int) := of_decide_eq_true c
    rw [hl] at c'
    have hk : j.toNat < ns.length := by omega
    have e := atI_int (xs := ns.map V.int) h0 (by omega)
    rw [List.getElem_map] at e
    exact ⟨_, rfl, _, rfl, l, _, _, _, rfl, rfl, hS, e, q _⟩
  · exact q 0
theorem ok_l_source (T : Txt w K mg) : FnOk P w K mg base CX0 1 T.a_l_source T.d_l_source p_l_source spSource := by
  refine T.F_l_source.ok sc_l_source (fun vs H Q E h => ?_) (fun cdv A outer s H vs Q E hr h => ?_)
  · obtain ⟨c, rfl, _⟩ := h
    rfl
  obtain ⟨c, rfl, q⟩ := h
  refine ⟨_, (pss_one (ps_ret (pe_lst (pa_cons (pv 0) (pa_cons (pv 0) (pa_cons pe_int pa_nil)))))), ?_⟩
  refine ⟨_, rfl, _, rfl, (by show 3 ≤ sizeLine; decide), fun p hp => ?_⟩
  exact q p _ hp (Same.new hp _) ⟨c, c, 0, upd_same⟩
theorem ok_l_pick (T : Txt w K mg) : FnOk P w K mg base CX0 1 T.a_l_pick T.d_l_pick p_l_pick spPick := by
  refine T.F_l_pick.ok sc_l_pick (fun vs H Q E h => ?_) (fun cdv A outer s H vs Q E hr h => ?_)
  · obtain ⟨a, n, rfl, _⟩ := h
    rfl
  obtain ⟨a, n, rfl, ⟨c, m, k, hS⟩, hn, q⟩ := h
  refine ⟨_, (pss_cons (ps_set (i := 2) sc_l_pick.nd rfl (Or.inl rfl) (pe_ix ix_list (pv 0) pe_int (fun _ _ => rfl)))
      (pss_cons (ps_asg (pe_op op_add (pv 2) pe_int) (pg_sub (pv 0) pe_int set_list))
      (pss_cons (ps_if (pt_cmpR op_lt (pv 1) pe_int (nomark _)) (pss_one (ps_ret pe_int)) pss_nil)
      (pss_cons (ps_if (PW.pt (pw_and (pt_cmpR op_ge (pe_ix ix_list (pv 0) pe_int (fun _ _ => rfl)) (pe_op op_pow pe_int pe_int) (nomark _)) (pw_and1 (pt_cmpR op_gt (pe_ix ix_list (pv 0) pe_int (fun _ _ => rfl)) pe_int (nomark _))))) (pss_cons (ps_set (i := 3) sc_l_pick.nd rfl (Or.inl rfl) (pe_op op_modN (pe_callTy call_int1 rfl T.z_int bt_int (pa_cons (pe_ix ix_list (pv 0) pe_int (fun _ _ => rfl)) pa_nil)) (pv 1)))
      (pss_cons (ps_asg (pe_op op_fdivN (pe_ix ix_list (pv 0) pe_int (fun _ _ => rfl)) (pv 1)) (pg_sub (pv 0) pe_int set_list))
      (pss_one (ps_ret (pv 3))))) pss_nil)
      (pss_cons (ps_set (i := 4) sc_l_pick.nd rfl (Or.inl rfl) (pe_op op_modN (pe_callTy call_int1 rfl T.z_int bt_int (pa_cons (pe_op op_add (pe_op op_add (pe_ix ix_list (pv 0) pe_int (fun _ _ => rfl)) (pe_op op_mul pe_int (pv 2))) pe_int) pa_nil)) pe_int))
      (pss_cons (ps_set (i := 4) sc_l_pick.nd rfl (Or.inl rfl) (pe_op op_modN (pe_callTy call_int1 rfl T.z_int bt_int (pa_cons (pe_op op_mul (pv 4) (pe_op op_add (pv 4) pe_int)) pa_nil)) pe_int))
      (pss_cons (ps_set (i := 4) sc_l_pick.nd rfl (Or.inl rfl) (pe_op op_modN (pe_callTy call_int1 rfl T.z_int bt_int (pa_cons (pe_op op_add (pe_op op_mul (pv 4) (pe_op op_add (pv 4) pe_int)) (pe_op op_mul pe_int (pv 2))) pa_nil)) pe_int))
      (pss_one (ps_ret (pe_op op_modN (pe_callTy call_int1 rfl T.z_int bt_int (pa_cons (pe_op op_fdivN (pv 4) pe_int) pa_nil)) (pv 1))))))))))), ?_⟩
  refine ⟨_, rfl, a, _, 2, _, rfl, rfl, SqL.of hS, rfl, ?_⟩
  refine ⟨_, rfl, k, 1, rfl, rfl, _, rfl, a, _, 2, 2, rfl, rfl, hS, rfl, ?_⟩
  have h1 : (upd H a (.lst [.int c, .int m, .int (k + 1)])) a = some (.lst [.int c, .int m, .int (k + 1)]) := upd_same
  have st : Stp a H (upd H a (.lst [.int c, .int m, .int (k + 1)])) := ⟨⟨c, m, k + 1, upd_same⟩, fun b o hb e => by rw [upd_ne hb]; exact e⟩
  refine ⟨_, rfl, n, 2, rfl, rfl, _, rfl, ?_⟩
  refine ite2 (fun _ => ?_) (fun c2 => ?_)
  · exact q 0 _ st (Int.le_refl 0) (.inr rfl)
  have hn2 : ¬ n < 2 := of_decide_eq_false (Bool.eq_false_iff.mpr c2)
  refine ⟨_, rfl, a, _, 0, _, rfl, rfl, SqL.of h1, rfl, 10, 18, rfl, rfl, ⟨by decide, by decide, by decide⟩, _, _, rfl, rfl, _, rfl, ?_⟩
  refine ite2 (fun _ => ⟨_, rfl, a, _, 1, _, rfl, rfl, SqL.of h1, rfl, _, _, rfl, rfl, _, rfl, ite2 (fun _ => ?first) (fun _ => ?second)⟩) (fun _ => iteF ?third)
  case first =>
    refine ⟨_, rfl, a, _, 1, _, rfl, rfl, SqL.of h1, rfl, .inl ⟨_, rfl, ?_⟩⟩
    refine ⟨_, rfl, _, _, rfl, rfl, by omega, ?_⟩
    refine ⟨_, rfl, a, _, 1, _, rfl, rfl, SqL.of h1, rfl, _, rfl, m, n, rfl, rfl, ⟨by omega, by omega⟩, _, rfl, a, _, 1, 1, rfl, rfl, h1, rfl, ?_⟩
    refine ⟨_, rfl, ?_⟩
    have b := fmod_bd (x := m) (m := n) (by omega)
    refine q _ _ ⟨⟨c, m.fdiv n, k + 1, upd_same⟩, fun b o hb e => ?_⟩ b.1 (.inl b.2)
    rw [upd_ne hb]
    exact st.k b o hb e
  all_goals
    refine ⟨_, rfl, a, _, 0, _, rfl, rfl, SqL.of h1, rfl, _, rfl, 7919, k, rfl, rfl, .inl ⟨by decide, by decide⟩, _, _, rfl, rfl, _, _, rfl, rfl, .inl ⟨_, rfl, ?_⟩⟩
    refine ⟨_, _, rfl, rfl, (by intro z; cases z), ?_⟩
    refine ⟨_, rfl, _, rfl, _, _, rfl, rfl, _, _, rfl, rfl, .inl (fm64 (by decide) (by decide)), .inl ⟨_, rfl, ?_⟩⟩
    refine ⟨_, _, rfl, rfl, (by intro z; cases z), ?_⟩
    refine ⟨_, rfl, _, rfl, _, _, rfl, rfl, _, _, rfl, rfl, .inl (fm64 (by decide) (by decide)), _, rfl, 31, k, rfl, rfl, .inl ⟨by decide, by decide⟩, _, _, rfl, rfl, .inl ⟨_, rfl, ?_⟩⟩
    refine ⟨_, _, rfl, rfl, (by intro z; cases z), ?_⟩
    refine ⟨_, rfl, _, _, rfl, rfl, ⟨by decide, by decide⟩, .inl ⟨_, rfl, ?_⟩⟩
    refine ⟨_, rfl, _, _, rfl, rfl, (by omega), ?_⟩
    exact q _ _ st (fmod_bd (by omega)).1 (.inl (fmod_bd (by omega)).2)
theorem ok_l_one (T : Txt w K mg) : FnOk P w K mg base CX0 2 T.a_l_one T.d_l_one p_l_one (spOne K) := by
  have g_l_pick := ok_l_pick (P := P) (w := w) (base := base) T
  refine T.F_l_one.ok sc_l_one (fun vs H Q E h => ?_) (fun cdv A outer s H vs Q E hr h => ?_)
  · obtain ⟨a, row, rfl, _⟩ := h
    rfl
  obtain ⟨a, row, rfl, hS, h⟩ := h
  refine ⟨_, (pss_one (ps_ret (pe_ix ix_seq (pv 1) (pe_call g_l_pick (hr.mono (by first | decide | omega)) rfl T.m_l_pick T.F_l_pick.kp T.b_l_pick .nil pass0 (pa_cons (pv 0) (pa_cons (pe_callB call_len rfl T.z_len PySem.boot_len (pa_cons (pv 1) pa_nil)) pa_nil))) (fun _ _ => rfl)))), ?_⟩
  rcases h with ⟨p, xs, rfl, ne, hx, h0, h9, q⟩ | ⟨z, rfl, h0, h9, q⟩
  · refine ⟨_, rfl, _, rfl, _, rfl, .ref p, xs.length, rfl, .inl ⟨_, hx, rfl⟩, ?_⟩
    refine ⟨a, _, rfl, hS, by omega, fun r H' st r0 r1 => ?_⟩
    have hr' : r.toNat < xs.length := by omega
    have e := atI_int (xs := xs) r0 hr'
    exact .inl ⟨p, xs, r, _, rfl, rfl, st.rdL hx ne, e, q _ _ (List.getElem_mem hr') st⟩
  · refine ⟨_, rfl, _, rfl, _, rfl, .str z, z.length, rfl, ⟨Nat.le_of_lt (small1000 (by omega)), rfl⟩, ?_⟩
    refine ⟨a, _, rfl, hS, by omega, fun r H' st r0 r1 => ?_⟩
    have ez : z.length = z.cps.toList.length := by simp [Str.length]
    have hr' : r.toNat < z.cps.toList.length := by omega
    have e := atI_int (xs := z.cps.toList) r0 hr'
    exact .inr (.inr ⟨z, r, _, rfl, rfl, Nat.le_of_lt (small1000 (by omega)), e, q _ _ (List.getElem_mem hr') st⟩)
end
/-! ### data: equal data are the same to _law_same -/
def Dok : Nat → PyData → Prop
  | 0, _ => False
  | _ + 1, .none => True
  | _ + 1, .bool _ => True
  | _ + 1, .int _ => True
  | _ + 1, .str _ => True
  | n + 1, .tuple ds => ds.length ≤ 100000 ∧ ∀ d ∈ ds, Dok n d
  | n + 1, .list ds => ds.length ≤ 100000 ∧ ∀ d ∈ ds, Dok n d
  | _ + 1, .dict _ => False
theorem dpAll_len {K : PySem.W.Frag} {H : Hp} : ∀ {vs : List V} {ds : List PyData}, DpAll K H vs ds → vs.length = ds.length
  | _, _, .nil => rfl
  | _, _, .cons _ r => congrArg (· + 1) (dpAll_len r)
theorem dpAll_get {K : PySem.W.Frag} {H : Hp} : ∀ {vs : List V} {ds : List PyData} {i : Nat} {d : PyData}, DpAll K H vs ds → ds[i]? = some d → ∃ v, vs[i]? = some v ∧ Dp K H v d
  | _, _, _, _, .nil, e => by simp at e
  | _, _, 0, d, .cons h _, e => by
    simp at e
    subst e
    exact ⟨_, rfl, h⟩
  | _, _, i + 1, d, .cons _ r, e => by
    obtain ⟨v, h1, h2⟩ := dpAll_get (i := i) r (by simpa using e)
    exact ⟨v, by simpa using h1, h2⟩
theorem tyL {K : PySem.W.Frag} {H : Hp} {a : Addr} {xs : List V} (h : SqL K H a xs) : TyX K H (.ref a) (.type "list") := by
  rcases h with (h | ⟨o, h⟩) | ⟨o, its, n, h, c, _⟩
  · exact .base (.lst h)
  · exact .base (.frz h)
  · exact .kList h c
theorem tyT {K : PySem.W.Frag} {H : Hp} {a : Addr} {xs : List V} (h : SqT K H a xs) : TyX K H (.ref a) (.type "tuple") := by
  rcases h with (h | ⟨o, h⟩) | ⟨o, its, n, h, c, _⟩
  · exact .base (.tup h)
  · exact .fTuple h
  · exact .kTuple h c
theorem isi {K : PySem.W.Frag} {H : Hp} {Q : VK} {x : V} {t c : String} (b : Bool) (ty : TyX K H x (.type t)) (kb : kitB t c = some b) (q : Q (.bl b) H) : rIsi K [x, .ty c] H Q := ⟨x, .ty c, _, _, b, rfl, .ty c, ty, kit_ty kb, q⟩
theorem kb_nt : kitB "NoneType" "tuple" = some false := by decide +kernel
theorem kb_nl : kitB "NoneType" "list" = some false := by decide +kernel
theorem kb_bt : kitB "bool" "tuple" = some false := by decide +kernel
theorem kb_bl : kitB "bool" "list" = some false := by decide +kernel
theorem kb_bb : kitB "bool" "bool" = some true := by decide +kernel
theorem kb_it : kitB "int" "tuple" = some false := by decide +kernel
theorem kb_il : kitB "int" "list" = some false := by decide +kernel
theorem kb_ib : kitB "int" "bool" = some false := by decide +kernel
theorem kb_ii : kitB "int" "int" = some true := by decide +kernel
theorem kb_st : kitB "str" "tuple" = some false := by decide +kernel
theorem kb_sl : kitB "str" "list" = some false := by decide +kernel
theorem kb_sb : kitB "str" "bool" = some false := by decide +kernel
theorem kb_si : kitB "str" "int" = some false := by decide +kernel
theorem kb_ss : kitB "str" "str" = some true := by decide +kernel
theorem kb_tt : kitB "tuple" "tuple" = some true := by decide +kernel
theorem kb_tl : kitB "tuple" "list" = some false := by decide +kernel
theorem kb_lt : kitB "list" "tuple" = some false := by decide +kernel
theorem kb_ll : kitB "list" "list" = some true := by decide +kernel
def spSame (K : PySem.W.Frag) (n : Nat) : Sp := fun vs H Q _ => ∃ (x y : V) (d : PyData), vs = [x, y] ∧ Dp K H x d ∧ Dp K H y d ∧ Dok n d ∧ Q (.bl true) H
section
variable {P : Program} {w : World} {K : PySem.W.Frag} {mg : Str → Option Value} {base : Heap}
theorem ok_l_same0 (T : Txt w K mg) : FnOk P w K mg base CX0 0 T.a_l_same T.d_l_same p_l_same (spSame K 0) := by
  have no : ∀ vs H Q E, ¬ spSame K 0 vs H Q E := fun vs H Q E h => by
    obtain ⟨x, y, d, _, _, _, h, _⟩ := h
    exact h
  exact ⟨fun vs H Q E h => absurd h (no vs H Q E), fun A outer s H args us vs Q E _ _ _ _ h => absurd h (no vs H Q E)⟩
/-- the part for two lists or two tuples -/
theorem same_seq {n : Nat} {H : Hp} {p r : Addr} {xs ys : List V} {ds : List PyData} (h1 : SqL K H p xs ∨ SqT K H p xs) (h2 : SqL K H r ys ∨ SqT K H r ys) (d1 : DpAll K H xs ds) (d2 : DpAll K H ys ds)
    (hd : ∀ d ∈ ds, Dok n d) {i : Nat} (hi : i < ds.length) {R : V → Hp → Prop} (q : R (.bl true) H) :
    tCall (spSame K n) [] E0 (tCons (tOp (rIx K) (tVar 0) (tVar 2)) (tCons (tOp (rIx K) (tVar 1) (tVar 2)) tNil)) [some (.ref p), some (.ref r), some (.int (0 + (i : Int)))] H R := by
  obtain ⟨x, e1, q1⟩ := dpAll_get (i := i) d1 (List.getElem?_eq_getElem hi)
  obtain ⟨y, e2, q2⟩ := dpAll_get (i := i) d2 (List.getElem?_eq_getElem hi)
  have a1 : atI xs (0 + (i : Int)) = some x := by rw [Int.zero_add]; exact atI_nat e1
  have a2 : atI ys (0 + (i : Int)) = some y := by rw [Int.zero_add]; exact atI_nat e2
  have k2 : tOp (rIx K) (tVar 1) (tVar 2) [some (.ref p), some (.ref r), some (.int (0 + (i : Int)))] H (fun v H' => tNil [some (.ref p), some (.ref r), some (.int (0 + (i : Int)))] H' fun vs H'' => spSame K n ((x :: v :: vs) ++ []) H'' R E0) := by
    refine ⟨_, rfl, _, rfl, ?_⟩
    have z : spSame K n [x, y] H R E0 := ⟨x, y, _, rfl, q1, q2, hd _ (List.getElem_mem hi), q⟩
    rcases h2 with h2 | h2
    · exact .inl ⟨r, _, _, _, rfl, rfl, h2, a2, z⟩
    · exact .inr (.inl ⟨r, _, _, _, rfl, rfl, h2, a2, z⟩)
  refine ⟨_, rfl, _, rfl, ?_⟩
  rcases h1 with h1 | h1
  · exact .inl ⟨p, _, _, _, rfl, rfl, h1, a1, k2⟩
  · exact .inr (.inl ⟨p, _, _, _, rfl, rfl, h1, a1, k2⟩)
theorem ok_l_same (T : Txt w K mg) : ∀ n : Nat, FnOk P w K mg base CX0 n T.a_l_same T.d_l_same p_l_same (spSame K n)
  | 0 => ok_l_same0 T
  | n + 1 => by
    have g_l_same := ok_l_same T n
    refine T.F_l_same.ok sc_l_same (fun vs H Q E h => ?_) (fun cdv A outer s H vs Q E hr h => ?_)
    · obtain ⟨x, y, d, rfl, _⟩ := h
      rfl
    obtain ⟨x, y, d, rfl, hx, hy, hd, q⟩ := h
    refine ⟨_, (pss_cons (ps_if (PW.pt (pw_or (pt_val (pe_callB call_isi rfl T.z_isinstance bb_isinstance (pa_cons (pv 1) (pa_cons (pe_bltn (v := .ty "tuple") rfl T.z_tuple bt_tuple rfl) pa_nil)))) (pw_or1 (pt_val (pe_callB call_isi rfl T.z_isinstance bb_isinstance (pa_cons (pv 1) (pa_cons (pe_bltn (v := .ty "list") rfl T.z_list bt_list rfl) pa_nil))))))) (pss_cons (ps_if (PW.pt (pw_or (pt_cmpR op_ne (pe_callB call_isi rfl T.z_isinstance bb_isinstance (pa_cons (pv 1) (pa_cons (pe_bltn (v := .ty "tuple") rfl T.z_tuple bt_tuple rfl) pa_nil))) (pe_callB call_isi rfl T.z_isinstance bb_isinstance (pa_cons (pv 0) (pa_cons (pe_bltn (v := .ty "tuple") rfl T.z_tuple bt_tuple rfl) pa_nil))) (nomark _)) (pw_or1 (pt_cmpR op_ne (pe_callB call_isi rfl T.z_isinstance bb_isinstance (pa_cons (pv 1) (pa_cons (pe_bltn (v := .ty "list") rfl T.z_list bt_list rfl) pa_nil))) (pe_callB call_isi rfl T.z_isinstance bb_isinstance (pa_cons (pv 0) (pa_cons (pe_bltn (v := .ty "list") rfl T.z_list bt_list rfl) pa_nil))) (nomark _))))) (pss_one (ps_ret pe_bl)) pss_nil)
      (pss_cons (ps_if (pt_cmpR op_ne (pe_callB call_len_seq rfl T.z_len PySem.boot_len (pa_cons (pv 0) pa_nil)) (pe_callB call_len_seq rfl T.z_len PySem.boot_len (pa_cons (pv 1) pa_nil)) (nomark _)) (pss_one (ps_ret pe_bl)) pss_nil)
      (pss_cons (ps_for PassesOwn.never rfl (pi_range1 rfl T.z_range (pa_cons (pe_callB call_len_seq rfl T.z_len PySem.boot_len (pa_cons (pv 1) pa_nil)) pa_nil)) (pg_name (i := 2) sc_l_same.nd rfl (Or.inl rfl))
        (pss_one (ps_if (pt_not (pt_val (pe_call g_l_same (hr.mono (by first | decide | omega)) rfl T.m_l_same T.F_l_same.kp T.b_l_same .nil pass0 (pa_cons (pe_ix ix_seq (pv 0) (pv 2) (fun _ _ => rfl)) (pa_cons (pe_ix ix_seq (pv 1) (pv 2) (fun _ _ => rfl)) pa_nil))))) (pss_one (ps_ret pe_bl)) pss_nil)))
      (pss_one (ps_ret pe_bl))))) pss_nil)
      (pss_cons (ps_if (pt_cmpR op_isN (pv 1) pe_non (nomark _)) (pss_one (ps_ret (pe_cmpR op_isN (pv 0) pe_non (nomark _)))) pss_nil)
      (pss_cons (ps_if (pt_val (pe_callB call_isi rfl T.z_isinstance bb_isinstance (pa_cons (pv 1) (pa_cons (pe_bltn (v := .ty "bool") rfl T.z_bool bt_bool rfl) pa_nil)))) (pss_one (ps_ret (pe_and (pe_callB call_isi rfl T.z_isinstance bb_isinstance (pa_cons (pv 0) (pa_cons (pe_bltn (v := .ty "bool") rfl T.z_bool bt_bool rfl) pa_nil))) (pe_one (pe_cmpR op_eq (pv 0) (pv 1) (nomark _)))))) pss_nil)
      (pss_cons (ps_if (pt_val (pe_callB call_isi rfl T.z_isinstance bb_isinstance (pa_cons (pv 1) (pa_cons (pe_bltn (v := .ty "int") rfl T.z_int bt_int rfl) pa_nil)))) (pss_one (ps_ret (pe_and (pe_callB call_isi rfl T.z_isinstance bb_isinstance (pa_cons (pv 0) (pa_cons (pe_bltn (v := .ty "int") rfl T.z_int bt_int rfl) pa_nil))) (pe_and (pe_not (pe_callB call_isi rfl T.z_isinstance bb_isinstance (pa_cons (pv 0) (pa_cons (pe_bltn (v := .ty "bool") rfl T.z_bool bt_bool rfl) pa_nil)))) (pe_one (pe_cmpR op_eq (pv 0) (pv 1) (nomark _))))))) pss_nil)
      (pss_one (ps_ret (pe_and (pe_callB call_isi rfl T.z_isinstance bb_isinstance (pa_cons (pv 0) (pa_cons (pe_bltn (v := .ty "str") rfl T.z_str bt_str rfl) pa_nil))) (pe_one (pe_cmpR op_eq (pv 0) (pv 1) (nomark _)))))))))), ?_⟩
    cases hx with
    | non =>
      cases hy
      refine ⟨_, rfl, _, _, _, _, false, rfl, .ty _, (.base .non), kit_ty kb_nt, ⟨_, rfl, iteF ⟨_, rfl, _, _, _, _, false, rfl, .ty _, (.base .non), kit_ty kb_nl, ⟨_, rfl, iteF ?_⟩⟩⟩⟩
      refine ⟨_, rfl, rfl, _, rfl, iteT ?_⟩
      exact ⟨_, rfl, rfl, q⟩
    | bl b =>
      cases hy
      refine ⟨_, rfl, _, _, _, _, false, rfl, .ty _, (.base (.bl _)), kit_ty kb_bt, ⟨_, rfl, iteF ⟨_, rfl, _, _, _, _, false, rfl, .ty _, (.base (.bl _)), kit_ty kb_bl, ⟨_, rfl, iteF ?_⟩⟩⟩⟩
      refine ⟨_, rfl, rfl, _, rfl, iteF ?_⟩
      refine ⟨_, rfl, _, _, _, _, true, rfl, .ty _, (.base (.bl _)), kit_ty kb_bb, ⟨_, rfl, iteT ?_⟩⟩
      refine ⟨_, rfl, _, _, _, _, true, rfl, .ty _, (.base (.bl _)), kit_ty kb_bb, ⟨_, rfl, iteT ?_⟩⟩
      refine ⟨_, rfl, _, rfl, rfl, ?_⟩
      rw [decide_eq_true rfl]
      exact q
    | int b =>
      cases hy
      refine ⟨_, rfl, _, _, _, _, false, rfl, .ty _, (.base (.int _)), kit_ty kb_it, ⟨_, rfl, iteF ⟨_, rfl, _, _, _, _, false, rfl, .ty _, (.base (.int _)), kit_ty kb_il, ⟨_, rfl, iteF ?_⟩⟩⟩⟩
      refine ⟨_, rfl, rfl, _, rfl, iteF ?_⟩
      refine ⟨_, rfl, _, _, _, _, false, rfl, .ty _, (.base (.int _)), kit_ty kb_ib, ⟨_, rfl, iteF ?_⟩⟩
      refine ⟨_, rfl, _, _, _, _, true, rfl, .ty _, (.base (.int _)), kit_ty kb_ii, ⟨_, rfl, iteT ?_⟩⟩
      refine ⟨_, rfl, _, _, _, _, true, rfl, .ty _, (.base (.int _)), kit_ty kb_ii, ⟨_, rfl, iteT ?_⟩⟩
      refine ⟨_, rfl, _, _, _, _, false, rfl, .ty _, (.base (.int _)), kit_ty kb_ib, ⟨_, rfl, _, rfl, iteT ?_⟩⟩
      refine ⟨_, rfl, _, rfl, rfl, ?_⟩
      rw [decide_eq_true rfl]
      exact q
    | str b =>
      cases hy
      refine ⟨_, rfl, _, _, _, _, false, rfl, .ty _, (.base (.str _)), kit_ty kb_st, ⟨_, rfl, iteF ⟨_, rfl, _, _, _, _, false, rfl, .ty _, (.base (.str _)), kit_ty kb_sl, ⟨_, rfl, iteF ?_⟩⟩⟩⟩
      refine ⟨_, rfl, rfl, _, rfl, iteF ?_⟩
      refine ⟨_, rfl, _, _, _, _, false, rfl, .ty _, (.base (.str _)), kit_ty kb_sb, ⟨_, rfl, iteF ?_⟩⟩
      refine ⟨_, rfl, _, _, _, _, false, rfl, .ty _, (.base (.str _)), kit_ty kb_si, ⟨_, rfl, iteF ?_⟩⟩
      refine ⟨_, rfl, _, _, _, _, true, rfl, .ty _, (.base (.str _)), kit_ty kb_ss, ⟨_, rfl, iteT ?_⟩⟩
      refine ⟨_, rfl, _, rfl, rfl, ?_⟩
      rw [decide_eq_true rfl]
      exact q
    | @lst p xs ds h1 d1 =>
      cases hy with
      | @lst r ys _ h2 d2 =>
      have l1 := dpAll_len d1
      have l2 := dpAll_len d2
      obtain ⟨hlen, hd⟩ := hd
      refine ⟨_, rfl, _, _, _, _, false, rfl, .ty _, (tyL h2), kit_ty kb_lt, ⟨_, rfl, iteF ⟨_, rfl, _, _, _, _, true, rfl, .ty _, (tyL h2), kit_ty kb_ll, ⟨_, rfl, iteT ?_⟩⟩⟩⟩
      refine ⟨_, rfl, _, _, _, _, false, rfl, .ty _, (tyL h2), kit_ty kb_lt, ⟨_, rfl, _, _, _, _, false, rfl, .ty _, (tyL h1), kit_ty kb_lt, ⟨rfl, _, rfl, iteF ?_⟩⟩⟩
      refine ⟨_, rfl, _, _, _, _, true, rfl, .ty _, (tyL h2), kit_ty kb_ll, ⟨_, rfl, _, _, _, _, true, rfl, .ty _, (tyL h1), kit_ty kb_ll, ⟨rfl, _, rfl, iteF ?_⟩⟩⟩
      refine ⟨_, rfl, p, _, rfl, .inl h1, _, rfl, r, _, rfl, .inl h2, rfl, _, rfl, ?_⟩
      refine iteNS (congrArg V.int (by omega)) ?_
      refine ⟨_, rfl, r, _, rfl, .inl h2, _, rfl, by omega, by omega, for_range (lo := 0) (fun i σ H' => H' = H ∧ ∃ v : Option V, σ = [some (.ref p), some (.ref r), v]) ⟨rfl, none, rfl⟩ ?_ ?_⟩
      · rintro i σ H' hi ⟨rfl, v, rfl⟩
        refine same_seq (.inl h1) (.inl h2) d1 d2 hd (by omega) ⟨_, rfl, iteF ?_⟩
        exact ⟨rfl, _, rfl⟩
      · rintro σ H' ⟨rfl, v, rfl⟩
        exact q
    | @tup p xs ds h1 d1 =>
      cases hy with
      | @tup r ys _ h2 d2 =>
      have l1 := dpAll_len d1
      have l2 := dpAll_len d2
      obtain ⟨hlen, hd⟩ := hd
      refine ⟨_, rfl, _, _, _, _, true, rfl, .ty _, (tyT h2), kit_ty kb_tt, ⟨_, rfl, iteT ?_⟩⟩
      refine ⟨_, rfl, _, _, _, _, true, rfl, .ty _, (tyT h2), kit_ty kb_tt, ⟨_, rfl, _, _, _, _, true, rfl, .ty _, (tyT h1), kit_ty kb_tt, ⟨rfl, _, rfl, iteF ?_⟩⟩⟩
      refine ⟨_, rfl, _, _, _, _, false, rfl, .ty _, (tyT h2), kit_ty kb_tl, ⟨_, rfl, _, _, _, _, false, rfl, .ty _, (tyT h1), kit_ty kb_tl, ⟨rfl, _, rfl, iteF ?_⟩⟩⟩
      refine ⟨_, rfl, p, _, rfl, .inr h1, _, rfl, r, _, rfl, .inr h2, rfl, _, rfl, ?_⟩
      refine iteNS (congrArg V.int (by omega)) ?_
      refine ⟨_, rfl, r, _, rfl, .inr h2, _, rfl, by omega, by omega, for_range (lo := 0) (fun i σ H' => H' = H ∧ ∃ v : Option V, σ = [some (.ref p), some (.ref r), v]) ⟨rfl, none, rfl⟩ ?_ ?_⟩
      · rintro i σ H' hi ⟨rfl, v, rfl⟩
        refine same_seq (.inr h1) (.inr h2) d1 d2 hd (by omega) ⟨_, rfl, iteF ?_⟩
        exact ⟨rfl, _, rfl⟩
      · rintro σ H' ⟨rfl, v, rfl⟩
        exact q
end
open ZG (Sq ItzG walk_zipG)
open DcS (dc_it)
/-! ### rows and matrices of whole numbers -/
open ZG (Sq ItzG walk_zipG)
theorem Sq.same {K : PySem.W.Frag} {t : Bool} {p : Addr} {H H' : Hp} {xs : List V} (s : Same H H') (h : Sq t K H p xs) : Sq t K H' p xs := by
  cases t
  · exact s.seq h
  · exact Same.tup s h
theorem Sq.upd_same {K : PySem.W.Frag} {p : Addr} {H : Hp} {xs : List V} : Sq false K (upd H p (.lst xs)) p xs := SqL.of L2.upd_same
theorem Sq.upd_sameT {K : PySem.W.Frag} {p : Addr} {H : Hp} {xs : List V} : Sq true K (upd H p (.tup xs)) p xs := SqT.of L2.upd_same
/-- what stood stands but at D -/
def But (D : Addr) (H H' : Hp) : Prop := ∀ b o, b ≠ D → H b = some o → H' b = some o
theorem But.of_same {D : Addr} {H H' : Hp} (s : Same H H') : But D H H' := fun b o _ e => s b o e
theorem But.upd {D : Addr} {H : Hp} (o : HO) : But D H (upd H D o) := fun b u ne e => by rw [upd_ne ne]; exact e
theorem But.trans {D : Addr} {H H1 H2 : Hp} (a : But D H H1) (b : But D H1 H2) : But D H H2 := fun c o ne e => b c o ne (a c o ne e)
theorem Sq.but {K : PySem.W.Frag} {t : Bool} {p D : Addr} {H H' : Hp} {xs : List V} (s : But D H H') (ne : p ≠ D) (h : Sq t K H p xs) : Sq t K H' p xs := by
  cases t
  · rcases h with (h | ⟨o, h⟩) | h
    · exact .inl (.inl (s _ _ ne h))
    · exact .inl (.inr ⟨o, s _ _ ne h⟩)
    · exact .inr h
  · rcases h with (h | ⟨o, h⟩) | h
    · exact .inl (.inl (s _ _ ne h))
    · exact .inl (.inr ⟨o, s _ _ ne h⟩)
    · exact .inr h
/-- a matrix at p: rows of kind t2 in a row of kind t1 -/
def Mx (t1 t2 : Bool) (K : PySem.W.Frag) (H : Hp) (p : Addr) (M : List (List Int)) : Prop :=
  ∃ as : List Addr, Sq t1 K H p (as.map V.ref) ∧ as.length = M.length ∧ ∀ (i : Nat) (a : Addr) (r : List Int), as[i]? = some a → M[i]? = some r → Sq t2 K H a (r.map V.int)
theorem Mx.same {t1 t2 : Bool} {K : PySem.W.Frag} {H H' : Hp} {p : Addr} {M : List (List Int)} (s : Same H H') (h : Mx t1 t2 K H p M) : Mx t1 t2 K H' p M := by
  obtain ⟨as, h1, h2, h3⟩ := h
  exact ⟨as, Sq.same s h1, h2, fun i a r e1 e2 => Sq.same s (h3 i a r e1 e2)⟩
/-- its i-th row -/
theorem Mx.row {t1 t2 : Bool} {K : PySem.W.Frag} {H : Hp} {p : Addr} {M : List (List Int)} (h : Mx t1 t2 K H p M) : ∃ vs : List V, Sq t1 K H p vs ∧ vs.length = M.length ∧ ∀ (i : Nat) (v : V), vs[i]? = some v → ∃ (a : Addr) (r : List Int), v = .ref a ∧ M[i]? = some r ∧ Sq t2 K H a (r.map V.int) := by
  obtain ⟨as, h1, h2, h3⟩ := h
  refine ⟨as.map V.ref, h1, by rw [List.length_map]; exact h2, fun i v e => ?_⟩
  rw [List.getElem?_map] at e
  cases ea : as[i]? with
  | none => rw [ea] at e; cases e
  | some a =>
    rw [ea] at e
    cases e
    have hi : i < M.length := by
      have := (List.getElem?_eq_some_iff.mp ea).1
      omega
    exact ⟨a, M[i], rfl, List.getElem?_eq_getElem hi, h3 i a _ ea (List.getElem?_eq_getElem hi)⟩
theorem refs_of {K : PySem.W.Frag} {t2 : Bool} {H : Hp} : ∀ {ys : List V} {M : List (List Int)}, ys.length = M.length → (∀ (j : Nat) (y : V), ys[j]? = some y → ∃ (a : Addr) (r : List Int), y = .ref a ∧ M[j]? = some r ∧ Sq t2 K H a (r.map V.int)) →
    ∃ as : List Addr, ys = as.map V.ref ∧ as.length = M.length ∧ ∀ (i : Nat) (a : Addr) (r : List Int), as[i]? = some a → M[i]? = some r → Sq t2 K H a (r.map V.int)
  | [], [], _, _ => ⟨[], rfl, rfl, fun i a r e => by simp at e⟩
  | [], _ :: _, h, _ => by simp at h
  | _ :: _, [], h, _ => by simp at h
  | y :: ys, r :: M, h, k => by
    obtain ⟨as, e1, e2, e3⟩ := refs_of (ys := ys) (M := M) (by simpa using h) (fun j z e => by
      obtain ⟨a, r', h1, h2, h3⟩ := k (j + 1) z (by simpa using e)
      exact ⟨a, r', h1, by simpa using h2, h3⟩)
    obtain ⟨a, r', h1, h2, h3⟩ := k 0 y rfl
    have er : r = r' := by simpa using h2
    subst er
    subst h1 e1
    refine ⟨a :: as, rfl, by simp [e2], fun i b q e4 e5 => ?_⟩
    cases i with
    | zero =>
      cases e4
      cases e5
      exact h3
    | succ i => exact e3 i b q (by simpa using e4) (by simpa using e5)
theorem Mx.of {t1 t2 : Bool} {K : PySem.W.Frag} {H : Hp} {p : Addr} {ys : List V} {M : List (List Int)} (h : Sq t1 K H p ys) (l : ys.length = M.length) (k : ∀ (j : Nat) (y : V), ys[j]? = some y → ∃ (a : Addr) (r : List Int), y = .ref a ∧ M[j]? = some r ∧ Sq t2 K H a (r.map V.int)) : Mx t1 t2 K H p M := by
  obtain ⟨as, rfl, e2, e3⟩ := refs_of l k
  exact ⟨as, h, e2, e3⟩
theorem ys_ints {ns : List Int} : ∀ {ys : List V}, ys.length = ns.length → (∀ (j : Nat) (y : V), ys[j]? = some y → ∃ c, ns[j]? = some c ∧ y = .int c) → ys = ns.map V.int := by
  induction ns with
  | nil =>
    intro ys l _
    cases ys with
    | nil => rfl
    | cons _ _ => simp at l
  | cons n ns ih =>
    intro ys l k
    cases ys with
    | nil => simp at l
    | cons y ys =>
      obtain ⟨c, h1, h2⟩ := k 0 y rfl
      have e : n = c := by simpa using h1
      subst e h2
      rw [ih (ys := ys) (by simpa using l) (fun j z e => by
        obtain ⟨c, h1, h2⟩ := k (j + 1) z (by simpa using e)
        exact ⟨c, by simpa using h1, h2⟩)]
      rfl
/-- tuple(..) of a list or a tuple -/
def rTupOf (K : PySem.W.Frag) : List V → Hp → VK → Prop := fun xs H Q => ∃ p ys, xs = [.ref p] ∧ ((SqL K H p ys ∧ ∀ l, H l = none → Q (.ref l) (upd H l (.tup ys))) ∨ (SqT K H p ys ∧ Q (.ref p) H))
def rLenOf (K : PySem.W.Frag) : List V → Hp → VK → Prop := fun xs H Q => ∃ p ys, xs = [.ref p] ∧ (SqL K H p ys ∨ SqT K H p ys) ∧ Q (.int ys.length) H
/-- as data -/
def rowD (r : List Int) : PyData := .tuple (r.map PyData.int)
def matD (M : List (List Int)) : PyData := .tuple (M.map rowD)
theorem dp_ints {K : PySem.W.Frag} {H : Hp} : ∀ r : List Int, DpAll K H (r.map V.int) (r.map PyData.int)
  | [] => .nil
  | _ :: r => .cons (.int _) (dp_ints r)
theorem dp_rows {K : PySem.W.Frag} {H : Hp} : ∀ {as : List Addr} {M : List (List Int)}, as.length = M.length → (∀ (i : Nat) (a : Addr) (r : List Int), as[i]? = some a → M[i]? = some r → Sq true K H a (r.map V.int)) → DpAll K H (as.map V.ref) (M.map rowD)
  | [], [], _, _ => .nil
  | [], _ :: _, h, _ => by simp at h
  | _ :: _, [], h, _ => by simp at h
  | a :: as, r :: M, h, k => .cons (.tup (k 0 a r rfl rfl) (dp_ints r)) (dp_rows (by simpa using h) fun i b q e1 e2 => k (i + 1) b q (by simpa using e1) (by simpa using e2))
theorem Mx.dp {K : PySem.W.Frag} {H : Hp} {p : Addr} {M : List (List Int)} (h : Mx true true K H p M) : Dp K H (.ref p) (matD M) := by
  obtain ⟨as, h1, h2, h3⟩ := h
  exact .tup h1 (dp_rows h2 h3)
/-- all its rows have n numbers, n of them -/
def Sz (n : Nat) (M : List (List Int)) : Prop := M.length = n ∧ ∀ r ∈ M, r.length = n
theorem Sz.dok {n : Nat} {M : List (List Int)} (h : Sz n M) (hn : n ≤ 1000) : Dok 3 (matD M) := by
  refine ⟨by rw [List.length_map, h.1]; omega, fun d hd => ?_⟩
  obtain ⟨r, hr, rfl⟩ := List.mem_map.mp hd
  refine ⟨by rw [List.length_map, h.2 r hr]; omega, fun d hd => ?_⟩
  obtain ⟨c, _, rfl⟩ := List.mem_map.mp hd
  trivial
/-- a box: None, or a matrix -/
def BoxAt (K : PySem.W.Frag) (H : Hp) (v : V) : Option (List (List Int)) → Prop
  | none => v = .non
  | some M => ∃ p, v = .ref p ∧ Mx true true K H p M
def boxD : Option (List (List Int)) → PyData
  | none => .none
  | some M => matD M
theorem BoxAt.same {K : PySem.W.Frag} {H H' : Hp} {v : V} {B : Option (List (List Int))} (s : Same H H') (h : BoxAt K H v B) : BoxAt K H' v B := by
  cases B with
  | none => exact h
  | some M =>
    obtain ⟨p, e, h⟩ := h
    exact ⟨p, e, h.same s⟩
theorem BoxAt.dp {K : PySem.W.Frag} {H : Hp} {v : V} {B : Option (List (List Int))} (h : BoxAt K H v B) : Dp K H v (boxD B) := by
  cases B with
  | none =>
    obtain rfl : v = .non := h
    exact .non
  | some M =>
    obtain ⟨p, rfl, h⟩ := h
    exact h.dp
def BSz (n : Nat) (B : Option (List (List Int))) : Prop := ∀ M, B = some M → Sz n M
theorem BSz.dok {n : Nat} {B : Option (List (List Int))} (h : BSz n B) (hn : n ≤ 1000) : Dok 3 (boxD B) := by
  cases B with
  | none => trivial
  | some M => exact (h M rfl).dok hn
/-! ### comprehensions that leave what stood -/
def LcP (S : Hp → Prop) (R : Nat → V → Hp → Prop) (D : Addr) (i : Nat) (H : Hp) : Prop := S H ∧ ∃ acc : List V, H D = some (.lst acc) ∧ acc.length = i ∧ ∀ (j : Nat) (y : V), acc[j]? = some y → R j y H
theorem lcp_step {S : Hp → Prop} {R : Nat → V → Hp → Prop} {D : Addr} {i : Nat} {H H4 : Hp} {y : V} (P : LcP S R D i H) (e : ∀ o, H D = some o → H4 D = some o) (hi : i < sizeLine) (s : ∀ o, S (upd H4 D o)) (m : ∀ (j : Nat) (z : V) (o : HO), R j z H → R j z (upd H4 D o)) (r : ∀ o, R i y (upd H4 D o)) :
    ∃ acc, H4 D = some (.lst acc) ∧ acc.length < sizeLine ∧ LcP S R D (i + 1) (upd H4 D (.lst (acc ++ [y]))) := by
  obtain ⟨_, acc, h1, h2, h3⟩ := P
  refine ⟨acc, e _ h1, by omega, s _, _, upd_same, by simp [h2], fun j z ez => ?_⟩
  by_cases hj : j < i
  · rw [List.getElem?_append_left (by omega)] at ez
    exact m j z _ (h3 j z ez)
  · rw [List.getElem?_append_right (by omega)] at ez
    have ej : j = i := by
      have := (List.getElem?_eq_some_iff.mp ez).1
      simp at this
      omega
    subst ej
    rw [h2, Nat.sub_self] at ez
    have ez' : y = z := by simpa using ez
    rw [← ez']
    exact r _
/-- what the step of a comprehension that only makes new objects is to reach -/
theorem lcp_same {R : Nat → V → Hp → Prop} {D : Addr} {i : Nat} {H1 H H4 : Hp} {y : V} (P : LcP (Same H1) R D i H) (hD : H1 D = none) (s : Same H H4) (hi : i < sizeLine) (mono : ∀ (j : Nat) (z : V) (G G' : Hp), R j z G → But D G G' → R j z G') (r : R i y H4) :
    ∃ acc, H4 D = some (.lst acc) ∧ acc.length < sizeLine ∧ LcP (Same H1) R D (i + 1) (upd H4 D (.lst (acc ++ [y]))) :=
  lcp_step P (fun o e => s _ _ e) hi (fun o b u e => by rw [upd_ne (ne_of_none e hD)]; exact s _ _ (P.1 _ _ e)) (fun j z o q => mono j z _ _ q ((But.of_same s).trans (But.upd o))) fun o => mono i y _ _ r (But.upd o)
theorem lcp_start {R : Nat → V → Hp → Prop} {D : Addr} {H1 : Hp} (hD : H1 D = none) : LcP (Same H1) R D 0 (upd H1 D (.lst [])) :=
  ⟨fun b u e => by rw [upd_ne (ne_of_none e hD)]; exact e, [], upd_same, rfl, fun j y e => by simp at e⟩
/-- its numbers -/
def RInt (ns : List Int) : Nat → V → Hp → Prop := fun j y _ => ∃ c, ns[j]? = some c ∧ y = .int c
theorem RInt.mono {ns : List Int} {D : Addr} : ∀ (j : Nat) (z : V) (G G' : Hp), RInt ns j z G → But D G G' → RInt ns j z G' := fun _ _ _ _ h _ => h
/-- its rows -/
def RRow (K : PySem.W.Frag) (t : Bool) (M : List (List Int)) (D : Addr) : Nat → V → Hp → Prop := fun j y H => ∃ (a : Addr) (r : List Int), y = .ref a ∧ M[j]? = some r ∧ a ≠ D ∧ Sq t K H a (r.map V.int)
theorem RRow.mono {K : PySem.W.Frag} {t : Bool} {M : List (List Int)} {D : Addr} : ∀ (j : Nat) (z : V) (G G' : Hp), RRow K t M D j z G → But D G G' → RRow K t M D j z G' := by
  rintro j z G G' ⟨a, r, h1, h2, h3, h4⟩ b
  exact ⟨a, r, h1, h2, h3, Sq.but b h3 h4⟩
theorem lcp_ints {K : PySem.W.Frag} {S : Hp → Prop} {ns : List Int} {D : Addr} {n : Nat} {H : Hp} (P : LcP S (RInt ns) D n H) (hn : n = ns.length) : H D = some (.lst (ns.map V.int)) := by
  obtain ⟨_, acc, h1, h2, h3⟩ := P
  rw [h1, ys_ints (ns := ns) (by omega) h3]
theorem lcp_rows {K : PySem.W.Frag} {S : Hp → Prop} {t : Bool} {M : List (List Int)} {D : Addr} {n : Nat} {H : Hp} (P : LcP S (RRow K t M D) D n H) (hn : n = M.length) : Mx false t K H D M := by
  obtain ⟨_, acc, h1, h2, h3⟩ := P
  exact Mx.of (t1 := false) (SqL.of h1) (by omega) fun j y e => by
    obtain ⟨a, r, q1, q2, _, q3⟩ := h3 j y e
    exact ⟨a, r, q1, q2, q3⟩
theorem LcP.ne {S : Hp → Prop} {R : Nat → V → Hp → Prop} {D l : Addr} {i : Nat} {H : Hp} (P : LcP S R D i H) (hl : H l = none) : l ≠ D := by
  obtain ⟨_, acc, h, _⟩ := P
  exact fun z => absurd (z ▸ hl) (by rw [h]; intro z; cases z)
theorem lt_line {n : Nat} (h : n ≤ 10000000) : n < sizeLine := by rw [sizeLine_eq]; omega
/-- a comprehension without a test -/
theorem tyes {σ : L2.St} {H : Hp} {A B : Hp → Prop} (h : A H) : tYes σ H (fun b H3 => if b = true then A H3 else B H3) := by
  show if true = true then A H else B H
  rw [if_pos rfl]
  exact h
theorem get_int {r : List Int} {j : Nat} {v : V} (e : (r.map V.int)[j]? = some v) : ∃ k, r[j]? = some k ∧ v = .int k := by
  rw [List.getElem?_map] at e
  cases h : r[j]? with
  | none => rw [h] at e; cases e
  | some k => rw [h] at e; cases e; exact ⟨k, rfl, rfl⟩
theorem Sz.get {n i : Nat} {M : List (List Int)} {r : List Int} (h : Sz n M) (e : M[i]? = some r) : r.length = n := h.2 r (List.mem_of_getElem? e)
theorem zw_get {α β γ : Type} {f : α → β → γ} {xs : List α} {ys : List β} {i : Nat} {x : α} {y : β} (e1 : xs[i]? = some x) (e2 : ys[i]? = some y) : (List.zipWith f xs ys)[i]? = some (f x y) := by
  rw [List.getElem?_zipWith, e1, e2]
theorem lcp_put {R : Nat → V → Hp → Prop} {D : Addr} {i : Nat} {H1 H H4 : Hp} {y : V} {acc : List V} (P : LcP (Same H1) R D i H) (e : H D = some (.lst acc)) (hD : H1 D = none) (s : Same H H4) (hi : i < sizeLine) (mono : ∀ (j : Nat) (z : V) (G G' : Hp), R j z G → But D G G' → R j z G') (r : R i y H4) :
    LcP (Same H1) R D (i + 1) (upd H4 D (.lst (acc ++ [y]))) := by
  obtain ⟨acc', h1, _, h3⟩ := lcp_same P hD s hi mono r
  have := s _ _ e
  rw [this] at h1
  cases h1
  exact h3
/-- (0,) and the numbers of a row -/
theorem cat0 {K : PySem.W.Frag} {H : Hp} {t a : Addr} {r : List Int} {Q : VK} (h1 : SqT K H t [.int 0]) (h2 : SqT K H a (r.map V.int)) (hz : r.length ≤ 1000) (q : ∀ z H', Same H H' → SqT K H' z ((0 :: r).map V.int) → Q (.ref z) H') : rCatT K (.ref t) (.ref a) H Q := by
  refine ⟨t, a, _, _, rfl, rfl, h1, h2, by simp, ?_, fun e => ?_, fun ne p hp => ?_⟩
  · rw [List.length_map, sizeLine_eq]
    simp
    omega
  · have e' : r = [] := List.map_eq_nil_iff.mp e
    subst e'
    exact q t H (Same.refl H) h1
  · exact q p _ (Same.new hp _) (SqT.of upd_same)
theorem atI_row {r : List Int} {i : Nat} (h : i < r.length) : atI (r.map V.int) (0 + (i : Int)) = some (.int (r.getD i 0)) := by
  rw [Int.zero_add]
  refine atI_nat ?_
  rw [List.getElem?_map, List.getElem?_eq_getElem h]
  simp [List.getD, h]
theorem LcP.acc {S : Hp → Prop} {R : Nat → V → Hp → Prop} {D : Addr} {i : Nat} {H : Hp} (P : LcP S R D i H) : ∃ acc : List V, H D = some (.lst acc) ∧ acc.length = i := by
  obtain ⟨_, acc, h1, h2, _⟩ := P
  exact ⟨acc, h1, h2⟩
theorem map_get {α β : Type} {f : α → β} {xs : List α} {i : Nat} {x : α} (e : xs[i]? = some x) : (xs.map f)[i]? = some (f x) := by rw [List.getElem?_map, e]; rfl
/-! ### the length of a dict after a write -/
theorem putK_lenle {κ : Type} [DecidableEq κ] {kvs : List (κ × V)} {k : κ} {y : V} : (putK kvs k y).length ≤ kvs.length + 1 := by
  unfold putK
  split
  · rw [List.length_map]
    omega
  · rw [List.length_append]
    exact Nat.le_refl _
/-! ### keys: the model -/
def natsV (cs : List Nat) : List V := cs.map fun c : Nat => V.int (c : Int)
inductive Kd where
  | flag | ref (s : Str) | num (lo hi : Int)
def Kd.vals : Kd → List V
  | .flag => [.str "flag"]
  | .ref s => [.str "ref", .str s]
  | .num lo hi => [.str "num", .int lo, .int hi]
def Kd.isRef : Kd → Bool
  | .ref _ => true
  | _ => false
def KdAt (K : PySem.W.Frag) (H : Hp) (v : V) (k : Kd) : Prop := ∃ p, v = .ref p ∧ SqT K H p k.vals
def KdsAt (K : PySem.W.Frag) (H : Hp) (xs : List V) (ks : List Kd) : Prop := xs.length = ks.length ∧ ∀ (i : Nat) (v : V) (k : Kd), xs[i]? = some v → ks[i]? = some k → KdAt K H v k
def KeepT (K : PySem.W.Frag) (H H' : Hp) : Prop := ∀ p xs, SqT K H p xs → SqT K H' p xs
theorem KeepT.of {K : PySem.W.Frag} {H H' : Hp} (s : Same H H') : KeepT K H H' := fun _ _ h => Same.tup s h
theorem KdAt.keep {K : PySem.W.Frag} {H H' : Hp} {v : V} {k : Kd} (s : KeepT K H H') (h : KdAt K H v k) : KdAt K H' v k := by
  obtain ⟨p, e, h⟩ := h
  exact ⟨p, e, s _ _ h⟩
theorem KdsAt.keep {K : PySem.W.Frag} {H H' : Hp} {xs : List V} {ks : List Kd} (s : KeepT K H H') (h : KdsAt K H xs ks) : KdsAt K H' xs ks := ⟨h.1, fun i v k e1 e2 => (h.2 i v k e1 e2).keep s⟩
def refTo (ks : List Kd) (i : Nat) : List Nat := (List.range i).filter fun k => (ks.getD k .flag).isRef
def refPl (ks : List Kd) : List Nat := refTo ks ks.length
theorem refTo_succ {ks : List Kd} {i : Nat} : refTo ks (i + 1) = if (ks.getD i .flag).isRef then refTo ks i ++ [i] else refTo ks i := by
  unfold refTo
  rw [List.range_succ, List.filter_append]
  by_cases h : (ks.getD i .flag).isRef = true
  · rw [if_pos h, List.filter_cons_of_pos (p := fun k => (ks.getD k .flag).isRef) h]
    rfl
  · rw [if_neg h, List.filter_cons_of_neg (p := fun k => (ks.getD k .flag).isRef) h, List.filter_nil, List.append_nil]
theorem refTo_len {ks : List Kd} {i : Nat} : (refTo ks i).length ≤ i := by
  unfold refTo
  have := List.length_filter_le (fun k => (ks.getD k .flag).isRef) (List.range i)
  rwa [List.length_range] at this
theorem mem_refPl {ks : List Kd} {i : Nat} : i ∈ refPl ks ↔ i < ks.length ∧ (ks.getD i .flag).isRef = true := by
  unfold refPl refTo
  rw [List.mem_filter, List.mem_range]
/-- the record kinds of a program -/
abbrev Rk := Str × List (Str × Kd)
def FdAt (K : PySem.W.Frag) (H : Hp) (p : Addr) (fs : List (Str × Kd)) : Prop := ∃ bs : List Addr, SqT K H p (bs.map V.ref) ∧ bs.length = fs.length ∧ ∀ (i : Nat) (b : Addr) (f : Str × Kd), bs[i]? = some b → fs[i]? = some f → ∃ kv, SqT K H b [.str f.1, kv] ∧ KdAt K H kv f.2
def RkAt (K : PySem.W.Frag) (H : Hp) (a : Addr) (r : Rk) : Prop := ∃ pf, SqT K H a [.str r.1, .ref pf] ∧ FdAt K H pf r.2
def PgAt (K : PySem.W.Frag) (H : Hp) (p : Addr) (rs : List Rk) : Prop := ∃ (pr : Addr) (x y z : V) (as : List Addr), SqT K H p [.ref pr, x, y, z] ∧ SqT K H pr (as.map V.ref) ∧ as.length = rs.length ∧ ∀ (i : Nat) (a : Addr) (r : Rk), as[i]? = some a → rs[i]? = some r → RkAt K H a r
theorem FdAt.keep {K : PySem.W.Frag} {H H' : Hp} {p : Addr} {fs : List (Str × Kd)} (s : KeepT K H H') (h : FdAt K H p fs) : FdAt K H' p fs := by
  obtain ⟨bs, h1, h2, h3⟩ := h
  exact ⟨bs, s _ _ h1, h2, fun i b f e1 e2 => by
    obtain ⟨kv, g1, g2⟩ := h3 i b f e1 e2
    exact ⟨kv, s _ _ g1, g2.keep s⟩⟩
theorem RkAt.keep {K : PySem.W.Frag} {H H' : Hp} {a : Addr} {r : Rk} (s : KeepT K H H') (h : RkAt K H a r) : RkAt K H' a r := by
  obtain ⟨pf, h1, h2⟩ := h
  exact ⟨pf, s _ _ h1, h2.keep s⟩
theorem PgAt.keep {K : PySem.W.Frag} {H H' : Hp} {p : Addr} {rs : List Rk} (s : KeepT K H H') (h : PgAt K H p rs) : PgAt K H' p rs := by
  obtain ⟨pr, x, y, z, as, h1, h2, h3, h4⟩ := h
  exact ⟨pr, x, y, z, as, s _ _ h1, s _ _ h2, h3, fun i a r e1 e2 => (h4 i a r e1 e2).keep s⟩
structure PgOk (rs : List Rk) : Prop where
  nd : (rs.map (·.1)).Nodup
  ln : rs.length ≤ 20
  lf : ∀ r ∈ rs, r.2.length ≤ 20
def flOf (rs : List Rk) (z : Str) : List Kd := match rs.find? fun r => r.1 = z with
  | some r => r.2.map (·.2)
  | none => []
theorem flOf_mem {rs : List Rk} (nd : (rs.map (·.1)).Nodup) {r : Rk} (h : r ∈ rs) : flOf rs r.1 = r.2.map (·.2) := by
  unfold flOf
  induction rs with
  | nil => simp at h
  | cons a l ih =>
    rw [List.map_cons, List.nodup_cons] at nd
    rw [List.find?_cons]
    by_cases e : a.1 = r.1
    · rw [decide_eq_true e]
      rcases List.mem_cons.mp h with rfl | h
      · rfl
      · exact absurd (List.mem_map.mpr ⟨r, h, e.symm⟩) nd.1
    · rw [decide_eq_false e]
      rcases List.mem_cons.mp h with rfl | h
      · exact absurd rfl e
      · exact ih nd.2 h
def PlAt (H : Hp) (d : Addr) (rs : List Rk) : Prop := ∃ kvs, H d = some (.dK kvs) ∧ ∀ r ∈ rs, ∃ l, valV kvs (Sum.inr r.1) = some (.ref l) ∧ H l = some (.lst (natsV (refPl (r.2.map (·.2)))))
theorem PlAt.same {H H' : Hp} {d : Addr} {rs : List Rk} (s : Same H H') (h : PlAt H d rs) : PlAt H' d rs := by
  obtain ⟨kvs, h1, h2⟩ := h
  exact ⟨kvs, s _ _ h1, fun r hr => by
    obtain ⟨l, g1, g2⟩ := h2 r hr
    exact ⟨l, g1, s _ _ g2⟩⟩
def asNat : V → Option Nat
  | .int j => some j.toNat
  | _ => none
def refsAt (vs : List V) (pl : List Nat) : List Nat := pl.filterMap fun i => asNat (vs.getD i .non)
def trAt (o : List Nat) : V → V
  | .int j => .int (o.idxOf j.toNat : Nat)
  | v => v
def trL (ks : List Kd) (vs : List V) (o : List Nat) : List V := (List.range vs.length).map fun k => if (ks.getD k .flag).isRef then trAt o (vs.getD k .non) else vs.getD k .non
structure Rc where
  nm : Str
  live : Bool
  vals : List V
def RcAt (K : PySem.W.Frag) (H : Hp) (v : V) (r : Rc) : Prop := ∃ p t, v = .ref p ∧ SqT K H p [.str r.nm, .bl r.live, .ref t] ∧ SqT K H t r.vals
theorem RcAt.keep {K : PySem.W.Frag} {H H' : Hp} {v : V} {r : Rc} (s : KeepT K H H') (h : RcAt K H v r) : RcAt K H' v r := by
  obtain ⟨p, t, e, h1, h2⟩ := h
  exact ⟨p, t, e, s _ _ h1, s _ _ h2⟩
/-- values in reference places: none, or a number below n -/
def RefV (n : Nat) (v : V) : Prop := v = .non ∨ ∃ j : Nat, v = .int (j : Int) ∧ j < n
def Flat3 (v : V) : Prop := v = .non ∨ (∃ b, v = .bl b) ∨ ∃ i, v = .int i
structure RcOk (rs : List Rk) (n : Nat) (r : Rc) : Prop where
  m : ∃ k ∈ rs, k.1 = r.nm
  l : r.live = true → r.vals.length = (flOf rs r.nm).length
  d : r.live = false → r.vals = []
  v : ∀ k, k < r.vals.length → ((flOf rs r.nm).getD k .flag).isRef = true → RefV n (r.vals.getD k .non)
  f : ∀ v ∈ r.vals, Flat3 v
def nbR (rs : List Rk) (R : List Rc) (i : Nat) : List Nat := match R[i]? with
  | some r => if r.live then refsAt r.vals (refPl (flOf rs r.nm)) else []
  | none => []
def spRefPl (K : PySem.W.Frag) : Sp := fun vs H Q _ => ∃ (t : Bool) (p : Addr) (xs : List V) (ks : List Kd), vs = [.ref p] ∧ ZG.Sq t K H p xs ∧ KdsAt K H xs ks ∧ ks.length ≤ 100 ∧ ∀ l H', Same H H' → H' l = some (.lst (natsV (refPl ks))) → Q (.ref l) H'
def spPlaces (K : PySem.W.Frag) : Sp := fun vs H Q _ => ∃ (p : Addr) (rs : List Rk), vs = [.ref p] ∧ PgAt K H p rs ∧ PgOk rs ∧ ∀ d H', Same H H' → PlAt H' d rs → Q (.ref d) H'
def spReferred (K : PySem.W.Frag) : Sp := fun vs H Q _ => ∃ (p l : Addr) (xs : List V) (pl : List Nat) (n : Nat), vs = [.ref p, .ref l] ∧ SqT K H p xs ∧ H l = some (.lst (natsV pl)) ∧ pl.length ≤ 100 ∧ (∀ i ∈ pl, i < xs.length ∧ RefV n (xs.getD i .non)) ∧ ∀ q H', H q = none → Same H H' → H' q = some (.lst (natsV (refsAt xs pl))) → Q (.ref q) H'
theorem getD_get {α : Type} {xs : List α} {i : Nat} {d x : α} (e : xs[i]? = some x) : xs.getD i d = x := by
  rw [List.getD_eq_getElem?_getD, e]
  rfl
section
variable {P : Program} {w : World} {K : PySem.W.Frag} {mg : Str → Option Value} {base : Heap}
theorem ok_reference_places (T : Txt w K mg) : FnOk P w K mg base CX0 1 T.a_reference_places T.d_reference_places p_reference_places (spRefPl K) := by
  refine T.F_reference_places.ok sc_reference_places (fun vs H Q E h => ?_) (fun cdv A outer s H vs Q E hr h => ?_)
  · obtain ⟨t, p, xs, ks, rfl, _⟩ := h
    rfl
  obtain ⟨t, p, xs, ks, rfl, hp, hk, lk, q⟩ := h
  refine ⟨_, (pss_one (ps_ret (pe_lc (own := [("at", 1), ("kind", 2)]) (g := gTup K 2 (gCons (gName 1) (gCons (gName 2) gNil))) rfl sc_reference_places.nd (EnT.pi_enumG (by rfl) T.z_enumerate (pa_cons (pv 0) pa_nil)) (blkOk_by (own := [("at", 1), ("kind", 2)]) (N := n_reference_places) (sc := defScope s_reference_places) (by decide +kernel)) (fun _ _ _ _ _ => (pg_tup rfl (pgs_cons (pg_name (i := 1) sc_reference_places.nd rfl (Or.inl rfl)) (pgs_cons (pg_name (i := 2) sc_reference_places.nd rfl (Or.inl rfl)) pgs_nil)))) (fun _ _ _ _ _ => (pts_one (pt_cmpR op_eq (pe_ix (show IxR _ (rIxT K) from ix_tup) (pv 2) pe_int (fun _ _ => rfl)) pe_str (nomark _)))) (fun _ _ _ _ _ => (pv 1))))), ?_⟩
  refine ⟨_, rfl, t, p, _, rfl, hp, fun D hD => ?_⟩
  refine lc_it EnT.walk_enumG (fun i G => Same H G ∧ G D = some (.lst (natsV (refTo ks i)))) ⟨Same.new hD _, upd_same⟩ (fun i G _ P => Sq.same P.1 hp) ?_ ?_
  · rintro i x G G' hi P ⟨t1, u, v, rfl, ht, rfl, eu, ev⟩
    cases eu
    have hi2 : i < ks.length := by rw [← hk.1]; exact hi
    have ek : ks[i]? = some ks[i] := List.getElem?_eq_getElem hi2
    obtain ⟨pk, rfl, hpk⟩ := hk.2 i v _ ev ek
    have gk : ks.getD i .flag = ks[i] := getD_get ek
    generalize ks[i] = kd at ek hpk gk
    have s1 : Same G (upd G t1 (.tup [.int i, .ref pk])) := Same.new ht _
    have eD := s1 _ _ P.2
    have sA := P.1.trans s1
    have hpk1 := Same.tup sA hpk
    refine ⟨t1, _, rfl, SqT.of upd_same, rfl, _, _, rfl, _, _, rfl, rfl, ?_⟩
    refine ⟨rfl, ?_⟩
    have yes : kd.isRef = true → ∃ acc, (upd G t1 (.tup [.int i, .ref pk])) D = some (.lst acc) ∧ acc.length < sizeLine ∧ (Same H (upd (upd G t1 (.tup [.int i, .ref pk])) D (.lst (acc ++ [.int i]))) ∧ (upd (upd G t1 (.tup [.int i, .ref pk])) D (.lst (acc ++ [.int i]))) D = some (.lst (natsV (refTo ks (i + 1))))) := fun h => by
      refine ⟨_, eD, lt_line (by simp only [natsV, List.length_map]; have := refTo_len (ks := ks) (i := i); omega), fun b o e => ?_, ?_⟩
      · rw [upd_ne (ne_of_none e hD)]
        exact sA _ _ e
      · rw [refTo_succ, gk, if_pos h]
        simp only [natsV, List.map_append]
        exact upd_same
    have no : kd.isRef = false → (Same H (upd G t1 (.tup [.int i, .ref pk])) ∧ (upd G t1 (.tup [.int i, .ref pk])) D = some (.lst (natsV (refTo ks (i + 1))))) := fun h => by
      rw [refTo_succ, gk, if_neg (by rw [h]; decide)]
      exact ⟨sA, eD⟩
    cases kd with
    | flag => exact ⟨_, rfl, pk, _, _, _, rfl, rfl, hpk1, rfl, rfl, _, rfl, ifF (by decide +kernel) (no rfl)⟩
    | ref s => exact ⟨_, rfl, pk, _, _, _, rfl, rfl, hpk1, rfl, rfl, _, rfl, ifT (by decide +kernel) ⟨_, rfl, yes rfl⟩⟩
    | num lo hi => exact ⟨_, rfl, pk, _, _, _, rfl, rfl, hpk1, rfl, rfl, _, rfl, ifF (by decide +kernel) (no rfl)⟩
  · rintro G ⟨sG, eG⟩
    rw [hk.1] at eG
    exact q D G sG eG
theorem ok_places_in_records (T : Txt w K mg) : FnOk P w K mg base CX0 2 T.a_places_in_records T.d_places_in_records p_places_in_records (spPlaces K) := by
  have g_reference_places := ok_reference_places (P := P) (w := w) (K := K) (base := base) T
  refine T.F_places_in_records.ok sc_places_in_records (fun vs H Q E h => ?_) (fun cdv A outer s H vs Q E hr h => ?_)
  · obtain ⟨p, rs, rfl, _⟩ := h
    rfl
  obtain ⟨p, rs, rfl, hp, ok, q⟩ := h
  refine ⟨_, (pss_one (ps_ret (pe_dc (own := [("name", 3), ("fields", 4)]) (g := gTup K 2 (gCons (gName 3) (gCons (gName 4) gNil))) (tt := tYes) rfl sc_places_in_records.nd (pi_tup (pe_ix ix_tup (pv 0) pe_int (fun _ _ => rfl))) (blkOk_by (own := [("name", 3), ("fields", 4)]) (N := n_places_in_records) (sc := defScope s_places_in_records) (by decide +kernel)) (fun _ _ _ _ _ => (pg_tup rfl (pgs_cons (pg_name (i := 3) sc_places_in_records.nd rfl (Or.inl rfl)) (pgs_cons (pg_name (i := 4) sc_places_in_records.nd rfl (Or.inl rfl)) pgs_nil)))) (fun _ _ _ _ _ => pts_nil) (fun _ _ _ _ _ => (pv 3)) (fun _ _ _ _ _ => (pe_call g_reference_places (hr.mono (by first | decide | omega)) rfl T.m_reference_places T.F_reference_places.kp T.b_reference_places .nil pass0 (pa_cons (pe_lc (own := [("_", 1), ("kind", 2)]) (g := gTup K 2 (gCons (gName 1) (gCons (gName 2) gNil))) (tt := tYes) rfl sc_places_in_records.nd (show PI _ _ _ (iTup K _) from (pi_tup (pv 4))) (blkOk_by (own := [("_", 1), ("kind", 2)]) (N := n_places_in_records) (sc := relS _ (defScope s_places_in_records)) (by decide +kernel)) (fun _ _ _ _ _ => (pg_tup rfl (pgs_cons (pg_name (i := 1) sc_places_in_records.nd rfl (Or.inl rfl)) (pgs_cons (pg_name (i := 2) sc_places_in_records.nd rfl (Or.inl rfl)) pgs_nil)))) (fun _ _ _ _ _ => pts_nil) (fun _ _ _ _ _ => (pv 2))) pa_nil)))))), ?_⟩
  obtain ⟨pr, x, y, z, as, hp, hpr, las, has⟩ := hp
  refine ⟨_, rfl, p, _, _, _, rfl, rfl, hp, rfl, pr, rfl, ⟨_, hpr⟩, fun D hD => ?_⟩
  refine dc_it (walk_tup (xs := as.map V.ref)) (fun i G => Same H G ∧ ∃ kvs, G D = some (.dK kvs) ∧ kvs.length ≤ i ∧ ∀ r ∈ rs.take i, ∃ l, valV kvs (Sum.inr r.1) = some (.ref l) ∧ l ≠ D ∧ G l = some (.lst (natsV (refPl (r.2.map (·.2)))))) ⟨Same.new hD _, [], upd_same, Nat.le_refl _, fun r hr => by simp at hr⟩ (fun i G _ P => Same.tup P.1 hpr) ?_ ?_
  · rintro i x G G' hi ⟨sG, kvs, eD, lk, hk⟩ ⟨rfl, ex⟩
    rw [List.length_map] at hi
    have hi2 : i < rs.length := by omega
    have er : rs[i]? = some rs[i] := List.getElem?_eq_getElem hi2
    have mr := List.getElem_mem hi2
    have ea : as[i]? = some as[i] := List.getElem?_eq_getElem hi
    obtain ⟨pf, h1, bs, h2, lb, hb⟩ := has i _ _ ea er
    rw [map_get ea] at ex
    obtain rfl := Option.some.inj ex
    generalize as[i] = a at ea h1
    have tk : rs.take (i + 1) = rs.take i ++ [rs[i]] := by
      rw [List.take_add_one, er]
      rfl
    generalize rs[i] = r at er mr h1 h2 lb hb tk
    have h1G := Same.tup sG h1
    have h2G := Same.tup sG h2
    have lf := ok.lf r mr
    have ln := ok.ln
    refine ⟨a, _, rfl, h1G, rfl, _, _, rfl, _, _, rfl, rfl, ?_⟩
    refine ⟨rfl, tyes ?_⟩
    refine ⟨_, rfl, ?_⟩
    refine ⟨_, rfl, pf, rfl, ⟨_, h2G⟩, fun D2 hD2 => ?_⟩
    refine lc_it (walk_tup (xs := bs.map V.ref)) (fun j F => Same G' F ∧ ∃ vs : List V, F D2 = some (.lst vs) ∧ vs.length = j ∧ ∀ (k : Nat) (v : V) (f : Str × Kd), vs[k]? = some v → r.2[k]? = some f → KdAt K H v f.2) ⟨Same.new hD2 _, [], upd_same, rfl, fun k v f e => by simp at e⟩ (fun j F _ P => Same.tup P.1 h2G) ?_ ?_
    · rintro j y F F' hj ⟨sF, vs, eD2, lv, hv⟩ ⟨rfl, ey⟩
      rw [List.length_map] at hj
      have hj2 : j < r.2.length := by omega
      have ef : r.2[j]? = some r.2[j] := List.getElem?_eq_getElem hj2
      have eb : bs[j]? = some bs[j] := List.getElem?_eq_getElem hj
      obtain ⟨kv, g1, g2⟩ := hb j _ _ eb ef
      rw [map_get eb] at ey
      obtain rfl := Option.some.inj ey
      refine ⟨bs[j], _, rfl, Same.tup (sG.trans sF) g1, rfl, _, _, rfl, _, _, rfl, rfl, ?_⟩
      refine ⟨rfl, tyes ?_⟩
      refine ⟨_, rfl, vs, eD2, lt_line (by omega), fun b o e => ?_, _, upd_same, by rw [List.length_append, lv]; rfl, fun k v f e1 e2 => ?_⟩
      · rw [upd_ne (ne_of_none e hD2)]
        exact sF _ _ e
      · by_cases hk2 : k < j
        · rw [List.getElem?_append_left (by omega)] at e1
          exact hv k v f e1 e2
        · rw [List.getElem?_append_right (by omega)] at e1
          have hkj : k = j := by
            have := (List.getElem?_eq_some_iff.mp e1).1
            simp at this
            omega
          subst hkj
          rw [lv, Nat.sub_self] at e1
          cases e1
          rw [ef] at e2
          cases e2
          exact g2
    · rintro F ⟨sF, vs, eD2, lv, hv⟩
      rw [List.length_map] at lv
      have sHF := sG.trans sF
      refine ⟨false, D2, vs, r.2.map (·.2), rfl, SqL.of eD2, ⟨by rw [List.length_map]; omega, fun k v kd e1 e2 => ?_⟩, by rw [List.length_map]; omega, fun l F2 s2 hl => ?_⟩
      · rw [List.getElem?_map] at e2
        cases e : r.2[k]? with
        | none => rw [e] at e2; cases e2
        | some f =>
          rw [e] at e2
          cases e2
          exact (hv k v f e1 e).keep (KeepT.of sHF)
      have eDF := s2 _ _ (sF _ _ eD)
      have nlD : l ≠ D := fun z => by rw [z, eDF] at hl; cases hl
      refine ⟨kvs, Sum.inr r.1, rfl, eDF, lt_line (by omega), fun b o e => ?_, _, upd_same, ?_, fun r' hr' => ?_⟩
      · rw [upd_ne (ne_of_none e hD)]
        exact s2 _ _ (sHF _ _ e)
      · have := putK_lenle (kvs := kvs) (k := Sum.inr r.1) (y := V.ref l)
        omega
      · rw [tk] at hr'
        by_cases en : r'.1 = r.1
        · have mr' : r' ∈ rs := by
            rcases List.mem_append.mp hr' with h | h
            · exact List.mem_of_mem_take h
            · rw [List.mem_singleton.mp h]; exact mr
          have e2 : r'.2.map (·.2) = r.2.map (·.2) := by
            rw [← flOf_mem ok.nd mr', ← flOf_mem ok.nd mr, en]
          refine ⟨l, by rw [valV_put, en, if_pos rfl], nlD, ?_⟩
          rw [upd_ne nlD, e2]
          exact hl
        · rcases List.mem_append.mp hr' with h | h
          · obtain ⟨l', g1, g2, g3⟩ := hk r' h
            refine ⟨l', by rw [valV_put, if_neg (fun e => en (Sum.inr.inj e))]; exact g1, g2, ?_⟩
            rw [upd_ne g2]
            exact s2 _ _ (sF _ _ g3)
          · exact absurd (by rw [List.mem_singleton.mp h]) en
  · rintro G ⟨sG, kvs, eD, _, hk⟩
    rw [List.length_map, las, List.take_length] at hk
    exact q D G sG ⟨kvs, eD, fun r hr => by
      obtain ⟨l, g1, _, g3⟩ := hk r hr
      exact ⟨l, g1, g3⟩⟩
theorem ok_referred (T : Txt w K mg) : FnOk P w K mg base CX0 1 T.a_referred T.d_referred p_referred (spReferred K) := by
  refine T.F_referred.ok sc_referred (fun vs H Q E h => ?_) (fun cdv A outer s H vs Q E hr h => ?_)
  · obtain ⟨p, l, xs, pl, n, rfl, _⟩ := h
    rfl
  obtain ⟨p, l, xs, pl, n, rfl, hp, hl, lp, hv, q⟩ := h
  refine ⟨_, (pss_one (ps_ret (pe_lc (own := [("at", 2)]) (g := gName 2) rfl sc_referred.nd (pi_list (pv 1)) (blkOk_by (own := [("at", 2)]) (N := n_referred) (sc := defScope s_referred) (by decide +kernel)) (fun _ _ _ _ _ => (pg_name (i := 2) sc_referred.nd rfl (Or.inl rfl))) (fun _ _ _ _ _ => (pts_one (pt_cmpR op_notN (pe_ix (show IxR _ (rIxT K) from ix_tup) (pv 0) (pv 2) (fun _ _ => rfl)) pe_non (nomark _)))) (fun _ _ _ _ _ => (pe_ix (show IxR _ (rIxT K) from ix_tup) (pv 0) (pv 2) (fun _ _ => rfl)))))), ?_⟩
  refine ⟨_, rfl, l, rfl, ⟨_, SqL.of hl⟩, fun D hD => ?_⟩
  refine lc_it (walk_list (xs := natsV pl)) (fun i G => Same H G ∧ G D = some (.lst (natsV (refsAt xs (pl.take i))))) ⟨Same.new hD _, upd_same⟩ (fun i G _ P => SqL.of (P.1 _ _ hl)) ?_ ?_
  · rintro i x G G' hi ⟨sG, eD⟩ ⟨rfl, ex⟩
    unfold natsV at hi ex
    rw [List.length_map] at hi
    have ei : pl[i]? = some pl[i] := List.getElem?_eq_getElem hi
    obtain ⟨h1, h2⟩ := hv _ (List.getElem_mem hi)
    rw [map_get ei] at ex
    obtain rfl := Option.some.inj ex
    have tk : pl.take (i + 1) = pl.take i ++ [pl[i]] := by
      rw [List.take_add_one, ei]
      rfl
    generalize pl[i] = k at ei h1 h2 tk
    have at1 : atI xs (k : Int) = some (xs.getD k .non) := atI_nat (by rw [List.getD_eq_getElem?_getD, List.getElem?_eq_getElem h1]; rfl)
    have hpG := Same.tup sG hp
    refine ⟨rfl, ?_⟩
    refine ⟨_, rfl, _, rfl, p, _, _, _, rfl, rfl, hpG, at1, rfl, _, rfl, ?_⟩
    have e1 : refsAt xs (pl.take (i + 1)) = refsAt xs (pl.take i) ++ refsAt xs [k] := by
      unfold refsAt
      rw [tk, List.filterMap_append]
    rcases h2 with h2 | ⟨j, h2, _⟩
    · rw [h2]
      refine ifF (by decide) ?_
      have e2 : refsAt xs [k] = [] := by
        unfold refsAt
        rw [List.filterMap_cons, h2]
        rfl
      rw [e1, e2, List.append_nil]
      exact ⟨sG, eD⟩
    · rw [h2] at at1 ⊢
      refine ifT (by rw [decide_eq_false (fun z => by cases z)]; rfl) ?_
      have e2 : refsAt xs [k] = [j] := by
        unfold refsAt
        rw [List.filterMap_cons, h2]
        rfl
      refine ⟨_, rfl, _, rfl, p, _, _, _, rfl, rfl, hpG, at1, _, eD, lt_line (by
        unfold natsV refsAt
        rw [List.length_map]
        have := List.length_filterMap_le (fun i => asNat (xs.getD i .non)) (pl.take i)
        rw [List.length_take] at this
        omega), fun b o e => ?_, ?_⟩
      · rw [upd_ne (ne_of_none e hD)]
        exact sG _ _ e
      · rw [e1, e2]
        unfold natsV
        rw [List.map_append]
        exact upd_same
  · rintro G ⟨sG, eG⟩
    unfold natsV at eG
    rw [List.length_map, List.take_length] at eG
    exact q D G hD sG eG
end
open ZG (Sq ItzG walk_zipG)
open DcS (dc_it)
/-! ### keys: the walk -/
def meetF (nb : Nat → List Nat) : Nat → Nat → List Nat → List Nat
  | 0, _, o => o
  | d + 1, i, o => if i ∈ o then o else (nb i).foldl (fun o j => meetF nb d j o) (o ++ [i])
def mt (nb : Nat → List Nat) (o : List Nat) (i : Nat) : List Nat := meetF nb 8 i o
def orderF (nb : Nat → List Nat) (fx fst : List Nat) : List Nat := fst.foldl (mt nb) ((fx.flatMap nb).foldl (mt nb) fx)
structure Ranked (nb : Nat → List Nat) (N : Nat) (rk : Nat → Nat) : Prop where
  b : ∀ i, rk i < 8
  d : ∀ i, ∀ j ∈ nb i, rk j < rk i
  n : ∀ i, ∀ j ∈ nb i, j < N
  l : ∀ i, (nb i).length ≤ 20
theorem foldl_eq {α β : Type} {f g : β → α → β} : ∀ (l : List α) (b : β), (∀ b, ∀ a ∈ l, f b a = g b a) → l.foldl f b = l.foldl g b
  | [], _, _ => rfl
  | a :: l, b, h => by
    rw [List.foldl_cons, List.foldl_cons, h b a List.mem_cons_self]
    exact foldl_eq l _ fun b x hx => h b x (List.mem_cons_of_mem _ hx)
theorem meetF_stable {nb : Nat → List Nat} {N : Nat} {rk : Nat → Nat} (r : Ranked nb N rk) : ∀ {d e i : Nat} {o : List Nat}, rk i < d → rk i < e → meetF nb d i o = meetF nb e i o
  | 0, _, _, _, h, _ => absurd h (Nat.not_lt_zero _)
  | _ + 1, 0, _, _, _, h => absurd h (Nat.not_lt_zero _)
  | d + 1, e + 1, i, o, h1, h2 => by
    rw [meetF, meetF]
    split
    · rfl
    · refine foldl_eq _ _ fun b j hj => ?_
      have := r.d i j hj
      exact meetF_stable r (by omega) (by omega)
theorem mt_in {nb : Nat → List Nat} {o : List Nat} {i : Nat} (h : i ∈ o) : mt nb o i = o := if_pos h
theorem mt_out {nb : Nat → List Nat} {N : Nat} {rk : Nat → Nat} (r : Ranked nb N rk) {o : List Nat} {i : Nat} (h : i ∉ o) : mt nb o i = (nb i).foldl (mt nb) (o ++ [i]) := by
  show meetF nb (7 + 1) i o = _
  rw [meetF, if_neg h]
  refine foldl_eq _ _ fun b j hj => ?_
  have := r.d i j hj
  have := r.b i
  exact meetF_stable r (by omega) (r.b j)
/-- the order holds what it held, once each, below N -/
theorem meetF_ok {nb : Nat → List Nat} {N : Nat} {rk : Nat → Nat} (r : Ranked nb N rk) : ∀ (d : Nat) {i : Nat} {o : List Nat}, i < N → o.Nodup → (∀ k ∈ o, k < N) → (meetF nb d i o).Nodup ∧ (∀ k ∈ meetF nb d i o, k < N) ∧ (∀ k ∈ o, k ∈ meetF nb d i o) ∧ (0 < d → i ∈ meetF nb d i o)
  | 0, _, _, _, h, k => ⟨h, k, fun _ h => h, fun h => absurd h (Nat.lt_irrefl _)⟩
  | d + 1, i, o, hi, h, k => by
    rw [meetF]
    split
    · rename_i m
      exact ⟨h, k, fun _ h => h, fun _ => m⟩
    · rename_i m
      have gen : ∀ (l : List Nat) (b : List Nat), (∀ j ∈ l, j < N) → b.Nodup → (∀ k ∈ b, k < N) → (l.foldl (fun o j => meetF nb d j o) b).Nodup ∧ (∀ k ∈ l.foldl (fun o j => meetF nb d j o) b, k < N) ∧ ∀ k ∈ b, k ∈ l.foldl (fun o j => meetF nb d j o) b := by
        intro l
        induction l with
        | nil => intro b _ h k; exact ⟨h, k, fun _ h => h⟩
        | cons a l ih =>
          intro b hl hb kb
          rw [List.foldl_cons]
          have g := meetF_ok r d (hl a List.mem_cons_self) hb kb
          have g2 := ih _ (fun j hj => hl j (List.mem_cons_of_mem _ hj)) g.1 g.2.1
          exact ⟨g2.1, g2.2.1, fun k hk => g2.2.2 k (g.2.2.1 k hk)⟩
      have nd : (o ++ [i]).Nodup := List.nodup_append.mpr ⟨h, by simp, fun a ha b hb e => m (by rw [List.mem_singleton.mp hb] at e; rw [← e]; exact ha)⟩
      have bd : ∀ k ∈ o ++ [i], k < N := fun j hj => by
        rcases List.mem_append.mp hj with q | q
        · exact k j q
        · rw [List.mem_singleton.mp q]; exact hi
      have g := gen (nb i) (o ++ [i]) (r.n i) nd bd
      exact ⟨g.1, g.2.1, fun k hk => g.2.2 k (List.mem_append_left _ hk), fun _ => g.2.2 i (List.mem_append_right _ (List.mem_singleton.mpr rfl))⟩
theorem fold_ok {nb : Nat → List Nat} {N : Nat} {rk : Nat → Nat} (r : Ranked nb N rk) : ∀ (l : List Nat) {b : List Nat}, (∀ j ∈ l, j < N) → b.Nodup → (∀ k ∈ b, k < N) → (l.foldl (mt nb) b).Nodup ∧ (∀ k ∈ l.foldl (mt nb) b, k < N) ∧ (∀ k ∈ b, k ∈ l.foldl (mt nb) b) ∧ ∀ j ∈ l, j ∈ l.foldl (mt nb) b
  | [], _, _, h, k => ⟨h, k, fun _ h => h, fun j hj => by simp at hj⟩
  | a :: l, b, hl, hb, kb => by
    rw [List.foldl_cons]
    have g := meetF_ok r 8 (hl a List.mem_cons_self) hb kb
    have g2 := fold_ok r l (b := mt nb b a) (fun j hj => hl j (List.mem_cons_of_mem _ hj)) g.1 g.2.1
    refine ⟨g2.1, g2.2.1, fun k hk => g2.2.2.1 k (g.2.2.1 k hk), fun j hj => ?_⟩
    rcases List.mem_cons.mp hj with rfl | hj
    · exact g2.2.2.1 _ (g.2.2.2 (by decide))
    · exact g2.2.2.2 j hj
/-- what is reached stays within the order: neighbours of its members are members -/
def Closed (nb : Nat → List Nat) (o : List Nat) : Prop := ∀ i ∈ o, ∀ j ∈ nb i, j ∈ o
theorem len_le {o : List Nat} {N : Nat} (nd : o.Nodup) (h : ∀ k ∈ o, k < N) : o.length ≤ N := by
  induction N generalizing o with
  | zero =>
    cases o with
    | nil => exact Nat.le_refl _
    | cons a l => exact absurd (h a List.mem_cons_self) (Nat.not_lt_zero _)
  | succ N ih =>
    have g := ih (nd.erase N) fun k hk => by
      have m := (nd.mem_erase_iff).mp hk
      have := h k m.2
      have := m.1
      omega
    by_cases m : N ∈ o
    · have := List.length_erase_of_mem m
      omega
    · rw [List.erase_of_not_mem m] at g
      omega
theorem set_same {xs : List V} {k : Nat} {v : V} (e : xs[k]? = some v) : xs.set k v = xs := by
  refine List.ext_getElem? fun m => ?_
  by_cases h : m = k
  · subst h
    rw [List.getElem?_set_self (List.getElem?_eq_some_iff.mp e).1, e]
  · rw [List.getElem?_set_ne (fun z => h z.symm)]
theorem ixN_at {n j : Nat} (hj : j < n) : ixN n (j : Int) = some j := by
  unfold ixN
  rw [if_pos (by omega)]
  simp [hj]
def lenAt (H : Hp) (p : Addr) : Nat := match H p with
  | some (.lst xs) => xs.length
  | _ => 0
theorem lenAt_of {H : Hp} {p : Addr} {xs : List V} (h : H p = some (.lst xs)) : lenAt H p = xs.length := by
  unfold lenAt
  rw [h]
/-- records at a row of values -/
def RcsAt (K : PySem.W.Frag) (H : Hp) (xs : List V) (R : List Rc) : Prop := xs.length = R.length ∧ ∀ (i : Nat) (v : V) (r : Rc), xs[i]? = some v → R[i]? = some r → RcAt K H v r
theorem RcsAt.keep {K : PySem.W.Frag} {H H' : Hp} {xs : List V} {R : List Rc} (s : KeepT K H H') (h : RcsAt K H xs R) : RcsAt K H' xs R := ⟨h.1, fun i v r e1 e2 => (h.2 i v r e1 e2).keep s⟩
def NumAt (kvs : List (Key × V)) (o : List Nat) : Prop := ∀ j ∈ o, valV kvs (Sum.inl (j : Int)) = some (.int (o.idxOf j : Nat))
theorem DGet.at {H : Hp} {d : Addr} {kvs : List (Key × V)} {k : Key} {v : V} (h : H d = some (.dK kvs)) (e : valV kvs k = some v) : DGet H d (kV k) (some v) := by
  rw [← e]
  exact DGet.k (k := k) h
def RefO (o : List Nat) (v : V) : Prop := v = .non ∨ ∃ j : Nat, v = .int (j : Int) ∧ j ∈ o
def spTransl (K : PySem.W.Frag) : Sp := fun vs H Q _ => ∃ (p l dn : Addr) (xs : List V) (ks : List Kd) (o : List Nat) (kvs : List (Key × V)), vs = [.ref p, .ref l, .ref dn] ∧ SqT K H p xs ∧ H l = some (.lst (natsV (refPl ks))) ∧ xs.length = ks.length ∧ ks.length ≤ 100 ∧ H dn = some (.dK kvs) ∧ NumAt kvs o ∧
  (∀ i ∈ refPl ks, RefO o (xs.getD i .non)) ∧ ∀ q H', Same H H' → H' q = some (.tup (trL ks xs o)) → Q (.ref q) H'
def spTrRec (K : PySem.W.Frag) : Sp := fun vs H Q _ => ∃ (v : V) (dp dn : Addr) (r : Rc) (rs : List Rk) (o : List Nat) (kvs : List (Key × V)) (n : Nat), vs = [v, .ref dp, .ref dn] ∧ RcAt K H v r ∧ RcOk rs n r ∧ PgOk rs ∧ PlAt H dp rs ∧ H dn = some (.dK kvs) ∧ NumAt kvs o ∧
  (∀ k, k < r.vals.length → ((flOf rs r.nm).getD k .flag).isRef = true → RefO o (r.vals.getD k .non)) ∧ ∀ u H', Same H H' → RcAt K H' u ⟨r.nm, r.live, trL (flOf rs r.nm) r.vals o⟩ → Q u H'
def spNeigh (K : PySem.W.Frag) : Sp := fun vs H Q _ => ∃ (v : V) (dp : Addr) (r : Rc) (rs : List Rk) (n : Nat), vs = [v, .ref dp] ∧ RcAt K H v r ∧ RcOk rs n r ∧ PgOk rs ∧ PlAt H dp rs ∧ ∀ q H', H q = none → Same H H' → H' q = some (.lst (natsV (if r.live then refsAt r.vals (refPl (flOf rs r.nm)) else []))) → Q (.ref q) H'
theorem flOf_len {rs : List Rk} (ok : PgOk rs) {z : Str} : (flOf rs z).length ≤ 20 := by
  unfold flOf
  cases e : rs.find? fun r => decide (r.1 = z) with
  | none => exact Nat.zero_le _
  | some r =>
    show (r.2.map (·.2)).length ≤ 20
    rw [List.length_map]
    exact ok.lf r (List.mem_of_find?_eq_some e)
theorem PlAt.get {H : Hp} {d : Addr} {rs : List Rk} (ok : PgOk rs) (h : PlAt H d rs) {z : Str} (m : ∃ k ∈ rs, k.1 = z) : ∃ kvs l, H d = some (.dK kvs) ∧ valV kvs (Sum.inr z) = some (.ref l) ∧ H l = some (.lst (natsV (refPl (flOf rs z)))) := by
  obtain ⟨kvs, h1, h2⟩ := h
  obtain ⟨k, hk, rfl⟩ := m
  obtain ⟨l, g1, g2⟩ := h2 k hk
  exact ⟨kvs, l, h1, g1, by rw [flOf_mem ok.nd hk]; exact g2⟩
section
variable {P : Program} {w : World} {K : PySem.W.Frag} {mg : Str → Option Value} {base : Heap}
theorem ok_translated (T : Txt w K mg) : FnOk P w K mg base CX0 1 T.a_translated T.d_translated p_translated (spTransl K) := by
  refine T.F_translated.ok sc_translated (fun vs H Q E h => ?_) (fun cdv A outer s H vs Q E hr h => ?_)
  · obtain ⟨p, l, dn, xs, ks, o, kvs, rfl, _⟩ := h
    rfl
  obtain ⟨p, l, dn, xs, ks, o, kvs, rfl, hp, hl, lx, lk, hd, hn, hv, q⟩ := h
  refine ⟨_, (pss_cons (ps_set (i := 3) sc_translated.nd rfl (Or.inl rfl) (pe_callTy call_list_of rfl T.z_list bt_list (pa_cons (pv 0) pa_nil)))
      (pss_cons (ps_for PassesOwn.never rfl (pi_list (pv 1)) (pg_name (i := 4) sc_translated.nd rfl (Or.inl rfl))
        (pss_one (ps_if (pt_cmpR op_notN (pe_ix ix_list (pv 3) (pv 4) (fun _ _ => rfl)) pe_non (nomark _)) (pss_one (ps_asg (pe_dget (hu_of hr) (pv 2) (pe_ix ix_list (pv 3) (pv 4) (fun _ _ => rfl)) (fun _ _ => rfl)) (pg_sub (pv 3) (pv 4) set_list))) pss_nil)))
      (pss_one (ps_ret (pe_callTy call_tuple_of rfl T.z_tuple bt_tuple (pa_cons (pv 3) pa_nil)))))), ?_⟩
  refine ⟨_, rfl, p, _, rfl, .inr hp, fun c hc => ?_⟩
  have sc := Same.new hc (.lst xs)
  have st0 : (List.range xs.length).map (fun k => if k ∈ (refPl ks).take 0 then trAt o (xs.getD k .non) else xs.getD k .non) = xs := by
    refine List.ext_getElem? fun k => ?_
    rw [List.getElem?_map]
    by_cases hk : k < xs.length
    · rw [List.getElem?_range hk, List.getElem?_eq_getElem hk]
      show some (if k ∈ (refPl ks).take 0 then _ else _) = _
      rw [List.take_zero, if_neg (by simp), List.getD_eq_getElem?_getD, List.getElem?_eq_getElem hk]
      rfl
    · rw [List.getElem?_eq_none (by rw [List.length_range]; omega), List.getElem?_eq_none (by omega)]
      rfl
  refine ⟨_, rfl, l, rfl, ⟨_, SqL.of (sc _ _ hl)⟩, for_list (K := K) (a := l) (xs := natsV (refPl ks)) (fun i σ G => Same H G ∧ G c = some (.lst ((List.range xs.length).map fun k => if k ∈ (refPl ks).take i then trAt o (xs.getD k .non) else xs.getD k .non)) ∧ ∃ v4 : Option V, σ = [some (.ref p), some (.ref l), some (.ref dn), some (.ref c), v4])
    ⟨sc, by rw [st0]; exact upd_same, none, rfl⟩ (fun i σ G _ ⟨s, _⟩ => SqL.of (s _ _ hl)) ?_ ?_⟩
  · rintro i y σ G ey ⟨sG, hcG, v4, rfl⟩
    obtain ⟨k, ek, rfl⟩ : ∃ k, (refPl ks)[i]? = some k ∧ y = .int (k : Int) := by
      unfold natsV at ey
      rw [List.getElem?_map] at ey
      cases e : (refPl ks)[i]? with
      | none => rw [e] at ey; cases ey
      | some z => rw [e] at ey; exact ⟨z, rfl, (Option.some.inj ey).symm⟩
    have mk := List.mem_of_getElem? ek
    have hk := (mem_refPl.mp mk).1
    have tk : (refPl ks).take (i + 1) = (refPl ks).take i ++ [k] := by
      rw [List.take_add_one, ek]
      rfl
    have nk : k ∉ (refPl ks).take i := fun hm => by
      have nd : (refPl ks).Nodup := (List.nodup_range).filter _
      have nd2 := nd.sublist (List.take_sublist (i + 1) (refPl ks))
      rw [tk] at nd2
      exact (List.nodup_append.mp nd2).2.2 k hm k (List.mem_singleton.mpr rfl) rfl
    have hkx : k < xs.length := by omega
    have at1 : atI ((List.range xs.length).map fun k => if k ∈ (refPl ks).take i then trAt o (xs.getD k .non) else xs.getD k .non) (k : Int) = some (xs.getD k .non) := atI_nat (by
      rw [List.getElem?_map, List.getElem?_range hkx]
      show some (if k ∈ (refPl ks).take i then _ else _) = _
      rw [if_neg nk])
    refine ⟨_, rfl, _, rfl, c, _, _, _, rfl, rfl, SqL.of hcG, at1, rfl, _, rfl, ?_⟩
    have nxt : ∀ (u : V), u = trAt o (xs.getD k .non) → ((List.range xs.length).map fun k => if k ∈ (refPl ks).take i then trAt o (xs.getD k .non) else xs.getD k .non).set k u = (List.range xs.length).map fun k => if k ∈ (refPl ks).take (i + 1) then trAt o (xs.getD k .non) else xs.getD k .non := fun u hu => by
      refine List.ext_getElem? fun m => ?_
      by_cases hm : m < xs.length
      · rw [List.getElem?_map, List.getElem?_range hm]
        show _ = some (if m ∈ (refPl ks).take (i + 1) then _ else _)
        by_cases e : m = k
        · subst e
          rw [List.getElem?_set_self (by rw [List.length_map, List.length_range]; exact hm), tk, if_pos (List.mem_append_right _ (List.mem_singleton.mpr rfl)), hu]
        · rw [List.getElem?_set_ne (fun z => e z.symm), List.getElem?_map, List.getElem?_range hm, tk]
          show some (if m ∈ (refPl ks).take i then _ else _) = _
          by_cases h : m ∈ (refPl ks).take i
          · rw [if_pos h, if_pos (List.mem_append_left _ h)]
          · rw [if_neg h, if_neg (fun z => (List.mem_append.mp z).elim h fun z => e (List.mem_singleton.mp z))]
      · rw [List.getElem?_eq_none (by rw [List.length_set, List.length_map, List.length_range]; omega), List.getElem?_eq_none (by rw [List.length_map, List.length_range]; omega)]
    rcases hv k mk with h | ⟨j, h, hj⟩
    · rw [h]
      refine ifF (by decide) ⟨sG, ?_, _, rfl⟩
      rw [← nxt .non (by rw [h]; rfl), hcG]
      congr 2
      refine (set_same ?_).symm
      rw [List.getElem?_map, List.getElem?_range hkx]
      show some (if k ∈ (refPl ks).take i then _ else _) = _
      rw [if_neg nk, h]
    · rw [h] at at1 ⊢
      refine ifT (by rw [decide_eq_false (fun z => by cases z)]; rfl) ?_
      refine ⟨_, rfl, _, rfl, _, rfl, c, _, _, _, rfl, rfl, SqL.of hcG, at1, dn, _, rfl, DGet.at (k := Sum.inl (j : Int)) (sG _ _ hd) (hn j hj), ?_⟩
      refine ⟨_, rfl, _, rfl, c, _, _, k, rfl, rfl, hcG, ixN_at (by rw [List.length_map, List.length_range]; exact hkx), ?_⟩
      refine ⟨fun b u e => by rw [upd_ne (ne_of_none e hc)]; exact sG _ _ e, ?_, _, rfl⟩
      rw [nxt _ (by rw [h]; rfl)]
      exact upd_same
  · rintro σ G ⟨sG, hcG, v4, rfl⟩
    refine ⟨_, rfl, c, _, rfl, .inl ⟨SqL.of hcG, fun t ht => q t _ (sG.trans (Same.new ht _)) ?_⟩⟩
    rw [upd_same]
    unfold trL
    congr 2
    refine List.map_congr_left fun k hk => ?_
    rw [List.mem_range] at hk
    have e : (natsV (refPl ks)).length = (refPl ks).length := by
      unfold natsV
      rw [List.length_map]
    rw [e, List.take_length]
    by_cases h : (ks.getD k .flag).isRef = true
    · rw [if_pos h, if_pos (mem_refPl.mpr ⟨by omega, h⟩)]
    · rw [if_neg h, if_neg (fun z => h (mem_refPl.mp z).2)]
theorem ok_translated_record (T : Txt w K mg) : FnOk P w K mg base CX0 2 T.a_translated_record T.d_translated_record p_translated_record (spTrRec K) := by
  have g_translated := ok_translated (P := P) (w := w) (K := K) (base := base) T
  refine T.F_translated_record.ok sc_translated_record (fun vs H Q E h => ?_) (fun cdv A outer s H vs Q E hr h => ?_)
  · obtain ⟨v, dp, dn, r, rs, o, kvs, n, rfl, _⟩ := h
    rfl
  obtain ⟨v, dp, dn, r, rs, o, kvs, n, rfl, hv, ok, pok, hpl, hd, hn, hro, q⟩ := h
  refine ⟨_, (pss_cons (ps_asg (pv 0) (pg_tup rfl (pgs_cons (pg_name (i := 3) sc_translated_record.nd rfl (Or.inl rfl)) (pgs_cons (pg_name (i := 4) sc_translated_record.nd rfl (Or.inl rfl)) (pgs_cons (pg_name (i := 5) sc_translated_record.nd rfl (Or.inl rfl)) pgs_nil)))))
      (pss_one (ps_ret (pe_ifExp (pt_val (pv 4)) (pe_tup (pa_cons (pv 3) (pa_cons (pv 4) (pa_cons (pe_call g_translated (hr.mono (by first | decide | omega)) rfl T.m_translated T.F_translated.kp T.b_translated .nil pass0 (pa_cons (pv 5) (pa_cons (pe_dget (hu_of hr) (pv 1) (pv 3) (fun _ _ => rfl)) (pa_cons (pv 2) pa_nil)))) pa_nil)))) (pv 0))))), ?_⟩
  have hv0 := hv
  obtain ⟨p, t, rfl, hp, ht⟩ := hv
  refine ⟨_, rfl, p, _, rfl, hp, rfl, _, _, rfl, _, _, rfl, _, _, rfl, rfl, ?_⟩
  obtain ⟨nm, live, vals⟩ := r
  cases live with
  | true =>
    obtain ⟨kp, l, e1, e2, e3⟩ := hpl.get pok ok.m
    have lv := ok.l rfl
    refine ⟨_, rfl, _, rfl, iteT ?_⟩
    refine ⟨_, rfl, _, rfl, _, rfl, _, rfl, _, rfl, dp, _, rfl, DGet.at (k := Sum.inr nm) e1 e2, _, rfl, t, l, dn, vals, flOf rs nm, o, kvs, rfl, ht, e3, lv, by have := flOf_len pok (z := nm); omega, hd, hn, fun i hi => ?_, fun t2 H2 s2 ht2 => ?_⟩
    · have h := mem_refPl.mp hi
      exact hro i (by show i < vals.length; rw [lv]; exact h.1) h.2
    · refine ⟨by show 3 ≤ sizeLine; decide, fun u hu => ?_⟩
      exact q (.ref u) _ (s2.trans (Same.new hu _)) ⟨u, t2, rfl, SqT.of upd_same, SqT.of ((Same.new hu _) _ _ ht2)⟩
  | false =>
    refine ⟨_, rfl, _, rfl, iteF ?_⟩
    have ev : vals = [] := ok.d rfl
    subst ev
    exact ⟨_, rfl, q _ H (Same.refl _) hv0⟩
theorem ok_neighbours (T : Txt w K mg) : FnOk P w K mg base CX0 2 T.a_neighbours T.d_neighbours p_neighbours (spNeigh K) := by
  have g_referred := ok_referred (P := P) (w := w) (K := K) (base := base) T
  refine T.F_neighbours.ok sc_neighbours (fun vs H Q E h => ?_) (fun cdv A outer s H vs Q E hr h => ?_)
  · obtain ⟨v, dp, r, rs, n, rfl, _⟩ := h
    rfl
  obtain ⟨v, dp, r, rs, n, rfl, hv, ok, pok, hpl, q⟩ := h
  refine ⟨_, (pss_cons (ps_asg (pv 0) (pg_tup rfl (pgs_cons (pg_name (i := 2) sc_neighbours.nd rfl (Or.inl rfl)) (pgs_cons (pg_name (i := 3) sc_neighbours.nd rfl (Or.inl rfl)) (pgs_cons (pg_name (i := 4) sc_neighbours.nd rfl (Or.inl rfl)) pgs_nil)))))
      (pss_one (ps_ret (pe_ifExp (pt_val (pv 3)) (pe_call g_referred (hr.mono (by first | decide | omega)) rfl T.m_referred T.F_referred.kp T.b_referred .nil pass0 (pa_cons (pv 4) (pa_cons (pe_dget (hu_of hr) (pv 1) (pv 2) (fun _ _ => rfl)) pa_nil))) (pe_lst pa_nil))))), ?_⟩
  obtain ⟨p, t, rfl, hp, ht⟩ := hv
  refine ⟨_, rfl, p, _, rfl, hp, rfl, _, _, rfl, _, _, rfl, _, _, rfl, rfl, ?_⟩
  obtain ⟨nm, live, vals⟩ := r
  cases live with
  | true =>
    obtain ⟨kp, l, e1, e2, e3⟩ := hpl.get pok ok.m
    have lv := ok.l rfl
    refine ⟨_, rfl, _, rfl, iteT ?_⟩
    refine ⟨_, rfl, _, rfl, _, rfl, dp, _, rfl, DGet.at (k := Sum.inr nm) e1 e2, t, l, vals, refPl (flOf rs nm), n, rfl, ht, e3, ?_, fun i hi => ?_, fun t2 H2 n2 s2 ht2 => q t2 H2 n2 s2 ht2⟩
    · have := refTo_len (ks := flOf rs nm) (i := (flOf rs nm).length)
      have := flOf_len pok (z := nm)
      unfold refPl
      omega
    · have h := mem_refPl.mp hi
      have hi2 : i < vals.length := by rw [lv]; exact h.1
      exact ⟨hi2, ok.v i hi2 h.2⟩
  | false =>
    refine ⟨_, rfl, _, rfl, iteF ?_⟩
    exact ⟨by show 0 ≤ sizeLine; decide, fun l hl => q l _ hl (Same.new hl _) upd_same⟩
end
open ZG (Sq ItzG walk_zipG)
open DcS (dc_it)
/-! ### comprehensions with two sources -/
/-- the inner source's loop -/
theorem lc2_in {J1 : It} {n1 : Nat} {G1 : Hp → Prop} {Y1 : Nat → Hp → V → Hp → Prop} (w : Walk J1 n1 G1 Y1) {g1 : TG} {tt1 : TT} {te : TE} {vs1 : List Nat} {σ2 : L2.St} {H4 : Hp} {D : Addr} {Nx : Hp → Prop} (Pw : Nat → Hp → Prop) (h0 : Pw 0 H4) (hG : ∀ j H, j ≤ n1 → Pw j H → G1 H)
    (hs : ∀ j x H H', j < n1 → Pw j H → Y1 j H x H' → g1 x (wipe σ2 vs1) H' fun σ3 H5 => wipe σ3 vs1 = wipe σ2 vs1 ∧ tt1 σ3 H5 fun b H6 =>
      if b = true then te σ3 H6 fun y H7 => ∃ acc, H7 D = some (.lst acc) ∧ acc.length < sizeLine ∧ Pw (j + 1) (upd H7 D (.lst (acc ++ [y]))) else Pw (j + 1) H6) (hd : ∀ H, Pw n1 H → Nx H) :
    ∃ W1 : Nat → Nat → Hp → Prop, (∃ m, W1 0 m H4) ∧ ∀ j k H, W1 j k H →
      (J1.stop j H ∧ Nx H) ∨ (J1.go j H ∧ ∃ Nx1 : Hp → Prop, (∀ H', Nx1 H' → ∃ k', k' < k ∧ W1 (j + 1) k' H') ∧ ∀ x H', J1.yld j H x H' → g1 x (wipe σ2 vs1) H' fun σ3 H5 => wipe σ3 vs1 = wipe σ2 vs1 ∧ tt1 σ3 H5 fun b H6 =>
        if b = true then te σ3 H6 fun y H7 => ∃ acc, H7 D = some (.lst acc) ∧ acc.length < sizeLine ∧ Nx1 (upd H7 D (.lst (acc ++ [y]))) else Nx1 H6) := by
  refine ⟨fun j k H => k = n1 - j ∧ j ≤ n1 ∧ Pw j H, ⟨n1, by simp, Nat.zero_le _, h0⟩, ?_⟩
  rintro j k H ⟨rfl, hj, p⟩
  have q := hG j H hj p
  by_cases hlt : j < n1
  · exact .inr ⟨w.goes j H hlt q, Pw (j + 1), fun H' p' => ⟨n1 - (j + 1), by omega, rfl, hlt, p'⟩, fun x H' y => hs j x H H' hlt p (w.yields j H x H' hlt q y)⟩
  · have e : j = n1 := by omega
    subst e
    exact .inl ⟨w.stops H q, hd H p⟩
/-- the outer source's loop -/
theorem lc2_out {J : It} {n : Nat} {G : Hp → Prop} {Y : Nat → Hp → V → Hp → Prop} (w : Walk J n G Y) {g g1 : TG} {tt tt1 : TT} {wi1 : TI} {te : TE} {vs vs1 : List Nat} {σ : L2.St} {H1 : Hp} {D : Addr} {Qd : Hp → Prop} (Pv : Nat → Hp → Prop) (h0 : Pv 0 (upd H1 D (.lst []))) (hG : ∀ i H, i ≤ n → Pv i H → G H)
    (hs : ∀ i x H H', i < n → Pv i H → Y i H x H' → g x (wipe σ vs) H' fun σ2 H2 => wipe σ2 vs = wipe σ vs ∧ tt σ2 H2 fun b H3 =>
      if b = true then wi1 σ2 H3 fun J1 H4 => ∃ W1 : Nat → Nat → Hp → Prop, (∃ m, W1 0 m H4) ∧ ∀ j k H, W1 j k H →
        (J1.stop j H ∧ Pv (i + 1) H) ∨ (J1.go j H ∧ ∃ Nx1 : Hp → Prop, (∀ H', Nx1 H' → ∃ k', k' < k ∧ W1 (j + 1) k' H') ∧ ∀ x H', J1.yld j H x H' → g1 x (wipe σ2 vs1) H' fun σ3 H5 => wipe σ3 vs1 = wipe σ2 vs1 ∧ tt1 σ3 H5 fun b H6 =>
          if b = true then te σ3 H6 fun y H7 => ∃ acc, H7 D = some (.lst acc) ∧ acc.length < sizeLine ∧ Nx1 (upd H7 D (.lst (acc ++ [y]))) else Nx1 H6)
      else Pv (i + 1) H3) (hd : ∀ H, Pv n H → Qd H) :
    ∃ W : Nat → Nat → Hp → Prop, (∃ m, W 0 m (upd H1 D (.lst []))) ∧ ∀ i m H, W i m H →
      (J.stop i H ∧ Qd H) ∨ (J.go i H ∧ ∃ Nx : Hp → Prop, (∀ H', Nx H' → ∃ m', m' < m ∧ W (i + 1) m' H') ∧ ∀ x H', J.yld i H x H' → g x (wipe σ vs) H' fun σ2 H2 => wipe σ2 vs = wipe σ vs ∧ tt σ2 H2 fun b H3 =>
        if b = true then wi1 σ2 H3 fun J1 H4 => ∃ W1 : Nat → Nat → Hp → Prop, (∃ m, W1 0 m H4) ∧ ∀ j k H, W1 j k H →
          (J1.stop j H ∧ Nx H) ∨ (J1.go j H ∧ ∃ Nx1 : Hp → Prop, (∀ H', Nx1 H' → ∃ k', k' < k ∧ W1 (j + 1) k' H') ∧ ∀ x H', J1.yld j H x H' → g1 x (wipe σ2 vs1) H' fun σ3 H5 => wipe σ3 vs1 = wipe σ2 vs1 ∧ tt1 σ3 H5 fun b H6 =>
            if b = true then te σ3 H6 fun y H7 => ∃ acc, H7 D = some (.lst acc) ∧ acc.length < sizeLine ∧ Nx1 (upd H7 D (.lst (acc ++ [y]))) else Nx1 H6)
        else Nx H3) := by
  refine ⟨fun i m H => m = n - i ∧ i ≤ n ∧ Pv i H, ⟨n, by simp, Nat.zero_le _, h0⟩, ?_⟩
  rintro i m H ⟨rfl, hi, p⟩
  have q := hG i H hi p
  by_cases hlt : i < n
  · exact .inr ⟨w.goes i H hlt q, Pv (i + 1), fun H' p' => ⟨n - (i + 1), by omega, rfl, hlt, p'⟩, fun x H' y => hs i x H H' hlt p (w.yields i H x H' hlt q y)⟩
  · have e : i = n := by omega
    subst e
    exact .inl ⟨w.stops H q, hd H p⟩
/-- a list of truth values at D: k of them, and all hold if and only if A -/
def AllP (H1 : Hp) (D : Addr) (k : Nat) (A : Prop) (H : Hp) : Prop := Same H1 H ∧ ∃ bs : List Bool, H D = some (.lst (bs.map V.bl)) ∧ bs.length = k ∧ (bs.all id = true ↔ A)
theorem AllP.start {H1 : Hp} {D : Addr} {A : Prop} (hD : H1 D = none) (a : A) : AllP H1 D 0 A (upd H1 D (.lst [])) :=
  ⟨Same.new hD _, [], upd_same, rfl, ⟨fun _ => a, fun _ => rfl⟩⟩
theorem AllP.imp {H1 H : Hp} {D : Addr} {k k' : Nat} {A A' : Prop} (h : AllP H1 D k A H) (ek : k = k') (e : A ↔ A') : AllP H1 D k' A' H := by
  obtain ⟨s, bs, h1, h2, h3⟩ := h
  exact ⟨s, bs, h1, by omega, h3.trans e⟩
theorem AllP.push {H1 H H4 : Hp} {D : Addr} {k : Nat} {A : Prop} {b : Bool} (h : AllP H1 D k A H) (hD : H1 D = none) (s : Same H H4) (hk : k < sizeLine) :
    ∃ acc, H4 D = some (.lst acc) ∧ acc.length < sizeLine ∧ AllP H1 D (k + 1) (A ∧ b = true) (upd H4 D (.lst (acc ++ [.bl b]))) := by
  obtain ⟨s1, bs, h1, h2, h3⟩ := h
  refine ⟨_, s _ _ h1, by rw [List.length_map]; omega, fun c u e => by rw [upd_ne (ne_of_none e hD)]; exact s _ _ (s1 _ _ e), bs ++ [b], by rw [List.map_append]; exact upd_same, by simp [h2], ?_⟩
  rw [List.all_append, Bool.and_eq_true, h3]
  simp
/-! ### keys: the program's walk and key -/
structure HpOk (rs : List Rk) (R : List Rc) (rk : Nat → Nat) : Prop where
  pok : PgOk rs
  rc : ∀ r ∈ R, RcOk rs R.length r
  rn : Ranked (nbR rs R) R.length rk
  ln : R.length ≤ 100
def spVisit (K : PySem.W.Frag) : Sp := fun vs H Q _ => ∃ (dp pf pr px : Addr) (fst fx : List Nat) (xs : List V) (rs : List Rk) (R : List Rc) (rk : Nat → Nat), vs = [.ref dp, .ref pf, .ref pr, .ref px] ∧ HpOk rs R rk ∧ PlAt H dp rs ∧ H pf = some (.lst (natsV fst)) ∧ SqT K H pr xs ∧ RcsAt K H xs R ∧ SqT K H px (natsV fx) ∧
  fx.Nodup ∧ (∀ i ∈ fx, i < R.length) ∧ (∀ i ∈ fst, i < R.length) ∧ fst.length ≤ 100 ∧ ∀ o H', Same H H' → H' o = some (.lst (natsV (orderF (nbR rs R) fx fst))) → Q (.ref o) H'
theorem nbR_at {rs : List Rk} {R : List Rc} {i : Nat} {r : Rc} (e : R[i]? = some r) : nbR rs R i = if r.live then refsAt r.vals (refPl (flOf rs r.nm)) else [] := by
  unfold nbR
  rw [e]
theorem natsV_len {l : List Nat} : (natsV l).length = l.length := List.length_map _
theorem natsV_app {a b : List Nat} : natsV (a ++ b) = natsV a ++ natsV b := List.map_append
theorem natsV_rev {a : List Nat} : (natsV a).reverse = natsV a.reverse := List.map_reverse.symm
theorem natsV_get {l : List Nat} {i k : Nat} (e : l[i]? = some k) : (natsV l)[i]? = some (.int (k : Int)) := map_get e
theorem natsV_inv {l : List Nat} {i : Nat} {y : V} (e : (natsV l)[i]? = some y) : ∃ k, l[i]? = some k ∧ y = .int (k : Int) := by
  unfold natsV at e
  rw [List.getElem?_map] at e
  cases h : l[i]? with
  | none => rw [h] at e; cases e
  | some z => rw [h] at e; exact ⟨z, rfl, (Option.some.inj e).symm⟩
theorem isSome_put {kvs : List (Key × V)} {k j : Nat} {v : V} : (valV (putK kvs (Sum.inl (k : Int)) v) (Sum.inl (j : Int))).isSome = true ↔ j = k ∨ (valV kvs (Sum.inl (j : Int))).isSome = true := by
  rw [valV_put]
  by_cases e : j = k
  · subst e
    rw [if_pos rfl]
    exact ⟨fun _ => .inl rfl, fun _ => rfl⟩
  · rw [if_neg (fun z => e (by have := Sum.inl.inj z; omega))]
    exact ⟨fun h => .inr h, fun h => h.resolve_left e⟩
theorem sum_le20 {f : Nat → List Nat} : ∀ l : List Nat, (∀ a ∈ l, (f a).length ≤ 20) → (l.map fun a => (f a).length).sum ≤ l.length * 20
  | [], _ => Nat.le_refl _
  | a :: l, h => by
    have h1 := h a List.mem_cons_self
    have h2 := sum_le20 l fun b hb => h b (List.mem_cons_of_mem _ hb)
    rw [List.map_cons, List.sum_cons, List.length_cons]
    omega
section
variable {P : Program} {w : World} {K : PySem.W.Frag} {mg : Str → Option Value} {base : Heap}
theorem ok_visit_records (T : Txt w K mg) : FnOk P w K mg base CX0 3 T.a_visit_records T.d_visit_records p_visit_records (spVisit K) := by
  have g_neighbours := ok_neighbours (P := P) (w := w) (K := K) (base := base) T
  refine T.F_visit_records.ok sc_visit_records (fun vs H Q E h => ?_) (fun cdv A outer s H vs Q E hr h => ?_)
  · obtain ⟨dp, pf, pr, px, fst, fx, xs, rs, R, rk, rfl, _⟩ := h
    rfl
  obtain ⟨dp, pf, pr, px, fst, fx, xs, rs, R, rk, rfl, ok, hpl, hf, hpr, hrs, hx, ndx, bx, bf, lf, q⟩ := h
  refine ⟨_, (pss_cons (ps_set (i := 4) sc_visit_records.nd rfl (Or.inl rfl) (pe_callTy call_list_of rfl T.z_list bt_list (pa_cons (pv 3) pa_nil)))
      (pss_cons (DcS.ps_setDc (i := 5) (own := [("index", 6)]) (g := gName 6) (tt := tYes) rfl sc_visit_records.nd rfl rfl (DcS.sw_trueD rfl rfl rfl (by decide +kernel)) (pi_tup (pv 3)) (blkOk_by (own := [("index", 6)]) (N := n_visit_records) (sc := defScope s_visit_records) (by decide +kernel)) (fun _ _ _ _ _ => (pg_name (i := 6) sc_visit_records.nd rfl (Or.inl rfl))) (fun _ _ _ _ _ => pts_nil) (fun _ _ _ _ _ => (pv 6)) (fun _ _ _ _ _ => pe_bl))
      (pss_cons (ps_setLc2 (i := 7) (own := [("index", 6), ("found", 8)]) (vs1 := [8]) (g := gName 6) (g1 := gName 8) (tt := tYes) (tt1 := tYes) rfl sc_visit_records.nd rfl rfl (sw_true rfl rfl rfl (by decide +kernel)) (pi_tup (pv 3)) (blkOk_by (own := [("index", 6), ("found", 8)]) (N := n_visit_records) (sc := defScope s_visit_records) (by decide +kernel)) (by decide) (fun _ _ _ _ _ => (pg_name (i := 6) sc_visit_records.nd rfl (Or.inl rfl))) (fun _ _ _ _ _ => pts_nil) (fun _ _ _ _ _ => (show PI _ _ _ (iList K _) from (pi_list (pe_call g_neighbours (hr.mono (by first | decide | omega)) rfl T.m_neighbours T.F_neighbours.kp T.b_neighbours .nil pass0 (pa_cons (pe_ix (show IxR _ (rIxT K) from ix_tup) (pv 2) (pv 6) (fun _ _ => rfl)) (pa_cons (pv 0) pa_nil)))))) (fun _ _ _ _ _ => (pg_name (i := 8) sc_visit_records.nd rfl (Or.inl rfl))) (fun _ _ _ _ _ => pts_nil) (fun _ _ _ _ _ => (pv 8)))
      (pss_cons (ps_set (i := 9) sc_visit_records.nd rfl (Or.inl rfl) (pe_lst (StX.pa_star (pv 7) (StX.pa_star (pv 1) pa_nil))))
      (pss_cons (ps_expr (pe_bm0 PySem.F.plainAttrs_list PySem.F.slot_list_reverse PySem.F.type_list_reverse mt_reverse (pv 9)))
      (pss_cons (ps_while PassesOwn.never (pt_truth (pv 9) (by intro _; rfl)) (pss_cons (ps_set (i := 6) sc_visit_records.nd rfl (Or.inl rfl) (pe_bm0 PySem.F.plainAttrs_list PySem.F.slot_list_pop PySem.F.type_list_pop mt_pop (pv 9)))
      (pss_one (ps_if (pt_cmp (pc_dnotin (hu_of hr) (pv 6) (pv 5))) (pss_cons (ps_dput (hu_of hr) (pv 5) (pv 6) pe_bl rfl)
      (pss_cons (ps_expr (pe_bm PySem.F.plainAttrs_list PySem.F.slot_list_append PySem.F.type_list_append mt_append (pv 4) (pa_cons (pv 6) pa_nil)))
      (pss_one (ps_expr (pe_bm PySem.F.plainAttrs_list PySem.F.slot_list_extend PySem.F.type_list_extend mt_extend (pv 9) (pa_cons (LRv.pe_listRev rfl rfl T.z_list rfl T.z_reversed (pe_call g_neighbours (hr.mono (by first | decide | omega)) rfl T.m_neighbours T.F_neighbours.kp T.b_neighbours .nil pass0 (pa_cons (pe_ix ix_tup (pv 2) (pv 6) (fun _ _ => rfl)) (pa_cons (pv 0) pa_nil)))) pa_nil)))))) pss_nil))))
      (pss_one (ps_ret (pv 4))))))))), ?_⟩
  have lR := ok.ln
  have lfx := len_le ndx bx
  generalize hnb : nbR rs R = nb at q
  have rn := ok.rn
  rw [hnb] at rn
  -- order
  refine ⟨_, rfl, px, _, rfl, .inr hx, fun lo hlo => ?_⟩
  have s1 := Same.new hlo (.lst (natsV fx))
  have eo : (upd H lo (.lst (natsV fx))) lo = some (.lst (natsV fx)) := upd_same
  generalize (upd H lo (.lst (natsV fx))) = H1 at s1 eo
  -- seen
  refine ⟨_, rfl, px, rfl, ⟨_, Same.tup s1 hx⟩, fun ds hds => ?_⟩
  refine dc_it (walk_tup (xs := natsV fx)) (fun i G => Same H1 G ∧ ∃ kvs, G ds = some (.dK kvs) ∧ kvs.length ≤ i ∧ ∀ k : Nat, (valV kvs (Sum.inl (k : Int))).isSome = true ↔ k ∈ fx.take i) ⟨Same.new hds _, [], upd_same, Nat.le_refl _, fun k => ⟨fun h => (by cases h), fun h => by simp at h⟩⟩ (fun i G _ P => Same.tup (s1.trans P.1) hx) ?_ ?_
  · rintro i x G G' hi ⟨sG, kvs, eD, lk, hk⟩ ⟨rfl, ex⟩
    obtain ⟨k, ek, rfl⟩ := natsV_inv ex
    have hi2 := (List.getElem?_eq_some_iff.mp ek).1
    refine ⟨rfl, tyes ?_⟩
    refine ⟨_, rfl, kvs, Sum.inl (k : Int), rfl, eD, lt_line (by omega), fun b u e => by rw [upd_ne (ne_of_none e hds)]; exact sG _ _ e, _, upd_same, ?_, fun j => ?_⟩
    · have := putK_lenle (kvs := kvs) (k := Sum.inl (k : Int)) (y := V.bl true)
      omega
    · rw [isSome_put, hk, List.take_add_one, ek, List.mem_append]
      show _ ↔ _ ∨ j ∈ [k]
      rw [List.mem_singleton]
      exact or_comm
  rintro H2 ⟨s12, kv2, ed2, lk2, hk2⟩
  rw [natsV_len] at lk2
  have hk2 : ∀ k : Nat, (valV kv2 (Sum.inl (k : Int))).isSome = true ↔ k ∈ fx := fun k => by
    have := hk2 k
    rwa [natsV_len, List.take_length] at this
  have s2 := s1.trans s12
  have eo2 := s12 _ _ eo
  -- starts
  have nodeAt : ∀ {G : Hp} {i : Nat}, Same H G → i < R.length → ∃ r v, R[i]? = some r ∧ atI xs (i : Int) = some v ∧ RcAt K G v r ∧ RcOk rs R.length r ∧ nb i = (if r.live then refsAt r.vals (refPl (flOf rs r.nm)) else []) := fun {G i} sG hi => by
    have e1 : R[i]? = some R[i] := List.getElem?_eq_getElem hi
    have hi2 : i < xs.length := by rw [hrs.1]; exact hi
    have e2 : xs[i]? = some xs[i] := List.getElem?_eq_getElem hi2
    exact ⟨_, _, e1, atI_nat e2, (hrs.2 i _ _ e2 e1).keep (KeepT.of sG), ok.rc _ (List.getElem_mem hi), by rw [← hnb]; exact nbR_at e1⟩
  refine ⟨_, rfl, px, rfl, ⟨_, Same.tup s2 hx⟩, fun D hD => ?_⟩
  refine lc2_out (walk_tup (xs := natsV fx)) (fun i G => Same H2 G ∧ G D = some (.lst (natsV ((fx.take i).flatMap nb)))) ⟨Same.new hD _, upd_same⟩ (fun i G _ P => Same.tup (s2.trans P.1) hx) ?_ ?_
  · rintro i x G G' hi ⟨sG, eD⟩ ⟨rfl, ex⟩
    obtain ⟨k, ek, rfl⟩ := natsV_inv ex
    have hk := bx k (List.mem_of_getElem? ek)
    obtain ⟨r, v, e1, e2, e3, e4, e5⟩ := nodeAt (s2.trans sG) hk
    have tk : fx.take (i + 1) = fx.take i ++ [k] := by
      rw [List.take_add_one, ek]
      rfl
    refine ⟨rfl, tyes ?_⟩
    refine ⟨_, rfl, _, rfl, pr, _, _, _, rfl, rfl, Same.tup (s2.trans sG) hpr, e2, _, rfl, v, dp, r, rs, R.length, rfl, e3, e4, ok.pok, hpl.same (s2.trans sG), fun l3 H3 n3 s3 hl3 => ?_⟩
    rw [← e5] at hl3
    have nlD : l3 ≠ D := (ne_of_none eD n3).symm
    refine ⟨l3, rfl, ⟨_, SqL.of hl3⟩, ?_⟩
    refine lc2_in (walk_list (xs := natsV (nb k))) (fun j F => Same H2 F ∧ F l3 = some (.lst (natsV (nb k))) ∧ F D = some (.lst (natsV ((fx.take i).flatMap nb ++ (nb k).take j)))) ⟨sG.trans s3, hl3, by rw [List.take_zero, List.append_nil]; exact s3 _ _ eD⟩ (fun j F _ P => SqL.of P.2.1) ?_ ?_
    · rintro j y F F' hj ⟨sF, hlF, eDF⟩ ⟨rfl, ey⟩
      obtain ⟨m, em, rfl⟩ := natsV_inv ey
      have lnb := rn.l k
      refine ⟨rfl, tyes ?_⟩
      refine ⟨_, rfl, _, eDF, lt_line (by
        rw [natsV_len, List.length_append, List.length_take, List.length_flatMap]
        have : ((fx.take i).map fun a => (nb a).length).sum ≤ (fx.take i).length * 20 := sum_le20 _ fun a _ => rn.l a
        rw [List.length_take] at this
        omega), fun b u e => by rw [upd_ne (ne_of_none e hD)]; exact sF _ _ e, by rw [upd_ne nlD]; exact hlF, ?_⟩
      have tj : (nb k).take (j + 1) = (nb k).take j ++ [m] := by
        rw [List.take_add_one, em]
        rfl
      have e9 : natsV ((fx.take i).flatMap nb ++ (nb k).take j ++ [m]) = natsV ((fx.take i).flatMap nb ++ (nb k).take j) ++ [.int (m : Int)] := natsV_app
      rw [tj, ← List.append_assoc, e9]
      exact upd_same
    · rintro F ⟨sF, hlF, eDF⟩
      rw [natsV_len, List.take_length] at eDF
      refine ⟨sF, ?_⟩
      rw [tk, List.flatMap_append, List.flatMap_singleton]
      exact eDF
  rintro H3 ⟨s23, ed3⟩
  rw [natsV_len, List.take_length] at ed3
  have s3 := s2.trans s23
  have eo3 := s23 _ _ eo2
  have es3 := s23 _ _ ed2
  generalize hst : fx.flatMap nb = stt at ed3
  have lst1 : stt.length ≤ 2000 := by
    rw [← hst, List.length_flatMap]
    have := sum_le20 (f := nb) fx fun a _ => rn.l a
    omega
  have bst : ∀ i ∈ stt, i < R.length := fun i hi => by
    rw [← hst] at hi
    obtain ⟨a, _, h⟩ := List.mem_flatMap.mp hi
    exact rn.n a i h
  have q : ∀ o H', Same H H' → H' o = some (.lst (natsV (fst.foldl (mt nb) (stt.foldl (mt nb) fx)))) → Q (.ref o) H' := fun o H' s e => q o H' s (by
    unfold orderF
    rw [hst]
    exact e)
  -- pending
  refine ⟨_, rfl, D, _, rfl, .inr (SqL.of ed3), _, rfl, pf, _, rfl, .inr (SqL.of (s3 _ _ hf)), by
    rw [List.length_append, List.length_append, natsV_len, natsV_len, sizeLine_eq]
    show stt.length + (fst.length + 0) ≤ _
    omega, fun lp hlp => ?_⟩
  have nlp : H lp = none := by
    cases e : H lp with
    | none => rfl
    | some u => rw [s3 _ _ e] at hlp; cases hlp
  have nds : H ds = none := by
    cases e : H ds with
    | none => rfl
    | some u => rw [s1 _ _ e] at hds; cases hds
  have lolp : lo ≠ lp := ne_of_none eo3 hlp
  have dslp : ds ≠ lp := ne_of_none es3 hlp
  have s4 := Same.new hlp (.lst (natsV stt ++ (natsV fst ++ [])))
  refine ⟨_, rfl, .inl ⟨rfl, _, SqL.of upd_same⟩, lp, _, rfl, rfl, upd_same, ?_⟩
  have e4 : (upd (upd H3 lp (.lst (natsV stt ++ (natsV fst ++ [])))) lp (.lst (natsV stt ++ (natsV fst ++ [])).reverse)) lp = some (.lst (natsV (stt ++ fst).reverse)) := by
    rw [upd_same, List.append_nil, ← natsV_app, natsV_rev]
  have s04 : Same H (upd (upd H3 lp (.lst (natsV stt ++ (natsV fst ++ [])))) lp (.lst (natsV stt ++ (natsV fst ++ [])).reverse)) := fun b u e => by
    rw [upd_ne (ne_of_none e nlp)]
    exact s4 _ _ (s3 _ _ e)
  have eo4 : (upd (upd H3 lp (.lst (natsV stt ++ (natsV fst ++ [])))) lp (.lst (natsV stt ++ (natsV fst ++ [])).reverse)) lo = some (.lst (natsV fx)) := by
    rw [upd_ne lolp]
    exact s4 _ _ eo3
  have es4 : (upd (upd H3 lp (.lst (natsV stt ++ (natsV fst ++ [])))) lp (.lst (natsV stt ++ (natsV fst ++ [])).reverse)) ds = some (.dK kv2) := by
    rw [upd_ne dslp]
    exact s4 _ _ es3
  generalize (upd (upd H3 lp (.lst (natsV stt ++ (natsV fst ++ [])))) lp (.lst (natsV stt ++ (natsV fst ++ [])).reverse)) = G0 at e4 s04 eo4 es4
  clear s4 s3 s23 s12 s2 s1 ed3 es3 eo3 eo2 ed2 eo hlp hst
  dsimp only
  unfold tSeq
  refine while_by (fun σ G => ∃ (o p : List Nat) (kvs : List (Key × V)) (v6 v8 : Option V), σ = [some (.ref dp), some (.ref pf), some (.ref pr), some (.ref px), some (.ref lo), some (.ref ds), v6, some (.ref D), v8, some (.ref lp)] ∧ Same H G ∧ G lo = some (.lst (natsV o)) ∧ G ds = some (.dK kvs) ∧ G lp = some (.lst (natsV p)) ∧ kvs.length ≤ o.length ∧
    (∀ k : Nat, (valV kvs (Sum.inl (k : Int))).isSome = true ↔ k ∈ o) ∧ o.Nodup ∧ (∀ k ∈ o, k < R.length) ∧ (∀ k ∈ p, k < R.length) ∧ p.length ≤ 3000 + 20 * o.length ∧ p.reverse.foldl (mt nb) o = fst.foldl (mt nb) (stt.foldl (mt nb) fx)) (fun _ G => (R.length - lenAt G lo) * 25 + lenAt G lp)
    ⟨fx, (stt ++ fst).reverse, kv2, none, none, rfl, s04, eo4, es4, e4, lk2, hk2, ndx, bx, (fun k hk => (List.mem_append.mp (List.mem_reverse.mp hk)).elim (bst k) (bf k)), by rw [List.length_reverse, List.length_append]; omega, by rw [List.reverse_reverse, List.foldl_append]⟩ ?_ ?_
  · rintro σ G ⟨o, p, kvs, v6, v8, rfl, sG, eo, es, ep, lk, hk, ndo, bo, bp, lpp, hfold⟩
    have lo100 := len_le ndo bo
    rcases List.eq_nil_or_concat p with rfl | ⟨p', i, epp⟩
    · refine ⟨_, rfl, false, .inl ⟨_, SqL.of ep, rfl⟩, iteF ⟨_, rfl, q lo G sG ?_⟩⟩
      have hfold : o = _ := hfold
      rw [eo, hfold]
    · rw [List.concat_eq_append] at epp
      subst epp
      have e0 : true = !(natsV (p' ++ [i])).isEmpty := by
        rw [show natsV (p' ++ [i]) = natsV p' ++ [.int (i : Int)] from natsV_app]
        cases natsV p' <;> rfl
      refine ⟨_, rfl, true, .inl ⟨_, SqL.of ep, e0⟩, iteT ?_⟩
      have hi : i < R.length := bp i (List.mem_append_right _ (List.mem_singleton.mpr rfl))
      have bp' : ∀ k ∈ p', k < R.length := fun k h => bp k (List.mem_append_left _ h)
      have e1 : natsV (p' ++ [i]) = natsV p' ++ [.int (i : Int)] := natsV_app
      have lpl : p'.length + 1 ≤ 3000 + 20 * o.length := by
        rw [List.length_append] at lpp
        exact lpp
      rw [List.reverse_append] at hfold
      have hfold : p'.reverse.foldl (mt nb) (mt nb o i) = _ := hfold
      have m0 : lenAt G lp = p'.length + 1 := by
        rw [lenAt_of ep, natsV_len, List.length_append]
        rfl
      have m1 : lenAt G lo = o.length := by rw [lenAt_of eo, natsV_len]
      refine ⟨_, rfl, .inl ⟨rfl, _, SqL.of ep⟩, lp, _, .int (i : Int), rfl, rfl, ep, by rw [e1, List.length_append]; simp, ?_⟩
      rw [e1, List.dropLast_concat]
      have sG1 : Same H (upd G lp (.lst (natsV p'))) := fun b u e => by rw [upd_ne (ne_of_none e nlp)]; exact sG _ _ e
      have eo1 : (upd G lp (.lst (natsV p'))) lo = some (.lst (natsV o)) := by rw [upd_ne lolp]; exact eo
      have es1 : (upd G lp (.lst (natsV p'))) ds = some (.dK kvs) := by rw [upd_ne dslp]; exact es
      have ep1 : (upd G lp (.lst (natsV p'))) lp = some (.lst (natsV p')) := upd_same
      generalize (upd G lp (.lst (natsV p'))) = G1 at sG1 eo1 es1 ep1
      by_cases m : i ∈ o
      · obtain ⟨v, ev⟩ := Option.isSome_iff_exists.mp ((hk i).mpr m)
        refine ⟨_, rfl, _, rfl, ds, _, rfl, DGet.at (k := Sum.inl (i : Int)) es1 ev, _, rfl, iteF ?_⟩
        rw [mt_in m] at hfold
        refine ⟨⟨o, p', kvs, _, v8, rfl, sG1, eo1, es1, ep1, lk, hk, ndo, bo, bp', by omega, hfold⟩, ?_⟩
        rw [lenAt_of eo1, lenAt_of ep1, natsV_len, natsV_len, m0, m1]
        omega
      · have ev : valV kvs (Sum.inl (i : Int)) = none := by
          cases e : valV kvs (Sum.inl (i : Int)) with
          | none => rfl
          | some v => exact absurd ((hk i).mp (by rw [e]; rfl)) m
        have dg : DGet G1 ds (kV (Sum.inl (i : Int))) none := by
          rw [← ev]
          exact DGet.k (k := Sum.inl (i : Int)) es1
        refine ⟨_, rfl, _, rfl, ds, _, rfl, dg, _, rfl, iteT ?_⟩
        refine ⟨_, rfl, _, rfl, ds, _, rfl, DPut.k (k := Sum.inl (i : Int)) es1 (lt_line (by omega)), ?_⟩
        have lods : lo ≠ ds := fun z => by rw [z, es] at eo; cases eo
        have sG2 : Same H (upd G1 ds (.dK (putK kvs (Sum.inl (i : Int)) (.bl true)))) := fun b u e => by rw [upd_ne (ne_of_none e nds)]; exact sG1 _ _ e
        have eo2 : (upd G1 ds (.dK (putK kvs (Sum.inl (i : Int)) (.bl true)))) lo = some (.lst (natsV o)) := by rw [upd_ne lods]; exact eo1
        have es2 : (upd G1 ds (.dK (putK kvs (Sum.inl (i : Int)) (.bl true)))) ds = some (.dK (putK kvs (Sum.inl (i : Int)) (.bl true))) := upd_same
        have ep2 : (upd G1 ds (.dK (putK kvs (Sum.inl (i : Int)) (.bl true)))) lp = some (.lst (natsV p')) := by rw [upd_ne dslp.symm]; exact ep1
        generalize (upd G1 ds (.dK (putK kvs (Sum.inl (i : Int)) (.bl true)))) = G2 at sG2 eo2 es2 ep2
        refine ⟨_, rfl, .inl ⟨rfl, _, SqL.of eo2⟩, _, rfl, lo, _, _, rfl, rfl, eo2, lt_line (by rw [natsV_len]; omega), ?_⟩
        have e9 : natsV (o ++ [i]) = natsV o ++ [.int (i : Int)] := natsV_app
        rw [← e9]
        have sG3 : Same H (upd G2 lo (.lst (natsV (o ++ [i])))) := fun b u e => by rw [upd_ne (ne_of_none e hlo)]; exact sG2 _ _ e
        have eo3 : (upd G2 lo (.lst (natsV (o ++ [i])))) lo = some (.lst (natsV (o ++ [i]))) := upd_same
        have es3 : (upd G2 lo (.lst (natsV (o ++ [i])))) ds = some (.dK (putK kvs (Sum.inl (i : Int)) (.bl true))) := by rw [upd_ne lods.symm]; exact es2
        have ep3 : (upd G2 lo (.lst (natsV (o ++ [i])))) lp = some (.lst (natsV p')) := by rw [upd_ne lolp.symm]; exact ep2
        generalize (upd G2 lo (.lst (natsV (o ++ [i])))) = G3 at sG3 eo3 es3 ep3
        obtain ⟨r, v, x1, x2, x3, x4, x5⟩ := nodeAt sG3 hi
        refine ⟨_, rfl, .inl ⟨rfl, _, SqL.of ep3⟩, ?_⟩
        refine ⟨_, rfl, _, rfl, pr, _, _, _, rfl, rfl, Same.tup sG3 hpr, x2, _, rfl, v, dp, r, rs, R.length, rfl, x3, x4, ok.pok, hpl.same sG3, fun l3 G4 n3 s34 hl3 => ?_⟩
        rw [← x5] at hl3
        refine ⟨l3, _, rfl, SqL.of hl3, fun l4 hl4 => ?_⟩
        have s45 := Same.new hl4 (.lst (natsV (nb i)).reverse)
        have sG5 := (sG3.trans s34).trans s45
        have eo5 := s45 _ _ (s34 _ _ eo3)
        have es5 := s45 _ _ (s34 _ _ es3)
        have ep5 := s45 _ _ (s34 _ _ ep3)
        have lnb := rn.l i
        refine ⟨lp, l4, _, _, rfl, rfl, ep5, upd_same, by rw [natsV_len, List.length_reverse, natsV_len, sizeLine_eq]; omega, ?_⟩
        generalize (upd G4 l4 (.lst (natsV (nb i)).reverse)) = G5 at sG5 eo5 es5 ep5 ⊢
        rw [natsV_rev, ← natsV_app]
        have nd2 : (o ++ [i]).Nodup := List.nodup_append.mpr ⟨ndo, by simp, fun a ha b hb e => m (by rw [List.mem_singleton.mp hb] at e; rw [← e]; exact ha)⟩
        have bd2 : ∀ k ∈ o ++ [i], k < R.length := fun j hj => by
          rcases List.mem_append.mp hj with q | q
          · exact bo j q
          · rw [List.mem_singleton.mp q]; exact hi
        have l2 := len_le nd2 bd2
        rw [List.length_append] at l2
        have l2 : o.length + 1 ≤ R.length := l2
        rw [mt_out rn m] at hfold
        have eo6 : (upd G5 lp (.lst (natsV (p' ++ (nb i).reverse)))) lo = some (.lst (natsV (o ++ [i]))) := by rw [upd_ne lolp]; exact eo5
        have ep6 : (upd G5 lp (.lst (natsV (p' ++ (nb i).reverse)))) lp = some (.lst (natsV (p' ++ (nb i).reverse))) := upd_same
        refine ⟨⟨o ++ [i], p' ++ (nb i).reverse, _, _, v8, rfl, fun b u e => by rw [upd_ne (ne_of_none e nlp)]; exact sG5 _ _ e, eo6, by rw [upd_ne dslp]; exact es5, ep6, ?_, fun k => ?_, nd2, bd2, fun k hk => ?_, ?_, ?_⟩, ?_⟩
        · have := putK_lenle (kvs := kvs) (k := Sum.inl (i : Int)) (y := V.bl true)
          rw [List.length_append]
          show _ ≤ o.length + 1
          omega
        · rw [isSome_put, hk, List.mem_append, List.mem_singleton]
          exact or_comm
        · rcases List.mem_append.mp hk with q | q
          · exact bp' k q
          · exact rn.n i k (List.mem_reverse.mp q)
        · rw [List.length_append, List.length_append, List.length_reverse]
          show _ ≤ 3000 + 20 * (o.length + 1)
          omega
        · rw [List.reverse_append, List.reverse_reverse, List.foldl_append]
          exact hfold
        · rw [lenAt_of eo6, lenAt_of ep6, natsV_len, natsV_len, m0, m1, List.length_append, List.length_append, List.length_reverse]
          show (R.length - (o.length + 1)) * 25 + (p'.length + (nb i).length) < _
          omega
  · rintro σ G Q1 Q2 h ⟨v, e, k, t, z⟩
    exact ⟨v, e, k, t, h _ _ z⟩
end
open ZG (Sq ItzG walk_zipG)
open DcS (dc_it)
/-! ### keys: what is reached stays within the order; the program's key -/
theorem foldl_mono {nb : Nat → List Nat} {f : List Nat → Nat → List Nat} (hf : ∀ b a, ∀ k ∈ b, k ∈ f b a) : ∀ (l b : List Nat), ∀ k ∈ b, k ∈ l.foldl f b
  | [], _, _, h => h
  | a :: l, b, k, h => foldl_mono (nb := nb) hf l (f b a) k (hf b a k h)
theorem meetF_mono {nb : Nat → List Nat} : ∀ (d i : Nat) (o : List Nat), ∀ k ∈ o, k ∈ meetF nb d i o
  | 0, _, _, _, h => h
  | d + 1, i, o, k, h => by
    rw [meetF]
    split
    · exact h
    · exact foldl_mono (nb := nb) (fun b a => meetF_mono d a b) _ _ k (List.mem_append_left _ h)
theorem meetF_mem {nb : Nat → List Nat} {d i : Nat} {o : List Nat} (h : 0 < d) : i ∈ meetF nb d i o := by
  cases d with
  | zero => exact absurd h (Nat.lt_irrefl _)
  | succ d =>
    rw [meetF]
    split
    · assumption
    · exact foldl_mono (nb := nb) (fun b a => meetF_mono d a b) _ _ i (List.mem_append_right _ (List.mem_singleton.mpr rfl))
theorem fold_mem {nb : Nat → List Nat} {d : Nat} (h : 0 < d) : ∀ (l b : List Nat), ∀ j ∈ l, j ∈ l.foldl (fun o j => meetF nb d j o) b
  | [], _, _, hj => by simp at hj
  | a :: l, b, j, hj => by
    rw [List.foldl_cons]
    rcases List.mem_cons.mp hj with rfl | hj
    · exact foldl_mono (nb := nb) (fun b a => meetF_mono d a b) _ _ _ (meetF_mem h)
    · exact fold_mem h l _ j hj
theorem fold_cl {nb : Nat → List Nat} {d : Nat} (hm : ∀ (i : Nat) (o : List Nat), ∀ k ∈ meetF nb d i o, k ∈ o ∨ ∀ j ∈ nb k, j ∈ meetF nb d i o) : ∀ (l b : List Nat), ∀ k ∈ l.foldl (fun o j => meetF nb d j o) b, k ∈ b ∨ ∀ j ∈ nb k, j ∈ l.foldl (fun o j => meetF nb d j o) b
  | [], _, _, h => .inl h
  | a :: l, b, k, h => by
    rw [List.foldl_cons] at h ⊢
    rcases fold_cl hm l _ k h with h | h
    · rcases hm a b k h with h | h
      · exact .inl h
      · exact .inr fun j hj => foldl_mono (nb := nb) (fun b a => meetF_mono d a b) _ _ j (h j hj)
    · exact .inr h
theorem meetF_cl {nb : Nat → List Nat} {N : Nat} {rk : Nat → Nat} (r : Ranked nb N rk) : ∀ (d i : Nat) (o : List Nat), rk i < d → ∀ k ∈ meetF nb d i o, k ∈ o ∨ ∀ j ∈ nb k, j ∈ meetF nb d i o
  | 0, _, _, h, _, _ => absurd h (Nat.not_lt_zero _)
  | d + 1, i, o, h, k, hk => by
    rw [meetF] at hk ⊢
    split at hk
    · rename_i m
      exact .inl hk
    · rename_i m
      rw [if_neg m]
      have gen : ∀ (l b : List Nat), (∀ j ∈ l, rk j < d) → ∀ k ∈ l.foldl (fun o j => meetF nb d j o) b, k ∈ b ∨ ∀ j ∈ nb k, j ∈ l.foldl (fun o j => meetF nb d j o) b := by
        intro l
        induction l with
        | nil => intro b _ k h; exact .inl h
        | cons a l ih =>
          intro b hl k h
          rw [List.foldl_cons] at h ⊢
          rcases ih _ (fun j hj => hl j (List.mem_cons_of_mem _ hj)) k h with h | h
          · rcases meetF_cl r d a b (hl a List.mem_cons_self) k h with h | h
            · exact .inl h
            · exact .inr fun j hj => foldl_mono (nb := nb) (fun b a => meetF_mono d a b) _ _ j (h j hj)
          · exact .inr h
      have hd : ∀ j ∈ nb i, rk j < d := fun j hj => by
        have := r.d i j hj
        omega
      rcases gen (nb i) (o ++ [i]) hd k hk with h | h
      · rcases List.mem_append.mp h with h | h
        · exact .inl h
        · rw [List.mem_singleton.mp h]
          refine .inr fun j hj => ?_
          have := hd j hj
          exact fold_mem (by omega) (nb i) _ j hj
      · exact .inr h
theorem order_closed {nb : Nat → List Nat} {N : Nat} {rk : Nat → Nat} (r : Ranked nb N rk) (fx fst : List Nat) : Closed nb (orderF nb fx fst) := by
  have c8 : ∀ (i : Nat) (o : List Nat), ∀ k ∈ meetF nb 8 i o, k ∈ o ∨ ∀ j ∈ nb k, j ∈ meetF nb 8 i o := fun i o => meetF_cl r 8 i o (r.b i)
  have c1 : Closed nb ((fx.flatMap nb).foldl (mt nb) fx) := fun i hi j hj => by
    rcases fold_cl c8 (fx.flatMap nb) fx i hi with h | h
    · exact fold_mem (by decide) (fx.flatMap nb) fx j (List.mem_flatMap.mpr ⟨i, h, hj⟩)
    · exact h j hj
  intro i hi j hj
  rcases fold_cl c8 fst _ i hi with h | h
  · exact foldl_mono (nb := nb) (fun b a => meetF_mono 8 a b) fst _ j (c1 i h j hj)
  · exact h j hj
theorem order_ok {nb : Nat → List Nat} {N : Nat} {rk : Nat → Nat} (r : Ranked nb N rk) {fx fst : List Nat} (nd : fx.Nodup) (b1 : ∀ i ∈ fx, i < N) (b2 : ∀ i ∈ fst, i < N) : (orderF nb fx fst).Nodup ∧ (∀ k ∈ orderF nb fx fst, k < N) ∧ ∀ k ∈ fst, k ∈ orderF nb fx fst := by
  have g1 := fold_ok r (fx.flatMap nb) (b := fx) (fun j hj => by
    obtain ⟨a, _, h⟩ := List.mem_flatMap.mp hj
    exact r.n a j h) nd b1
  have g2 := fold_ok r fst (b := (fx.flatMap nb).foldl (mt nb) fx) b2 g1.1 g1.2.1
  exact ⟨g2.1, g2.2.1, g2.2.2.2⟩
def vD : V → PyData
  | .bl b => .bool b
  | .int i => .int i
  | .str s => .str s
  | _ => .none
theorem vD_dp {K : PySem.W.Frag} {H : Hp} {v : V} (h : Flat3 v) : Dp K H v (vD v) := by
  rcases h with rfl | ⟨b, rfl⟩ | ⟨i, rfl⟩
  · exact .non
  · exact .bl _
  · exact .int _
theorem vD_dpAll {K : PySem.W.Frag} {H : Hp} : ∀ {vs : List V}, (∀ v ∈ vs, Flat3 v) → DpAll K H vs (vs.map vD)
  | [], _ => .nil
  | v :: vs, h => .cons (vD_dp (h v List.mem_cons_self)) (vD_dpAll fun u hu => h u (List.mem_cons_of_mem _ hu))
theorem nats_dpAll {K : PySem.W.Frag} {H : Hp} : ∀ ns : List Nat, DpAll K H (natsV ns) (ns.map fun k : Nat => PyData.int (k : Int))
  | [] => .nil
  | n :: ns => .cons (.int _) (nats_dpAll ns)
def recD (rs : List Rk) (R : List Rc) (o : List Nat) (k : Nat) : PyData := match R[k]? with
  | some r => .tuple [.str r.nm, .bool r.live, .tuple ((trL (flOf rs r.nm) r.vals o).map vD)]
  | none => .none
def keyD (rs : List Rk) (R : List Rc) (ks : List Kd) (vs : List V) (o : List Nat) : PyData :=
  .tuple [.tuple [.tuple ((trL ks vs o).map vD), .tuple (o.map (recD rs R o))], .tuple (o.map fun k : Nat => PyData.int (k : Int))]
theorem tr_flat {o : List Nat} {v : V} (h : Flat3 v) : Flat3 (trAt o v) := by
  rcases h with rfl | ⟨b, rfl⟩ | ⟨i, rfl⟩
  · exact .inl rfl
  · exact .inr (.inl ⟨b, rfl⟩)
  · exact .inr (.inr ⟨_, rfl⟩)
theorem trL_flat {ks : List Kd} {vs : List V} {o : List Nat} (h : ∀ v ∈ vs, Flat3 v) : ∀ v ∈ trL ks vs o, Flat3 v := fun v hv => by
  unfold trL at hv
  obtain ⟨k, hk, rfl⟩ := List.mem_map.mp hv
  rw [List.mem_range] at hk
  have g : Flat3 (vs.getD k .non) := by
    rw [List.getD_eq_getElem?_getD, List.getElem?_eq_getElem hk]
    exact h _ (List.getElem_mem hk)
  split
  · exact tr_flat g
  · exact g
theorem rc_dp {K : PySem.W.Frag} {H : Hp} {rs : List Rk} {R : List Rc} {o : List Nat} {k : Nat} {r : Rc} {v : V} (e : R[k]? = some r) (hf : ∀ v ∈ r.vals, Flat3 v) (h : RcAt K H v ⟨r.nm, r.live, trL (flOf rs r.nm) r.vals o⟩) : Dp K H v (recD rs R o k) := by
  obtain ⟨p, t, rfl, h1, h2⟩ := h
  unfold recD
  rw [e]
  exact .tup h1 (.cons (.str _) (.cons (.bl _) (.cons (.tup h2 (vD_dpAll (trL_flat hf))) .nil)))
theorem dpAll_of {K : PySem.W.Frag} {H : Hp} : ∀ {vs : List V} {ds : List PyData}, vs.length = ds.length → (∀ (i : Nat) (v : V) (d : PyData), vs[i]? = some v → ds[i]? = some d → Dp K H v d) → DpAll K H vs ds
  | [], [], _, _ => .nil
  | [], _ :: _, h, _ => by simp at h
  | _ :: _, [], h, _ => by simp at h
  | v :: vs, d :: ds, h, k => .cons (k 0 v d rfl rfl) (dpAll_of (by simpa using h) fun i v d e1 e2 => k (i + 1) v d (by simpa using e1) (by simpa using e2))
theorem mem_refsAt {vs : List V} {pl : List Nat} {i j : Nat} (hi : i ∈ pl) (e : vs.getD i .non = .int (j : Int)) : j ∈ refsAt vs pl := by
  unfold refsAt
  exact List.mem_filterMap.mpr ⟨i, hi, by rw [e]; rfl⟩
theorem refsAt_lt {vs : List V} {pl : List Nat} {n : Nat} (h : ∀ i ∈ pl, RefV n (vs.getD i .non)) : ∀ j ∈ refsAt vs pl, j < n := fun j hj => by
  unfold refsAt at hj
  obtain ⟨i, hi, e⟩ := List.mem_filterMap.mp hj
  rcases h i hi with h | ⟨m, h, hm⟩
  · rw [h] at e
    cases e
  · rw [h] at e
    have e : (m : Int).toNat = j := Option.some.inj e
    omega
structure VsOk (ks : List Kd) (n : Nat) (vs : List V) : Prop where
  l : vs.length = ks.length
  v : ∀ k, k < vs.length → (ks.getD k .flag).isRef = true → RefV n (vs.getD k .non)
  f : ∀ v ∈ vs, Flat3 v
  k : ks.length ≤ 100
theorem VsOk.pl {ks : List Kd} {n : Nat} {vs : List V} (h : VsOk ks n vs) : ∀ i ∈ refPl ks, i < vs.length ∧ RefV n (vs.getD i .non) := fun i hi => by
  have g := mem_refPl.mp hi
  exact ⟨by rw [h.l]; exact g.1, h.v i (by rw [h.l]; exact g.1) g.2⟩
theorem refPl_len {ks : List Kd} : (refPl ks).length ≤ ks.length := refTo_len
def spNumKey (K : PySem.W.Frag) : Sp := fun vs H Q _ => ∃ (p pk pv pr px : Addr) (rs : List Rk) (kxs us xs : List V) (ks : List Kd) (R : List Rc) (fx : List Nat) (rk : Nat → Nat), vs = [.ref p, .ref pk, .ref pv, .ref pr, .ref px] ∧ HpOk rs R rk ∧ PgAt K H p rs ∧ SqT K H pk kxs ∧ KdsAt K H kxs ks ∧ SqT K H pv us ∧ VsOk ks R.length us ∧ SqT K H pr xs ∧ RcsAt K H xs R ∧
  SqT K H px (natsV fx) ∧ fx.Nodup ∧ (∀ i ∈ fx, i < R.length) ∧ ∀ q H', Same H H' → Dp K H' (.ref q) (keyD rs R ks us (orderF (nbR rs R) fx (refsAt us (refPl ks)))) → Q (.ref q) H'
theorem keepT_lst {K : PySem.W.Frag} {H : Hp} {D : Addr} {acc : List V} {u : HO} (h : H D = some (.lst acc)) : KeepT K H (upd H D u) := fun p xs hp => by
  have ne : ∀ {w : HO}, H p = some w → (∀ ys, w ≠ .lst ys) → p ≠ D := fun e n z => by
    rw [z, h] at e
    exact n _ (Option.some.inj e).symm
  rcases hp with (q | ⟨o', q⟩) | q
  · exact .inl (.inl (by rw [upd_ne (ne q (fun _ z => nomatch z))]; exact q))
  · exact .inl (.inr ⟨o', by rw [upd_ne (ne q (fun _ z => nomatch z))]; exact q⟩)
  · exact .inr q
section
variable {P : Program} {w : World} {K : PySem.W.Frag} {mg : Str → Option Value} {base : Heap}
theorem ok_number_key (T : Txt w K mg) : FnOk P w K mg base CX0 4 T.a_number_key T.d_number_key p_number_key (spNumKey K) := by
  have g_reference_places := ok_reference_places (P := P) (w := w) (K := K) (base := base) T
  have g_places_in_records := ok_places_in_records (P := P) (w := w) (K := K) (base := base) T
  have g_visit_records := ok_visit_records (P := P) (w := w) (K := K) (base := base) T
  have g_referred := ok_referred (P := P) (w := w) (K := K) (base := base) T
  have g_translated_record := ok_translated_record (P := P) (w := w) (K := K) (base := base) T
  have g_translated := ok_translated (P := P) (w := w) (K := K) (base := base) T
  refine T.F_number_key.ok sc_number_key (fun vs H Q E h => ?_) (fun cdv A outer s H vs Q E hr h => ?_)
  · obtain ⟨p, pk, pvv, pr, px, rs, kxs, us, xs, ks, R, fx, rk, rfl, _⟩ := h
    rfl
  obtain ⟨p, pk, pvv, pr, px, rs, kxs, us, xs, ks, R, fx, rk, rfl, ok, hp, hpk, hk, hpv, vok, hpr, hrs, hpx, ndx, bx, q⟩ := h
  refine ⟨_, (pss_cons (ps_set (i := 5) sc_number_key.nd rfl (Or.inl rfl) (pe_call g_reference_places (hr.mono (by first | decide | omega)) rfl T.m_reference_places T.F_reference_places.kp T.b_reference_places .nil pass0 (pa_cons (pv 1) pa_nil)))
      (pss_cons (ps_set (i := 6) sc_number_key.nd rfl (Or.inr rfl) (pe_call g_places_in_records (hr.mono (by first | decide | omega)) rfl T.m_places_in_records T.F_places_in_records.kp T.b_places_in_records .nil pass0 (pa_cons (pv 0) pa_nil)))
      (pss_cons (ps_set (i := 7) sc_number_key.nd rfl (Or.inl rfl) (pe_call g_visit_records (hr.mono (by first | decide | omega)) rfl T.m_visit_records T.F_visit_records.kp T.b_visit_records .nil pass0 (pa_cons (pv 6) (pa_cons (pe_call g_referred (hr.mono (by first | decide | omega)) rfl T.m_referred T.F_referred.kp T.b_referred .nil pass0 (pa_cons (pv 2) (pa_cons (pv 5) pa_nil))) (pa_cons (pv 3) (pa_cons (pv 4) pa_nil))))))
      (pss_cons (ps_set (i := 8) sc_number_key.nd rfl (Or.inr rfl) (pe_dc (own := [("at", 9), ("index", 10)]) (g := gTup K 2 (gCons (gName 9) (gCons (gName 10) gNil))) (tt := tYes) rfl sc_number_key.nd (EnT.pi_enumG (by rfl) T.z_enumerate (pa_cons (pv 7) pa_nil)) (blkOk_by (own := [("at", 9), ("index", 10)]) (N := n_number_key) (sc := defScope s_number_key) (by decide +kernel)) (fun _ _ _ _ _ => (pg_tup rfl (pgs_cons (pg_name (i := 9) sc_number_key.nd rfl (Or.inl rfl)) (pgs_cons (pg_name (i := 10) sc_number_key.nd rfl (Or.inl rfl)) pgs_nil)))) (fun _ _ _ _ _ => pts_nil) (fun _ _ _ _ _ => (pv 10)) (fun _ _ _ _ _ => (pv 9))))
      (pss_cons (ps_setLc (i := 11) (own := [("index", 10)]) (g := gName 10) (tt := tYes) rfl sc_number_key.nd rfl rfl (sw_true rfl rfl rfl (by decide +kernel)) (pi_list (pv 7)) (blkOk_by (own := [("index", 10)]) (N := n_number_key) (sc := defScope s_number_key) (by decide +kernel)) (fun _ _ _ _ _ => (pg_name (i := 10) sc_number_key.nd rfl (Or.inl rfl))) (fun _ _ _ _ _ => pts_nil) (fun _ _ _ _ _ => (pe_call g_translated_record (hr.mono (by first | decide | omega)) rfl T.m_translated_record T.F_translated_record.kp T.b_translated_record .nil pass0 (pa_cons (pe_ix (show IxR _ (rIxT K) from ix_tup) (pv 3) (pv 10) (fun _ _ => rfl)) (pa_cons (pv 6) (pa_cons (pv 8) pa_nil))))))
      (pss_one (ps_ret (pe_tup (pa_cons (pe_tup (pa_cons (pe_call g_translated (hr.mono (by first | decide | omega)) rfl T.m_translated T.F_translated.kp T.b_translated .nil pass0 (pa_cons (pv 2) (pa_cons (pv 5) (pa_cons (pv 8) pa_nil)))) (pa_cons (pe_callTy call_tuple_of rfl T.z_tuple bt_tuple (pa_cons (pv 11) pa_nil)) pa_nil))) (pa_cons (pe_callTy call_tuple_of rfl T.z_tuple bt_tuple (pa_cons (pv 7) pa_nil)) pa_nil)))))))))), ?_⟩
  have lR := ok.ln
  refine ⟨_, rfl, true, pk, kxs, ks, rfl, hpk, hk, vok.k, fun l1 H1 s1 hl1 => ?_⟩
  refine ⟨_, rfl, p, rs, rfl, hp.keep (KeepT.of s1), ok.pok, fun dp H2 s2 hd2 => ?_⟩
  have s02 := s1.trans s2
  refine ⟨_, rfl, _, rfl, _, rfl, pvv, l1, us, refPl ks, R.length, rfl, Same.tup s02 hpv, s2 _ _ hl1, by have := refPl_len (ks := ks); have := vok.k; omega, vok.pl, fun l3 H3 n3 s3 hl3 => ?_⟩
  have s03 := s02.trans s3
  have bfst := refsAt_lt (vs := us) (pl := refPl ks) fun i hi => (vok.pl i hi).2
  have lfst : (refsAt us (refPl ks)).length ≤ 100 := by
    unfold refsAt
    have := List.length_filterMap_le (fun i => asNat (us.getD i .non)) (refPl ks)
    have := refPl_len (ks := ks)
    have := vok.k
    omega
  refine ⟨_, rfl, _, rfl, dp, l3, pr, px, refsAt us (refPl ks), fx, xs, rs, R, rk, rfl, ok, hd2.same s3, hl3, Same.tup s03 hpr, hrs.keep (KeepT.of s03), Same.tup s03 hpx, ndx, bx, bfst, lfst, fun lo H4 s4 hlo => ?_⟩
  have s04 := s03.trans s4
  have hl1 := s4 _ _ (s3 _ _ (s2 _ _ hl1))
  have hd4 := (hd2.same s3).same s4
  obtain ⟨ndo, bo, infst⟩ := order_ok ok.rn ndx bx bfst
  have clo := order_closed ok.rn fx (refsAt us (refPl ks))
  generalize orderF (nbR rs R) fx (refsAt us (refPl ks)) = o at *
  have lo100 := len_le ndo bo
  clear s4 s3 hl3 n3 hd2 s03 s2 s02 s1
  -- numbers
  refine ⟨_, rfl, false, lo, _, rfl, SqL.of hlo, fun D hD => ?_⟩
  refine dc_it EnT.walk_enumG (fun i G => Same H4 G ∧ ∃ kvs, G D = some (.dK kvs) ∧ kvs.length ≤ i ∧ ∀ j ∈ o.take i, valV kvs (Sum.inl (j : Int)) = some (.int (o.idxOf j : Nat))) ⟨Same.new hD _, [], upd_same, Nat.le_refl _, fun j hj => by simp at hj⟩ (fun i G _ P => Sq.same (t := false) P.1 (SqL.of hlo)) ?_ ?_
  · rintro i x G G' hi ⟨sG, kvs, eD, lk, hk2⟩ ⟨t1, u, v, rfl, ht, rfl, eu, ev⟩
    cases eu
    obtain ⟨k, ek, rfl⟩ := natsV_inv ev
    have hi2 := (List.getElem?_eq_some_iff.mp ek).1
    have st := Same.new ht (.tup [.int i, .int (k : Int)])
    have tk : o.take (i + 1) = o.take i ++ [k] := by
      rw [List.take_add_one, ek]
      rfl
    refine ⟨t1, _, rfl, SqT.of upd_same, rfl, _, _, rfl, _, _, rfl, rfl, ?_⟩
    refine ⟨rfl, tyes ?_⟩
    refine ⟨_, rfl, _, rfl, kvs, Sum.inl (k : Int), rfl, st _ _ eD, lt_line (by omega), fun b u e => by rw [upd_ne (ne_of_none e hD)]; exact st _ _ (sG _ _ e), _, upd_same, ?_, fun j hj => ?_⟩
    · have := putK_lenle (kvs := kvs) (k := Sum.inl (k : Int)) (y := V.int i)
      omega
    · rw [valV_put]
      by_cases e : j = k
      · subst e
        rw [if_pos rfl]
        have := (List.getElem?_eq_some_iff.mp ek).2
        rw [← this, ndo.idxOf_getElem i hi2]
      · rw [if_neg (fun z => e (by have := Sum.inl.inj z; omega))]
        rw [tk] at hj
        exact hk2 j ((List.mem_append.mp hj).resolve_right fun z => e (List.mem_singleton.mp z))
  rintro H5 ⟨s45, kvs, eD, lkv, hnum⟩
  rw [natsV_len, List.take_length] at hnum
  have hnum : NumAt kvs o := hnum
  have s05 := s04.trans s45
  -- kept
  refine ⟨_, rfl, lo, rfl, ⟨_, SqL.of (s45 _ _ hlo)⟩, fun D2 hD2 => ?_⟩
  refine lc_it (walk_list (xs := natsV o)) (fun i G => Same H5 G ∧ ∃ vs : List V, G D2 = some (.lst vs) ∧ vs.length = i ∧ ∀ (j : Nat) (v : V) (k : Nat) (r : Rc), vs[j]? = some v → o[j]? = some k → R[k]? = some r → RcAt K G v ⟨r.nm, r.live, trL (flOf rs r.nm) r.vals o⟩) ⟨Same.new hD2 _, [], upd_same, rfl, fun j v k r e => by simp at e⟩ (fun i G _ P => SqL.of (P.1 _ _ (s45 _ _ hlo))) ?_ ?_
  · rintro i x G G' hi ⟨sG, vs, eD2, lv, hv⟩ ⟨rfl, ex⟩
    obtain ⟨k, ek, rfl⟩ := natsV_inv ex
    have mk := List.mem_of_getElem? ek
    have hk := bo k mk
    have e1 : R[k]? = some R[k] := List.getElem?_eq_getElem hk
    have hk2 : k < xs.length := by rw [hrs.1]; exact hk
    have e2 : xs[k]? = some xs[k] := List.getElem?_eq_getElem hk2
    have sHG := s05.trans sG
    have hrc := (hrs.2 k _ _ e2 e1).keep (KeepT.of sHG)
    have rok := ok.rc _ (List.getElem_mem hk)
    have nbk := nbR_at (rs := rs) e1
    generalize R[k] = r at e1 hrc rok nbk
    generalize xs[k] = v at e2 hrc
    refine ⟨rfl, tyes ?_⟩
    refine ⟨_, rfl, _, rfl, pr, _, _, _, rfl, rfl, Same.tup sHG hpr, atI_nat e2, _, rfl, _, rfl, v, dp, D, r, rs, o, kvs, R.length, rfl, hrc, rok, ok.pok, hd4.same (s45.trans sG), sG _ _ eD, hnum, fun m hm hrm => ?_, fun u H6 s6 hu => ?_⟩
    · rcases rok.v m hm hrm with h | ⟨j, h, _⟩
      · exact .inl h
      · refine .inr ⟨j, h, clo k mk j ?_⟩
        rw [nbk]
        cases hl : r.live with
        | true =>
          rw [if_pos rfl]
          exact mem_refsAt (mem_refPl.mpr ⟨by rw [← rok.l hl]; exact hm, hrm⟩) h
        | false =>
          have := rok.d hl
          rw [this] at hm
          exact absurd hm (Nat.not_lt_zero _)
    · have eD6 := s6 _ _ eD2
      refine ⟨vs, eD6, lt_line (by rw [natsV_len] at hi; omega), fun b o e => by rw [upd_ne (ne_of_none e hD2)]; exact s6 _ _ (sG _ _ e), _, upd_same, by rw [List.length_append, lv]; rfl, fun j v k' r' e3 e4 e5 => ?_⟩
      by_cases hj : j < i
      · rw [List.getElem?_append_left (by omega)] at e3
        exact ((hv j v k' r' e3 e4 e5).keep (KeepT.of s6)).keep (keepT_lst eD6)
      · rw [List.getElem?_append_right (by omega)] at e3
        have hji : j = i := by
          have := (List.getElem?_eq_some_iff.mp e3).1
          simp at this
          omega
        subst hji
        rw [lv, Nat.sub_self] at e3
        cases e3
        rw [ek] at e4
        cases e4
        rw [e1] at e5
        cases e5
        exact hu.keep (keepT_lst eD6)
  rintro H6 ⟨s56, vs, eD2, lv, hv⟩
  rw [natsV_len] at lv
  have s06 := s05.trans s56
  have hlo6 := s56 _ _ (s45 _ _ hlo)
  -- the values
  refine ⟨_, rfl, _, rfl, _, rfl, pvv, l1, D, us, ks, o, kvs, rfl, Same.tup s06 hpv, s56 _ _ (s45 _ _ hl1), vok.l, vok.k, s56 _ _ eD, hnum, fun i hi => ?_, fun t1 H7 s7 ht1 => ?_⟩
  · rcases (vok.pl i hi).2 with h | ⟨j, h, _⟩
    · exact .inl h
    · exact .inr ⟨j, h, infst j (mem_refsAt hi h)⟩
  have eD7 := s7 _ _ eD2
  have s07 := s06.trans s7
  refine ⟨_, rfl, D2, _, rfl, .inl ⟨SqL.of eD7, fun t2 ht2 => ⟨by show 2 ≤ sizeLine; decide, fun t3 ht3 => ?_⟩⟩⟩
  have k2 := Same.new ht2 (.tup vs)
  have k3 := Same.new ht3 (.tup [.ref t1, .ref t2])
  have hlo9 := k3 _ _ (k2 _ _ (s7 _ _ hlo6))
  refine ⟨_, rfl, lo, _, rfl, .inl ⟨SqL.of hlo9, fun t4 ht4 => ⟨by show 2 ≤ sizeLine; decide, fun t5 ht5 => ?_⟩⟩⟩
  have k4 := Same.new ht4 (.tup (natsV o))
  have k5 := Same.new ht5 (.tup [.ref t3, .ref t4])
  have k35 := (k3.trans k4).trans k5
  have k25 := k2.trans k35
  refine q t5 _ (s07.trans k25) ?_
  have d1 : Dp K _ (.ref t1) (.tuple ((trL ks us o).map vD)) := .tup (SqT.of (k25 _ _ ht1)) (vD_dpAll (trL_flat vok.f))
  have d2 : Dp K _ (.ref t2) (.tuple (o.map (recD rs R o))) := .tup (SqT.of (k35 _ _ upd_same)) (dpAll_of (by rw [List.length_map]; exact lv) fun i v d e1 e2 => by
    rw [List.getElem?_map] at e2
    cases ei : o[i]? with
    | none => rw [ei] at e2; cases e2
    | some k =>
      rw [ei] at e2
      cases e2
      have hk := bo k (List.mem_of_getElem? ei)
      have er : R[k]? = some R[k] := List.getElem?_eq_getElem hk
      exact rc_dp er (ok.rc _ (List.getElem_mem hk)).f ((hv i v k _ e1 ei er).keep (KeepT.of (s7.trans k25))))
  have d4 : Dp K _ (.ref t4) (.tuple (o.map fun k : Nat => PyData.int (k : Int))) := .tup (SqT.of (k5 _ _ upd_same)) (nats_dpAll o)
  have d3 : Dp K _ (.ref t3) (.tuple [.tuple ((trL ks us o).map vD), .tuple (o.map (recD rs R o))]) := .tup (SqT.of ((k4.trans k5) _ _ upd_same)) (.cons d1 (.cons d2 .nil))
  exact .tup (SqT.of upd_same) (.cons d3 (.cons d4 .nil))
end
open ZG (Sq ItzG walk_zipG)
open DcS (dc_it)
/-! ### keys: the law's own walk and key -/
theorem inV_nat {i : Nat} : ∀ o : List Nat, inV (.int (i : Int)) (natsV o) = decide (i ∈ o)
  | [] => rfl
  | x :: o => by
    have ih := inV_nat (i := i) o
    unfold inV natsV at *
    rw [List.map_cons, List.any_cons, ih]
    show (((x : Nat) : Int) == (i : Int) || decide (i ∈ o)) = decide (i ∈ x :: o)
    by_cases h : x = i
    · subst h
      simp
    · have h1 : (((x : Nat) : Int) == (i : Int)) = false := beq_eq_false_iff_ne.mpr fun z => h (by omega)
      have h2 : i ≠ x := fun e => h e.symm
      rw [h1, Bool.false_or]
      simp [h2]
theorem flatN (o : List Nat) : (natsV o).all flatV = true := by
  unfold natsV
  rw [List.all_eq_true]
  intro v hv
  obtain ⟨i, _, rfl⟩ := List.mem_map.mp hv
  rfl
theorem idx_firstN : ∀ (o : List Nat) {j i : Nat} {z : Nat}, j < o.idxOf i → o[j]? = some z → z ≠ i
  | [], _, _, _, _, h => by simp at h
  | a :: o, j, i, z, h, e => fun w => by
    rw [List.idxOf_cons] at h
    by_cases c : a = i
    · rw [c] at h
      simp at h
    · have c1 : (a == i) = false := beq_eq_false_iff_ne.mpr c
      rw [c1] at h
      cases j with
      | zero =>
        cases e
        exact c w
      | succ j => exact idx_firstN o (j := j) (i := i) (z := z) (by simpa using h) (by simpa using e) w
def RowAt (a : Addr) (H : Hp) (v : V) (r : Rc) : Prop := ∃ p l, v = .ref p ∧ p ≠ a ∧ l ≠ a ∧ H p = some (.lst [.str r.nm, .bl r.live, .ref l]) ∧ H l = some (.lst r.vals)
def FldAt (K : PySem.W.Frag) (H : Hp) (kf : List (Key × V)) (rs : List Rk) : Prop := ∀ r ∈ rs, ∃ p, valV kf (Sum.inr r.1) = some (.ref p) ∧ FdAt K H p r.2
structure RunE (K : PySem.W.Frag) (a : Addr) (H : Hp) (d : Addr) (rs : List Rk) (R : List Rc) (kvs kf : List (Key × V)) (lr df : Addr) (rows : List V) : Prop where
  nd : d ≠ a
  nl : lr ≠ a
  nf : df ≠ a
  hd : H d = some (.dK kvs)
  kr : valV kvs (Sum.inr "records") = some (.ref lr)
  kk : valV kvs (Sum.inr "fields") = some (.ref df)
  hl : H lr = some (.lst rows)
  lr : rows.length = R.length
  rw : ∀ (i : Nat) (v : V) (r : Rc), rows[i]? = some v → R[i]? = some r → RowAt a H v r
  hf : H df = some (.dK kf)
  fl : FldAt K H kf rs
def RunAt (K : PySem.W.Frag) (a : Addr) (H : Hp) (d : Addr) (rs : List Rk) (R : List Rc) : Prop := ∃ kvs kf lr df rows, RunE K a H d rs R kvs kf lr df rows
theorem RowAt.but {a : Addr} {H H' : Hp} {v : V} {r : Rc} (b : But a H H') (h : RowAt a H v r) : RowAt a H' v r := by
  obtain ⟨p, l, e, n1, n2, h1, h2⟩ := h
  exact ⟨p, l, e, n1, n2, b _ _ n1 h1, b _ _ n2 h2⟩
theorem FldAt.keep {K : PySem.W.Frag} {H H' : Hp} {kf : List (Key × V)} {rs : List Rk} (s : KeepT K H H') (h : FldAt K H kf rs) : FldAt K H' kf rs := fun r hr => by
  obtain ⟨p, e, g⟩ := h r hr
  exact ⟨p, e, g.keep s⟩
theorem RunE.but {K : PySem.W.Frag} {a : Addr} {H H' : Hp} {d : Addr} {rs : List Rk} {R : List Rc} {kvs kf : List (Key × V)} {lr df : Addr} {rows : List V} (b : But a H H') (k : KeepT K H H') (h : RunE K a H d rs R kvs kf lr df rows) : RunE K a H' d rs R kvs kf lr df rows :=
  ⟨h.nd, h.nl, h.nf, b _ _ h.nd h.hd, h.kr, h.kk, b _ _ h.nl h.hl, h.lr, fun i v r e1 e2 => (h.rw i v r e1 e2).but b, b _ _ h.nf h.hf, h.fl.keep k⟩
theorem RunAt.but {K : PySem.W.Frag} {a : Addr} {H H' : Hp} {d : Addr} {rs : List Rk} {R : List Rc} (b : But a H H') (k : KeepT K H H') (h : RunAt K a H d rs R) : RunAt K a H' d rs R := by
  obtain ⟨kvs, kf, lr, df, rows, h⟩ := h
  exact ⟨kvs, kf, lr, df, rows, h.but b k⟩
theorem RunAt.same {K : PySem.W.Frag} {a : Addr} {H H' : Hp} {d : Addr} {rs : List Rk} {R : List Rc} (s : Same H H') (h : RunAt K a H d rs R) : RunAt K a H' d rs R := h.but (But.of_same s) (KeepT.of s)
/-- another address that nothing stood at -/
theorem RunAt.avoid {K : PySem.W.Frag} {a b : Addr} {H : Hp} {d : Addr} {rs : List Rk} {R : List Rc} (n : H b = none) (h : RunAt K a H d rs R) : RunAt K b H d rs R := by
  obtain ⟨kvs, kf, lr, df, rows, h⟩ := h
  exact ⟨kvs, kf, lr, df, rows, ne_of_none h.hd n, ne_of_none h.hl n, ne_of_none h.hf n, h.hd, h.kr, h.kk, h.hl, h.lr, fun i v r e1 e2 => by
    obtain ⟨p, l, e, _, _, h1, h2⟩ := h.rw i v r e1 e2
    exact ⟨p, l, e, ne_of_none h1 n, ne_of_none h2 n, h1, h2⟩, h.hf, h.fl⟩
def spMeet (K : PySem.W.Frag) (d : Nat) : Sp := fun vs H Q _ => ∃ (dr lo : Addr) (i : Nat) (o : List Nat) (rs : List Rk) (R : List Rc) (rk : Nat → Nat), vs = [.ref dr, .int (i : Int), .ref lo] ∧ HpOk rs R rk ∧ RunAt K lo H dr rs R ∧ H lo = some (.lst (natsV o)) ∧ o.Nodup ∧ (∀ k ∈ o, k < R.length) ∧ i < R.length ∧ rk i < d ∧
  ∀ H', But lo H H' → H' lo = some (.lst (natsV (meetF (nbR rs R) d i o))) → Q .non H'
def spFollow (K : PySem.W.Frag) (d : Nat) : Sp := fun vs H Q _ => ∃ (dr lo : Addr) (i : Nat) (o : List Nat) (rs : List Rk) (R : List Rc) (rk : Nat → Nat), vs = [.ref dr, .int (i : Int), .ref lo] ∧ HpOk rs R rk ∧ RunAt K lo H dr rs R ∧ H lo = some (.lst (natsV o)) ∧ o.Nodup ∧ (∀ k ∈ o, k < R.length) ∧ i < R.length ∧ (∀ j ∈ nbR rs R i, rk j < d) ∧
  ∀ H', But lo H H' → H' lo = some (.lst (natsV ((nbR rs R i).foldl (fun o j => meetF (nbR rs R) d j o) o))) → Q .non H'
def spRenum (K : PySem.W.Frag) : Sp := fun vs H Q _ => ∃ (v u : V) (lo : Addr) (kd : Kd) (o : List Nat), vs = [v, u, .ref lo] ∧ KdAt K H v kd ∧ H lo = some (.lst (natsV o)) ∧ (kd.isRef = true → RefO o u) ∧ (kd.isRef = false → Flat3 u) ∧ Q (if kd.isRef then trAt o u else u) H
theorem But.keepT {K : PySem.W.Frag} {D : Addr} {H H' : Hp} {acc : List V} (b : But D H H') (h : H D = some (.lst acc)) : KeepT K H H' := fun p xs hp => by
  have ne : ∀ {w : HO}, H p = some w → (∀ ys, w ≠ .lst ys) → p ≠ D := fun e n z => by
    rw [z, h] at e
    exact n _ (Option.some.inj e).symm
  rcases hp with (q | ⟨o', q⟩) | q
  · exact .inl (.inl (b _ _ (ne q (fun _ z => nomatch z)) q))
  · exact .inl (.inr ⟨o', b _ _ (ne q (fun _ z => nomatch z)) q⟩)
  · exact .inr q
theorem refsAt_succ {vs : List V} {ks : List Kd} {k : Nat} : refsAt vs (refTo ks (k + 1)) = if (ks.getD k .flag).isRef then refsAt vs (refTo ks k) ++ (match asNat (vs.getD k .non) with | some j => [j] | none => []) else refsAt vs (refTo ks k) := by
  rw [refTo_succ]
  split
  · unfold refsAt
    rw [List.filterMap_append]
    congr 1
    rw [List.filterMap_cons]
    cases asNat (vs.getD k .non) <;> rfl
  · rfl
theorem foldd_ok {nb : Nat → List Nat} {N : Nat} {rk : Nat → Nat} (r : Ranked nb N rk) (d : Nat) : ∀ (l : List Nat) {b : List Nat}, (∀ j ∈ l, j < N) → b.Nodup → (∀ k ∈ b, k < N) → (l.foldl (fun o j => meetF nb d j o) b).Nodup ∧ (∀ k ∈ l.foldl (fun o j => meetF nb d j o) b, k < N) ∧ True
  | [], _, _, h, k => ⟨h, k, trivial⟩
  | a :: l, b, hl, hb, kb => by
    rw [List.foldl_cons]
    have g := meetF_ok r d (hl a List.mem_cons_self) hb kb
    exact foldd_ok r d l (fun j hj => hl j (List.mem_cons_of_mem _ hj)) g.1 g.2.1
theorem fn_vac {P : Program} {w : World} {K : PySem.W.Frag} {mg : Str → Option Value} {base : Heap} {k : Nat} {f : Addr} {fd : FuncData} {ps : List Str} {sp : Sp} (no : ∀ vs H Q E, ¬ sp vs H Q E) : FnOk P w K mg base CX0 k f fd ps sp :=
  ⟨fun vs H Q E h => absurd h (no vs H Q E), fun A outer s H args us vs Q E _ _ _ _ h => absurd h (no vs H Q E)⟩
section
variable {P : Program} {w : World} {K : PySem.W.Frag} {mg : Str → Option Value} {base : Heap}
theorem ok_l_renumbered (T : Txt w K mg) : FnOk P w K mg base CX0 1 T.a_l_renumbered T.d_l_renumbered p_l_renumbered (spRenum K) := by
  refine T.F_l_renumbered.ok sc_l_renumbered (fun vs H Q E h => ?_) (fun cdv A outer s H vs Q E hr h => ?_)
  · obtain ⟨v, u, lo, kd, o, rfl, _⟩ := h
    rfl
  obtain ⟨v, u, lo, kd, o, rfl, ⟨p, rfl, hp⟩, ho, h1, h2, q⟩ := h
  refine ⟨_, (pss_cons (ps_if (PW.pt (pw_and (pt_cmpR op_eq (pe_ix ix_tup (pv 0) pe_int (fun _ _ => rfl)) pe_str (nomark _)) (pw_and1 (pt_cmpR op_notN (pv 1) pe_non (nomark _))))) (pss_one (ps_ret (pe_bm PySem.F.plainAttrs_list PySem.F.slot_list_index PySem.F.type_list_index mt_index (pv 2) (pa_cons (pv 1) pa_nil)))) pss_nil)
      (pss_one (ps_ret (pv 1)))), ?_⟩
  cases kd with
  | flag =>
    rw [if_neg (show ¬ Kd.flag.isRef = true by decide)] at q
    exact ⟨_, rfl, p, _, _, _, rfl, rfl, hp, rfl, rfl, _, rfl, ifF (by decide +kernel) (iteF ⟨_, rfl, q⟩)⟩
  | num a b =>
    rw [if_neg (show ¬ (Kd.num a b).isRef = true from fun z => by cases z)] at q
    exact ⟨_, rfl, p, _, _, _, rfl, rfl, hp, rfl, rfl, _, rfl, ifF (by decide +kernel) (iteF ⟨_, rfl, q⟩)⟩
  | ref s =>
    rw [if_pos (show (Kd.ref s).isRef = true from rfl)] at q
    refine ⟨_, rfl, p, _, _, _, rfl, rfl, hp, rfl, rfl, _, rfl, ifT (by decide +kernel) ?_⟩
    rcases h1 rfl with rfl | ⟨j, rfl, hj⟩
    · exact ⟨_, rfl, rfl, _, rfl, ifF (by decide) ⟨_, rfl, q⟩⟩
    · refine ⟨_, rfl, rfl, _, rfl, ifT (by rw [decide_eq_false (fun z => by cases z)]; rfl) ?_⟩
      have li := List.idxOf_lt_length_iff.mpr hj
      refine ⟨_, rfl, .inl ⟨rfl, _, SqL.of ho⟩, _, rfl, lo, _, .int (j : Int), o.idxOf j, .int (j : Int), rfl, rfl, SqL.of ho, rfl, flatN o, natsV_get (by rw [List.getElem?_eq_getElem li, List.getElem_idxOf]), beq_self_eq_true ((j : Int)), fun m z' hm hz' => ?_, q⟩
      obtain ⟨y, ey, rfl⟩ := natsV_inv hz'
      have := idx_firstN o hm ey
      exact beq_eq_false_iff_ne.mpr fun w => this (by omega)
end
open ZG (Sq ItzG walk_zipG)
open DcS (dc_it)
/-! ### keys: the law's own key -/
def spLKey (K : PySem.W.Frag) : Sp := fun vs H Q _ => ∃ (dr kl vl xl a : Addr) (rs : List Rk) (R : List Rc) (kxs us : List V) (ks : List Kd) (fx : List Nat) (rk : Nat → Nat), vs = [.ref dr, .ref kl, .ref vl, .ref xl] ∧ HpOk rs R rk ∧ RunAt K a H dr rs R ∧ H kl = some (.lst kxs) ∧ KdsAt K H kxs ks ∧ H vl = some (.lst us) ∧ VsOk ks R.length us ∧ H xl = some (.lst (natsV fx)) ∧ fx.Nodup ∧ (∀ i ∈ fx, i < R.length) ∧
  ∀ q H', Same H H' → Dp K H' (.ref q) (keyD rs R ks us (orderF (nbR rs R) fx (refsAt us (refPl ks)))) → Q (.ref q) H'
theorem kd_head (kd : Kd) : ∃ s0 rest, kd.vals = .str s0 :: rest ∧ (decide (V.str s0 = V.str "ref") = kd.isRef) := by
  cases kd with
  | flag => exact ⟨_, _, rfl, by decide +kernel⟩
  | ref s => exact ⟨_, _, rfl, show decide (V.str (Str.ofString "ref") = V.str (Str.ofString "ref")) = true by decide +kernel⟩
  | num lo hi => exact ⟨_, _, rfl, show decide (V.str (Str.ofString "num") = V.str (Str.ofString "ref")) = false by decide +kernel⟩
theorem getD_some {xs : List V} {k : Nat} (h : k < xs.length) : xs[k]? = some (xs.getD k .non) := by
  rw [List.getD_eq_getElem?_getD, List.getElem?_eq_getElem h]
  rfl
def trTo (ks : List Kd) (vs : List V) (o : List Nat) (n : Nat) : List V := (List.range n).map fun k => if (ks.getD k .flag).isRef then trAt o (vs.getD k .non) else vs.getD k .non
theorem trTo_succ {ks : List Kd} {vs : List V} {o : List Nat} {n : Nat} : trTo ks vs o (n + 1) = trTo ks vs o n ++ [if (ks.getD n .flag).isRef then trAt o (vs.getD n .non) else vs.getD n .non] := by
  unfold trTo
  rw [List.range_succ, List.map_append]
  rfl
open ZG (Sq ItzG walk_zipG)
open DcS (dc_it)
/-! ### the names of the draws: twenty texts in one of four styles -/
def numS (i : Int) : Str := Str.ofString (toString i)
theorem len_app (x y : Str) : (x ++ y).length = x.length + y.length := Array.size_append
def lettersL : List Nat := ("bcdeghijklmnopqrtuvw" : Str).cps.toList
def nmW (st : Int) (k : Nat) : Str :=
  if st = 3 then ("n" : Str) ++ numS ((k : Int) * (k : Int) + 3)
  else if st = 2 then ("zz" : Str) ++ ⟨#[lettersL.getD k 0]⟩
  else if st = 1 then (⟨#[lettersL.getD k 0]⟩ : Str) ++ ("q7" : Str)
  else ⟨#[lettersL.getD k 0]⟩
def namesOf (st : Int) : List Str := (List.range 20).map (nmW st)
theorem numS_short {i : Int} (h : -1000000000 ≤ i ∧ i ≤ 1000000000) : (numS i).length ≤ 11 := by
  have e := int_text_length_le10 (a := i) (k := 10) (by decide) (by omega)
  unfold numS
  rw [ofString_length]
  exact e
theorem log_short {i : Int} (h : -1000000000 ≤ i ∧ i ≤ 1000000000) : i.natAbs.log2 < 1920 := by
  by_cases z : i.natAbs = 0
  · rw [z]
    decide
  · refine (Nat.log2_lt z).mpr (Nat.lt_of_lt_of_le (m := 2 ^ 32) ?_ (Nat.pow_le_pow_right (by decide) (by decide)))
    omega
def spNames : Sp := fun vs H Q _ => ∃ a : Addr, vs = [.ref a] ∧ Src H a ∧ ∀ (st : Int) (p : Addr) (H' : Hp), Stp a H H' → H p = none → 0 ≤ st → st < 4 → H' p = some (.lst ((namesOf st).map V.str)) → Q (.ref p) H'
section
variable {P : Program} {w : World} {K : PySem.W.Frag} {mg : Str → Option Value} {base : Heap}
theorem ok_l_names (T : Txt w K mg) : FnOk P w K mg base CX0 2 T.a_l_names T.d_l_names p_l_names spNames := by
  have g_l_pick := ok_l_pick (P := P) (w := w) (base := base) T
  refine T.F_l_names.ok sc_l_names (fun vs H Q E h => ?_) (fun cdv A outer s H vs Q E hr h => ?_)
  · obtain ⟨a, rfl, _⟩ := h
    rfl
  obtain ⟨a, rfl, hS, q⟩ := h
  refine ⟨_, (pss_cons (ps_set (i := 1) sc_l_names.nd rfl (Or.inl rfl) (pe_call g_l_pick (hr.mono (by first | decide | omega)) rfl T.m_l_pick T.F_l_pick.kp T.b_l_pick .nil pass0 (pa_cons (pv 0) (pa_cons pe_int pa_nil))))
      (pss_cons (ps_set (i := 2) sc_l_names.nd rfl (Or.inl rfl) (pe_lst pa_nil))
      (pss_cons (ps_for PassesOwn.never rfl (pi_range1 rfl T.z_range (pa_cons pe_int pa_nil)) (pg_name (i := 3) sc_l_names.nd rfl (Or.inl rfl))
        (pss_cons (ps_set (i := 4) sc_l_names.nd rfl (Or.inl rfl) (pe_ix ix_str pe_str (pv 3) (fun _ _ => rfl)))
      (C8.pss_cut (ps_if (pt_cmpR op_eq (pv 1) pe_int (nomark _)) (pss_one (ps_set (i := 4) sc_l_names.nd rfl (Or.inl rfl) (pe_op op_add_str (pv 4) pe_str))) pss_nil)
      (C8.pss_cut (ps_if (pt_cmpR op_eq (pv 1) pe_int (nomark _)) (pss_one (ps_set (i := 4) sc_l_names.nd rfl (Or.inl rfl) (pe_op op_add_str pe_str (pv 4)))) pss_nil)
      (C8.pss_cut (ps_if (pt_cmpR op_eq (pv 1) pe_int (nomark _)) (pss_one (ps_set (i := 4) sc_l_names.nd rfl (Or.inl rfl) (pe_op op_add_str pe_str (pe_callTy call_str_int rfl T.z_str bt_str (pa_cons (pe_op op_add (pe_op op_mul (pv 3) (pv 3)) pe_int) pa_nil))))) pss_nil)
      (pss_one (ps_expr (pe_bm PySem.F.plainAttrs_list PySem.F.slot_list_append PySem.F.type_list_append mt_append (pv 2) (pa_cons (pv 4) pa_nil)))))))))
      (pss_one (ps_ret (pv 2)))))), ?_⟩
  refine ⟨_, rfl, a, 4, rfl, hS, by decide, fun st H1 st1 s0 s1 => ?_⟩
  refine ⟨by show 0 ≤ sizeLine; decide, fun l hl => ?_⟩
  have n0 : H l = none := st1.free hl
  refine ⟨20, rfl, by decide, by decide, for_range (lo := 0) (n := 20) (fun i σ H' => Stp a H H' ∧ H' l = some (.lst ((List.range i).map fun k => V.str (nmW st k))) ∧ ∃ v1 v2 : Option V, σ = [some (.ref a), some (.int st), some (.ref l), v1, v2]) ⟨st1.new hl, upd_same, none, none, rfl⟩ ?_ ?_⟩
  · rintro i σ H' hi ⟨sti, hli, v1, v2, rfl⟩
    have hi' : (0 + (i : Int)).toNat < ("bcdeghijklmnopqrtuvw" : Str).cps.toList.length := by
      show (0 + (i : Int)).toNat < 20
      omega
    have e0 := atI_int (xs := ("bcdeghijklmnopqrtuvw" : Str).cps.toList) (r := 0 + (i : Int)) (by omega) hi'
    have e1 : ("bcdeghijklmnopqrtuvw" : Str).cps.toList[(0 + (i : Int)).toNat] = lettersL.getD i 0 := by
      have z : (0 + (i : Int)).toNat = i := by omega
      have hi2 : i < lettersL.length := by show i < 20; exact hi
      show lettersL[(0 + (i : Int)).toNat]'_ = _
      rw [List.getD_eq_getElem?_getD, List.getElem?_eq_getElem hi2]
      show _ = lettersL[i]
      congr 1
    rw [e1] at e0
    refine ⟨_, rfl, _, _, _, rfl, rfl, by decide +kernel, e0, ?_⟩
    generalize ec : lettersL.getD i 0 = c
    refine ⟨fun σ H2 => H2 = H' ∧ σ = [some (.ref a), some (.int st), some (.ref l), some (.int (0 + (i : Int))), some (.str (if st = 1 then (⟨#[c]⟩ : Str) ++ ("q7" : Str) else ⟨#[c]⟩))], ⟨_, rfl, rfl, _, rfl, ?_⟩, ?_⟩
    · refine ite2 (fun h => ?_) (fun h => ?_)
      · have h1 : st = 1 := V.int.inj (of_decide_eq_true h)
        refine ⟨_, rfl, _, _, rfl, rfl, (by show 1 + 2 ≤ sizeLine; decide), rfl, ?_⟩
        rw [if_pos h1]
        rfl
      · have h1 : ¬ st = 1 := fun z => h (decide_eq_true (congrArg V.int z))
        refine ⟨rfl, ?_⟩
        rw [if_neg h1]
        rfl
    rintro σ H2 ⟨rfl, rfl⟩
    refine ⟨fun σ H3 => H3 = H2 ∧ σ = [some (.ref a), some (.int st), some (.ref l), some (.int (0 + (i : Int))), some (.str (if st = 2 then ("zz" : Str) ++ ⟨#[c]⟩ else if st = 1 then (⟨#[c]⟩ : Str) ++ ("q7" : Str) else ⟨#[c]⟩))], ⟨_, rfl, rfl, _, rfl, ?_⟩, ?_⟩
    · refine ite2 (fun h => ?_) (fun h => ?_)
      · have h1 : st = 2 := V.int.inj (of_decide_eq_true h)
        subst h1
        refine ⟨_, rfl, _, _, rfl, rfl, ?_, rfl, rfl⟩
        rw [if_neg (by decide)]
        show 2 + 1 ≤ sizeLine
        decide
      · have h1 : ¬ st = 2 := fun z => h (decide_eq_true (congrArg V.int z))
        refine ⟨rfl, ?_⟩
        rw [if_neg h1]
    rintro σ H3 ⟨rfl, rfl⟩
    refine ⟨fun σ H4 => H4 = H3 ∧ σ = [some (.ref a), some (.int st), some (.ref l), some (.int (0 + (i : Int))), some (.str (nmW st i))], ⟨_, rfl, rfl, _, rfl, ?_⟩, ?_⟩
    · refine ite2 (fun h => ?_) (fun h => ?_)
      · have h1 : st = 3 := V.int.inj (of_decide_eq_true h)
        subst h1
        have hb : ((0 + (i : Int)) * (0 + (i : Int)) + 3) = ((i : Int) * (i : Int) + 3) := by rw [Int.zero_add]
        have hsq : 0 ≤ (i : Int) * (i : Int) ∧ (i : Int) * (i : Int) ≤ 400 := by
          refine ⟨Int.mul_nonneg (by omega) (by omega), ?_⟩
          exact Int.le_trans (Int.mul_le_mul (by omega : (i : Int) ≤ 20) (by omega : (i : Int) ≤ 20) (by omega) (by decide)) (by decide)
        have hbd : -1000000000 ≤ (i : Int) * (i : Int) + 3 ∧ (i : Int) * (i : Int) + 3 ≤ 1000000000 := by omega
        refine ⟨_, rfl, _, rfl, _, _, rfl, rfl, .inl ⟨by omega, by omega⟩, _, _, rfl, rfl, _, rfl, ?_, _, _, rfl, rfl, ?_, rfl, ?_⟩
        · rw [hb]
          exact log_short hbd
        · rw [hb]
          have z := numS_short hbd
          show 1 + (numS ((i : Int) * (i : Int) + 3)).length ≤ sizeLine
          rw [sizeLine_eq]
          omega
        · rw [hb]
          rfl
      · have h1 : ¬ st = 3 := fun z => h (decide_eq_true (congrArg V.int z))
        refine ⟨rfl, ?_⟩
        unfold nmW
        rw [if_neg h1, ec]
    rintro σ H4 ⟨rfl, rfl⟩
    refine ⟨_, rfl, .inl ⟨rfl, _, SqL.of hli⟩, _, rfl, l, _, _, rfl, rfl, hli, ?_, ?_⟩
    · rw [List.length_map, List.length_range]
      exact small1000 (by omega)
    have nl : l ≠ a := (st1.s.ne hl).symm
    have st2 : Stp a H (upd H4 l (.lst ((List.range i).map (fun k => V.str (nmW st k)) ++ [.str (nmW st i)]))) := by
      obtain ⟨c1, m1, k1, hc⟩ := sti.s
      refine ⟨⟨c1, m1, k1, by rw [upd_ne nl.symm]; exact hc⟩, fun b o hb e => ?_⟩
      rw [upd_ne (ne_of_none e n0)]
      exact sti.k b o hb e
    refine ⟨st2, ?_, _, _, rfl⟩
    rw [upd_same, List.range_succ, List.map_append]
    rfl
  · rintro σ H' ⟨sti, hli, v1, v2, rfl⟩
    refine ⟨_, rfl, q st l H' sti n0 s0 (by omega) ?_⟩
    rw [hli]
    exact congrArg (fun z => some (HO.lst z)) (by show _ = (List.map V.str (List.map (nmW st) (List.range 20))); rw [List.map_map]; rfl)
end
/-! ### one of a row (as in Draw24.inc) -/
theorem Sq.or {K : PySem.W.Frag} {t : Bool} {H : Hp} {p : Addr} {xs : List V} (h : Sq t K H p xs) : SqL K H p xs ∨ SqT K H p xs := by
  cases t
  · exact .inl h
  · exact .inr h
theorem Sq.ix {K : PySem.W.Frag} {t : Bool} {H : Hp} {p : Addr} {xs : List V} {i : Int} {v : V} {Q : VK} (h : Sq t K H p xs) (e : atI xs i = some v) (q : Q v H) : rIxT K (.ref p) (.int i) H Q ∨ rIxL K (.ref p) (.int i) H Q := by
  cases t
  · exact .inr ⟨p, xs, i, v, rfl, rfl, h, e, q⟩
  · exact .inl ⟨p, xs, i, v, rfl, rfl, h, e, q⟩
def spOneG (K : PySem.W.Frag) : Sp := fun vs H Q _ => ∃ (a p : Addr) (xs : List V) (t : Bool), vs = [.ref a, .ref p] ∧ Src H a ∧ (t = false → p ≠ a) ∧ Sq t K H p xs ∧ 0 < xs.length ∧ xs.length < 1000 ∧ ∀ v H', v ∈ xs → Stp a H H' → Q v H'
theorem Stp.sq {K : PySem.W.Frag} {a p : Addr} {H H' : Hp} {xs : List V} {t : Bool} (s : Stp a H H') (hs : Src H a) (ne : t = false → p ≠ a) (h : Sq t K H p xs) : Sq t K H' p xs := by
  cases t
  · exact s.rdL h (ne rfl)
  · exact s.rd h hs
section
variable {P : Program} {w : World} {K : PySem.W.Frag} {mg : Str → Option Value} {base : Heap}
theorem ok_l_oneG (T : Txt w K mg) : FnOk P w K mg base CX0 2 T.a_l_one T.d_l_one p_l_one (spOneG K) := by
  have g_l_pick := ok_l_pick (P := P) (w := w) (base := base) T
  refine T.F_l_one.ok sc_l_one (fun vs H Q E h => ?_) (fun cdv A outer s H vs Q E hr h => ?_)
  · obtain ⟨a, p, xs, t, rfl, _⟩ := h
    rfl
  obtain ⟨a, p, xs, t, rfl, hS, ne, hx, h0, h9, q⟩ := h
  refine ⟨_, (pss_one (ps_ret (pe_ix (IxR.or ix_tup ix_list) (pv 1) (pe_call g_l_pick (hr.mono (by first | decide | omega)) rfl T.m_l_pick T.F_l_pick.kp T.b_l_pick .nil pass0 (pa_cons (pv 0) (pa_cons (pe_callB call_len_seq rfl T.z_len PySem.boot_len (pa_cons (pv 1) pa_nil)) pa_nil))) (fun _ _ => rfl)))), ?_⟩
  refine ⟨_, rfl, _, rfl, _, rfl, p, _, rfl, Sq.or (t := t) hx, a, _, rfl, hS, by omega, fun r H' st r0 r1 => ?_⟩
  have hr' : r.toNat < xs.length := by omega
  exact Sq.ix (t := t) (st.sq hS ne hx) (atI_int (xs := xs) r0 hr') (q _ _ (List.getElem_mem hr') st)
end
theorem cut_lo {xs : List V} {r : Int} (h0 : 0 ≤ r) (h : r.toNat ≤ xs.length) : cutV xs (some r) none = xs.drop r.toNat := by
  have e : HT.sIx xs.length 0 (some r) = r.toNat := by
    show (if r < 0 then (r + (xs.length : Int)).toNat else min r.toNat xs.length) = r.toNat
    rw [if_neg (by omega), Nat.min_eq_left h]
  unfold cutV
  rw [e]
  show (xs.drop r.toNat).take (xs.length - r.toNat) = _
  exact List.take_of_length_le (by rw [List.length_drop]; omega)
theorem cut_hi {xs : List V} {r : Int} (h0 : 0 ≤ r) (h : r.toNat ≤ xs.length) : cutV xs none (some r) = xs.take r.toNat := by
  have e : HT.sIx xs.length xs.length (some r) = r.toNat := by
    show (if r < 0 then (r + (xs.length : Int)).toNat else min r.toNat xs.length) = r.toNat
    rw [if_neg (by omega), Nat.min_eq_left h]
  unfold cutV
  rw [e]
  show (xs.drop 0).take (r.toNat - 0) = _
  rw [List.drop_zero, Nat.sub_zero]
/-! ### keys: drawn record kinds -/
theorem Stp.put {a D : Addr} {G F : Hp} {o : HO} (x : Stp a G F) (hs : Src G a) (hD : G D = none) : Stp a G (upd F D o) := by
  obtain ⟨c, m, k, h⟩ := x.s
  refine ⟨⟨c, m, k, by rw [upd_ne (hs.ne hD)]; exact h⟩, fun b u hb e => ?_⟩
  rw [upd_ne (ne_of_none e hD)]
  exact x.k b u hb e
theorem Stp.keepT {K : PySem.W.Frag} {a : Addr} {H H' : Hp} (s : Stp a H H') (hS : Src H a) : KeepT K H H' := fun _ _ h => s.rd h hS
def KOk : Kd → Prop
  | .num lo hi => lo ≤ hi ∧ hi ≤ lo + 7
  | _ => True
theorem lst_neS {a p : Addr} {H : Hp} {zs : List Str} (h : Src H a) (e : H p = some (.lst (zs.map V.str))) : p ≠ a := fun z => by
  obtain ⟨c, m, k, hs⟩ := h
  rw [z, hs] at e
  have e2 := HO.lst.inj (Option.some.inj e)
  cases zs with
  | nil => cases e2
  | cons x y => rw [List.map_cons] at e2; cases e2
theorem lst_neR {a p : Addr} {H : Hp} {as : List Addr} (h : Src H a) (e : H p = some (.lst (as.map V.ref))) : p ≠ a := fun z => by
  obtain ⟨x, y, w, e2⟩ := h
  rw [z, e2] at e
  cases as with
  | nil => cases e
  | cons b bs => cases e
/-- references name earlier kinds -/
def RsRk (rs : List Rk) : Prop := ∀ (i : Nat) (r : Rk), rs[i]? = some r → ∀ f ∈ r.2, ∀ s, f.2 = .ref s → ∃ j r', j < i ∧ rs[j]? = some r' ∧ r'.1 = s
def RksAt (K : PySem.W.Frag) (H : Hp) (as : List Addr) (rs : List Rk) : Prop := as.length = rs.length ∧ ∀ (i : Nat) (a : Addr) (r : Rk), as[i]? = some a → rs[i]? = some r → RkAt K H a r
theorem RksAt.keep {K : PySem.W.Frag} {H H' : Hp} {as : List Addr} {rs : List Rk} (s : KeepT K H H') (h : RksAt K H as rs) : RksAt K H' as rs := ⟨h.1, fun i a r e1 e2 => (h.2 i a r e1 e2).keep s⟩
def FdsAt (K : PySem.W.Frag) (H : Hp) (bs : List Addr) (fs : List (Str × Kd)) : Prop := bs.length = fs.length ∧ ∀ (i : Nat) (b : Addr) (f : Str × Kd), bs[i]? = some b → fs[i]? = some f → ∃ kv, SqT K H b [.str f.1, kv] ∧ KdAt K H kv f.2
theorem FdsAt.keep {K : PySem.W.Frag} {H H' : Hp} {bs : List Addr} {fs : List (Str × Kd)} (s : KeepT K H H') (h : FdsAt K H bs fs) : FdsAt K H' bs fs := ⟨h.1, fun i b f e1 e2 => by
  obtain ⟨kv, g1, g2⟩ := h.2 i b f e1 e2
  exact ⟨kv, s _ _ g1, g2.keep s⟩⟩
theorem two_get {α : Type} {xs : List α} {y : α} {i : Nat} {z : α} (e : (xs ++ [y])[i]? = some z) : (i < xs.length ∧ xs[i]? = some z) ∨ (i = xs.length ∧ z = y) := by
  by_cases h : i < xs.length
  · rw [List.getElem?_append_left h] at e
    exact .inl ⟨h, e⟩
  · rw [List.getElem?_append_right (by omega)] at e
    have : i = xs.length := by
      have := (List.getElem?_eq_some_iff.mp e).1
      simp at this
      omega
    subst this
    rw [Nat.sub_self] at e
    cases e
    exact .inr ⟨rfl, rfl⟩
theorem FdsAt.push {K : PySem.W.Frag} {H : Hp} {bs : List Addr} {fs : List (Str × Kd)} {b : Addr} {f : Str × Kd} {kv : V} (h : FdsAt K H bs fs) (h1 : SqT K H b [.str f.1, kv]) (h2 : KdAt K H kv f.2) : FdsAt K H (bs ++ [b]) (fs ++ [f]) :=
  ⟨by rw [List.length_append, List.length_append, h.1]; rfl, fun i c g e1 e2 => by
    rcases two_get e1 with ⟨l1, e1⟩ | ⟨l1, rfl⟩
    · rcases two_get e2 with ⟨_, e2⟩ | ⟨l2, _⟩
      · exact h.2 i c g e1 e2
      · have := h.1
        omega
    · rcases two_get e2 with ⟨l2, _⟩ | ⟨_, rfl⟩
      · have := h.1
        omega
      · exact ⟨kv, h1, h2⟩⟩
theorem RksAt.push {K : PySem.W.Frag} {H : Hp} {as : List Addr} {rs : List Rk} {a : Addr} {r : Rk} (h : RksAt K H as rs) (h1 : RkAt K H a r) : RksAt K H (as ++ [a]) (rs ++ [r]) :=
  ⟨by rw [List.length_append, List.length_append, h.1]; rfl, fun i c g e1 e2 => by
    rcases two_get e1 with ⟨l1, e1⟩ | ⟨l1, rfl⟩
    · rcases two_get e2 with ⟨_, e2⟩ | ⟨l2, _⟩
      · exact h.2 i c g e1 e2
      · have := h.1
        omega
    · rcases two_get e2 with ⟨l2, _⟩ | ⟨_, rfl⟩
      · have := h.1
        omega
      · exact h1⟩
theorem cutV_sub {xs : List V} {a b : Option Int} : ∀ v ∈ cutV xs a b, v ∈ xs := fun v h => by
  unfold cutV at h
  exact List.mem_of_mem_drop (List.mem_of_mem_take h)
structure WldOk (rs : List Rk) : Prop where
  nd : (rs.map (·.1)).Nodup
  l : rs.length ≤ 4
  f : ∀ r ∈ rs, r.2.length ≤ 5
  k : ∀ r ∈ rs, ∀ f ∈ r.2, KOk f.2
  rk : RsRk rs
  s : ∀ r ∈ rs, PyData.strOk r.1 = true
theorem WldOk.pok {rs : List Rk} (h : WldOk rs) : PgOk rs := ⟨h.nd, by have := h.l; omega, fun r hr => by have := h.f r hr; omega⟩
def spNumKd (K : PySem.W.Frag) : Sp := fun vs H Q _ => ∃ a : Addr, vs = [.ref a] ∧ Src H a ∧ ∀ v kd H', Stp a H H' → KdAt K H' v kd → KOk kd → kd.isRef = false → Q v H'
def spWorld (K : PySem.W.Frag) : Sp := fun vs H Q _ => ∃ (a : Addr) (sh : Int), vs = [.ref a, .int sh] ∧ Src H a ∧ 0 ≤ sh ∧ sh < 8 ∧ ∀ p rs H', Stp a H H' → PgAt K H' p rs → WldOk rs → rs ≠ [] → Q (.ref p) H'
/-- earlier kinds as references -/
def Erl (K : PySem.W.Frag) (H : Hp) (es : List V) (rs : List Rk) : Prop := ∀ v ∈ es, ∃ q s, v = .ref q ∧ SqT K H q [.str "ref", .str s] ∧ ∃ (j : Nat) (r' : Rk), rs[j]? = some r' ∧ r'.1 = s
theorem Erl.keep {K : PySem.W.Frag} {H H' : Hp} {es : List V} {rs : List Rk} (s : KeepT K H H') (h : Erl K H es rs) : Erl K H' es rs := fun v hv => by
  obtain ⟨q, z, e, g, m⟩ := h v hv
  exact ⟨q, z, e, s _ _ g, m⟩
theorem names_nd {st : Int} (h0 : 0 ≤ st) (h4 : st < 4) : (namesOf st).Nodup ∧ (namesOf st).length = 20 := by
  have h : st = 0 ∨ st = 1 ∨ st = 2 ∨ st = 3 := by omega
  rcases h with rfl | rfl | rfl | rfl <;> decide +kernel
theorem names_sk {st : Int} (h0 : 0 ≤ st) (h4 : st < 4) : ∀ z ∈ namesOf st, PyData.strOk z = true := by
  rw [← List.all_eq_true]
  have h : st = 0 ∨ st = 1 ∨ st = 2 ∨ st = 3 := by omega
  rcases h with rfl | rfl | rfl | rfl <;> decide +kernel
section
variable {P : Program} {w : World} {K : PySem.W.Frag} {mg : Str → Option Value} {base : Heap}
theorem ok_l_number_kind (T : Txt w K mg) : FnOk P w K mg base CX0 3 T.a_l_number_kind T.d_l_number_kind p_l_number_kind (spNumKd K) := by
  have g_l_pick := ok_l_pick (P := P) (w := w) (base := base) T
  have g_l_one := ok_l_oneG (P := P) (w := w) (K := K) (base := base) T
  refine T.F_l_number_kind.ok sc_l_number_kind (fun vs H Q E h => ?_) (fun cdv A outer s H vs Q E hr h => ?_)
  · obtain ⟨a, rfl, _⟩ := h
    rfl
  obtain ⟨a, rfl, hS, q⟩ := h
  refine ⟨_, (pss_cons (ps_set (i := 1) sc_l_number_kind.nd rfl (Or.inl rfl) (pe_call g_l_one (hr.mono (by first | decide | omega)) rfl T.m_l_one T.F_l_one.kp T.b_l_one .nil pass0 (pa_cons (pv 0) (pa_cons (pe_lst (pa_cons pe_int (pa_cons pe_int (pa_cons (pe_un un_neg pe_int) (pa_cons pe_int (pa_cons pe_int (pa_cons pe_int (pa_cons (pe_un un_neg pe_int) pa_nil)))))))) pa_nil))))
      (pss_one (ps_ret (pe_tup (pa_cons pe_str (pa_cons (pv 1) (pa_cons (pe_op op_add (pv 1) (pe_call g_l_pick (hr.mono (by first | decide | omega)) rfl T.m_l_pick T.F_l_pick.kp T.b_l_pick .nil pass0 (pa_cons (pv 0) (pa_cons pe_int pa_nil)))) pa_nil))))))), ?_⟩
  refine ⟨_, rfl, _, rfl, _, rfl, by show 7 ≤ sizeLine; decide, fun l hl => ?_⟩
  have sl := Stp.of_same hS (Same.new hl (.lst ([0, 0, -3, 1, 5, 999999992, -1000000000].map V.int)))
  refine ⟨a, l, [0, 0, -3, 1, 5, 999999992, -1000000000].map V.int, false, rfl, sl.s, fun _ => (hS.ne hl).symm, SqL.of upd_same, by show 0 < 7; decide, by show 7 < 1000; decide, fun v H1 hv st1 => ?_⟩
  obtain ⟨k, _, rfl⟩ := List.mem_map.mp hv
  refine ⟨_, rfl, _, rfl, _, rfl, a, 8, rfl, st1.s, by decide, fun r H2 st2 r0 r1 => ⟨_, _, rfl, rfl, by show 3 ≤ sizeLine; decide, fun t ht => ?_⟩⟩
  exact q (.ref t) (.num k (k + r)) _ (((sl.trans st1).trans st2).new ht) ⟨t, rfl, SqT.of upd_same⟩ ⟨by omega, by omega⟩ rfl
theorem ok_l_world (T : Txt w K mg) : FnOk P w K mg base CX0 4 T.a_l_world T.d_l_world p_l_world (spWorld K) := by
  have g_l_pick := ok_l_pick (P := P) (w := w) (base := base) T
  have g_l_one := ok_l_oneG (P := P) (w := w) (K := K) (base := base) T
  have g_l_names := ok_l_names (P := P) (w := w) (base := base) T
  have g_l_number_kind := ok_l_number_kind (P := P) (w := w) (K := K) (base := base) T
  refine T.F_l_world.ok sc_l_world (fun vs H Q E h => ?_) (fun cdv A outer s H vs Q E hr h => ?_)
  · obtain ⟨a, sh, rfl, _⟩ := h
    rfl
  obtain ⟨a, sh, rfl, hS, sh0, sh8, q⟩ := h
  refine ⟨_, (pss_cons (ps_set (i := 2) sc_l_world.nd rfl (Or.inl rfl) (pe_call g_l_names (hr.mono (by first | decide | omega)) rfl T.m_l_names T.F_l_names.kp T.b_l_names .nil pass0 (pa_cons (pv 0) pa_nil)))
      (pss_cons (ps_set (i := 3) sc_l_world.nd rfl (Or.inl rfl) (pe_call g_l_pick (hr.mono (by first | decide | omega)) rfl T.m_l_pick T.F_l_pick.kp T.b_l_pick .nil pass0 (pa_cons (pv 0) (pa_cons pe_int pa_nil))))
      (pss_cons (ps_set (i := 2) sc_l_world.nd rfl (Or.inl rfl) (pe_op op_cat (pe_slice sl_list (pv 2) (po_some (pv 3)) po_none) (pe_slice sl_list (pv 2) po_none (po_some (pv 3)))))
      (C8.pss_cut (ps_if (pt_cmpR op_eq (pe_call g_l_pick (hr.mono (by first | decide | omega)) rfl T.m_l_pick T.F_l_pick.kp T.b_l_pick .nil pass0 (pa_cons (pv 0) (pa_cons pe_int pa_nil))) pe_int (nomark _)) (pss_one (ps_set (i := 2) sc_l_world.nd rfl (Or.inl rfl) (LRv.pe_listRev rfl rfl T.z_list rfl T.z_reversed (pv 2)))) pss_nil)
      (pss_cons (ps_set (i := 4) sc_l_world.nd rfl (Or.inl rfl) (pe_lst pa_nil))
      (pss_cons (ps_for PassesOwn.never rfl (pi_range1 rfl T.z_range (pa_cons (pe_ix ix_list (pe_lst (pa_cons pe_int (pa_cons pe_int (pa_cons pe_int (pa_cons pe_int (pa_cons pe_int (pa_cons pe_int (pa_cons pe_int (pa_cons pe_int pa_nil))))))))) (pv 1) (fun _ _ => rfl)) pa_nil)) (pg_name (i := 5) sc_l_world.nd rfl (Or.inl rfl))
        (pss_cons (ps_setLc (i := 6) (own := [("_law_record", 7)]) (g := gName 7) (tt := tYes) rfl sc_l_world.nd rfl rfl (sw_true rfl rfl rfl (by decide +kernel)) (pi_list (pv 4)) (blkOk_by (own := [("_law_record", 7)]) (N := n_l_world) (sc := defScope s_l_world) (by decide +kernel)) (fun _ _ _ _ _ => (pg_name (i := 7) sc_l_world.nd rfl (Or.inl rfl))) (fun _ _ _ _ _ => pts_nil) (fun _ _ _ _ _ => (pe_tup (pa_cons pe_str (pa_cons (pe_ix (show IxR _ (rIxT K) from ix_tup) (pv 7) pe_int (fun _ _ => rfl)) pa_nil)))))
      (pss_cons (ps_set (i := 8) sc_l_world.nd rfl (Or.inl rfl) (pe_call g_l_pick (hr.mono (by first | decide | omega)) rfl T.m_l_pick T.F_l_pick.kp T.b_l_pick .nil pass0 (pa_cons (pv 0) (pa_cons pe_int pa_nil))))
      (C8.pss_cut (ps_if (pt_cmpR op_eq (pv 1) pe_int (nomark _)) (pss_cons (ps_set (i := 6) sc_l_world.nd rfl (Or.inl rfl) (pe_slice sl_list (pv 6) (po_some (pe_un un_neg pe_int)) po_none))
      (pss_one (ps_set (i := 8) sc_l_world.nd rfl (Or.inl rfl) (pe_callB (call_max2 rfl) rfl T.z_max bb_max (pa_cons (pv 8) (pa_cons pe_int pa_nil)))))) pss_nil)
      (pss_cons (ps_set (i := 9) sc_l_world.nd rfl (Or.inl rfl) (pe_lst pa_nil))
      (pss_cons (ps_for PassesOwn.never rfl (pi_range1 rfl T.z_range (pa_cons (pv 8) pa_nil)) (pg_name (i := 10) sc_l_world.nd rfl (Or.inl rfl))
        (pss_cons (ps_set (i := 11) sc_l_world.nd rfl (Or.inl rfl) (pe_tup (pa_cons pe_str pa_nil)))
      (pss_cons (ps_set (i := 12) sc_l_world.nd rfl (Or.inl rfl) (pe_call g_l_pick (hr.mono (by first | decide | omega)) rfl T.m_l_pick T.F_l_pick.kp T.b_l_pick .nil pass0 (pa_cons (pv 0) (pa_cons pe_int pa_nil))))
      (C8.pss_cut (ps_if (pt_cmpR op_eq (pe_op op_modN (pe_callTy call_int1 rfl T.z_int bt_int (pa_cons (pv 12) pa_nil)) pe_int) pe_int (nomark _)) (pss_one (ps_set (i := 11) sc_l_world.nd rfl (Or.inl rfl) (pe_call g_l_number_kind (hr.mono (by first | decide | omega)) rfl T.m_l_number_kind T.F_l_number_kind.kp T.b_l_number_kind .nil pass0 (pa_cons (pv 0) pa_nil)))) pss_nil)
      (C8.pss_cut (ps_if (PW.pt (pw_and (pt_cmpR op_gt (pv 12) pe_int (nomark _)) (pw_and1 (pt_cmpR (op_neL0 hr.units0) (pv 6) (pe_lst pa_nil) (nomark _))))) (pss_one (ps_set (i := 11) sc_l_world.nd rfl (Or.inl rfl) (pe_call g_l_one (hr.mono (by first | decide | omega)) rfl T.m_l_one T.F_l_one.kp T.b_l_one .nil pass0 (pa_cons (pv 0) (pa_cons (pv 6) pa_nil))))) pss_nil)
      (pss_one (ps_expr (pe_bm PySem.F.plainAttrs_list PySem.F.slot_list_append PySem.F.type_list_append mt_append (pv 9) (pa_cons (pe_tup (pa_cons (pe_ix ix_list (pv 2) (pe_op op_add pe_int (pe_op op_modN (pe_callTy call_int1 rfl T.z_int bt_int (pa_cons (pe_op op_add (pe_op op_mul pe_int (pv 10)) (pv 5)) pa_nil)) pe_int)) (fun _ _ => rfl)) (pa_cons (pv 11) pa_nil))) pa_nil)))))))))
      (pss_one (ps_expr (pe_bm PySem.F.plainAttrs_list PySem.F.slot_list_append PySem.F.type_list_append mt_append (pv 4) (pa_cons (pe_tup (pa_cons (pe_ix ix_list (pv 2) (pv 5) (fun _ _ => rfl)) (pa_cons (pe_callTy call_tuple_of rfl T.z_tuple bt_tuple (pa_cons (pv 9) pa_nil)) pa_nil))) pa_nil))))))))))
      (pss_one (ps_ret (pe_tup (pa_cons (pe_callTy call_tuple_of rfl T.z_tuple bt_tuple (pa_cons (pv 4) pa_nil)) (pa_cons (pe_tup pa_nil) (pa_cons (pe_tup pa_nil) (pa_cons (pe_tup (pa_cons (pe_tup (pa_cons pe_str (pa_cons (pe_tup pa_nil) (pa_cons pe_non (pa_cons (pe_tup pa_nil) (pa_cons (pe_tup pa_nil) pa_nil)))))) pa_nil)) pa_nil))))))))))))), ?_⟩
  refine ⟨_, rfl, a, rfl, hS, fun st p H1 st1 hp1 h0 h4 hN => ?_⟩
  refine ⟨_, rfl, a, 20, rfl, st1.s, by decide, fun r H2 st2 r0 r1 => ?_⟩
  have np := lst_neS st1.s hN
  have hN2 := st2.k _ _ np hN
  have lN : (namesOf st).length = 20 := (names_nd h0 h4).2
  have ndN := (names_nd h0 h4).1
  have skN := names_sk h0 h4
  generalize namesOf st = ns at hN hN2 lN ndN skN
  refine ⟨_, rfl, _, rfl, r, rfl, p, _, rfl, SqL.of hN2, fun q1 hq1 => ?_⟩
  have k1 := Same.new hq1 (.lst (cutV (ns.map V.str) (some r) none))
  refine ⟨_, rfl, _, rfl, r, rfl, p, _, rfl, SqL.of (k1 _ _ hN2), fun q2 hq2 => ?_⟩
  have k2 := k1.trans (Same.new hq2 (.lst (cutV (ns.map V.str) none (some r))))
  have n12 : q1 ≠ q2 := ne_of_none upd_same hq2
  have hr2 : r.toNat ≤ (ns.map V.str).length := by rw [List.length_map]; omega
  refine ⟨q1, q2, _, _, rfl, rfl, by rw [upd_ne n12, upd_same], upd_same, ?_, fun ln hln => ?_⟩
  · have c1 := cutV_length (ns.map V.str) (some r) none
    have c2 := cutV_length (ns.map V.str) none (some r)
    have c3 : (ns.map V.str).length = 20 := by rw [List.length_map]; exact lN
    have c4 : (40 : Nat) ≤ sizeLine := by decide
    omega
  rw [cut_lo r0 hr2, cut_hi r0 hr2, ← List.map_drop, ← List.map_take, ← List.map_append] at *
  have pm : (ns.drop r.toNat ++ ns.take r.toNat).Perm ns := by
    have := @List.perm_append_comm _ (ns.drop r.toNat) (ns.take r.toNat)
    rw [List.take_append_drop] at this
    exact this
  have ndz : (ns.drop r.toNat ++ ns.take r.toNat).Nodup := pm.nodup_iff.mpr ndN
  have skz : ∀ z ∈ ns.drop r.toNat ++ ns.take r.toNat, PyData.strOk z = true := fun z hz => skN z (pm.mem_iff.mp hz)
  have lz : (ns.drop r.toNat ++ ns.take r.toNat).length = 20 := pm.length_eq.trans lN
  have stA := ((st1.trans st2).same k2).new (o := .lst ((ns.drop r.toNat ++ ns.take r.toNat).map V.str)) hln
  have eA : (upd (upd (upd H2 q1 (.lst ((ns.drop r.toNat).map V.str))) q2 (.lst ((ns.take r.toNat).map V.str))) ln (.lst ((ns.drop r.toNat ++ ns.take r.toNat).map V.str))) ln = some (.lst ((ns.drop r.toNat ++ ns.take r.toNat).map V.str)) := upd_same
  generalize (upd (upd (upd H2 q1 (.lst ((ns.drop r.toNat).map V.str))) q2 (.lst ((ns.take r.toNat).map V.str))) ln (.lst ((ns.drop r.toNat ++ ns.take r.toNat).map V.str))) = HA at stA eA
  generalize ns.drop r.toNat ++ ns.take r.toNat = zs0 at ndz lz eA skz
  clear pm hln hr2 n12 k2 hq2 k1 hq1 ndN lN hN2 st2 np hN h4 h0 hp1 st1
  refine ⟨fun σ G => ∃ (pn : Addr) (zs : List Str), Stp a H G ∧ G pn = some (.lst (zs.map V.str)) ∧ zs.Nodup ∧ zs.length = 20 ∧ (∀ z ∈ zs, PyData.strOk z = true) ∧ σ = [some (.ref a), some (.int sh), some (.ref pn), some (.int r), none, none, none, none, none, none, none, none, none], ?_, ?_⟩
  · refine ⟨_, rfl, a, 2, rfl, stA.s, by decide, fun r2 G2 st2 _ _ => ⟨rfl, _, rfl, ite2 (fun _ => ?_) (fun _ => ?_)⟩⟩
    · have e2 := st2.k _ _ (lst_neS stA.s eA) eA
      refine ⟨_, rfl, ln, _, rfl, SqL.of e2, fun q3 hq3 => ⟨q3, zs0.reverse, (stA.trans st2).new hq3, by rw [List.map_reverse]; exact upd_same, (List.reverse_perm zs0).nodup_iff.mpr ndz, by rw [List.length_reverse]; exact lz, fun z hz => skz z (List.mem_reverse.mp hz), rfl⟩⟩
    · exact ⟨ln, zs0, stA.trans st2, st2.k _ _ (lst_neS stA.s eA) eA, ndz, lz, skz, rfl⟩
  rintro σ G ⟨pn, zs, stG, ezs, nd, lz, sk, rfl⟩
  clear eA stA ndz
  refine ⟨by show 0 ≤ sizeLine; decide, fun lr hlr => ?_⟩
  have sr := Same.new hlr (.lst [])
  have stR := stG.same sr
  have eR : (upd G lr (.lst [])) lr = some (.lst ([].map V.ref)) := upd_same
  have ezR := sr _ _ ezs
  have nlr0 := stG.free hlr
  generalize (upd G lr (.lst [])) = G0 at stR eR ezR
  clear sr hlr ezs stG
  have npn := lst_neS stR.s ezR
  obtain ⟨c, ec, c1, c4⟩ : ∃ c : Int, atI ([4, 1, 3, 4, 2, 2, 3, 2].map V.int) sh = some (.int c) ∧ 1 ≤ c ∧ c ≤ 4 := by
    have h : sh = 0 ∨ sh = 1 ∨ sh = 2 ∨ sh = 3 ∨ sh = 4 ∨ sh = 5 ∨ sh = 6 ∨ sh = 7 := by omega
    rcases h with rfl | rfl | rfl | rfl | rfl | rfl | rfl | rfl <;> exact ⟨_, rfl, by decide, by decide⟩
  refine ⟨by show 8 ≤ sizeLine; decide, fun l8 hl8 => ⟨_, rfl, l8, [4, 1, 3, 4, 2, 2, 3, 2].map V.int, _, _, rfl, rfl, SqL.of upd_same, ec, c, rfl, by omega, by omega, ?_⟩⟩
  have st8 := stR.new (o := .lst ([4, 1, 3, 4, 2, 2, 3, 2].map V.int)) hl8
  have s8 := Same.new hl8 (.lst ([4, 1, 3, 4, 2, 2, 3, 2].map V.int))
  refine for_range (lo := 0) (fun i σ F => ∃ (rs : List Rk) (as : List Addr), Stp a H F ∧ F pn = some (.lst (zs.map V.str)) ∧ F lr = some (.lst (as.map V.ref)) ∧ RksAt K F as rs ∧ rs.length = i ∧ rs.map (·.1) = zs.take i ∧ (∀ r ∈ rs, r.2.length ≤ 5) ∧ (∀ r ∈ rs, ∀ f ∈ r.2, KOk f.2) ∧ RsRk rs ∧ ∃ v5 v6 v8 v9 v10 v11 v12 : Option V, σ = [some (.ref a), some (.int sh), some (.ref pn), some (.int r), some (.ref lr), v5, v6, none, v8, v9, v10, v11, v12])
    ⟨[], [], st8, s8 _ _ ezR, s8 _ _ eR, ⟨rfl, fun i a r e => by simp at e⟩, rfl, rfl, (fun r hr => by simp at hr), (fun r hr => by simp at hr), (fun i r e => by simp at e), none, none, none, none, none, none, none, rfl⟩ ?_ ?_
  · rintro i σ F hi ⟨rs, as, stF, ezF, eF, hrs, lrs, nrs, l5, kok, rrk, v5, v6, v8, v9, v10, v11, v12, rfl⟩
    have hi4 : i < 4 := by omega
    have nlr := lst_neR stF.s eF
    -- earlier
    refine ⟨_, rfl, lr, rfl, ⟨_, SqL.of eF⟩, fun D hD => ?_⟩
    have nD := stF.s.ne hD
    refine lc_it (walk_list (xs := as.map V.ref)) (fun j F2 => Same F F2 ∧ ∃ es : List V, F2 D = some (.lst es) ∧ es.length = j ∧ Erl K F2 es rs) ⟨Same.new hD _, [], upd_same, rfl, fun v hv => by simp at hv⟩ (fun j F2 _ P => SqL.of (P.1 _ _ eF)) ?_ ?_
    · rintro j x F2 F3 hj ⟨s2, es, eD, les, hes⟩ ⟨rfl, ex⟩
      rw [List.length_map] at hj
      have ea : as[j]? = some as[j] := List.getElem?_eq_getElem hj
      have hj2 : j < rs.length := by rw [← hrs.1]; exact hj
      have er : rs[j]? = some rs[j] := List.getElem?_eq_getElem hj2
      obtain ⟨pf, h1, _⟩ := hrs.2 j _ _ ea er
      rw [map_get ea] at ex
      obtain rfl := Option.some.inj ex
      refine ⟨rfl, tyes ?_⟩
      refine ⟨_, rfl, as[j], _, _, _, rfl, rfl, Same.tup s2 h1, rfl, by show 2 ≤ sizeLine; decide, fun t ht => ?_⟩
      have st := Same.new ht (.tup [.str "ref", .str rs[j].1])
      have eD3 := st _ _ eD
      refine ⟨es, eD3, lt_line (by omega), fun b u e => by rw [upd_ne (ne_of_none e hD)]; exact st _ _ (s2 _ _ e), _, upd_same, by rw [List.length_append, les]; rfl, fun v hv => ?_⟩
      rcases List.mem_append.mp hv with h | h
      · exact ((hes.keep (KeepT.of st)).keep (keepT_lst eD3)) v h
      · rw [List.mem_singleton.mp h]
        exact ⟨t, _, rfl, keepT_lst eD3 _ _ (SqT.of upd_same), j, _, er, rfl⟩
    rintro F2 ⟨s2, es, eD, les, hes⟩
    rw [List.length_map, hrs.1] at les
    have st2 := stF.same s2
    have nD2 : D ≠ a := nD.symm
    -- size
    refine ⟨_, rfl, a, 5, rfl, st2.s, by decide, fun sz F3 st3 sz0 sz1 => ?_⟩
    have eD3 := st3.k _ _ nD2 eD
    have hes3 := hes.keep (st3.keepT st2.s)
    have stF3 : Stp a F F3 := (Stp.of_same stF.s s2).trans st3
    refine ⟨fun σ F4 => ∃ (D4 : Addr) (es4 : List V) (sz4 : Int), Stp a F F4 ∧ F4 D4 = some (.lst es4) ∧ D4 ≠ a ∧ es4.length ≤ 4 ∧ Erl K F4 es4 rs ∧ 0 ≤ sz4 ∧ sz4 ≤ 5 ∧ σ = [some (.ref a), some (.int sh), some (.ref pn), some (.int r), some (.ref lr), some (.int (0 + (i : Int))), some (.ref D4), none, some (.int sz4), v9, v10, v11, v12], ?_, ?_⟩
    · refine ⟨_, rfl, rfl, _, rfl, ite2 (fun _ => ?_) (fun _ => ?_)⟩
      · refine ⟨_, rfl, _, rfl, _, rfl, D, _, rfl, SqL.of eD3, fun D5 hD5 => ?_⟩
        have s5 := Same.new hD5 (.lst (cutV es (some (-1)) none))
        refine ⟨_, rfl, _, _, rfl, ?_⟩
        refine ⟨D5, _, _, stF3.same s5, upd_same, (st3.s.ne hD5).symm, ?_, fun v hv => (hes3.keep (KeepT.of s5)) v (cutV_sub v hv), ?_, ?_, rfl⟩
        · have := cutV_length es (some (-1)) none
          omega
        · split <;> omega
        · split <;> omega
      · exact ⟨D, es, sz, stF3, eD3, nD2, by omega, hes3, sz0, by omega, rfl⟩
    clear hes3 eD3 st3 st2 eD hes les s2 stF3 nD2 nD hD es D
    rintro σ F4 ⟨D, es, sz, stF4, eD, nD, les, hes, sz0, sz5, rfl⟩
    -- fields
    refine ⟨by show 0 ≤ sizeLine; decide, fun fl hfl => ?_⟩
    have sf := Same.new hfl (.lst [])
    have st4 := stF4.s
    refine ⟨_, rfl, sz, rfl, by omega, by omega, for_range (lo := 0) (fun k σ F5 => ∃ (fs : List (Str × Kd)) (bs : List Addr), Stp a F4 F5 ∧ F5 fl = some (.lst (bs.map V.ref)) ∧ FdsAt K F5 bs fs ∧ fs.length = k ∧ (∀ f ∈ fs, KOk f.2) ∧ (∀ f ∈ fs, ∀ s, f.2 = .ref s → ∃ (j : Nat) (r' : Rk), rs[j]? = some r' ∧ r'.1 = s) ∧ ∃ v10 v11 v12 : Option V, σ = [some (.ref a), some (.int sh), some (.ref pn), some (.int r), some (.ref lr), some (.int (0 + (i : Int))), some (.ref D), none, some (.int sz), some (.ref fl), v10, v11, v12])
      ⟨[], [], Stp.of_same st4 sf, upd_same, ⟨rfl, fun i b f e => by simp at e⟩, rfl, (fun f hf => by simp at hf), (fun f hf => by simp at hf), _, _, _, rfl⟩ ?_ ?_⟩
    · rintro k σ F5 hk ⟨fs, bs, st5, efl, hfs, lfs, fok, frf, w10, w11, w12, rfl⟩
      have hk5 : k < 5 := by omega
      have nfl := lst_neR st5.s efl
      refine ⟨by show 1 ≤ sizeLine; decide, fun t1 ht1 => ?_⟩
      have s1 := Same.new ht1 (.tup [.str "flag"])
      have k1 : KdAt K (upd F5 t1 (.tup [.str "flag"])) (.ref t1) .flag := ⟨t1, rfl, SqT.of upd_same⟩
      have st6 := Stp.of_same st5.s s1
      generalize (upd F5 t1 (.tup [.str "flag"])) = F6 at s1 k1 st6
      refine ⟨_, rfl, a, 6, rfl, st6.s, by decide, fun ch F7 st7 ch0 ch1 => ?_⟩
      have st57 := st6.trans st7
      have k17 := k1.keep (st7.keepT st6.s)
      refine ⟨fun σ F8 => ∃ v kd, Stp a F5 F8 ∧ KdAt K F8 v kd ∧ KOk kd ∧ kd.isRef = false ∧ σ = [some (.ref a), some (.int sh), some (.ref pn), some (.int r), some (.ref lr), some (.int (0 + (i : Int))), some (.ref D), none, some (.int sz), some (.ref fl), some (.int (0 + (k : Int))), some v, some (.int ch)], ?_, ?_⟩
      · refine ⟨_, rfl, .inl ⟨ch, rfl, _, _, rfl, rfl, (by intro z; cases z), rfl, _, rfl, ite2 (fun _ => ?_) (fun _ => ?_)⟩⟩
        · exact ⟨_, rfl, a, rfl, st7.s, fun v kd F8 st8 hv kok krf => ⟨v, kd, st57.trans st8, hv, kok, krf, rfl⟩⟩
        · exact ⟨.ref t1, .flag, st57, k17, trivial, rfl, rfl⟩
      clear k17 st57 st7 st6 k1 s1 ht1
      rintro σ F8 ⟨v, kd, st8, hv, kok8, krf, rfl⟩
      have efl8 := st8.k _ _ nfl efl
      refine ⟨fun σ F9 => ∃ v kd, Stp a F5 F9 ∧ KdAt K F9 v kd ∧ KOk kd ∧ (∀ s, kd = .ref s → ∃ (j : Nat) (r' : Rk), rs[j]? = some r' ∧ r'.1 = s) ∧ σ = [some (.ref a), some (.int sh), some (.ref pn), some (.int r), some (.ref lr), some (.int (0 + (i : Int))), some (.ref D), none, some (.int sz), some (.ref fl), some (.int (0 + (k : Int))), some v, some (.int ch)], ?_, ?_⟩
      · have keepOld : ∀ {F9 : Hp}, Stp a F8 F9 → ∃ v' kd', Stp a F5 F9 ∧ KdAt K F9 v' kd' ∧ KOk kd' ∧ (∀ s, kd' = .ref s → ∃ (j : Nat) (r' : Rk), rs[j]? = some r' ∧ r'.1 = s) ∧ [some (.ref a), some (.int sh), some (.ref pn), some (.int r), some (.ref lr), some (.int (0 + (i : Int))), some (.ref D), none, some (.int sz), some (.ref fl), some (.int (0 + (k : Int))), some v, some (.int ch)] = [some (.ref a), some (.int sh), some (.ref pn), some (.int r), some (.ref lr), some (.int (0 + (i : Int))), some (.ref D), none, some (.int sz), some (.ref fl), some (.int (0 + (k : Int))), some v', some (.int ch)] := fun {F9} s9 =>
          ⟨v, kd, st8.trans s9, hv.keep (s9.keepT st8.s), kok8, fun s e => (by rw [e] at krf; cases krf), rfl⟩
        refine ⟨_, rfl, _, _, rfl, rfl, _, rfl, ite2 (fun _ => ⟨_, rfl, by show 0 ≤ sizeLine; decide, fun e0 he => ?_⟩) (fun _ => iteF (keepOld (Stp.refl st8.s)))⟩
        have se := Same.new he (.lst [])
        have eD8 := (st5.trans st8).k _ _ nD eD
        have hes8 := hes.keep ((st5.trans st8).keepT st4)
        have stE := Stp.of_same st8.s se
        refine ⟨D, e0, _, rfl, rfl, SqL.of (se _ _ eD8), SqL.of upd_same, _, rfl, ite2 (fun hne => ?_) (fun _ => keepOld stE)⟩
        have nes : es ≠ [] := fun z => by
          subst z
          exact absurd hne (by decide)
        refine ⟨_, rfl, _, rfl, a, D, es, false, rfl, stE.s, fun _ => nD, SqL.of (se _ _ eD8), List.length_pos_iff.mpr nes, by omega, fun u F9 hu st9 => ?_⟩
        obtain ⟨q9, s9, rfl, hq9, mem⟩ := ((hes8.keep (KeepT.of se)).keep (st9.keepT stE.s)) u hu
        exact ⟨.ref q9, .ref s9, st8.trans (stE.trans st9), ⟨q9, rfl, hq9⟩, trivial, fun s e => by cases e; exact mem, rfl⟩
      clear hv kok8 krf efl8 st8
      rintro σ F9 ⟨v, kd, st9, hv, kok9, mem, rfl⟩
      have efl9 := st9.k _ _ nfl efl
      have hfs9 := hfs.keep (st9.keepT st5.s)
      have ez9 := ((stF4.trans st5).trans st9).k _ _ npn ezF
      refine ⟨_, rfl, .inl ⟨rfl, _, SqL.of efl9⟩, ?_⟩
      obtain ⟨m, em, m0, m7⟩ : ∃ m : Int, m = (3 * (0 + (k : Int)) + (0 + (i : Int))) % 7 ∧ 0 ≤ m ∧ m < 7 := ⟨_, rfl, by omega, by omega⟩
      have em2 : (3 * (0 + (k : Int)) + (0 + (i : Int))).fmod 7 = m := by rw [Int.fmod_eq_emod_of_nonneg _ (by decide)]; exact em.symm
      refine ⟨_, rfl, _, rfl, _, _, rfl, rfl, .inl ⟨by decide, by decide⟩, _, rfl, _, _, rfl, rfl, .inl ⟨_, rfl, _, _, rfl, rfl, (by intro z; cases z), _, _, rfl, rfl, ?_⟩⟩
      rw [em2]
      have hix : (4 + m).toNat < (zs.map V.str).length := by rw [List.length_map]; omega
      refine ⟨pn, _, _, _, rfl, rfl, SqL.of ez9, atI_int (by omega) hix, _, rfl, by show 2 ≤ sizeLine; decide, fun t2 ht2 => ?_⟩
      have s2 := Same.new ht2 (.tup [(zs.map V.str)[(4 + m).toNat], v])
      obtain ⟨zn, ezn⟩ : ∃ zn, (zs.map V.str)[(4 + m).toNat] = .str zn := ⟨_, List.getElem_map _⟩
      rw [ezn] at s2 ⊢
      have efl10 := s2 _ _ efl9
      refine ⟨fl, _, _, rfl, rfl, efl10, lt_line (by rw [List.length_map, hfs.1]; omega), ?_⟩
      have pushed := (hfs9.keep (KeepT.of s2)).push (b := t2) (f := (zn, kd)) (kv := v) (SqT.of upd_same) (hv.keep (KeepT.of s2))
      refine ⟨fs ++ [(zn, kd)], bs ++ [t2], ((st5.trans st9).same s2).put st4 hfl, by rw [List.map_append]; exact upd_same, pushed.keep (keepT_lst efl10), by rw [List.length_append, lfs]; rfl, fun f hf => ?_, fun f hf => ?_, _, _, _, rfl⟩
      · rcases List.mem_append.mp hf with h | h
        · exact fok f h
        · rw [List.mem_singleton.mp h]; exact kok9
      · rcases List.mem_append.mp hf with h | h
        · exact frf f h
        · rw [List.mem_singleton.mp h]; exact mem
    · rintro σ F5 ⟨fs, bs, st5, efl, hfs, lfs, fok, frf, w10, w11, w12, rfl⟩
      have stF5 := stF4.trans st5
      have eF5 := stF5.k _ _ nlr eF
      have ez5 := stF5.k _ _ npn ezF
      have hrs5 := hrs.keep (stF5.keepT stF.s)
      have lfs5 : fs.length ≤ 5 := by omega
      refine ⟨_, rfl, .inl ⟨rfl, _, SqL.of eF5⟩, ?_⟩
      have hz : i < zs.length := by omega
      have ezi : zs[i]? = some zs[i] := List.getElem?_eq_getElem hz
      have tz : zs.take (i + 1) = zs.take i ++ [zs[i]] := by
        rw [List.take_add_one, ezi]
        rfl
      generalize zs[i] = zi at ezi tz
      refine ⟨_, rfl, _, rfl, pn, _, _, _, rfl, rfl, SqL.of ez5, (by rw [Int.zero_add]; exact atI_nat (map_get ezi)), _, rfl, fl, _, rfl, .inl ⟨SqL.of efl, fun t1 ht1 => ⟨by show 2 ≤ sizeLine; decide, fun t2 ht2 => ?_⟩⟩⟩
      have s1 := Same.new ht1 (.tup (bs.map V.ref))
      have s2 := Same.new ht2 (.tup [.str zi, .ref t1])
      have s12 := s1.trans s2
      have eF7 := s12 _ _ eF5
      have hfs7 := hfs.keep (KeepT.of s12)
      have rk7 : RkAt K (upd (upd F5 t1 (.tup (bs.map V.ref))) t2 (.tup [.str zi, .ref t1])) t2 (zi, fs) := ⟨t1, SqT.of upd_same, bs, SqT.of (s2 _ _ upd_same), hfs7.1, hfs7.2⟩
      have pushed := (hrs5.keep (KeepT.of s12)).push rk7
      refine ⟨lr, _, _, rfl, rfl, eF7, lt_line (by rw [List.length_map, hrs.1]; omega), ?_⟩
      refine ⟨rs ++ [(zi, fs)], as ++ [t2], ((stF.trans stF5).same s12).put hS nlr0, ?_, by rw [List.map_append]; exact upd_same, pushed.keep (keepT_lst eF7), by rw [List.length_append, lrs]; rfl, by rw [List.map_append, nrs, tz]; rfl, fun r' hr' => ?_, fun r' hr' => ?_, fun j r' e f hf s es => ?_, _, _, _, _, _, _, _, rfl⟩
      · rw [upd_ne (fun z => by rw [z, eF] at ezF; have := HO.lst.inj (Option.some.inj ezF); cases zs with
          | nil => simp at lz
          | cons x y => cases as with
            | nil => cases this
            | cons u v => rw [List.map_cons, List.map_cons] at this; cases this)]
        exact s12 _ _ ez5
      · rcases List.mem_append.mp hr' with h | h
        · exact l5 r' h
        · rw [List.mem_singleton.mp h]; exact lfs5
      · rcases List.mem_append.mp hr' with h | h
        · exact kok r' h
        · rw [List.mem_singleton.mp h]; exact fok
      · rcases two_get e with ⟨lj, e⟩ | ⟨rfl, rfl⟩
        · obtain ⟨j2, r2, a1, a2, a3⟩ := rrk j r' e f hf s es
          exact ⟨j2, r2, a1, by rw [List.getElem?_append_left (List.getElem?_eq_some_iff.mp a2).1]; exact a2, a3⟩
        · obtain ⟨j2, r2, a2, a3⟩ := frf f hf s es
          have := (List.getElem?_eq_some_iff.mp a2).1
          exact ⟨j2, r2, this, by rw [List.getElem?_append_left this]; exact a2, a3⟩
  · rintro σ F ⟨rs, as, stF, ezF, eF, hrs, lrs, nrs, l5, kok, rrk, v5, v6, v8, v9, v10, v11, v12, rfl⟩
    have lrs4 : rs.length ≤ 4 ∧ 1 ≤ rs.length := by omega
    refine ⟨_, rfl, lr, _, rfl, .inl ⟨SqL.of eF, fun t1 ht1 => ?_⟩⟩
    have s1 := Same.new ht1 (.tup (as.map V.ref))
    refine ⟨by show 0 ≤ sizeLine; decide, fun t2 ht2 => ⟨by show 0 ≤ sizeLine; decide, fun t3 ht3 => ⟨by show 0 ≤ sizeLine; decide, fun t4 ht4 => ⟨by show 0 ≤ sizeLine; decide, fun t5 ht5 => ⟨by show 0 ≤ sizeLine; decide, fun t6 ht6 => ⟨by show 5 ≤ sizeLine; decide, fun t7 ht7 => ⟨by show 1 ≤ sizeLine; decide, fun t8 ht8 => ⟨by show 4 ≤ sizeLine; decide, fun t9 ht9 => ?_⟩⟩⟩⟩⟩⟩⟩⟩
    have k28 := ((((((Same.new ht2 (.tup [])).trans (Same.new ht3 (.tup []))).trans (Same.new ht4 (.tup []))).trans (Same.new ht5 (.tup []))).trans (Same.new ht6 (.tup []))).trans (Same.new ht7 (.tup [.str "main", .ref t4, .non, .ref t5, .ref t6]))).trans (Same.new ht8 (.tup [.ref t7]))
    have k9 := Same.new ht9 (.tup [.ref t1, .ref t2, .ref t3, .ref t8])
    have k29 := k28.trans k9
    refine q t9 rs _ ((stF.same s1).same k29) ⟨t1, _, _, _, as, SqT.of upd_same, SqT.of (k29 _ _ upd_same), hrs.1, (hrs.keep (KeepT.of (s1.trans k29))).2⟩ ⟨by rw [nrs]; exact (List.take_sublist _ _).nodup nd, lrs4.1, l5, kok, rrk, fun r hr => sk r.1 (List.mem_of_mem_take (by rw [← nrs]; exact List.mem_map.mpr ⟨r, hr, rfl⟩))⟩ (List.ne_nil_of_length_pos (by omega))
end
open ZG (Sq ItzG walk_zipG)
open DcS (dc_it)
/-! ### keys: drawn heaps -/
/-- the sort of a kind's values -/
def TyV : Kd → V → Prop
  | .flag, v => ∃ b, v = .bl b
  | .num _ _, v => ∃ i, v = .int i
  | .ref _, v => v = .non ∨ ∃ j : Nat, v = .int (j : Int)
structure RcG (rs : List Rk) (R : List Rc) (r : Rc) : Prop where
  m : ∃ k ∈ rs, k.1 = r.nm
  l : r.live = true → r.vals.length = (flOf rs r.nm).length
  d : r.live = false → r.vals = []
  v : ∀ k s, k < r.vals.length → (flOf rs r.nm).getD k .flag = .ref s → r.vals.getD k .non = .non ∨ ∃ (j : Nat) (r' : Rc), r.vals.getD k .non = .int (j : Int) ∧ R[j]? = some r' ∧ r'.nm = s
  f : ∀ v ∈ r.vals, Flat3 v
  t : ∀ k, k < r.vals.length → TyV ((flOf rs r.nm).getD k .flag) (r.vals.getD k .non)
theorem RcG.up {rs : List Rk} {R R' : List Rc} {r : Rc} (e : ∀ (j : Nat) (r' : Rc), R[j]? = some r' → R'[j]? = some r') (h : RcG rs R r) : RcG rs R' r :=
  ⟨h.m, h.l, h.d, fun k s hk hs => (h.v k s hk hs).imp_right fun ⟨j, r', e1, e2, e3⟩ => ⟨j, r', e1, e j r' e2, e3⟩, h.f, h.t⟩
structure HpG (rs : List Rk) (R : List Rc) : Prop where
  rc : ∀ r ∈ R, RcG rs R r
  ln : R.length ≤ 100
def rkOf (rs : List Rk) (R : List Rc) (i : Nat) : Nat := match R[i]? with
  | some r => (rs.map (·.1)).idxOf r.nm
  | none => 0
theorem isRef_eq {k : Kd} (h : k.isRef = true) : ∃ s, k = .ref s := by
  cases k with
  | flag => cases h
  | ref s => exact ⟨s, rfl⟩
  | num a b => cases h
theorem HpG.ok {rs : List Rk} {R : List Rc} (w : WldOk rs) (h : HpG rs R) : HpOk rs R (rkOf rs R) := by
  have ln : ∀ i : Nat, ∀ j ∈ nbR rs R i, ∃ r r' k s, R[i]? = some r ∧ R[j]? = some r' ∧ k < r.vals.length ∧ (flOf rs r.nm).getD k .flag = .ref s ∧ r'.nm = s ∧ r.live = true := fun i j hj => by
    unfold nbR at hj
    cases e : R[i]? with
    | none => rw [e] at hj; simp at hj
    | some r =>
      rw [e] at hj
      have hj : j ∈ (if r.live then refsAt r.vals (refPl (flOf rs r.nm)) else []) := hj
      have g := h.rc r (List.mem_of_getElem? e)
      cases hl : r.live with
      | false => rw [hl] at hj; simp at hj
      | true =>
        rw [hl, if_pos rfl] at hj
        unfold refsAt at hj
        obtain ⟨k, hk, ek⟩ := List.mem_filterMap.mp hj
        have mk := mem_refPl.mp hk
        obtain ⟨s, es⟩ := isRef_eq mk.2
        have hk2 : k < r.vals.length := by rw [g.l hl]; exact mk.1
        rcases g.v k s hk2 es with v | ⟨j', r', v, e2, e3⟩
        · rw [v] at ek
          cases ek
        · rw [v] at ek
          have ek : (j' : Int).toNat = j := Option.some.inj ek
          have : j' = j := by omega
          subst this
          exact ⟨r, r', k, s, rfl, e2, hk2, es, e3, hl⟩
  refine ⟨w.pok, fun r hr => ?_, ⟨fun i => ?_, fun i j hj => ?_, fun i j hj => ?_, fun i => ?_⟩, h.ln⟩
  · have g := h.rc r hr
    refine ⟨g.m, g.l, g.d, fun k hk hrf => ?_, g.f⟩
    obtain ⟨s, es⟩ := isRef_eq hrf
    rcases g.v k s hk es with v | ⟨j, r', v, e, _⟩
    · exact .inl v
    · exact .inr ⟨j, v, (List.getElem?_eq_some_iff.mp e).1⟩
  · unfold rkOf
    have l4 := w.l
    cases R[i]? with
    | none => exact (by decide : (0:Nat) < 8)
    | some r =>
      have := List.idxOf_le_length (l := rs.map (·.1)) (a := r.nm)
      rw [List.length_map] at this
      show (rs.map (·.1)).idxOf r.nm < 8
      omega
  · obtain ⟨r, r', k, s, e1, e2, hk, es, en, hl⟩ := ln i j hj
    unfold rkOf
    rw [e1, e2]
    show (rs.map (·.1)).idxOf r'.nm < (rs.map (·.1)).idxOf r.nm
    have g := h.rc r (List.mem_of_getElem? e1)
    obtain ⟨k0, mk0, ek0⟩ := g.m
    have efl : flOf rs r.nm = k0.2.map (·.2) := by rw [← ek0]; exact flOf_mem w.nd mk0
    rw [efl] at es
    have hk2 : k < k0.2.length := by
      have := g.l hl
      rw [efl, List.length_map] at this
      omega
    have ef : k0.2[k]? = some k0.2[k] := List.getElem?_eq_getElem hk2
    have es2 : k0.2[k].2 = .ref s := by
      rw [List.getD_eq_getElem?_getD, List.getElem?_map, ef] at es
      exact es
    obtain ⟨i0, hi0, ei0⟩ := List.getElem_of_mem mk0
    obtain ⟨j0, r0, lt, er0, en0⟩ := w.rk i0 k0 (by rw [List.getElem?_eq_getElem hi0, ei0]) _ (List.getElem_mem hk2) s es2
    have idx : ∀ {m : Nat} {q : Rk}, rs[m]? = some q → (rs.map (·.1)).idxOf q.1 = m := fun {m q} e => by
      have hm := (List.getElem?_eq_some_iff.mp e).1
      have e2 := (List.getElem?_eq_some_iff.mp e).2
      have := w.nd.idxOf_getElem m (by rw [List.length_map]; exact hm)
      rw [List.getElem_map, e2] at this
      exact this
    rw [en, ← en0, idx er0, ← ek0, idx (by rw [List.getElem?_eq_getElem hi0, ei0])]
    exact lt
  · obtain ⟨r, r', k, s, e1, e2, _⟩ := ln i j hj
    exact (List.getElem?_eq_some_iff.mp e2).1
  · unfold nbR
    cases R[i]? with
    | none => exact Nat.zero_le _
    | some r =>
      show (if r.live then refsAt r.vals (refPl (flOf rs r.nm)) else []).length ≤ 20
      split
      · unfold refsAt
        have := List.length_filterMap_le (fun i => asNat (r.vals.getD i .non)) (refPl (flOf rs r.nm))
        have := refPl_len (ks := flOf rs r.nm)
        have := flOf_len w.pok (z := r.nm)
        omega
      · exact Nat.zero_le _
def movE (rs : List Rk) (R : List Rc) (o : List Nat) (k : Nat) : Rc := match R[k]? with
  | some r => ⟨r.nm, r.live, trL (flOf rs r.nm) r.vals o⟩
  | none => ⟨"", false, []⟩
def movR (rs : List Rk) (R : List Rc) (o : List Nat) : List Rc := o.map (movE rs R o)
theorem trL_len {ks : List Kd} {vs : List V} {o : List Nat} : (trL ks vs o).length = vs.length := by
  unfold trL
  rw [List.length_map, List.length_range]
theorem trL_getD {ks : List Kd} {vs : List V} {o : List Nat} {k : Nat} (h : k < vs.length) : (trL ks vs o).getD k .non = if (ks.getD k .flag).isRef then trAt o (vs.getD k .non) else vs.getD k .non := by
  unfold trL
  rw [List.getD_eq_getElem?_getD, List.getElem?_map, List.getElem?_range h]
  rfl
theorem HpG.mov {rs : List Rk} {R : List Rc} {o : List Nat} (h : HpG rs R) (pm : o.Perm (List.range R.length)) : HpG rs (movR rs R o) := by
  have mo : ∀ k, k ∈ o ↔ k < R.length := fun k => by rw [pm.mem_iff, List.mem_range]
  refine ⟨fun r hr => ?_, by unfold movR; rw [List.length_map, pm.length_eq, List.length_range]; exact h.ln⟩
  unfold movR at hr
  obtain ⟨k, hk, rfl⟩ := List.mem_map.mp hr
  have hkR := (mo k).mp hk
  have e : R[k]? = some R[k] := List.getElem?_eq_getElem hkR
  have g := h.rc _ (List.getElem_mem hkR)
  have em : movE rs R o k = ⟨R[k].nm, R[k].live, trL (flOf rs R[k].nm) R[k].vals o⟩ := by
    unfold movE
    rw [e]
  rw [em]
  generalize R[k] = r at g
  refine ⟨g.m, fun hl => by rw [trL_len]; exact g.l hl, fun hl => by show trL _ r.vals o = []; rw [g.d hl]; rfl, fun m s hm hs => ?_, trL_flat g.f, fun m hm => ?_⟩
  · have hm : m < r.vals.length := by rwa [trL_len] at hm
    have hs : (flOf rs r.nm).getD m .flag = .ref s := hs
    show (trL (flOf rs r.nm) r.vals o).getD m .non = .non ∨ _
    rw [trL_getD hm, hs, if_pos (show (Kd.ref s).isRef = true from rfl)]
    rcases g.v m s hm hs with v | ⟨j, r', v, e2, e3⟩
    · rw [v]
      exact .inl rfl
    · rw [v]
      have hj := (mo j).mpr (List.getElem?_eq_some_iff.mp e2).1
      have li := List.idxOf_lt_length_iff.mpr hj
      refine .inr ⟨o.idxOf j, movE rs R o j, rfl, ?_, ?_⟩
      · unfold movR
        rw [List.getElem?_map, List.getElem?_eq_getElem li, List.getElem_idxOf]
        rfl
      · unfold movE
        rw [e2]
        exact e3
  · have hm : m < r.vals.length := by rwa [trL_len] at hm
    show TyV ((flOf rs r.nm).getD m .flag) ((trL (flOf rs r.nm) r.vals o).getD m .non)
    rw [trL_getD hm]
    have t := g.t m hm
    cases z : (flOf rs r.nm).getD m .flag with
    | flag => rw [z] at t; exact t
    | num a b => rw [z] at t; exact t
    | ref s =>
      rw [z] at t
      rw [if_pos (show (Kd.ref s).isRef = true from rfl)]
      rcases t with t | ⟨j, t⟩
      · rw [t]
        exact .inl rfl
      · rw [t]
        exact .inr ⟨_, rfl⟩
theorem HpG.rep {rs : List Rk} {R : List Rc} (h : HpG rs R) (n : Nat) (l : R.length * (n + 1) ≤ 100) : HpG rs (List.replicate (n + 1) R).flatten := by
  refine ⟨fun r hr => ?_, ?_⟩
  · obtain ⟨q, hq, hr⟩ := List.mem_flatten.mp hr
    rw [List.eq_of_mem_replicate hq] at hr
    refine (h.rc r hr).up fun j r' e => ?_
    rw [List.replicate_succ, List.flatten_cons, List.getElem?_append_left (List.getElem?_eq_some_iff.mp e).1]
    exact e
  · rw [List.length_flatten, List.map_replicate, List.sum_replicate_nat, Nat.mul_comm]
    exact l
def DrV (R : List Rc) : Kd → V → Prop
  | .flag, u => ∃ b, u = .bl b
  | .num _ _, u => ∃ i, u = .int i
  | .ref s, u => u = .non ∨ ∃ (j : Nat) (r : Rc), u = .int (j : Int) ∧ R[j]? = some r ∧ r.nm = s
theorem DrV.ty {R : List Rc} {kd : Kd} {u : V} (h : DrV R kd u) : TyV kd u := by
  cases kd with
  | flag => exact h
  | num a b => exact h
  | ref s =>
    rcases h with h | ⟨j, r, h, _⟩
    · exact .inl h
    · exact .inr ⟨j, h⟩
theorem DrV.flat {R : List Rc} {kd : Kd} {u : V} (h : DrV R kd u) : Flat3 u := by
  cases kd with
  | flag => obtain ⟨b, rfl⟩ := h; exact .inr (.inl ⟨b, rfl⟩)
  | num a b => obtain ⟨i, rfl⟩ := h; exact .inr (.inr ⟨i, rfl⟩)
  | ref s =>
    rcases h with rfl | ⟨j, r, rfl, _⟩
    · exact .inl rfl
    · exact .inr (.inr ⟨_, rfl⟩)
theorem RunAt.stp {K : PySem.W.Frag} {a : Addr} {H H' : Hp} {d : Addr} {rs : List Rk} {R : List Rc} (s : Stp a H H') (hS : Src H a) (h : RunAt K a H d rs R) : RunAt K a H' d rs R := h.but (fun b o ne e => s.k b o ne e) (s.keepT hS)
def spShuf : Sp := fun vs H Q _ => ∃ (a : Addr) (n : Nat), vs = [.ref a, .int (n : Int)] ∧ Src H a ∧ n ≤ 100 ∧ ∀ l o H', Stp a H H' → H l = none → H' l = some (.lst (natsV o)) → o.Perm (List.range n) → Q (.ref l) H'
def spDrawn (K : PySem.W.Frag) : Sp := fun vs H Q _ => ∃ (a dr : Addr) (v : V) (kd : Kd) (rs : List Rk) (R : List Rc), vs = [.ref a, .ref dr, v] ∧ Src H a ∧ RunAt K a H dr rs R ∧ KdAt K H v kd ∧ KOk kd ∧ R.length ≤ 100 ∧ ∀ u H', Stp a H H' → DrV R kd u → Q u H'
theorem natsV_ne {a p : Addr} {H : Hp} {l : List Nat} (h : Src H a) (n : ∀ c m k : Int, natsV l ≠ [.int c, .int m, .int k]) (e : H p = some (.lst (natsV l))) : p ≠ a := fun z => by
  obtain ⟨c, m, k, hs⟩ := h
  rw [z, hs] at e
  exact n c m k (HO.lst.inj (Option.some.inj e)).symm
section
variable {P : Program} {w : World} {K : PySem.W.Frag} {mg : Str → Option Value} {base : Heap}
theorem ok_l_shuffled (T : Txt w K mg) : FnOk P w K mg base CX0 2 T.a_l_shuffled T.d_l_shuffled p_l_shuffled spShuf := by
  have g_l_pick := ok_l_pick (P := P) (w := w) (base := base) T
  refine T.F_l_shuffled.ok sc_l_shuffled (fun vs H Q E h => ?_) (fun cdv A outer s H vs Q E hr h => ?_)
  · obtain ⟨a, n, rfl, _⟩ := h
    rfl
  obtain ⟨a, n, rfl, hS, hn, q⟩ := h
  refine ⟨_, (pss_cons (ps_set (i := 2) sc_l_shuffled.nd rfl (Or.inl rfl) (pe_lst pa_nil))
      (pss_cons (ps_for PassesOwn.never rfl (pi_range1 rfl T.z_range (pa_cons (pv 1) pa_nil)) (pg_name (i := 3) sc_l_shuffled.nd rfl (Or.inl rfl))
        (pss_one (ps_expr (pe_bm PySem.F.plainAttrs_list PySem.F.slot_list_insert PySem.F.type_list_insert mt_insert (pv 2) (pa_cons (pe_call g_l_pick (hr.mono (by first | decide | omega)) rfl T.m_l_pick T.F_l_pick.kp T.b_l_pick .nil pass0 (pa_cons (pv 0) (pa_cons (pe_op op_add (pv 3) pe_int) pa_nil))) (pa_cons (pv 3) pa_nil))))))
      (pss_one (ps_ret (pv 2))))), ?_⟩
  refine ⟨by show 0 ≤ sizeLine; decide, fun l hl => ?_⟩
  have sl := Same.new hl (.lst [])
  have nla : l ≠ a := (hS.ne hl).symm
  refine ⟨_, rfl, (n : Int), rfl, by omega, by omega, for_range (lo := 0) (n := n) (fun i σ G => ∃ o : List Nat, Stp a H G ∧ G l = some (.lst (natsV o)) ∧ o.Perm (List.range i) ∧ ∃ v3 : Option V, σ = [some (.ref a), some (.int (n : Int)), some (.ref l), v3]) ⟨[], Stp.of_same hS sl, upd_same, .nil, none, rfl⟩ ?_ ?_⟩
  · rintro i σ G hi ⟨o, st, eo, pm, v3, rfl⟩
    have lo : o.length = i := by rw [pm.length_eq, List.length_range]
    refine ⟨_, rfl, .inl ⟨rfl, _, SqL.of eo⟩, ?_⟩
    refine ⟨_, rfl, _, rfl, _, _, rfl, rfl, a, _, rfl, st.s, by omega, fun r G2 st2 r0 r1 => ?_⟩
    have eo2 := st2.k _ _ nla eo
    refine ⟨_, rfl, l, _, r, _, rfl, rfl, eo2, by rw [natsV_len]; exact lt_line (by omega), r0, by omega, ?_⟩
    have e2 : (natsV o).take r.toNat ++ [V.int (0 + (i : Int))] ++ (natsV o).drop r.toNat = natsV (o.take r.toNat ++ [i] ++ o.drop r.toNat) := by
      unfold natsV
      rw [List.map_append, List.map_append, List.map_take, List.map_drop, Int.zero_add]
      rfl
    rw [e2]
    refine ⟨_, (st.trans st2).put hS hl, upd_same, ?_, _, rfl⟩
    have p1 : (o.take r.toNat ++ [i] ++ o.drop r.toNat).Perm (o ++ [i]) := by
      have p2 : (o.take r.toNat ++ ([i] ++ o.drop r.toNat)).Perm (o.take r.toNat ++ (o.drop r.toNat ++ [i])) := List.Perm.append_left _ List.perm_append_comm
      rw [← List.append_assoc, ← List.append_assoc, List.take_append_drop] at p2
      exact p2
    rw [List.range_succ]
    exact p1.trans (List.Perm.append_right _ pm)
  · rintro σ G ⟨o, st, eo, pm, v3, rfl⟩
    exact ⟨_, rfl, q l o G st hl eo pm⟩
theorem ok_l_drawn_value (T : Txt w K mg) : FnOk P w K mg base CX0 3 T.a_l_drawn_value T.d_l_drawn_value p_l_drawn_value (spDrawn K) := by
  have g_l_pick := ok_l_pick (P := P) (w := w) (base := base) T
  have g_l_one := ok_l_oneG (P := P) (w := w) (K := K) (base := base) T
  refine T.F_l_drawn_value.ok sc_l_drawn_value (fun vs H Q E h => ?_) (fun cdv A outer s H vs Q E hr h => ?_)
  · obtain ⟨a, dr, v, kd, rs, R, rfl, _⟩ := h
    rfl
  obtain ⟨a, dr, v, kd, rs, R, rfl, hS, hrun, ⟨p, rfl, hp⟩, kok, lR, q⟩ := h
  refine ⟨_, (pss_cons (ps_if (pt_cmpR op_eq (pe_ix ix_tup (pv 2) pe_int (fun _ _ => rfl)) pe_str (nomark _)) (pss_one (ps_ret (pe_cmpR op_eq (pe_call g_l_pick (hr.mono (by first | decide | omega)) rfl T.m_l_pick T.F_l_pick.kp T.b_l_pick .nil pass0 (pa_cons (pv 0) (pa_cons pe_int pa_nil))) pe_int (nomark _)))) pss_nil)
      (pss_cons (ps_if (pt_cmpR op_eq (pe_ix ix_tup (pv 2) pe_int (fun _ _ => rfl)) pe_str (nomark _)) (pss_one (ps_ret (pe_op op_add (pe_ix ix_tup (pv 2) pe_int (fun _ _ => rfl)) (pe_call g_l_pick (hr.mono (by first | decide | omega)) rfl T.m_l_pick T.F_l_pick.kp T.b_l_pick .nil pass0 (pa_cons (pv 0) (pa_cons (pe_op op_add (pe_op op_sub (pe_ix ix_tup (pv 2) pe_int (fun _ _ => rfl)) (pe_ix ix_tup (pv 2) pe_int (fun _ _ => rfl))) pe_int) pa_nil)))))) pss_nil)
      (pss_cons (ps_setLc (i := 3) (own := [("_law_k", 4)]) (g := gName 4) rfl sc_l_drawn_value.nd rfl rfl (sw_true rfl rfl rfl (by decide +kernel)) (pi_range1 rfl T.z_range (pa_cons (pe_callB call_len_seq rfl T.z_len PySem.boot_len (pa_cons (pe_dget (hu_of hr) (pv 1) pe_str (fun _ _ => rfl)) pa_nil)) pa_nil)) (blkOk_by (own := [("_law_k", 4)]) (N := n_l_drawn_value) (sc := defScope s_l_drawn_value) (by decide +kernel)) (fun _ _ _ _ _ => (pg_name (i := 4) sc_l_drawn_value.nd rfl (Or.inl rfl))) (fun _ _ _ _ _ => (pts_one (pt_cmpR op_eq (pe_ix (show IxR _ (rIxL K) from ix_list) (pe_ix (show IxR _ (rIxL K) from ix_list) (pe_dget (hu_of hr) (pv 1) pe_str (fun _ _ => rfl)) (pv 4) (fun _ _ => rfl)) pe_int (fun _ _ => rfl)) (pe_ix (show IxR _ (rIxT K) from ix_tup) (pv 2) pe_int (fun _ _ => rfl)) (nomark _)))) (fun _ _ _ _ _ => (pv 4)))
      (pss_cons (ps_if (PW.pt (pw_or (pt_cmpR (op_eqL0 hr.units0) (pv 3) (pe_lst pa_nil) (nomark _)) (pw_or1 (pt_cmpR op_eq (pe_call g_l_pick (hr.mono (by first | decide | omega)) rfl T.m_l_pick T.F_l_pick.kp T.b_l_pick .nil pass0 (pa_cons (pv 0) (pa_cons pe_int pa_nil))) pe_int (nomark _))))) (pss_one (ps_ret pe_non)) pss_nil)
      (pss_one (ps_ret (pe_call g_l_one (hr.mono (by first | decide | omega)) rfl T.m_l_one T.F_l_one.kp T.b_l_one .nil pass0 (pa_cons (pv 0) (pa_cons (pv 3) pa_nil))))))))), ?_⟩
  cases kd with
  | flag =>
    refine ⟨_, rfl, p, _, _, _, rfl, rfl, hp, rfl, rfl, _, rfl, ifT (by decide +kernel) ?_⟩
    exact ⟨_, rfl, a, 2, rfl, hS, by decide, fun r G st _ _ => ⟨rfl, q _ G st ⟨_, rfl⟩⟩⟩
  | num lo hi =>
    have kok : lo ≤ hi ∧ hi ≤ lo + 7 := kok
    refine ⟨_, rfl, p, _, _, _, rfl, rfl, hp, rfl, rfl, _, rfl, ifF (by decide +kernel) ?_⟩
    refine ⟨_, rfl, p, _, _, _, rfl, rfl, hp, rfl, rfl, _, rfl, ifT (by decide +kernel) ?_⟩
    exact ⟨_, rfl, p, _, _, _, rfl, rfl, hp, rfl, _, rfl, _, rfl, p, _, _, _, rfl, rfl, hp, rfl, _, rfl, p, _, _, _, rfl, rfl, hp, rfl, _, _, rfl, rfl, _, _, rfl, rfl, a, _, rfl, hS, by omega, fun r G st _ _ => ⟨_, _, rfl, rfl, q _ G st ⟨_, rfl⟩⟩⟩
  | ref sz =>
    refine ⟨_, rfl, p, _, _, _, rfl, rfl, hp, rfl, rfl, _, rfl, ifF (by decide +kernel) ?_⟩
    refine ⟨_, rfl, p, _, _, _, rfl, rfl, hp, rfl, rfl, _, rfl, ifF (by decide +kernel) ?_⟩
    obtain ⟨kvs, kf, lr, df, rows, run⟩ := hrun
    refine ⟨_, rfl, dr, _, rfl, DGet.at (k := Sum.inr "records") run.hd run.kr, lr, _, rfl, .inl (SqL.of run.hl), _, rfl, by omega, by rw [run.lr]; omega, fun D hD => ?_⟩
    have nD := (hS.ne hD).symm
    refine lc_it walk_range (fun m G => Same H G ∧ ∃ pl : List Nat, G D = some (.lst (natsV pl)) ∧ pl.length ≤ m ∧ ∀ j ∈ pl, ∃ r, R[j]? = some r ∧ r.nm = sz) ⟨Same.new hD _, [], upd_same, Nat.le_refl _, fun j hj => by simp at hj⟩ (fun _ _ _ _ => trivial) ?_ ?_
    · rintro m x G G' hm ⟨sG, pl, eD, lpl, hpl⟩ ⟨rfl, rfl⟩
      rw [run.lr] at hm
      have hmR : m < R.length := by omega
      have hmr : m < rows.length := by rw [run.lr]; exact hmR
      have er : R[m]? = some R[m] := List.getElem?_eq_getElem hmR
      have ev : rows[m]? = some rows[m] := List.getElem?_eq_getElem hmr
      obtain ⟨pr, l, ep, n1, n2, h1, h2⟩ := run.rw m _ _ ev er
      rw [ep] at ev
      have at1 : atI rows (0 + (m : Int)) = some (.ref pr) := by rw [Int.zero_add]; exact atI_nat ev
      refine ⟨rfl, ?_⟩
      refine ⟨_, rfl, dr, _, rfl, DGet.at (k := Sum.inr "records") (sG _ _ run.hd) run.kr, _, rfl, lr, _, _, _, rfl, rfl, SqL.of (sG _ _ run.hl), at1, pr, _, 0, _, rfl, rfl, SqL.of (sG _ _ h1), rfl, _, rfl, p, _, _, _, rfl, rfl, Same.tup sG hp, rfl, rfl, _, rfl, ite2 (fun h => ?_) (fun h => ?_)⟩
      · have en : R[m].nm = sz := V.str.inj (of_decide_eq_true h)
        refine ⟨_, rfl, _, eD, lt_line (by rw [natsV_len]; omega), fun b u e => by rw [upd_ne (ne_of_none e hD)]; exact sG _ _ e, pl ++ [m], ?_, by rw [List.length_append]; show pl.length + 1 ≤ _; omega, fun j hj => ?_⟩
        · rw [natsV_app]
          show upd G' D (HO.lst (natsV pl ++ [V.int (0 + (m : Int))])) D = some (HO.lst (natsV pl ++ [V.int (m : Int)]))
          rw [Int.zero_add]
          exact upd_same
        · rcases List.mem_append.mp hj with h | h
          · exact hpl j h
          · rw [List.mem_singleton.mp h]; exact ⟨_, er, en⟩
      · exact ⟨sG, pl, eD, by omega, hpl⟩
    rintro G ⟨sG, pl, eD, lpl, hpl⟩
    have stG := Stp.of_same hS sG
    refine ⟨_, rfl, by show 0 ≤ sizeLine; decide, fun e0 he => ?_⟩
    have se := Same.new he (.lst [])
    have stE := stG.same se
    refine ⟨D, e0, _, rfl, rfl, SqL.of (se _ _ eD), SqL.of upd_same, _, rfl, ite2 (fun h => iteT (q .non _ stE (.inl rfl))) (fun hne => ?_)⟩
    have nep : pl ≠ [] := fun z => by
      subst z
      exact hne rfl
    refine ⟨_, rfl, a, 4, rfl, stE.s, by decide, fun r G2 st2 _ _ => ⟨rfl, _, rfl, ite2 (fun _ => q .non _ (stE.trans st2) (.inl rfl)) (fun _ => ?_)⟩⟩
    have eD2 := st2.k _ _ nD (se _ _ eD)
    refine ⟨_, rfl, _, rfl, a, D, _, false, rfl, st2.s, fun _ => nD, SqL.of eD2, by rw [natsV_len]; exact List.length_pos_iff.mpr nep, by rw [natsV_len]; rw [run.lr] at lpl; omega, fun u G3 hu st3 => ?_⟩
    obtain ⟨j, hj, rfl⟩ := List.mem_map.mp hu
    obtain ⟨r', e1, e2⟩ := hpl j hj
    exact q _ G3 ((stE.trans st2).trans st3) (.inr ⟨j, r', rfl, e1, e2⟩)
end
open ZG (Sq ItzG walk_zipG)
open DcS (dc_it)
/-! ### keys: the same heap with other numbers -/
/-- a row of fresh addresses, none of them the list of rows -/
def RowF (H : Hp) (l : Addr) (F : Hp) (v : V) (r : Rc) : Prop := ∃ p q, v = .ref p ∧ H p = none ∧ H q = none ∧ p ≠ l ∧ q ≠ l ∧ F p = some (.lst [.str r.nm, .bl r.live, .ref q]) ∧ F q = some (.lst r.vals)
theorem RowF.up {H F F' : Hp} {l : Addr} {v : V} {r : Rc} (k : ∀ b o, H b = none → b ≠ l → F b = some o → F' b = some o) (h : RowF H l F v r) : RowF H l F' v r := by
  obtain ⟨p, q, e, n1, n2, m1, m2, h1, h2⟩ := h
  exact ⟨p, q, e, n1, n2, m1, m2, k _ _ n1 m1 h1, k _ _ n2 m2 h2⟩
theorem RowF.at {H F : Hp} {l a : Addr} {v : V} {r : Rc} (hS : Src H a) (h : RowF H l F v r) : RowAt a F v r := by
  obtain ⟨p, q, e, n1, n2, _, _, h1, h2⟩ := h
  exact ⟨p, q, e, (hS.ne n1).symm, (hS.ne n2).symm, h1, h2⟩
def RowsF (H : Hp) (l : Addr) (F : Hp) (rows : List V) (R : List Rc) : Prop := rows.length = R.length ∧ ∀ (i : Nat) (v : V) (r : Rc), rows[i]? = some v → R[i]? = some r → RowF H l F v r
theorem RowsF.up {H F F' : Hp} {l : Addr} {vs : List V} {R : List Rc} (k : ∀ b o, H b = none → b ≠ l → F b = some o → F' b = some o) (h : RowsF H l F vs R) : RowsF H l F' vs R := ⟨h.1, fun i v r e1 e2 => (h.2 i v r e1 e2).up k⟩
theorem RowsF.push {H F : Hp} {l : Addr} {vs : List V} {R : List Rc} {v : V} {r : Rc} (h : RowsF H l F vs R) (g : RowF H l F v r) : RowsF H l F (vs ++ [v]) (R ++ [r]) :=
  ⟨by rw [List.length_append, List.length_append, h.1]; rfl, fun i c q e1 e2 => by
    rcases two_get e1 with ⟨l1, e1⟩ | ⟨l1, rfl⟩
    · rcases two_get e2 with ⟨_, e2⟩ | ⟨l2, _⟩
      · exact h.2 i c q e1 e2
      · have := h.1
        omega
    · rcases two_get e2 with ⟨l2, _⟩ | ⟨_, rfl⟩
      · have := h.1
        omega
      · exact g⟩
def kvR (lr df : Addr) : List (Key × V) := [(Sum.inr "records", .ref lr), (Sum.inr "fields", .ref df)]
theorem kvR_rec {lr df : Addr} : valV (kvR lr df) (Sum.inr "records") = some (.ref lr) := by kernel_rfl
theorem kvR_fld {lr df : Addr} : valV (kvR lr df) (Sum.inr "fields") = some (.ref df) := by kernel_rfl
theorem kvR_mk {lr df : Addr} : mergeK [] [(Sum.inr "records", .ref lr), (Sum.inr "fields", .ref df)] = kvR lr df := by kernel_rfl
/-- a run whose dict has the two keys only -/
def RunN (K : PySem.W.Frag) (a : Addr) (H : Hp) (d : Addr) (rs : List Rk) (R : List Rc) : Prop := ∃ (kf : List (Key × V)) (l df : Addr) (vs : List V), df ≠ d ∧ RunE K a H d rs R (kvR l df) kf l df vs
theorem RunN.at {K : PySem.W.Frag} {a : Addr} {H : Hp} {d : Addr} {rs : List Rk} {R : List Rc} (h : RunN K a H d rs R) : RunAt K a H d rs R := by
  obtain ⟨kf, l, df, vs, _, h⟩ := h
  exact ⟨_, kf, l, df, vs, h⟩
def spMoved (K : PySem.W.Frag) : Sp := fun vs H Q _ => ∃ (dr lo a : Addr) (rs : List Rk) (R : List Rc) (o : List Nat), vs = [.ref dr, .ref lo] ∧ WldOk rs ∧ HpG rs R ∧ Src H a ∧ RunAt K a H dr rs R ∧ H lo = some (.lst (natsV o)) ∧ o.Perm (List.range R.length) ∧ ∀ d2 H', Same H H' → H d2 = none → RunN K a H' d2 rs (movR rs R o) → Q (.ref d2) H'
theorem movR_take {rs : List Rk} {R : List Rc} {o : List Nat} {i k : Nat} (ek : o[i]? = some k) : (o.take (i + 1)).map (movE rs R o) = (o.take i).map (movE rs R o) ++ [movE rs R o k] := by
  rw [List.take_add_one, ek, List.map_append]
  rfl
section
variable {P : Program} {w : World} {K : PySem.W.Frag} {mg : Str → Option Value} {base : Heap}
theorem ok_l_moved (T : Txt w K mg) : FnOk P w K mg base CX0 2 T.a_l_moved T.d_l_moved p_l_moved (spMoved K) := by
  have g_l_renumbered := ok_l_renumbered (P := P) (w := w) (K := K) (base := base) T
  refine T.F_l_moved.ok sc_l_moved (fun vs H Q E h => ?_) (fun cdv A outer s H vs Q E hr h => ?_)
  · obtain ⟨dr, lo, a, rs, R, o, rfl, _⟩ := h
    rfl
  obtain ⟨dr, lo, a, rs, R, o, rfl, wok, hg, hS, hrun, ho, pm, q⟩ := h
  refine ⟨_, (pss_cons (ps_set (i := 2) sc_l_moved.nd rfl (Or.inl rfl) (pe_disp (pps_cons pe_str (pe_lst pa_nil) (pps_cons pe_str (pe_dget (hu_of hr) (pv 0) pe_str (fun _ _ => rfl)) pps_nil)) (by rfl) (by rfl) (fun z => by cases z) (by decide)))
      (pss_cons (ps_for PassesOwn.never rfl (pi_list (pv 1)) (pg_name (i := 3) sc_l_moved.nd rfl (Or.inl rfl))
        (pss_cons (ps_set (i := 4) sc_l_moved.nd rfl (Or.inl rfl) (pe_ix ix_list (pe_dget (hu_of hr) (pv 0) pe_str (fun _ _ => rfl)) (pv 3) (fun _ _ => rfl)))
      (pss_cons (ps_set (i := 5) sc_l_moved.nd rfl (Or.inl rfl) (pe_dget (hu_of hr) (pe_dget (hu_of hr) (pv 0) pe_str (fun _ _ => rfl)) (pe_ix ix_list (pv 4) pe_int (fun _ _ => rfl)) (fun _ _ => rfl)))
      (pss_cons (ps_set (i := 6) sc_l_moved.nd rfl (Or.inl rfl) (pe_lst pa_nil))
      (pss_cons (ps_for PassesOwn.never rfl (pi_range1 rfl T.z_range (pa_cons (pe_callB call_len_seq rfl T.z_len PySem.boot_len (pa_cons (pe_ix ix_list (pv 4) pe_int (fun _ _ => rfl)) pa_nil)) pa_nil)) (pg_name (i := 7) sc_l_moved.nd rfl (Or.inl rfl))
        (pss_one (ps_expr (pe_bm PySem.F.plainAttrs_list PySem.F.slot_list_append PySem.F.type_list_append mt_append (pv 6) (pa_cons (pe_call g_l_renumbered (hr.mono (by first | decide | omega)) rfl T.m_l_renumbered T.F_l_renumbered.kp T.b_l_renumbered .nil pass0 (pa_cons (pe_ix ix_tup (pe_ix ix_tup (pv 5) (pv 7) (fun _ _ => rfl)) pe_int (fun _ _ => rfl)) (pa_cons (pe_ix ix_list (pe_ix ix_list (pv 4) pe_int (fun _ _ => rfl)) (pv 7) (fun _ _ => rfl)) (pa_cons (pv 1) pa_nil)))) pa_nil)))))
      (pss_one (ps_expr (pe_bm PySem.F.plainAttrs_list PySem.F.slot_list_append PySem.F.type_list_append mt_append (pe_dget (hu_of hr) (pv 2) pe_str (fun _ _ => rfl)) (pa_cons (pe_lst (pa_cons (pe_ix ix_list (pv 4) pe_int (fun _ _ => rfl)) (pa_cons (pe_ix ix_list (pv 4) pe_int (fun _ _ => rfl)) (pa_cons (pv 6) pa_nil)))) pa_nil)))))))))
      (pss_one (ps_ret (pv 2))))), ?_⟩
  have lR := hg.ln
  have mo : ∀ k, k ∈ o ↔ k < R.length := fun k => by rw [pm.mem_iff, List.mem_range]
  have lo100 : o.length ≤ 100 := by rw [pm.length_eq, List.length_range]; exact lR
  obtain ⟨kvs, kf, lr, df, rows, run⟩ := hrun
  refine fun d hd => ⟨by show 0 ≤ sizeLine; decide, fun l hl => ⟨_, rfl, dr, _, rfl, DGet.at (k := Sum.inr "fields") (Same.new hl _ _ _ (Same.new hd _ _ _ run.hd)) run.kk, ?_⟩⟩
  have nld : l ≠ d := fun z => by
    rw [z, upd_same] at hl
    cases hl
  have hl0 : H l = none := by rwa [upd_ne nld] at hl
  refine ⟨by rw [upd_ne nld.symm]; exact upd_same, [(Sum.inr "records", .ref l), (Sum.inr "fields", .ref df)], rfl, by show 2 ≤ 15; decide, ?_⟩
  rw [kvR_mk]
  have s0 : Same H (upd (upd (upd H d (.dK [])) l (.lst [])) d (.dK (kvR l df))) := fun b u e => by
    rw [upd_ne (ne_of_none e hd), upd_ne (ne_of_none e hl0), upd_ne (ne_of_none e hd)]
    exact e
  have hd0 : (upd (upd (upd H d (.dK [])) l (.lst [])) d (.dK (kvR l df))) d = some (.dK (kvR l df)) := upd_same
  have hll : (upd (upd (upd H d (.dK [])) l (.lst [])) d (.dK (kvR l df))) l = some (.lst []) := by
    rw [upd_ne nld]
    exact upd_same
  generalize (upd (upd (upd H d (.dK [])) l (.lst [])) d (.dK (kvR l df))) = F0 at s0 hd0 hll
  refine ⟨_, rfl, lo, rfl, ⟨_, SqL.of (s0 _ _ ho)⟩, for_list (K := K) (a := lo) (xs := natsV o) (fun i σ F => Same H F ∧ F d = some (.dK (kvR l df)) ∧ (∃ vs : List V, F l = some (.lst vs) ∧ RowsF H l F vs ((o.take i).map (movE rs R o))) ∧ ∃ v3 v4 v5 v6 v7 : Option V, σ = [some (.ref dr), some (.ref lo), some (.ref d), v3, v4, v5, v6, v7])
    ⟨s0, hd0, ⟨[], hll, rfl, fun i v r e => by simp at e⟩, none, none, none, none, none, rfl⟩ (fun i σ F _ ⟨s, _⟩ => SqL.of (s _ _ ho)) ?_ ?_⟩
  · rintro i y σ F ey ⟨sF, hdF, ⟨vs, hlF, rf⟩, v3, v4, v5, v6, v7, rfl⟩
    obtain ⟨k, ek, rfl⟩ := natsV_inv ey
    have i100 : i < 100 := by
      have := (List.getElem?_eq_some_iff.mp ek).1
      omega
    have lvs : vs.length = i := by
      rw [rf.1, List.length_map, List.length_take]
      have := (List.getElem?_eq_some_iff.mp ek).1
      omega
    have mk := List.mem_of_getElem? ek
    have hkR := (mo k).mp mk
    have er : R[k]? = some R[k] := List.getElem?_eq_getElem hkR
    have hi2 : k < rows.length := by rw [run.lr]; exact hkR
    have ev : rows[k]? = some rows[k] := List.getElem?_eq_getElem hi2
    obtain ⟨p, lv, ep, np, nl, hp, hv⟩ := run.rw k _ _ ev er
    have g := hg.rc _ (List.getElem_mem hkR)
    have eM : movE rs R o k = ⟨R[k].nm, R[k].live, trL (flOf rs R[k].nm) R[k].vals o⟩ := by
      unfold movE
      rw [er]
    generalize R[k] = r at er hp hv g eM
    rw [ep] at ev
    obtain ⟨rk0, mk0, ek0⟩ := g.m
    obtain ⟨pf, ef, bs, hbs, lbs, hb⟩ := run.fl rk0 mk0
    rw [ek0] at ef
    have efl : flOf rs r.nm = rk0.2.map (·.2) := by rw [← ek0]; exact flOf_mem wok.nd mk0
    have l20 := flOf_len wok.pok (z := r.nm)
    have lbf : bs.length = (flOf rs r.nm).length := by rw [lbs, efl, List.length_map]
    have lvl : r.vals.length ≤ (flOf rs r.nm).length := by
      cases hlv : r.live with
      | true => rw [g.l hlv]; exact Nat.le_refl _
      | false => rw [g.d hlv]; exact Nat.zero_le _
    refine ⟨_, rfl, dr, _, rfl, DGet.at (k := Sum.inr "records") (sF _ _ run.hd) run.kr, _, rfl, lr, _, _, _, rfl, rfl, SqL.of (sF _ _ run.hl), atI_nat ev, ?_⟩
    refine ⟨_, rfl, dr, _, rfl, DGet.at (k := Sum.inr "fields") (sF _ _ run.hd) run.kk, _, rfl, p, _, 0, _, rfl, rfl, SqL.of (sF _ _ hp), rfl, df, _, rfl, DGet.at (k := Sum.inr r.nm) (sF _ _ run.hf) ef, ?_⟩
    refine ⟨by show 0 ≤ sizeLine; decide, fun fl hfl => ?_⟩
    have sf := Same.new hfl (.lst [])
    have kE := sF.trans sf
    refine ⟨_, rfl, p, _, 2, _, rfl, rfl, SqL.of (kE _ _ hp), rfl, lv, _, rfl, .inl (SqL.of (kE _ _ hv)), _, rfl, by omega, by omega, for_range (lo := 0) (fun m σ F2 => Same F F2 ∧ F2 fl = some (.lst (trTo (flOf rs r.nm) r.vals o m)) ∧ ∃ v7 : Option V, σ = [some (.ref dr), some (.ref lo), some (.ref d), some (.int (k : Int)), some (.ref p), some (.ref pf), some (.ref fl), v7])
      ⟨sf, upd_same, _, rfl⟩ ?_ ?_⟩
    · rintro m σ F2 hm ⟨s2, hfl2, v7, rfl⟩
      have hm : m < r.vals.length := by omega
      have s2F := sF.trans s2
      have eb : bs[m]? = some (bs[m]'(by omega)) := List.getElem?_eq_getElem _
      have efk : rk0.2[m]? = some (rk0.2[m]'(by omega)) := List.getElem?_eq_getElem _
      obtain ⟨kv, h1, h2⟩ := hb m _ _ eb efk
      have ekd : (flOf rs r.nm).getD m .flag = (rk0.2[m]'(by omega)).2 := by
        rw [efl]
        exact getD_get (by rw [List.getElem?_map, efk]; rfl)
      generalize (rk0.2[m]'(by omega)) = fk at efk h1 h2 ekd
      generalize (bs[m]'(by omega)) = bk at eb h1
      have at1 : atI (bs.map V.ref) (0 + (m : Int)) = some (.ref bk) := by rw [Int.zero_add]; exact atI_nat (map_get eb)
      have at2 : atI r.vals (0 + (m : Int)) = some (r.vals.getD m .non) := by rw [Int.zero_add]; exact atI_nat (getD_some hm)
      refine ⟨_, rfl, .inl ⟨rfl, _, SqL.of hfl2⟩, ?_⟩
      refine ⟨_, rfl, _, rfl, pf, _, _, _, rfl, rfl, Same.tup s2F hbs, at1, bk, _, _, _, rfl, rfl, Same.tup s2F h1, rfl, ?_⟩
      refine ⟨_, rfl, p, _, 2, _, rfl, rfl, SqL.of (s2F _ _ hp), rfl, _, rfl, lv, _, _, _, rfl, rfl, SqL.of (s2F _ _ hv), at2, _, rfl, kv, r.vals.getD m .non, lo, fk.2, o, rfl, h2.keep (KeepT.of s2F), s2F _ _ ho, fun hrf => ?_, fun hrf => ?_, ?_⟩
      · obtain ⟨sn, es⟩ := isRef_eq hrf
        rcases g.v m sn hm (by rw [ekd]; exact es) with hu | ⟨j, r', hu, hj, _⟩
        · exact .inl hu
        · exact .inr ⟨j, hu, (mo j).mpr (List.getElem?_eq_some_iff.mp hj).1⟩
      · exact g.f _ (List.mem_of_getElem? (getD_some hm))
      · refine ⟨fl, _, _, rfl, rfl, hfl2, lt_line (by unfold trTo; rw [List.length_map, List.length_range]; omega), fun b u e => by rw [upd_ne (ne_of_none e hfl)]; exact s2 _ _ e, ?_, _, rfl⟩
        rw [trTo_succ, ekd]
        exact upd_same
    · rintro σ F2 ⟨s2, hfl2, v7, rfl⟩
      have e0 : (((r.vals.length : Nat) : Int) - 0).toNat = r.vals.length := by omega
      have hfl2 : F2 fl = some (.lst (trL (flOf rs r.nm) r.vals o)) := by
        unfold trL
        unfold trTo at hfl2
        first | exact hfl2 | (rw [e0] at hfl2; exact hfl2)
      have s2F := sF.trans s2
      refine ⟨_, rfl, d, _, rfl, DGet.at (k := Sum.inr "records") (s2 _ _ hdF) kvR_rec, .inl ⟨rfl, _, SqL.of (s2 _ _ hlF)⟩, ?_⟩
      refine ⟨_, rfl, p, _, 0, _, rfl, rfl, SqL.of (s2F _ _ hp), rfl, _, rfl, p, _, 1, _, rfl, rfl, SqL.of (s2F _ _ hp), rfl, _, rfl, by show 3 ≤ sizeLine; decide, fun t ht => ?_⟩
      have n1 := Same.new ht (.lst [.str r.nm, .bl r.live, .ref fl])
      have sE := s2.trans n1
      have hlE := sE _ _ hlF
      have nfl := ne_of_none hlF hfl
      have ht0 : F t = none := s2.free ht
      have ntl := ne_of_none (s2 _ _ hlF) ht
      refine ⟨l, _, _, rfl, rfl, hlE, lt_line (by omega), fun b u e => ?_, ?_, ⟨_, upd_same, ?_⟩, _, _, _, _, _, rfl⟩
      · rw [upd_ne (ne_of_none e hl0)]
        exact sE _ _ (sF _ _ e)
      · rw [upd_ne nld.symm]
        exact sE _ _ hdF
      · rw [movR_take ek]
        refine RowsF.push (rf.up fun b u _ ne e => by rw [upd_ne ne]; exact sE _ _ e) ?_
        rw [eM]
        refine ⟨t, fl, rfl, sF.free ht0, sF.free hfl, ntl.symm, nfl.symm, ?_, ?_⟩
        · rw [upd_ne ntl.symm]
          exact upd_same
        · rw [upd_ne nfl.symm]
          exact n1 _ _ hfl2
  rintro σ F ⟨sF, hdF, ⟨vs, hlF, rf⟩, v3, v4, v5, v6, v7, rfl⟩
  rw [natsV_len, List.take_length] at rf
  have na : ∀ {b : Addr}, H b = none → b ≠ a := fun n => (hS.ne n).symm
  exact ⟨_, rfl, q d F sF hd ⟨kf, l, df, vs, ne_of_none run.hf hd, na hd, na hl0, run.nf, hdF, kvR_rec, kvR_fld, hlF, rf.1, fun i v r e1 e2 => (rf.2 i v r e1 e2).at hS, sF _ _ run.hf, run.fl.keep (KeepT.of sF)⟩⟩
end
open ZG (Sq ItzG walk_zipG)
open DcS (dc_it)
/-! ### keys: a drawn heap -/
theorem bb_sorted : bootBuiltins "sorted" = some (.builtin "sorted") := by decide +kernel
theorem rep_get {α β : Type} {xs : List α} {ys : List β} (l : xs.length = ys.length) {v : α} {r : β} : ∀ (n : Nat) {i : Nat}, (List.replicate n xs).flatten[i]? = some v → (List.replicate n ys).flatten[i]? = some r → ∃ j : Nat, xs[j]? = some v ∧ ys[j]? = some r
  | 0, i, e, _ => by simp at e
  | n + 1, i, e1, e2 => by
    rw [List.replicate_succ, List.flatten_cons] at e1 e2
    by_cases h : i < xs.length
    · rw [List.getElem?_append_left h] at e1
      rw [List.getElem?_append_left (by omega)] at e2
      exact ⟨i, e1, e2⟩
    · rw [List.getElem?_append_right (by omega)] at e1
      rw [List.getElem?_append_right (by omega), ← l] at e2
      exact rep_get l n e1 e2
theorem eq_of_key : ∀ {rs : List Rk}, (rs.map (·.1)).Nodup → ∀ {c r : Rk}, c ∈ rs → r ∈ rs → c.1 = r.1 → c = r
  | [], _, _, _, h, _, _ => by cases h
  | x :: l, nd, c, r, h1, h2, e => by
    rw [List.map_cons, List.nodup_cons] at nd
    rcases List.mem_cons.mp h1 with rfl | h1
    · rcases List.mem_cons.mp h2 with rfl | h2
      · rfl
      · exact absurd (List.mem_map.mpr ⟨r, h2, e.symm⟩) nd.1
    · rcases List.mem_cons.mp h2 with e2 | h2
      · exact absurd (List.mem_map.mpr ⟨c, h1, by rw [e, e2]⟩) nd.1
      · exact eq_of_key nd.2 h1 h2 e
theorem rep_len {α : Type} {xs : List α} {n : Nat} : (List.replicate n xs).flatten.length = n * xs.length := by
  rw [List.length_flatten, List.map_replicate, List.sum_replicate_nat]
theorem kvR_put {lr df l2 : Addr} : putK (kvR lr df) (Sum.inr "records") (.ref l2) = kvR l2 df := by kernel_rfl
def spHeap (K : PySem.W.Frag) : Sp := fun vs H Q _ => ∃ (a p : Addr) (sz tm : Nat) (rs : List Rk), vs = [.ref a, .ref p, .int (sz : Int), .int (tm : Int)] ∧ Src H a ∧ PgAt K H p rs ∧ WldOk rs ∧ rs ≠ [] ∧ sz * (tm + 1) ≤ 100 ∧ sz ≤ 50 ∧ tm ≤ 50 ∧ ∀ d2 R H', Stp a H H' → H d2 = none → RunN K a H' d2 rs R → HpG rs R → R.length = sz * (tm + 1) → Q (.ref d2) H'
section
variable {P : Program} {w : World} {K : PySem.W.Frag} {mg : Str → Option Value} {base : Heap}
theorem ok_l_heap (T : Txt w K mg) : FnOk P w K mg base CX0 4 T.a_l_heap T.d_l_heap p_l_heap (spHeap K) := by
  have g_l_pick := ok_l_pick (P := P) (w := w) (base := base) T
  have g_l_drawn_value := ok_l_drawn_value (P := P) (w := w) (K := K) (base := base) T
  have g_l_shuffled := ok_l_shuffled (P := P) (w := w) (base := base) T
  have g_l_moved := ok_l_moved (P := P) (w := w) (K := K) (base := base) T
  refine T.F_l_heap.ok sc_l_heap (fun vs H Q E h => ?_) (fun cdv A outer s H vs Q E hr h => ?_)
  · obtain ⟨a, p, sz, tm, rs, rfl, _⟩ := h
    rfl
  obtain ⟨a, p, sz, tm, rs, rfl, hS, ⟨pr, x, y, z, as, hp, hpr, las, has⟩, wok, rne, st100, sz50, tm50, q⟩ := h
  refine ⟨_, (pss_cons (ps_set (i := 4) sc_l_heap.nd rfl (Or.inr rfl) (pe_disp (pps_cons pe_str (pe_lst pa_nil) (pps_cons pe_str pe_dnewK pps_nil)) (by rfl) (by rfl) (fun z => by cases z) (by decide)))
      (pss_cons (ps_for PassesOwn.never rfl (pi_tup (pe_ix ix_tup (pv 1) pe_int (fun _ _ => rfl))) (pg_name (i := 5) sc_l_heap.nd rfl (Or.inl rfl))
        (pss_one (ps_dput (hu_of hr) (pe_dget (hu_of hr) (pv 4) pe_str (fun _ _ => rfl)) (pe_ix ix_tup (pv 5) pe_int (fun _ _ => rfl)) (pe_ix ix_tup (pv 5) pe_int (fun _ _ => rfl)) rfl)))
      (pss_cons (ps_set (i := 6) sc_l_heap.nd rfl (Or.inl rfl) (pe_callB (cr_sorted) rfl T.z_sorted bb_sorted (pa_cons (pe_lc (own := [("_law_k", 7)]) (g := gName 7) (tt := tYes) rfl sc_l_heap.nd (pi_range1 rfl T.z_range (pa_cons (pv 2) pa_nil)) (blkOk_by (own := [("_law_k", 7)]) (N := n_l_heap) (sc := defScope s_l_heap) (by decide +kernel)) (fun _ _ _ _ _ => (pg_name (i := 7) sc_l_heap.nd rfl (Or.inl rfl))) (fun _ _ _ _ _ => pts_nil) (fun _ _ _ _ _ => (pe_call g_l_pick (hr.mono (by first | decide | omega)) rfl T.m_l_pick T.F_l_pick.kp T.b_l_pick .nil pass0 (pa_cons (pv 0) (pa_cons (pe_callB (show CallR _ _ (rLenOf K) from call_len_seq) rfl T.z_len PySem.boot_len (pa_cons (pe_ix (show IxR _ (rIxT K) from ix_tup) (pv 1) pe_int (fun _ _ => rfl)) pa_nil)) pa_nil))))) pa_nil)))
      (pss_cons (ps_for PassesOwn.never rfl (pi_list (pv 6)) (pg_name (i := 8) sc_l_heap.nd rfl (Or.inl rfl))
        (pss_cons (ps_set (i := 9) sc_l_heap.nd rfl (Or.inl rfl) (pe_ix ix_tup (pe_ix ix_tup (pe_ix ix_tup (pv 1) pe_int (fun _ _ => rfl)) (pv 8) (fun _ _ => rfl)) pe_int (fun _ _ => rfl)))
      (pss_cons (ps_set (i := 10) sc_l_heap.nd rfl (Or.inl rfl) (pe_lst (pa_cons (pv 9) (pa_cons (pe_cmpR op_gt (pe_call g_l_pick (hr.mono (by first | decide | omega)) rfl T.m_l_pick T.F_l_pick.kp T.b_l_pick .nil pass0 (pa_cons (pv 0) (pa_cons pe_int pa_nil))) pe_int (nomark _)) (pa_cons (pe_lst pa_nil) pa_nil)))))
      (C8.pss_cut (ps_if (pt_val (pe_ix ix_list (pv 10) pe_int (fun _ _ => rfl))) (pss_one (ps_asg (pe_lc (own := [("_law_field", 11)]) (g := gName 11) (tt := tYes) rfl sc_l_heap.nd (pi_tup (pe_dget (hu_of hr) (pe_dget (hu_of hr) (pv 4) pe_str (fun _ _ => rfl)) (pv 9) (fun _ _ => rfl))) (blkOk_by (own := [("_law_field", 11)]) (N := n_l_heap) (sc := defScope s_l_heap) (by decide +kernel)) (fun _ _ _ _ _ => (pg_name (i := 11) sc_l_heap.nd rfl (Or.inl rfl))) (fun _ _ _ _ _ => pts_nil) (fun _ _ _ _ _ => (pe_call g_l_drawn_value (hr.mono (by first | decide | omega)) rfl T.m_l_drawn_value T.F_l_drawn_value.kp T.b_l_drawn_value .nil pass0 (pa_cons (pv 0) (pa_cons (pv 4) (pa_cons (pe_ix (show IxR _ (rIxT K) from ix_tup) (pv 11) pe_int (fun _ _ => rfl)) pa_nil)))))) (pg_sub (pv 10) pe_int set_list))) pss_nil)
      (pss_one (ps_expr (pe_bm PySem.F.plainAttrs_list PySem.F.slot_list_append PySem.F.type_list_append mt_append (pe_dget (hu_of hr) (pv 4) pe_str (fun _ _ => rfl)) (pa_cons (pv 10) pa_nil))))))))
      (pss_cons (ps_dput (hu_of hr) (pv 4) pe_str (pe_op op_rep (pe_dget (hu_of hr) (pv 4) pe_str (fun _ _ => rfl)) (pe_op op_add (pv 3) pe_int)) rfl)
      (pss_one (ps_ret (pe_call g_l_moved (hr.mono (by first | decide | omega)) rfl T.m_l_moved T.F_l_moved.kp T.b_l_moved .nil pass0 (pa_cons (pv 4) (pa_cons (pe_call g_l_shuffled (hr.mono (by first | decide | omega)) rfl T.m_l_shuffled T.F_l_shuffled.kp T.b_l_shuffled .nil pass0 (pa_cons (pv 0) (pa_cons (pe_callB call_len_seq rfl T.z_len PySem.boot_len (pa_cons (pe_dget (hu_of hr) (pv 4) pe_str (fun _ _ => rfl)) pa_nil)) pa_nil))) pa_nil)))))))))), ?_⟩
  have lrs := wok.l
  have rpos : 0 < rs.length := List.length_pos_iff.mpr rne
  refine fun d hd => ⟨by show 0 ≤ sizeLine; decide, fun lr hlr df hdf => ?_⟩
  have nlrd : lr ≠ d := fun z => by
    rw [z, upd_same] at hlr
    cases hlr
  have hlr0 : H lr = none := by rwa [upd_ne nlrd] at hlr
  have ndfl : df ≠ lr := fun z => by
    rw [z, upd_same] at hdf
    cases hdf
  have ndfd : df ≠ d := fun z => by
    rw [z, upd_ne nlrd.symm, upd_same] at hdf
    cases hdf
  have hdf0 : H df = none := by rwa [upd_ne ndfl, upd_ne ndfd] at hdf
  refine ⟨by rw [upd_ne ndfd.symm, upd_ne nlrd.symm]; exact upd_same, [(Sum.inr "records", .ref lr), (Sum.inr "fields", .ref df)], rfl, by show 2 ≤ 15; decide, ?_⟩
  rw [kvR_mk]
  obtain ⟨F0, eF0⟩ : ∃ F0, F0 = (upd (upd (upd (upd H d (.dK [])) lr (.lst [])) df (.dK [])) d (.dK (kvR lr df))) := ⟨_, rfl⟩
  have s0 : Same H F0 := fun b u e => by
    rw [eF0, upd_ne (ne_of_none e hd), upd_ne (ne_of_none e hdf0), upd_ne (ne_of_none e hlr0), upd_ne (ne_of_none e hd)]
    exact e
  have d0 : F0 d = some (.dK (kvR lr df)) := by rw [eF0]; exact upd_same
  have l0 : F0 lr = some (.lst []) := by rw [eF0, upd_ne nlrd, upd_ne ndfl.symm]; exact upd_same
  have f0 : F0 df = some (.dK []) := by rw [eF0, upd_ne ndfd]; exact upd_same
  rw [← eF0]
  clear eF0 hdf hlr
  have nda := (hS.ne hd).symm
  have nlra := (hS.ne hlr0).symm
  have ndfa := (hS.ne hdf0).symm
  -- the fields
  refine ⟨_, rfl, p, _, 0, _, rfl, rfl, Same.tup s0 hp, rfl, pr, rfl, ⟨_, Same.tup s0 hpr⟩, for_tup (K := K) (a := pr) (xs := as.map V.ref) (fun i σ F => Same H F ∧ F d = some (.dK (kvR lr df)) ∧ F lr = some (.lst []) ∧ (∃ kf : List (Key × V), F df = some (.dK kf) ∧ kf.length ≤ i ∧ ∀ r ∈ rs.take i, ∃ pf, valV kf (Sum.inr r.1) = some (.ref pf) ∧ FdAt K H pf r.2) ∧ ∃ v5 : Option V, σ = [some (.ref a), some (.ref p), some (.int (sz : Int)), some (.int (tm : Int)), some (.ref d), v5, none, none, none, none, none, none])
    ⟨s0, d0, l0, ⟨[], f0, Nat.le_refl _, fun r hr => by simp at hr⟩, none, rfl⟩ (fun i σ F _ ⟨s, _⟩ => Same.tup s hpr) ?_ ?_⟩
  · rintro i y σ F ey ⟨sF, dF, lF, ⟨kf, fF, lkf, hkf⟩, v5, rfl⟩
    have hi : i < as.length := by
      have := (List.getElem?_eq_some_iff.mp ey).1
      rwa [List.length_map] at this
    have ea : as[i]? = some as[i] := List.getElem?_eq_getElem hi
    have hi2 : i < rs.length := by rw [← las]; exact hi
    have er : rs[i]? = some rs[i] := List.getElem?_eq_getElem hi2
    rw [map_get ea] at ey
    obtain rfl := Option.some.inj ey
    obtain ⟨pf, h1, h2⟩ := has i _ _ ea er
    have tk : rs.take (i + 1) = rs.take i ++ [rs[i]] := by
      rw [List.take_add_one, er]
      rfl
    generalize rs[i] = r at er h1 h2 tk
    generalize as[i] = ai at ea h1
    refine ⟨_, rfl, ai, _, 1, _, rfl, rfl, Same.tup sF h1, rfl, _, rfl, d, _, rfl, DGet.at (k := Sum.inr "fields") dF kvR_fld, _, rfl, ai, _, 0, _, rfl, rfl, Same.tup sF h1, rfl, df, _, rfl, DPut.k (k := Sum.inr r.1) fF (small1000 (by omega)), ?_⟩
    refine ⟨fun b u e => by rw [upd_ne (ne_of_none e hdf0)]; exact sF _ _ e, by rw [upd_ne ndfd.symm]; exact dF, by rw [upd_ne ndfl.symm]; exact lF, ⟨_, upd_same, Nat.le_trans (length_putK _ _ _) (by omega), fun c hc => ?_⟩, _, rfl⟩
    rw [valV_put]
    split
    · rename_i e
      have e2 : c.1 = r.1 := Sum.inr.inj e
      rw [tk] at hc
      rcases List.mem_append.mp hc with hc | hc
      · have hcm := List.mem_of_mem_take hc
        have hrm := List.mem_of_getElem? er
        have : c = r := eq_of_key wok.nd hcm hrm e2
        rw [this]
        exact ⟨pf, rfl, h2⟩
      · rw [List.mem_singleton.mp hc]
        exact ⟨pf, rfl, h2⟩
    · rename_i e
      rw [tk] at hc
      rcases List.mem_append.mp hc with hc | hc
      · exact hkf c hc
      · rw [List.mem_singleton.mp hc] at e
        exact absurd rfl e
  rintro σ F1 ⟨s1, d1, l1, ⟨kf, f1, lkf, hkf⟩, v5, rfl⟩
  have hkf : ∀ r ∈ rs, ∃ pf, valV kf (Sum.inr r.1) = some (.ref pf) ∧ FdAt K H pf r.2 := fun r hr => hkf r (by rw [List.length_map, las, List.take_length]; exact hr)
  clear s0 d0 l0 f0
  have st1 := Stp.of_same hS s1
  -- the wanted
  refine ⟨_, rfl, (sz : Int), rfl, by omega, by omega, fun D hD => ?_⟩
  have nD := (st1.s.ne hD).symm
  refine lc_it walk_range (fun m F => Stp a F1 F ∧ ∃ ns : List Int, F D = some (.lst (ns.map V.int)) ∧ ns.length = m ∧ ∀ n ∈ ns, 0 ≤ n ∧ n < (rs.length : Int)) ⟨Stp.of_same st1.s (Same.new hD _), [], upd_same, rfl, fun n hn => by simp at hn⟩ (fun _ _ _ _ => trivial) ?_ ?_
  · rintro m u F F' hm ⟨sF, ns, eD, lns, hns⟩ ⟨rfl, rfl⟩
    have hm : m < sz := by omega
    refine ⟨rfl, tyes ?_⟩
    refine ⟨_, rfl, _, rfl, p, _, 0, _, rfl, rfl, (st1.trans sF).rd hp hS, rfl, pr, _, rfl, .inr ((st1.trans sF).rd hpr hS), a, _, rfl, sF.s, by rw [List.length_map, las]; omega, fun r G st r0 r1 => ?_⟩
    rw [List.length_map, las] at r1
    refine ⟨_, st.k _ _ nD eD, lt_line (by rw [List.length_map]; omega), (sF.trans st).put st1.s hD, ns ++ [r], by rw [List.map_append]; exact upd_same, by rw [List.length_append, lns]; rfl, fun n hn => ?_⟩
    rcases List.mem_append.mp hn with h | h
    · exact hns n h
    · rw [List.mem_singleton.mp h]
      exact ⟨r0, by omega⟩
  rintro F2 ⟨sF2, ns, eD, lns, hns⟩
  refine ⟨D, ns, rfl, SqL.of eD, by omega, fun ns' lw pm _ hlw => ?_⟩
  have lns' := pm.length_eq
  have hns' : ∀ n ∈ ns', 0 ≤ n ∧ n < (rs.length : Int) := fun n hn => hns n (pm.mem_iff.mp hn)
  have sw := Same.new hlw (.lst (ns'.map V.int))
  have st2 := (st1.trans sF2).same sw
  have d2 := sw _ _ (sF2.k _ _ nda d1)
  have l2 := sw _ _ (sF2.k _ _ nlra l1)
  have f2 := sw _ _ (sF2.k _ _ ndfa f1)
  have w2 : (upd F2 lw (.lst (ns'.map V.int))) lw = some (.lst (ns'.map V.int)) := upd_same
  have nlw : lw ≠ a := (sF2.s.ne hlw).symm
  have nlwr : lw ≠ lr := (ne_of_none (sF2.k _ _ nlra l1) hlw).symm
  generalize (upd F2 lw (.lst (ns'.map V.int))) = G0 at st2 d2 l2 f2 w2
  clear sw hlw eD sF2 nD hD st1 d1 l1 f1 s1 hns pm
  -- the rows
  refine ⟨_, rfl, lw, rfl, ⟨_, SqL.of w2⟩, for_list (K := K) (a := lw) (xs := ns'.map V.int) (fun i σ F => Stp a H F ∧ F d = some (.dK (kvR lr df)) ∧ F df = some (.dK kf) ∧ F lw = some (.lst (ns'.map V.int)) ∧ (∃ (rows : List V) (R : List Rc), F lr = some (.lst rows) ∧ RowsF H lr F rows R ∧ R.length = i ∧ HpG rs R) ∧ ∃ v8 v9 v10 : Option V, σ = [some (.ref a), some (.ref p), some (.int (sz : Int)), some (.int (tm : Int)), some (.ref d), v5, some (.ref lw), none, v8, v9, v10, none])
    ⟨st2, d2, f2, w2, ⟨[], [], l2, ⟨rfl, fun i v r e => by simp at e⟩, rfl, fun r hr => by simp at hr, by show 0 ≤ 100; decide⟩, none, none, none, rfl⟩ (fun i σ F _ P => SqL.of P.2.2.2.1) ?_ ?_⟩
  · clear st2 d2 f2 w2 l2
    rintro i y σ F ey ⟨sF, dF, fF, wF, ⟨rows, R, lF, rf, lR, hg⟩, v8, v9, v10, rfl⟩
    rw [List.getElem?_map] at ey
    cases en : ns'[i]? with
    | none => rw [en] at ey; cases ey
    | some n =>
    rw [en] at ey
    obtain rfl := Option.some.inj ey
    have hi : i < sz := by
      have := (List.getElem?_eq_some_iff.mp en).1
      omega
    obtain ⟨n0, n1⟩ := hns' n (List.mem_of_getElem? en)
    obtain ⟨j, rfl⟩ := Int.eq_ofNat_of_zero_le n0
    have hj : j < rs.length := by omega
    have er : rs[j]? = some rs[j] := List.getElem?_eq_getElem hj
    have ea : as[j]? = some (as[j]'(by omega)) := List.getElem?_eq_getElem _
    obtain ⟨pf0, h1, _⟩ := has j _ _ ea er
    obtain ⟨pf, ef, hfd⟩ := hkf _ (List.getElem_mem hj)
    have mr : rs[j] ∈ rs := List.getElem_mem hj
    have efl := flOf_mem wok.nd mr
    have lf5 := wok.f _ mr
    have kfo := wok.k _ mr
    generalize rs[j] = r at er h1 ef hfd mr efl lf5 kfo
    generalize (as[j]'(by omega)) = aj at ea h1
    have at1 : atI (as.map V.ref) ((j : Nat) : Int) = some (.ref aj) := atI_nat (map_get ea)
    refine ⟨_, rfl, p, _, 0, _, rfl, rfl, sF.rd hp hS, rfl, _, rfl, pr, _, _, _, rfl, rfl, sF.rd hpr hS, at1, aj, _, 0, _, rfl, rfl, sF.rd h1 hS, rfl, ?_⟩
    refine ⟨_, rfl, _, rfl, a, 4, rfl, sF.s, by decide, fun pk F2 st2 _ _ => ⟨_, _, rfl, rfl, by show 0 ≤ sizeLine; decide, fun q0 hq0 => ⟨by show 3 ≤ sizeLine; decide, fun p0 hp0 => ?_⟩⟩⟩
    dsimp only
    have nq := Same.new hq0 (.lst [])
    have np := Same.new hp0 (.lst [.str r.1, .bl (decide (0 < pk)), .ref q0])
    generalize decide (0 < pk) = b at np ⊢
    have stF2 := sF.trans st2
    have npq : q0 ≠ p0 := ne_of_none upd_same hp0
    have hp00 : F2 p0 = none := nq.free hp0
    have hq1 : H q0 = none := stF2.free hq0
    have hp1 : H p0 = none := stF2.free hp00
    have eP : (upd (upd F2 q0 (.lst [])) p0 (.lst [.str r.1, .bl b, .ref q0])) p0 = some (.lst [.str r.1, .bl b, .ref q0]) := upd_same
    have eQ : (upd (upd F2 q0 (.lst [])) p0 (.lst [.str r.1, .bl b, .ref q0])) q0 = some (.lst []) := np _ _ upd_same
    have l3 := st2.k _ _ nlra lF
    have nlq : q0 ≠ lr := (ne_of_none l3 hq0).symm
    have nlp : p0 ≠ lr := (ne_of_none l3 hp00).symm
    have sN := nq.trans np
    have st3 := stF2.same sN
    have stB := st2.same sN
    generalize (upd (upd F2 q0 (.lst [])) p0 (.lst [.str r.1, .bl b, .ref q0])) = F3 at eP eQ sN st3 stB
    have d3 := stB.k _ _ nda dF
    have f3 := stB.k _ _ ndfa fF
    have w3 := stB.k _ _ nlw wF
    have l3 := stB.k _ _ nlra lF
    have rf3 : RowsF H lr F3 rows R := rf.up fun c u n ne e => stB.k _ _ ((hS.ne n).symm) e
    refine ⟨fun σ G => ∃ (q1 : Addr) (us : List V), Stp a H G ∧ G d = some (.dK (kvR lr df)) ∧ G df = some (.dK kf) ∧ G lw = some (.lst (ns'.map V.int)) ∧ G lr = some (.lst rows) ∧ RowsF H lr G rows R ∧ H q1 = none ∧ q1 ≠ lr ∧ G p0 = some (.lst [.str r.1, .bl b, .ref q1]) ∧ G q1 = some (.lst us) ∧ RcG rs R ⟨r.1, b, us⟩ ∧ σ = [some (.ref a), some (.ref p), some (.int (sz : Int)), some (.int (tm : Int)), some (.ref d), v5, some (.ref lw), none, some (.int ((j : Nat) : Int)), some (.str r.1), some (.ref p0), none], ?_, ?_⟩
    · refine ⟨_, rfl, p0, _, 1, _, rfl, rfl, SqL.of eP, rfl, _, rfl, ?_⟩
      cases b with
      | false =>
        refine iteF ?_
        exact ⟨q0, [], st3, d3, f3, w3, l3, rf3, hq1, nlq, eP, eQ, ⟨⟨r, mr, rfl⟩, (fun h => by cases h), fun _ => rfl, (fun k s hk => by cases hk), (fun v hv => by simp at hv), fun k hk => by cases hk⟩, rfl⟩
      | true =>
        refine iteT ?_
        have run3 : RunE K a F3 d rs R (kvR lr df) kf lr df rows := ⟨nda, nlra, ndfa, d3, kvR_rec, kvR_fld, l3, rf.1, fun i v r e1 e2 => (rf3.2 i v r e1 e2).at hS, f3, fun c hc => by
          obtain ⟨pc, e, g⟩ := hkf c hc
          exact ⟨pc, e, g.keep (st3.keepT hS)⟩⟩
        obtain ⟨bs, hbs, lbs, hb⟩ := hfd
        refine ⟨_, rfl, d, _, rfl, DGet.at (k := Sum.inr "fields") d3 kvR_fld, _, rfl, df, _, rfl, DGet.at (k := Sum.inr r.1) f3 ef, pf, rfl, ⟨_, st3.rd hbs hS⟩, fun D hD => ?_⟩
        have nD := (st3.s.ne hD).symm
        refine lc_it (walk_tup (xs := bs.map V.ref)) (fun m G => Stp a F3 G ∧ ∃ us : List V, G D = some (.lst us) ∧ us.length = m ∧ ∀ (k : Nat) (u : V) (f : Str × Kd), us[k]? = some u → r.2[k]? = some f → DrV R f.2 u) ⟨Stp.of_same st3.s (Same.new hD _), [], upd_same, rfl, fun k u f e => by simp at e⟩ (fun i G _ P => (st3.trans P.1).rd hbs hS) ?_ ?_
        · rintro m u G G' hm ⟨sG, us, eD, lus, hus⟩ ⟨rfl, ex⟩
          rw [List.length_map] at hm
          have eb : bs[m]? = some bs[m] := List.getElem?_eq_getElem hm
          have hm2 : m < r.2.length := by omega
          have efm : r.2[m]? = some r.2[m] := List.getElem?_eq_getElem hm2
          obtain ⟨kv, g1, g2⟩ := hb m _ _ eb efm
          have kok := kfo _ (List.getElem_mem hm2)
          rw [map_get eb] at ex
          obtain rfl := Option.some.inj ex
          generalize r.2[m] = fm at efm g1 g2 kok
          have s3G := st3.trans sG
          refine ⟨rfl, tyes ?_⟩
          refine ⟨_, rfl, _, rfl, _, rfl, bs[m], _, 1, _, rfl, rfl, s3G.rd g1 hS, rfl, a, d, kv, fm.2, rs, R, rfl, sG.s, RunAt.stp sG st3.s ⟨_, _, _, _, _, run3⟩, g2.keep (s3G.keepT hS), kok, hg.ln, fun u G2 s2 hu => ?_⟩
          refine ⟨_, s2.k _ _ nD eD, lt_line (by omega), (sG.trans s2).put st3.s hD, us ++ [u], upd_same, by rw [List.length_append, lus]; rfl, fun k u' f' e1 e2 => ?_⟩
          rcases two_get e1 with ⟨l1, e1⟩ | ⟨l1, rfl⟩
          · exact hus k u' f' e1 e2
          · rw [l1, lus, efm] at e2
            obtain rfl := Option.some.inj e2
            exact hu
        rintro G ⟨sG, us, eD, lus, hus⟩
        rw [List.length_map, lbs] at lus
        have eP2 := sG.k _ _ ((hS.ne hp1).symm) eP
        have npD : D ≠ p0 := (ne_of_none eP hD).symm
        have hD0 : H D = none := st3.free hD
        have nDl : D ≠ lr := (ne_of_none l3 hD).symm
        have l4 := sG.k _ _ nlra l3
        have w4 := sG.k _ _ nlw w3
        have d4 := sG.k _ _ nda d3
        have f4 := sG.k _ _ ndfa f3
        have npd : p0 ≠ d := (ne_of_none (st2.k _ _ nda dF) hp00).symm
        have npf : p0 ≠ df := (ne_of_none (st2.k _ _ ndfa fF) hp00).symm
        have npw : p0 ≠ lw := (ne_of_none (st2.k _ _ nlw wF) hp00).symm
        refine ⟨_, rfl, p0, _, 2, _, rfl, rfl, eP2, rfl, ?_⟩
        refine ⟨D, us, (st3.trans sG).put hS hp1, by rw [upd_ne npd.symm]; exact d4, by rw [upd_ne npf.symm]; exact f4, by rw [upd_ne npw.symm]; exact w4, by rw [upd_ne nlp.symm]; exact l4, ?_, hD0, nDl, upd_same, by rw [upd_ne npD]; exact eD, ?_, rfl⟩
        · refine ⟨rf.1, fun i v c e1 e2 => ?_⟩
          obtain ⟨x1, x2, e, n1, n2, m1, m2, t1, t2⟩ := rf.2 i v c e1 e2
          have old : ∀ {b o}, H b = none → F b = some o → (upd G p0 (.lst ([.str r.1, .bl true, .ref q0].set 2 (.ref D)))) b = some o := fun {b o} n e => by
            have e2 := st2.k _ _ ((hS.ne n).symm) e
            rw [upd_ne (ne_of_none e2 hp00)]
            exact sG.k _ _ ((hS.ne n).symm) (sN _ _ e2)
          exact ⟨x1, x2, e, n1, n2, m1, m2, old n1 t1, old n2 t2⟩
        · refine ⟨⟨r, mr, rfl⟩, fun _ => by show us.length = (flOf rs r.1).length; rw [efl, List.length_map]; exact lus, (fun h => by cases h), fun k s hk hs => ?_, fun v hv => ?_, fun k hk => ?_⟩
          · have hk : k < us.length := hk
            have hk2 : k < r.2.length := by omega
            have e1 := List.getElem?_eq_getElem hk
            have e2 := List.getElem?_eq_getElem hk2
            have hs : (flOf rs r.1).getD k .flag = .ref s := hs
            rw [efl, getD_get (by rw [List.getElem?_map, e2]; rfl)] at hs
            have g := hus k _ _ e1 e2
            have hs : (r.2[k]).2 = .ref s := hs
            rw [hs] at g
            show us.getD k .non = .non ∨ ∃ (j : Nat) (r' : Rc), us.getD k .non = .int (j : Int) ∧ R[j]? = some r' ∧ r'.nm = s
            rw [getD_get e1]
            exact g
          · obtain ⟨k, hk, rfl⟩ := List.getElem_of_mem hv
            have hk : k < us.length := hk
            have hk2 : k < r.2.length := by omega
            exact (hus k _ _ (List.getElem?_eq_getElem hk) (List.getElem?_eq_getElem hk2)).flat
          · have hk : k < us.length := hk
            have hk2 : k < r.2.length := by omega
            have e1 := List.getElem?_eq_getElem hk
            have e2 := List.getElem?_eq_getElem hk2
            show TyV ((flOf rs r.1).getD k .flag) (us.getD k .non)
            rw [efl, getD_get (by rw [List.getElem?_map, e2]; rfl), getD_get e1]
            exact (hus k _ _ e1 e2).ty
    rintro σ G ⟨q1, us, stG, dG, fG, wG, lG, rfG, hq1', nq1, pG, qG, rcg, rfl⟩
    have lrw : rows.length = i := by rw [rf.1, lR]
    refine ⟨_, rfl, d, _, rfl, DGet.at (k := Sum.inr "records") dG kvR_rec, .inl ⟨rfl, _, SqL.of lG⟩, _, rfl, lr, _, _, rfl, rfl, lG, lt_line (by omega), ?_⟩
    have nel : ∀ {b o}, G b = some o → b ≠ lr → (upd G lr (.lst (rows ++ [.ref p0]))) b = some o := fun e ne => by rw [upd_ne ne]; exact e
    refine ⟨stG.put hS hlr0, nel dG nlrd.symm, nel fG ndfl, nel wG nlwr, ⟨_, R ++ [⟨r.1, b, us⟩], upd_same, ?_, by rw [List.length_append, lR]; rfl, fun c hc => ?_, by rw [List.length_append, lR]; show i + 1 ≤ 100; omega⟩, _, _, _, rfl⟩
    · refine RowsF.push (rfG.up fun c u _ ne e => nel e ne) ?_
      exact ⟨p0, q1, rfl, hp1, hq1', nlp, nq1, nel pG nlp, nel qG nq1⟩
    · have up : ∀ {c : Rc}, RcG rs R c → RcG rs (R ++ [⟨r.1, b, us⟩]) c := fun h => h.up fun j' r' e => by
        rw [List.getElem?_append_left (List.getElem?_eq_some_iff.mp e).1]
        exact e
      rcases List.mem_append.mp hc with hc | hc
      · exact up (hg.rc c hc)
      · rw [List.mem_singleton.mp hc]
        exact up rcg
  clear st2 d2 f2 w2 l2
  rintro σ F ⟨sF, dF, fF, wF, ⟨rows, R, lF, rf, lR, hg⟩, v8, v9, v10, rfl⟩
  rw [List.length_map, lns', lns] at lR
  have lR : R.length = sz := by omega
  refine ⟨_, rfl, d, _, rfl, DGet.at (k := Sum.inr "records") dF kvR_rec, _, rfl, _, _, rfl, rfl, lr, _, _, rfl, rfl, lF, by omega, by omega, ?_, fun l2 hl2 => ?_⟩
  · have e1 : ((tm : Int) + 1).toNat = tm + 1 := by omega
    rw [rf.1, lR, e1]
    exact Nat.le_trans st100 (by decide)
  have s5 := Same.new hl2 (.lst (List.replicate ((tm : Int) + 1).toNat rows).flatten)
  have e1 : ((tm : Int) + 1).toNat = tm + 1 := by omega
  rw [e1] at s5 ⊢
  have l5 : (upd F l2 (.lst (List.replicate (tm + 1) rows).flatten)) l2 = some (.lst (List.replicate (tm + 1) rows).flatten) := upd_same
  have st5 := sF.same s5
  have hl20 := sF.free hl2
  have nl2d : l2 ≠ d := (ne_of_none dF hl2).symm
  have rf5 : RowsF H lr (upd F l2 (.lst (List.replicate (tm + 1) rows).flatten)) rows R := rf.up fun c u _ _ e => s5 _ _ e
  have d5 := s5 _ _ dF
  have f5 := s5 _ _ fF
  generalize (upd F l2 (.lst (List.replicate (tm + 1) rows).flatten)) = G at s5 l5 st5 rf5 d5 f5
  refine ⟨_, rfl, d, _, rfl, DPut.k (k := Sum.inr "records") d5 (by show 2 < sizeLine; decide), ?_⟩
  rw [kvR_put]
  have st6 := st5.put (o := .dK (kvR l2 df)) hS hd
  have nup : ∀ {b o}, G b = some o → b ≠ d → (upd G d (.dK (kvR l2 df))) b = some o := fun e ne => by rw [upd_ne ne]; exact e
  have d6 : (upd G d (.dK (kvR l2 df))) d = some (.dK (kvR l2 df)) := upd_same
  have l6 := nup l5 nl2d
  have f6 := nup f5 ndfd
  have rf6 : ∀ (i : Nat) (v : V) (r : Rc), rows[i]? = some v → R[i]? = some r → RowAt a (upd G d (.dK (kvR l2 df))) v r := fun i v r e1 e2 => by
    obtain ⟨x1, x2, e, n1, n2, m1, m2, t1, t2⟩ := rf.2 i v r e1 e2
    have t1' := s5 _ _ t1
    have t2' := s5 _ _ t2
    have ne : ∀ {b : Addr} {xs : List V}, G b = some (.lst xs) → b ≠ d := fun e z => by
      rw [z, d5] at e
      cases e
    exact ⟨x1, x2, e, (hS.ne n1).symm, (hS.ne n2).symm, nup t1' (ne t1'), nup t2' (ne t2')⟩
  generalize (upd G d (.dK (kvR l2 df))) = G6 at st6 d6 l6 f6 rf6
  have run6 : RunAt K a G6 d rs (List.replicate (tm + 1) R).flatten := ⟨_, kf, l2, df, _, nda, (hS.ne hl20).symm, ndfa, d6, kvR_rec, kvR_fld, l6, by rw [rep_len, rep_len, rf.1], fun i v r e1 e2 => by
    obtain ⟨j, g1, g2⟩ := rep_get rf.1 (tm + 1) e1 e2
    exact rf6 j v r g1 g2, f6, fun c hc => by
      obtain ⟨pc, e, g⟩ := hkf c hc
      exact ⟨pc, e, g.keep (st6.keepT hS)⟩⟩
  have hg6 := hg.rep tm (by rw [lR]; exact st100)
  have lr6e : (List.replicate (tm + 1) rows).flatten.length = (List.replicate (tm + 1) R).flatten.length := by rw [rep_len, rep_len, rf.1]
  have lR6 : (List.replicate (tm + 1) R).flatten.length = sz * (tm + 1) := by rw [rep_len, lR, Nat.mul_comm]
  generalize (List.replicate (tm + 1) R).flatten = R6 at run6 hg6 lr6e lR6
  refine ⟨_, rfl, _, rfl, _, rfl, d, _, rfl, DGet.at (k := Sum.inr "records") d6 kvR_rec, l2, _, rfl, .inl (SqL.of l6), a, R6.length, by rw [lr6e]; rfl, st6.s, hg6.ln, fun l o G7 st7 hl eo pm => ?_⟩
  refine ⟨d, l, a, rs, R6, o, rfl, wok, hg6, st7.s, run6.stp st7 st6.s, eo, pm, fun d2 G8 s8 hd2 run8 => q d2 _ G8 ((st6.trans st7).same s8) ((st6.trans st7).free hd2) run8 (hg6.mov pm) (by unfold movR; rw [List.length_map, pm.length_eq, List.length_range]; exact lR6)⟩
end
open ZG (Sq ItzG walk_zipG)
open DcS (dc_it)
/-! ### keys: drawn cases -/
theorem KdsAt.push {K : PySem.W.Frag} {H : Hp} {xs : List V} {ks : List Kd} {v : V} {k : Kd} (h : KdsAt K H xs ks) (g : KdAt K H v k) : KdsAt K H (xs ++ [v]) (ks ++ [k]) :=
  ⟨by rw [List.length_append, List.length_append, h.1]; rfl, fun i c q e1 e2 => by
    rcases two_get e1 with ⟨l1, e1⟩ | ⟨l1, rfl⟩
    · rcases two_get e2 with ⟨_, e2⟩ | ⟨l2, _⟩
      · exact h.2 i c q e1 e2
      · have := h.1
        omega
    · rcases two_get e2 with ⟨l2, _⟩ | ⟨_, rfl⟩
      · have := h.1
        omega
      · exact g⟩
def spVars (K : PySem.W.Frag) : Sp := fun vs H Q _ => ∃ (a p : Addr) (n : Nat) (rs : List Rk), vs = [.ref a, .ref p, .int (n : Int)] ∧ Src H a ∧ PgAt K H p rs ∧ WldOk rs ∧ rs ≠ [] ∧ n ≤ 12 ∧ ∀ l kxs ks H', Stp a H H' → H l = none → H' l = some (.lst kxs) → KdsAt K H' kxs ks → ks.length ≤ 12 → (∀ k ∈ ks, KOk k) → Q (.ref l) H'
section
variable {P : Program} {w : World} {K : PySem.W.Frag} {mg : Str → Option Value} {base : Heap}
theorem ok_l_variables (T : Txt w K mg) : FnOk P w K mg base CX0 4 T.a_l_variables T.d_l_variables p_l_variables (spVars K) := by
  have g_l_pick := ok_l_pick (P := P) (w := w) (base := base) T
  have g_l_one := ok_l_oneG (P := P) (w := w) (K := K) (base := base) T
  have g_l_number_kind := ok_l_number_kind (P := P) (w := w) (K := K) (base := base) T
  refine T.F_l_variables.ok sc_l_variables (fun vs H Q E h => ?_) (fun cdv A outer s H vs Q E hr h => ?_)
  · obtain ⟨a, p, n, rs, rfl, _⟩ := h
    rfl
  obtain ⟨a, p, n, rs, rfl, hS, ⟨pr, x, y, z, as, hp, hpr, las, has⟩, wok, rne, hn, q⟩ := h
  refine ⟨_, (pss_cons (ps_set (i := 3) sc_l_variables.nd rfl (Or.inl rfl) (pe_lst pa_nil))
      (pss_cons (ps_for PassesOwn.never rfl (pi_range1 rfl T.z_range (pa_cons (pe_call g_l_pick (hr.mono (by first | decide | omega)) rfl T.m_l_pick T.F_l_pick.kp T.b_l_pick .nil pass0 (pa_cons (pv 0) (pa_cons (pe_op op_add (pv 2) pe_int) pa_nil))) pa_nil)) (pg_name (i := 4) sc_l_variables.nd rfl (Or.inl rfl))
        (pss_cons (ps_set (i := 5) sc_l_variables.nd rfl (Or.inl rfl) (pe_call g_l_pick (hr.mono (by first | decide | omega)) rfl T.m_l_pick T.F_l_pick.kp T.b_l_pick .nil pass0 (pa_cons (pv 0) (pa_cons pe_int pa_nil))))
      (pss_one (ps_if (pt_cmpR op_eq (pv 5) pe_int (nomark _)) (pss_one (ps_expr (pe_bm PySem.F.plainAttrs_list PySem.F.slot_list_append PySem.F.type_list_append mt_append (pv 3) (pa_cons (pe_tup (pa_cons pe_str pa_nil)) pa_nil)))) (pss_one (ps_if (pt_cmpR op_eq (pv 5) pe_int (nomark _)) (pss_one (ps_expr (pe_bm PySem.F.plainAttrs_list PySem.F.slot_list_append PySem.F.type_list_append mt_append (pv 3) (pa_cons (pe_call g_l_number_kind (hr.mono (by first | decide | omega)) rfl T.m_l_number_kind T.F_l_number_kind.kp T.b_l_number_kind .nil pass0 (pa_cons (pv 0) pa_nil)) pa_nil)))) (pss_one (ps_expr (pe_bm PySem.F.plainAttrs_list PySem.F.slot_list_append PySem.F.type_list_append mt_append (pv 3) (pa_cons (pe_tup (pa_cons pe_str (pa_cons (pe_ix ix_tup (pe_call g_l_one (hr.mono (by first | decide | omega)) rfl T.m_l_one T.F_l_one.kp T.b_l_one .nil pass0 (pa_cons (pv 0) (pa_cons (pe_ix ix_tup (pv 1) pe_int (fun _ _ => rfl)) pa_nil))) pe_int (fun _ _ => rfl)) pa_nil))) pa_nil))))))))))
      (pss_one (ps_ret (pv 3))))), ?_⟩
  have lrs := wok.l
  have rpos : 0 < rs.length := List.length_pos_iff.mpr rne
  refine ⟨by show 0 ≤ sizeLine; decide, fun l hl => ?_⟩
  have nla := (hS.ne hl).symm
  have st0 := Stp.of_same hS (Same.new hl (.lst []))
  have e0 : (upd H l (.lst [])) l = some (.lst []) := upd_same
  generalize (upd H l (.lst [])) = H0 at st0 e0
  refine ⟨_, rfl, _, rfl, _, _, rfl, rfl, a, _, rfl, st0.s, by omega, fun r H1 st1 r0 r1 => ⟨r, rfl, by omega, by omega, ?_⟩⟩
  have st01 := st0.trans st1
  refine for_range (lo := 0) (fun i σ F => Stp a H F ∧ (∃ kxs ks, F l = some (.lst kxs) ∧ KdsAt K F kxs ks ∧ ks.length = i ∧ ∀ k ∈ ks, KOk k) ∧ ∃ v4 v5 : Option V, σ = [some (.ref a), some (.ref p), some (.int (n : Int)), some (.ref l), v4, v5])
    ⟨st01, ⟨[], [], st1.k _ _ nla e0, ⟨rfl, fun i v k e => by simp at e⟩, rfl, fun k hk => by simp at hk⟩, none, none, rfl⟩ ?_ ?_
  · rintro i σ F hi ⟨sF, ⟨kxs, ks, lF, hk, lk, kok⟩, v4, v5, rfl⟩
    have hi : i < 13 := by omega
    have lkx := hk.1
    have fin : ∀ {G : Hp} {v : V} {kd : Kd}, Stp a F G → KdAt K G v kd → KOk kd → Stp a H (upd G l (.lst (kxs ++ [v]))) ∧ (∃ kxs' ks', (upd G l (.lst (kxs ++ [v]))) l = some (.lst kxs') ∧ KdsAt K (upd G l (.lst (kxs ++ [v]))) kxs' ks' ∧ ks'.length = i + 1 ∧ ∀ k ∈ ks', KOk k) := fun {G v kd} sG hv hok => by
      have eG := sG.k _ _ nla lF
      refine ⟨(sF.trans sG).put hS hl, _, ks ++ [kd], upd_same, ((hk.keep (sG.keepT sF.s)).push hv).keep (keepT_lst eG), by rw [List.length_append, lk]; rfl, fun k h => ?_⟩
      rcases List.mem_append.mp h with h | h
      · exact kok k h
      · rw [List.mem_singleton.mp h]
        exact hok
    refine ⟨_, rfl, a, 6, rfl, sF.s, by decide, fun ch F2 st2 _ _ => ?_⟩
    have e2 := st2.k _ _ nla lF
    refine ⟨_, rfl, rfl, _, rfl, ite2 (fun _ => ?_) (fun _ => ⟨_, rfl, rfl, _, rfl, ite2 (fun _ => ?_) (fun _ => ?_)⟩)⟩
    · refine ⟨_, rfl, .inl ⟨rfl, _, SqL.of e2⟩, by show 1 ≤ sizeLine; decide, fun t ht => ?_⟩
      have s3 := st2.same (Same.new ht (.tup [.str "flag"]))
      have f := fin s3 ⟨t, rfl, SqT.of upd_same⟩ (kd := .flag) trivial
      exact ⟨l, _, _, rfl, rfl, s3.k _ _ nla lF, lt_line (by omega), f.1, f.2, _, _, rfl⟩
    · refine ⟨_, rfl, .inl ⟨rfl, _, SqL.of e2⟩, _, rfl, a, rfl, st2.s, fun v kd G st hv hok _ => ?_⟩
      have s3 := st2.trans st
      have f := fin s3 hv hok
      exact ⟨l, _, _, rfl, rfl, s3.k _ _ nla lF, lt_line (by omega), f.1, f.2, _, _, rfl⟩
    · have sF2 := sF.trans st2
      refine ⟨_, rfl, .inl ⟨rfl, _, SqL.of e2⟩, _, rfl, _, rfl, p, _, 0, _, rfl, rfl, sF2.rd hp hS, rfl, a, pr, as.map V.ref, true, rfl, st2.s, (fun h => by cases h), sF2.rd hpr hS, by rw [List.length_map]; omega, by rw [List.length_map]; omega, fun v G hv st => ?_⟩
      obtain ⟨b, hb, rfl⟩ := List.mem_map.mp hv
      obtain ⟨j, hj, rfl⟩ := List.getElem_of_mem hb
      obtain ⟨pf, h1, _⟩ := has j _ _ (List.getElem?_eq_getElem hj) (List.getElem?_eq_getElem (by omega))
      have s3 := st2.trans st
      refine ⟨_, _, 0, _, rfl, rfl, (sF2.trans st).rd h1 hS, rfl, by show 2 ≤ sizeLine; decide, fun t ht => ?_⟩
      have s4 := s3.same (Same.new ht (.tup [.str "ref", .str (rs[j]'(by omega)).1]))
      have f := fin s4 ⟨t, rfl, SqT.of upd_same⟩ (kd := .ref _) trivial
      exact ⟨l, _, _, rfl, rfl, s4.k _ _ nla lF, lt_line (by omega), f.1, f.2, _, _, rfl⟩
  · rintro σ F ⟨sF, ⟨kxs, ks, lF, hk, lk, kok⟩, v4, v5, rfl⟩
    exact ⟨_, rfl, q l kxs ks F sF hl lF hk (by omega) kok⟩
end
theorem cut_hiM {xs : List V} {r : Int} (h0 : 0 ≤ r) : cutV xs none (some r) = xs.take r.toNat := by
  have e : HT.sIx xs.length xs.length (some r) = min r.toNat xs.length := by
    show (if r < 0 then (r + (xs.length : Int)).toNat else min r.toNat xs.length) = _
    rw [if_neg (by omega)]
  unfold cutV
  rw [e]
  show (xs.drop 0).take (min r.toNat xs.length - 0) = _
  rw [List.drop_zero, Nat.sub_zero]
  by_cases h : r.toNat ≤ xs.length
  · rw [Nat.min_eq_left h]
  · rw [Nat.min_eq_right (by omega), List.take_length, List.take_of_length_le (by omega)]
def kvC (rd kl vl xl : Addr) : List (Key × V) := [(Sum.inr "run", .ref rd), (Sum.inr "kinds", .ref kl), (Sum.inr "values", .ref vl), (Sum.inr "fixed", .ref xl)]
theorem kvC_mk {rd kl vl xl : Addr} : mergeK [] [(Sum.inr "run", .ref rd), (Sum.inr "kinds", .ref kl), (Sum.inr "values", .ref vl), (Sum.inr "fixed", .ref xl)] = kvC rd kl vl xl := by kernel_rfl
theorem kvC_run {rd kl vl xl : Addr} : valV (kvC rd kl vl xl) (Sum.inr "run") = some (.ref rd) := by kernel_rfl
theorem kvC_kinds {rd kl vl xl : Addr} : valV (kvC rd kl vl xl) (Sum.inr "kinds") = some (.ref kl) := by kernel_rfl
theorem kvC_values {rd kl vl xl : Addr} : valV (kvC rd kl vl xl) (Sum.inr "values") = some (.ref vl) := by kernel_rfl
theorem kvC_fixed {rd kl vl xl : Addr} : valV (kvC rd kl vl xl) (Sum.inr "fixed") = some (.ref xl) := by kernel_rfl
structure CaseE (K : PySem.W.Frag) (H : Hp) (c : Addr) (rs : List Rk) (rd kl vl xl : Addr) (R : List Rc) (kxs us : List V) (ks : List Kd) (fx : List Nat) : Prop where
  c : H c = some (.dK (kvC rd kl vl xl))
  r : ∃ a, RunAt K a H rd rs R
  g : HpG rs R
  k1 : H kl = some (.lst kxs)
  k2 : KdsAt K H kxs ks
  v1 : H vl = some (.lst us)
  v2 : VsOk ks R.length us
  x1 : H xl = some (.lst (natsV fx))
  x2 : fx.Nodup
  x3 : ∀ i ∈ fx, i < R.length
  ln : R.length ≤ 90
  lk : ks.length ≤ 12
theorem CaseE.same {K : PySem.W.Frag} {H H' : Hp} {c : Addr} {rs : List Rk} {rd kl vl xl : Addr} {R : List Rc} {kxs us : List V} {ks : List Kd} {fx : List Nat} (s : Same H H') (h : CaseE K H c rs rd kl vl xl R kxs us ks fx) : CaseE K H' c rs rd kl vl xl R kxs us ks fx :=
  ⟨s _ _ h.c, by obtain ⟨a, r⟩ := h.r; exact ⟨a, r.same s⟩, h.g, s _ _ h.k1, h.k2.keep (KeepT.of s), s _ _ h.v1, h.v2, s _ _ h.x1, h.x2, h.x3, h.ln, h.lk⟩
def CaseAt (K : PySem.W.Frag) (H : Hp) (c : Addr) (rs : List Rk) : Prop := ∃ rd kl vl xl R kxs us ks fx, CaseE K H c rs rd kl vl xl R kxs us ks fx
theorem CaseAt.same {K : PySem.W.Frag} {H H' : Hp} {c : Addr} {rs : List Rk} (s : Same H H') (h : CaseAt K H c rs) : CaseAt K H' c rs := by
  obtain ⟨rd, kl, vl, xl, R, kxs, us, ks, fx, h⟩ := h
  exact ⟨rd, kl, vl, xl, R, kxs, us, ks, fx, h.same s⟩
def spCase (K : PySem.W.Frag) : Sp := fun vs H Q _ => ∃ (a p : Addr) (rs : List Rk), vs = [.ref a, .ref p] ∧ Src H a ∧ PgAt K H p rs ∧ WldOk rs ∧ rs ≠ [] ∧ ∀ c H', Stp a H H' → CaseAt K H' c rs → Q (.ref c) H'
section
variable {P : Program} {w : World} {K : PySem.W.Frag} {mg : Str → Option Value} {base : Heap}
end
/-! ### keys: pairings of two heaps -/
def mapV (f : Nat → Nat) : V → V
  | .int j => .int (f j.toNat : Nat)
  | v => v
/-- a value of the one side and its partner -/
def VR (f : Nat → Nat) (kd : Kd) (u v : V) : Prop := if kd.isRef then v = mapV f u else v = u
structure RcR (rs : List Rk) (f : Nat → Nat) (r r' : Rc) : Prop where
  nm : r'.nm = r.nm
  lv : r'.live = r.live
  ln : r'.vals.length = r.vals.length
  vs : ∀ k, k < r.vals.length → VR f ((flOf rs r.nm).getD k .flag) (r.vals.getD k .non) (r'.vals.getD k .non)
/-- f pairs the records S of the one heap with those of the other one -/
structure Pair (rs : List Rk) (R R' : List Rc) (ks : List Kd) (us us' : List V) (fx fx' S : List Nat) (f : Nat → Nat) : Prop where
  inj : ∀ i ∈ S, ∀ j ∈ S, f i = f j → i = j
  fx : fx' = fx.map f
  ln : us'.length = us.length
  val : ∀ k, k < us.length → VR f (ks.getD k .flag) (us.getD k .non) (us'.getD k .non)
  row : ∀ i ∈ S, ∃ r r', R[i]? = some r ∧ R'[f i]? = some r' ∧ RcR rs f r r'
/-- S holds the fixed records, those that the values refer to, and all that they lead to -/
structure Cov (rs : List Rk) (R : List Rc) (ks : List Kd) (us : List V) (fx S : List Nat) : Prop where
  fx : ∀ i ∈ fx, i ∈ S
  st : ∀ i ∈ refsAt us (refPl ks), i ∈ S
  cl : ∀ i ∈ S, ∀ j ∈ nbR rs R i, j ∈ S
theorem refs_map {f : Nat → Nat} {us us' : List V} {pl : List Nat} (h : ∀ k ∈ pl, us'.getD k .non = mapV f (us.getD k .non)) : refsAt us' pl = (refsAt us pl).map f := by
  unfold refsAt
  induction pl with
  | nil => rfl
  | cons k pl ih =>
    have ih := ih fun j hj => h j (List.mem_cons_of_mem _ hj)
    rw [List.filterMap_cons, List.filterMap_cons, h k List.mem_cons_self, ih]
    cases us.getD k .non <;> rfl
theorem VR.ref {f : Nat → Nat} {kd : Kd} {u v : V} (h : VR f kd u v) (e : kd.isRef = true) : v = mapV f u := by
  unfold VR at h
  rw [if_pos e] at h
  exact h
theorem VR.val {f : Nat → Nat} {kd : Kd} {u v : V} (h : VR f kd u v) (e : kd.isRef = false) : v = u := by
  unfold VR at h
  rw [if_neg (by rw [e]; decide)] at h
  exact h
theorem getD_none {us : List V} {k : Nat} (h : us.length ≤ k) : us.getD k .non = .non := by
  rw [List.getD_eq_getElem?_getD, List.getElem?_eq_none h]
  rfl
theorem refs_vr {f : Nat → Nat} {ks : List Kd} {us us' : List V} (hl : us'.length = us.length) (h : ∀ k, k < us.length → VR f (ks.getD k .flag) (us.getD k .non) (us'.getD k .non)) : refsAt us' (refPl ks) = (refsAt us (refPl ks)).map f := by
  refine refs_map fun k hk => ?_
  by_cases hlt : k < us.length
  · exact (h k hlt).ref (mem_refPl.mp hk).2
  · rw [getD_none (by omega), getD_none (by omega)]
    rfl
theorem Pair.nb {rs : List Rk} {R R' : List Rc} {ks : List Kd} {us us' : List V} {fx fx' S : List Nat} {f : Nat → Nat} (p : Pair rs R R' ks us us' fx fx' S f) {i : Nat} (hi : i ∈ S) : nbR rs R' (f i) = (nbR rs R i).map f := by
  obtain ⟨r, r', e, e', h⟩ := p.row i hi
  unfold nbR
  rw [e, e']
  show (if r'.live then refsAt r'.vals (refPl (flOf rs r'.nm)) else []) = (if r.live then refsAt r.vals (refPl (flOf rs r.nm)) else []).map f
  rw [h.lv, h.nm]
  split
  · exact refs_vr h.ln h.vs
  · rfl
theorem mem_mapS {f : Nat → Nat} {S o : List Nat} {i : Nat} (inj : ∀ i ∈ S, ∀ j ∈ S, f i = f j → i = j) (hi : i ∈ S) (ho : ∀ k ∈ o, k ∈ S) : f i ∈ o.map f ↔ i ∈ o := by
  constructor
  · intro h
    obtain ⟨k, hk, e⟩ := List.mem_map.mp h
    rw [← inj k (ho k hk) i hi e]
    exact hk
  · exact fun h => List.mem_map.mpr ⟨i, h, rfl⟩
theorem meet_map {rs : List Rk} {R R' : List Rc} {ks : List Kd} {us us' : List V} {fx fx' S : List Nat} {f : Nat → Nat} (p : Pair rs R R' ks us us' fx fx' S f) (c : ∀ i ∈ S, ∀ j ∈ nbR rs R i, j ∈ S) : ∀ (d : Nat) {i : Nat} {o : List Nat}, i ∈ S → (∀ k ∈ o, k ∈ S) →
    meetF (nbR rs R') d (f i) (o.map f) = (meetF (nbR rs R) d i o).map f ∧ ∀ k ∈ meetF (nbR rs R) d i o, k ∈ S
  | 0, _, _, _, ho => ⟨rfl, ho⟩
  | d + 1, i, o, hi, ho => by
    have gen : ∀ (l b : List Nat), (∀ j ∈ l, j ∈ S) → (∀ k ∈ b, k ∈ S) → (l.map f).foldl (fun o j => meetF (nbR rs R') d j o) (b.map f) = (l.foldl (fun o j => meetF (nbR rs R) d j o) b).map f ∧ ∀ k ∈ l.foldl (fun o j => meetF (nbR rs R) d j o) b, k ∈ S := by
      intro l
      induction l with
      | nil => exact fun b _ hb => ⟨rfl, hb⟩
      | cons j l ih =>
        intro b hl hb
        have g := meet_map p c d (hl j List.mem_cons_self) hb
        rw [List.map_cons, List.foldl_cons, List.foldl_cons, g.1]
        exact ih _ (fun k hk => hl k (List.mem_cons_of_mem _ hk)) g.2
    rw [meetF, meetF]
    by_cases m : i ∈ o
    · rw [if_pos m, if_pos ((mem_mapS p.inj hi ho).mpr m)]
      exact ⟨rfl, ho⟩
    · rw [if_neg m, if_neg fun z => m ((mem_mapS p.inj hi ho).mp z), p.nb hi]
      have e : o.map f ++ [f i] = (o ++ [i]).map f := by rw [List.map_append]; rfl
      rw [e]
      exact gen _ _ (c i hi) fun k hk => (List.mem_append.mp hk).elim (ho k) fun z => by rw [List.mem_singleton.mp z]; exact hi
theorem fold_map {rs : List Rk} {R R' : List Rc} {ks : List Kd} {us us' : List V} {fx fx' S : List Nat} {f : Nat → Nat} (p : Pair rs R R' ks us us' fx fx' S f) (c : ∀ i ∈ S, ∀ j ∈ nbR rs R i, j ∈ S) : ∀ (l b : List Nat), (∀ j ∈ l, j ∈ S) → (∀ k ∈ b, k ∈ S) →
    (l.map f).foldl (mt (nbR rs R')) (b.map f) = (l.foldl (mt (nbR rs R)) b).map f ∧ ∀ k ∈ l.foldl (mt (nbR rs R)) b, k ∈ S
  | [], _, _, hb => ⟨rfl, hb⟩
  | j :: l, b, hl, hb => by
    have g := meet_map p c 8 (hl j List.mem_cons_self) hb
    rw [List.map_cons, List.foldl_cons, List.foldl_cons]
    show (l.map f).foldl (mt (nbR rs R')) (meetF (nbR rs R') 8 (f j) (b.map f)) = _ ∧ _
    rw [g.1]
    exact fold_map p c l _ (fun k hk => hl k (List.mem_cons_of_mem _ hk)) g.2
theorem Pair.order {rs : List Rk} {R R' : List Rc} {ks : List Kd} {us us' : List V} {fx fx' S : List Nat} {f : Nat → Nat} (p : Pair rs R R' ks us us' fx fx' S f) (c : Cov rs R ks us fx S) :
    orderF (nbR rs R') fx' (refsAt us' (refPl ks)) = (orderF (nbR rs R) fx (refsAt us (refPl ks))).map f ∧ ∀ k ∈ orderF (nbR rs R) fx (refsAt us (refPl ks)), k ∈ S := by
  unfold orderF
  have e1 : (fx.map f).flatMap (nbR rs R') = (fx.flatMap (nbR rs R)).map f := by
    have : ∀ l : List Nat, (∀ i ∈ l, i ∈ S) → (l.map f).flatMap (nbR rs R') = (l.flatMap (nbR rs R)).map f := by
      intro l
      induction l with
      | nil => exact fun _ => rfl
      | cons i l ih =>
        intro h
        rw [List.map_cons, List.flatMap_cons, List.flatMap_cons, List.map_append, p.nb (h i List.mem_cons_self), ih fun k hk => h k (List.mem_cons_of_mem _ hk)]
    exact this fx c.fx
  have m1 : ∀ j ∈ fx.flatMap (nbR rs R), j ∈ S := fun j hj => by
    obtain ⟨i, hi, h⟩ := List.mem_flatMap.mp hj
    exact c.cl i (c.fx i hi) j h
  have g1 := fold_map p c.cl (fx.flatMap (nbR rs R)) fx m1 c.fx
  have g2 := fold_map p c.cl (refsAt us (refPl ks)) _ c.st g1.2
  rw [p.fx, refs_vr p.ln p.val, e1, g1.1]
  exact g2
theorem idx_map {f : Nat → Nat} {S : List Nat} (inj : ∀ i ∈ S, ∀ j ∈ S, f i = f j → i = j) {j : Nat} (hj : j ∈ S) : ∀ {o : List Nat}, (∀ k ∈ o, k ∈ S) → (o.map f).idxOf (f j) = o.idxOf j
  | [], _ => rfl
  | k :: o, ho => by
    rw [List.map_cons, List.idxOf_cons, List.idxOf_cons]
    by_cases z : k = j
    · rw [z, beq_self_eq_true, beq_self_eq_true]
      rfl
    · rw [beq_eq_false_iff_ne.mpr z, beq_eq_false_iff_ne.mpr fun y => z (inj k (ho k List.mem_cons_self) j hj y), idx_map inj hj fun k hk => ho k (List.mem_cons_of_mem _ hk)]
theorem tr_map {f : Nat → Nat} {S o : List Nat} {n : Nat} {ks : List Kd} {us us' : List V} (inj : ∀ i ∈ S, ∀ j ∈ S, f i = f j → i = j) (ho : ∀ k ∈ o, k ∈ S) (hl : us'.length = us.length) (hv : ∀ k, k < us.length → VR f (ks.getD k .flag) (us.getD k .non) (us'.getD k .non))
    (rv : ∀ k, k < us.length → (ks.getD k .flag).isRef = true → RefV n (us.getD k .non)) (st : ∀ i ∈ refsAt us (refPl ks), i ∈ S) (le : us.length ≤ ks.length) : trL ks us' (o.map f) = trL ks us o := by
  unfold trL
  rw [hl]
  refine List.map_congr_left fun k hk => ?_
  rw [List.mem_range] at hk
  have h := hv k hk
  by_cases z : (ks.getD k .flag).isRef = true
  · rw [if_pos z, if_pos z, h.ref z]
    rcases rv k hk z with e | ⟨j, e, _⟩
    · rw [e]
      rfl
    · rw [e]
      have hj : j ∈ S := st j (mem_refsAt (mem_refPl.mpr ⟨by omega, z⟩) e)
      show V.int (((o.map f).idxOf (f (j : Int).toNat : Int).toNat : Nat) : Int) = .int ((o.idxOf (j : Int).toNat : Nat) : Int)
      rw [Int.toNat_natCast, Int.toNat_natCast, idx_map inj hj ho]
  · rw [if_neg z, if_neg z, h.val (by simpa using z)]
/-- equal keys out of a pairing -/
theorem Pair.recs {rs : List Rk} {R R' : List Rc} {ks : List Kd} {us us' : List V} {fx fx' S : List Nat} {f : Nat → Nat} (p : Pair rs R R' ks us us' fx fx' S f) (c : Cov rs R ks us fx S) (hr : ∀ r ∈ R, RcOk rs R.length r) {o : List Nat} (ho : ∀ k ∈ o, k ∈ S) :
    (o.map f).map (recD rs R' (o.map f)) = o.map (recD rs R o) := by
  rw [List.map_map]
  refine List.map_congr_left fun i hi => ?_
  have hS := ho i hi
  obtain ⟨r, r', e, e', h⟩ := p.row i hS
  show recD rs R' (o.map f) (f i) = recD rs R o i
  unfold recD
  rw [e, e']
  show PyData.tuple [.str r'.nm, .bool r'.live, .tuple ((trL (flOf rs r'.nm) r'.vals (o.map f)).map vD)] = .tuple [.str r.nm, .bool r.live, .tuple ((trL (flOf rs r.nm) r.vals o).map vD)]
  have g := hr r (List.mem_of_getElem? e)
  rw [h.nm, h.lv]
  cases hl : r.live with
  | false =>
    have z := g.d hl
    have z' : r'.vals = [] := List.length_eq_zero_iff.mp (by rw [h.ln, z]; rfl)
    rw [z, z']
    rfl
  | true =>
    have st : ∀ j ∈ refsAt r.vals (refPl (flOf rs r.nm)), j ∈ S := fun j hj => c.cl i hS j (by
      unfold nbR
      rw [e]
      show j ∈ (if r.live then refsAt r.vals (refPl (flOf rs r.nm)) else [])
      rw [hl]
      exact hj)
    rw [tr_map p.inj ho h.ln h.vs g.v st (by rw [g.l hl]; exact Nat.le_refl _)]
/-! ### keys: what a pairing keeps -/
def keptP (kd : Kd) (u v : V) (m n : List Nat) : Prop := match kd.isRef, u, v with
  | true, .int i, .int j => n.getD (m.idxOf i.toNat) 0 = j.toNat
  | _, _, _ => u = v
structure Keeps (rs : List Rk) (R R' : List Rc) (ks : List Kd) (us us' : List V) (fx fx' m n : List Nat) : Prop where
  fx : ∀ k, k < fx.length → n.getD (m.idxOf (fx.getD k 0)) 0 = fx'.getD k 0
  val : ∀ k, k < ks.length → keptP (ks.getD k .flag) (us.getD k .non) (us'.getD k .non) m n
  row : ∀ a, a < m.length → ∃ r r', R[m.getD a 0]? = some r ∧ R'[n.getD a 0]? = some r' ∧ r.nm = r'.nm ∧ r.live = r'.live ∧ ∀ k, k < r.vals.length → keptP ((flOf rs r.nm).getD k .flag) (r.vals.getD k .non) (r'.vals.getD k .non) m n
theorem kept_ref {kd : Kd} {i j : Nat} {m n : List Nat} (h : kd.isRef = true) : keptP kd (.int (i : Int)) (.int (j : Int)) m n ↔ n.getD (m.idxOf i) 0 = j := by
  unfold keptP
  rw [h]
  rfl
theorem kept_nn {kd : Kd} {m n : List Nat} : keptP kd .non .non m n := by
  unfold keptP
  cases kd.isRef <;> rfl
theorem kept_vr {kd : Kd} {u v : V} {m n : List Nat} {N N' : Nat} (ru : kd.isRef = true → RefV N u) (rv : kd.isRef = true → RefV N' v) (h : keptP kd u v m n) : VR (fun i => n.getD (m.idxOf i) 0) kd u v := by
  unfold VR
  by_cases z : kd.isRef = true
  · rw [if_pos z]
    rcases ru z with rfl | ⟨i, rfl, _⟩
    · rcases rv z with rfl | ⟨j, rfl, _⟩
      · rfl
      · unfold keptP at h
        rw [z] at h
        cases h
    · rcases rv z with rfl | ⟨j, rfl, _⟩
      · unfold keptP at h
        rw [z] at h
        cases h
      · have e := (kept_ref z).mp h
        show V.int (j : Int) = .int ((n.getD (m.idxOf (i : Int).toNat) 0 : Nat) : Int)
        rw [Int.toNat_natCast, e]
  · rw [if_neg z]
    unfold keptP at h
    have z : kd.isRef = false := by simpa using z
    rw [z] at h
    exact h.symm
theorem kept_of {kd : Kd} {u v : V} {m : List Nat} {f : Nat → Nat} {N : Nat} (ru : kd.isRef = true → RefV N u) (hm : ∀ i : Nat, kd.isRef = true → u = .int (i : Int) → i ∈ m) (h : VR f kd u v) : keptP kd u v m (m.map f) := by
  by_cases z : kd.isRef = true
  · rcases ru z with rfl | ⟨i, rfl, _⟩
    · rw [h.ref z]
      exact kept_nn
    · rw [h.ref z]
      show keptP kd (.int (i : Int)) (.int ((f (i : Int).toNat : Nat) : Int)) m (m.map f)
      rw [kept_ref z, Int.toNat_natCast]
      have l := List.idxOf_lt_length_iff.mpr (hm i z rfl)
      rw [List.getD_eq_getElem?_getD, List.getElem?_map, List.getElem?_eq_getElem l, List.getElem_idxOf]
      rfl
  · rw [h.val (by simpa using z)]
    unfold keptP
    have z : kd.isRef = false := by simpa using z
    rw [z]
theorem getD_lt {m : List Nat} {a : Nat} (h : a < m.length) : m[a]? = some (m.getD a 0) := by
  rw [List.getD_eq_getElem?_getD, List.getElem?_eq_getElem h]
  rfl
theorem getD_idx {m : List Nat} {i : Nat} (h : i ∈ m) : m.getD (m.idxOf i) 0 = i := by
  have l := List.idxOf_lt_length_iff.mpr h
  rw [List.getD_eq_getElem?_getD, List.getElem?_eq_getElem l, List.getElem_idxOf]
  rfl
theorem nodup_at : ∀ {n : List Nat} {i j x : Nat}, n.Nodup → n[i]? = some x → n[j]? = some x → i = j
  | [], _, _, _, _, h, _ => by simp at h
  | y :: n, 0, 0, _, _, _, _ => rfl
  | y :: n, 0, j + 1, x, nd, h1, h2 => by
    simp at h1 h2
    subst h1
    exact absurd (List.mem_of_getElem? h2) (List.nodup_cons.mp nd).1
  | y :: n, i + 1, 0, x, nd, h1, h2 => by
    simp at h1 h2
    subst h2
    exact absurd (List.mem_of_getElem? h1) (List.nodup_cons.mp nd).1
  | y :: n, i + 1, j + 1, x, nd, h1, h2 => congrArg (· + 1) (nodup_at (List.nodup_cons.mp nd).2 (by simpa using h1) (by simpa using h2))
/-- one side of the law: a heap, the values, the fixed records -/
structure Side (rs : List Rk) (R : List Rc) (ks : List Kd) (us : List V) (fx : List Nat) : Prop where
  hp : ∃ rk, HpOk rs R rk
  vs : VsOk ks R.length us
  nd : fx.Nodup
  fl : ∀ i ∈ fx, i < R.length
abbrev ordOf (rs : List Rk) (R : List Rc) (ks : List Kd) (us : List V) (fx : List Nat) : List Nat := orderF (nbR rs R) fx (refsAt us (refPl ks))
theorem order_pre {nb : Nat → List Nat} {fx fst : List Nat} : ∃ t, orderF nb fx fst = fx ++ t := by
  have m1 : ∀ (d i : Nat) (o : List Nat), ∃ t, meetF nb d i o = o ++ t := by
    intro d
    induction d with
    | zero => exact fun i o => ⟨[], (List.append_nil o).symm⟩
    | succ d ih =>
      intro i o
      rw [meetF]
      split
      · exact ⟨[], (List.append_nil o).symm⟩
      · have g : ∀ (l b : List Nat), ∃ t, l.foldl (fun o j => meetF nb d j o) b = b ++ t := by
          intro l
          induction l with
          | nil => exact fun b => ⟨[], (List.append_nil b).symm⟩
          | cons j l ihl =>
            intro b
            obtain ⟨t, e⟩ := ih j b
            obtain ⟨t2, e2⟩ := ihl (b ++ t)
            exact ⟨t ++ t2, by rw [List.foldl_cons, e, e2, List.append_assoc]⟩
        obtain ⟨t, e⟩ := g (nb i) (o ++ [i])
        exact ⟨[i] ++ t, by rw [e, List.append_assoc]⟩
  have m2 : ∀ (l b : List Nat), ∃ t, l.foldl (mt nb) b = b ++ t := by
    intro l
    induction l with
    | nil => exact fun b => ⟨[], (List.append_nil b).symm⟩
    | cons j l ihl =>
      intro b
      obtain ⟨t, e⟩ := m1 8 j b
      obtain ⟨t2, e2⟩ := ihl (b ++ t)
      exact ⟨t ++ t2, by rw [List.foldl_cons, show mt nb b j = b ++ t from e, e2, List.append_assoc]⟩
  obtain ⟨t1, e1⟩ := m2 (fx.flatMap nb) fx
  obtain ⟨t2, e2⟩ := m2 fst (fx ++ t1)
  exact ⟨t1 ++ t2, by unfold orderF; rw [e1, e2, List.append_assoc]⟩
section
variable {rs : List Rk} {R R' : List Rc} {ks : List Kd} {us us' : List V} {fx fx' : List Nat}
theorem Side.ord (s : Side rs R ks us fx) : (ordOf rs R ks us fx).Nodup ∧ (∀ k ∈ ordOf rs R ks us fx, k < R.length) ∧ Cov rs R ks us fx (ordOf rs R ks us fx) := by
  obtain ⟨rk, hp⟩ := s.hp
  have st : ∀ i ∈ refsAt us (refPl ks), i < R.length := refsAt_lt fun i hi => (s.vs.pl i hi).2
  have g := order_ok hp.rn (fx := fx) (fst := refsAt us (refPl ks)) s.nd s.fl st
  refine ⟨g.1, g.2.1, ⟨fun i hi => ?_, g.2.2, order_closed hp.rn fx _⟩⟩
  obtain ⟨t, e⟩ := order_pre (nb := nbR rs R) (fx := fx) (fst := refsAt us (refPl ks))
  rw [show ordOf rs R ks us fx = fx ++ t from e]
  exact List.mem_append_left _ hi
theorem Cov.perm {S S' : List Nat} (p : ∀ i, i ∈ S ↔ i ∈ S') (c : Cov rs R ks us fx S) : Cov rs R ks us fx S' :=
  ⟨fun i h => (p i).mp (c.fx i h), fun i h => (p i).mp (c.st i h), fun i h j hj => (p j).mp (c.cl i ((p i).mpr h) j hj)⟩
/-- a pairing keeps what it pairs -/
theorem Pair.keeps {S m : List Nat} {f : Nat → Nat} (s : Side rs R ks us fx) (p : Pair rs R R' ks us us' fx fx' S f) (hm : ∀ i, i ∈ m ↔ i ∈ S) (c : Cov rs R ks us fx S) : Keeps rs R R' ks us us' fx fx' m (m.map f) := by
  obtain ⟨rk, hp⟩ := s.hp
  have mf : ∀ i ∈ m, (m.map f).getD (m.idxOf i) 0 = f i := fun i hi => by
    have l := List.idxOf_lt_length_iff.mpr hi
    rw [List.getD_eq_getElem?_getD, List.getElem?_map, List.getElem?_eq_getElem l, List.getElem_idxOf]
    rfl
  refine ⟨fun k hk => ?_, fun k hk => ?_, fun a ha => ?_⟩
  · have e := getD_lt hk
    rw [mf _ ((hm _).mpr (c.fx _ (List.mem_of_getElem? e))), p.fx, List.getD_eq_getElem?_getD (l := fx.map f), List.getElem?_map, e]
    rfl
  · have hk' : k < us.length := by rw [s.vs.l]; exact hk
    exact kept_of (s.vs.v k hk') (fun i z e => (hm i).mpr (c.st i (mem_refsAt (mem_refPl.mpr ⟨hk, z⟩) e))) (p.val k hk')
  · have e := getD_lt ha
    have hS := (hm _).mp (List.mem_of_getElem? e)
    obtain ⟨r, r', e1, e2, h⟩ := p.row _ hS
    have g := hp.rc r (List.mem_of_getElem? e1)
    refine ⟨r, r', e1, ?_, h.nm.symm, h.lv.symm, fun k hk => ?_⟩
    · rw [List.getD_eq_getElem?_getD (l := m.map f), List.getElem?_map, e]
      exact e2
    · have hl : r.live = true := by
        cases z : r.live with
        | true => rfl
        | false => rw [g.d z] at hk; exact absurd hk (Nat.not_lt_zero _)
      refine kept_of (g.v k hk) (fun i z ei => (hm i).mpr (c.cl _ hS i ?_)) (h.vs k hk)
      unfold nbR
      rw [e1]
      show i ∈ (if r.live then refsAt r.vals (refPl (flOf rs r.nm)) else [])
      rw [hl]
      exact mem_refsAt (mem_refPl.mpr ⟨by rw [← g.l hl]; exact hk, z⟩) ei
/-- what keeps all is a pairing -/
theorem Keeps.pair {m n : List Nat} (s : Side rs R ks us fx) (s' : Side rs R' ks us' fx') (k : Keeps rs R R' ks us us' fx fx' m n) (lf : fx'.length = fx.length) (nm : m.Nodup) (nn : n.Nodup) (ln : n.length = m.length) (c : Cov rs R ks us fx m) : Pair rs R R' ks us us' fx fx' m (fun i => n.getD (m.idxOf i) 0) := by
  obtain ⟨rk, hp⟩ := s.hp
  obtain ⟨rk', hp'⟩ := s'.hp
  have le : us'.length = us.length := by rw [s.vs.l, s'.vs.l]
  refine ⟨fun i hi j hj e => ?_, List.ext_getElem? fun a => ?_, le, fun a ha => ?_, fun i hi => ?_⟩
  · have li := List.idxOf_lt_length_iff.mpr hi
    have lj := List.idxOf_lt_length_iff.mpr hj
    have q : m.idxOf i = m.idxOf j := nodup_at nn (getD_lt (m := n) (a := m.idxOf i) (by omega)) (by
      rw [show n.getD (m.idxOf i) 0 = n.getD (m.idxOf j) 0 from e]
      exact getD_lt (by omega))
    rw [← getD_idx hi, ← getD_idx hj, q]
  · rw [List.getElem?_map]
    by_cases h : a < fx.length
    · rw [getD_lt h, getD_lt (m := fx') (by omega), ← k.fx a h]
      rfl
    · rw [List.getElem?_eq_none (by omega), List.getElem?_eq_none (by omega)]
      rfl
  · exact kept_vr (s.vs.v a ha) (s'.vs.v a (by omega)) (k.val a (by rw [← s.vs.l]; exact ha))
  · have li := List.idxOf_lt_length_iff.mpr hi
    obtain ⟨r, r', e1, e2, h1, h2, h3⟩ := k.row _ li
    rw [getD_idx hi] at e1
    have g := hp.rc r (List.mem_of_getElem? e1)
    have g' := hp'.rc r' (List.mem_of_getElem? e2)
    have lv : r'.vals.length = r.vals.length := by
      cases z : r.live with
      | true => rw [g.l z, g'.l (by rw [← h2]; exact z), h1]
      | false => rw [g.d z, g'.d (by rw [← h2]; exact z)]
    exact ⟨r, r', e1, e2, h1.symm, h2.symm, lv, fun a ha => kept_vr (g.v a ha) (fun z => g'.v a (by omega) (by rw [← h1]; exact z)) (h3 a ha)⟩
end
/-! ### keys: one key exactly if a pairing -/
def fstD (rs : List Rk) (R : List Rc) (ks : List Kd) (us : List V) (o : List Nat) : PyData := .tuple [.tuple ((trL ks us o).map vD), .tuple (o.map (recD rs R o))]
theorem vD_inj {u v : V} (hu : Flat3 u) (hv : Flat3 v) (h : vD u = vD v) : u = v := by
  rcases hu with rfl | ⟨b, rfl⟩ | ⟨i, rfl⟩ <;> rcases hv with rfl | ⟨c, rfl⟩ | ⟨j, rfl⟩ <;> first | rfl | cases h
  all_goals rfl
theorem val_eq {kd : Kd} {u v : V} {o o' : List Nat} {N N' : Nat} (fu : Flat3 u) (fv : Flat3 v) (ru : kd.isRef = true → RefV N u) (rv : kd.isRef = true → RefV N' v) (hm : ∀ j : Nat, kd.isRef = true → v = .int (j : Int) → j ∈ o')
    (h : vD (if kd.isRef then trAt o u else u) = vD (if kd.isRef then trAt o' v else v)) : keptP kd u v o o' := by
  by_cases z : kd.isRef = true
  · rw [if_pos z, if_pos z] at h
    rcases ru z with rfl | ⟨i, rfl, _⟩ <;> rcases rv z with rfl | ⟨j, rfl, _⟩
    · exact kept_nn
    · cases h
    · cases h
    · rw [kept_ref z]
      have h : PyData.int ((o.idxOf (i : Int).toNat : Nat) : Int) = .int ((o'.idxOf (j : Int).toNat : Nat) : Int) := h
      injection h with h
      have e : o.idxOf i = o'.idxOf j := by
        rw [Int.toNat_natCast, Int.toNat_natCast] at h
        omega
      rw [e]
      exact getD_idx (hm j z rfl)
  · rw [if_neg z, if_neg z] at h
    have e := vD_inj fu fv h
    have z : kd.isRef = false := by simpa using z
    unfold keptP
    rw [z, e]
theorem tr_at {ks : List Kd} {us : List V} {o : List Nat} {k : Nat} (h : k < us.length) : ((trL ks us o).map vD)[k]? = some (vD (if (ks.getD k .flag).isRef then trAt o (us.getD k .non) else us.getD k .non)) := by
  unfold trL
  rw [List.getElem?_map, List.getElem?_map, List.getElem?_range h]
  rfl
theorem flat_getD {us : List V} (h : ∀ v ∈ us, Flat3 v) (k : Nat) : Flat3 (us.getD k .non) := by
  rw [List.getD_eq_getElem?_getD]
  cases e : us[k]? with
  | none => exact .inl rfl
  | some v => exact h v (List.mem_of_getElem? e)
section
variable {rs : List Rk} {R R' : List Rc} {ks : List Kd} {us us' : List V} {fx fx' : List Nat}
theorem keys_keep (s : Side rs R ks us fx) (s' : Side rs R' ks us' fx') (lf : fx'.length = fx.length) (h : fstD rs R ks us (ordOf rs R ks us fx) = fstD rs R' ks us' (ordOf rs R' ks us' fx')) :
    (ordOf rs R' ks us' fx').length = (ordOf rs R ks us fx).length ∧ Keeps rs R R' ks us us' fx fx' (ordOf rs R ks us fx) (ordOf rs R' ks us' fx') := by
  obtain ⟨nd, lt, cv⟩ := s.ord
  obtain ⟨nd', lt', cv'⟩ := s'.ord
  obtain ⟨t, e⟩ := order_pre (nb := nbR rs R) (fx := fx) (fst := refsAt us (refPl ks))
  obtain ⟨t', e'⟩ := order_pre (nb := nbR rs R') (fx := fx') (fst := refsAt us' (refPl ks))
  have e : ordOf rs R ks us fx = fx ++ t := e
  have e' : ordOf rs R' ks us' fx' = fx' ++ t' := e'
  generalize ordOf rs R ks us fx = o at h nd lt cv e
  generalize ordOf rs R' ks us' fx' = o' at h nd' lt' cv' e'
  unfold fstD at h
  injection h with h
  injection h with h1 h2
  injection h2 with h2 _
  injection h1 with h1
  injection h2 with h2
  have ln : o'.length = o.length := by
    have := congrArg List.length h2
    simpa using this.symm
  obtain ⟨rk, hp⟩ := s.hp
  obtain ⟨rk', hp'⟩ := s'.hp
  refine ⟨ln, fun k hk => ?_, fun k hk => ?_, fun a ha => ?_⟩
  · have g1 := getD_lt hk
    have m : fx.getD k 0 ∈ o := cv.fx _ (List.mem_of_getElem? g1)
    have i1 : o[k]? = some (fx.getD k 0) := by rw [e, List.getElem?_append_left hk]; exact g1
    have i2 : o[o.idxOf (fx.getD k 0)]? = some (fx.getD k 0) := by
      have := getD_lt (List.idxOf_lt_length_iff.mpr m)
      rw [getD_idx m] at this
      exact this
    rw [nodup_at nd i2 i1, e', List.getD_eq_getElem?_getD, List.getElem?_append_left (by omega), ← List.getD_eq_getElem?_getD]
  · have hk1 : k < us.length := by rw [s.vs.l]; exact hk
    have hk2 : k < us'.length := by rw [s'.vs.l]; exact hk
    have q := congrArg (fun l => l[k]?) h1
    simp only [tr_at hk1, tr_at hk2] at q
    exact val_eq (flat_getD s.vs.f k) (flat_getD s'.vs.f k) (s.vs.v k hk1) (s'.vs.v k hk2) (fun j z ej => cv'.st j (mem_refsAt (mem_refPl.mpr ⟨hk, z⟩) ej)) (Option.some.inj q)
  · have ha' : a < o'.length := by omega
    have g1 := getD_lt ha
    have g2 := getD_lt ha'
    have m1 := lt _ (List.mem_of_getElem? g1)
    have m2 := lt' _ (List.mem_of_getElem? g2)
    have q := congrArg (fun l => l[a]?) h2
    simp only [List.getElem?_map, g1, g2, Option.map_some] at q
    have q := Option.some.inj q
    have er : R[o.getD a 0]? = some R[o.getD a 0] := List.getElem?_eq_getElem m1
    have er' : R'[o'.getD a 0]? = some R'[o'.getD a 0] := List.getElem?_eq_getElem m2
    have mo' := List.mem_of_getElem? g2
    generalize R[o.getD a 0] = r at er
    generalize R'[o'.getD a 0] = r' at er'
    unfold recD at q
    rw [er, er'] at q
    have q : PyData.tuple [.str r.nm, .bool r.live, .tuple ((trL (flOf rs r.nm) r.vals o).map vD)] = .tuple [.str r'.nm, .bool r'.live, .tuple ((trL (flOf rs r'.nm) r'.vals o').map vD)] := q
    injection q with q
    injection q with q1 q
    injection q with q2 q
    injection q with q3 _
    injection q1 with q1
    injection q2 with q2
    injection q3 with q3
    have c := hp.rc r (List.mem_of_getElem? er)
    have c' := hp'.rc r' (List.mem_of_getElem? er')
    have lv : r'.vals.length = r.vals.length := by
      have := congrArg List.length q3
      rw [List.length_map, List.length_map, trL_len, trL_len] at this
      exact this.symm
    refine ⟨r, r', er, er', q1, q2, fun k hk => ?_⟩
    have hk2 : k < r'.vals.length := by omega
    have w := congrArg (fun l => l[k]?) q3
    simp only [tr_at hk, tr_at hk2] at w
    have hl : r'.live = true := by
      cases z : r'.live with
      | true => rfl
      | false => rw [c'.d z] at hk2; exact absurd hk2 (Nat.not_lt_zero _)
    have w := Option.some.inj w
    have cv2 := c'.v k hk2
    rw [← q1] at w cv2
    refine val_eq (flat_getD c.f k) (flat_getD c'.f k) (c.v k hk) cv2 (fun j z ej => cv'.cl _ mo' j ?_) w
    unfold nbR
    rw [er']
    show j ∈ (if r'.live then refsAt r'.vals (refPl (flOf rs r'.nm)) else [])
    rw [hl]
    refine mem_refsAt (mem_refPl.mpr ⟨by rw [← c'.l hl]; exact hk2, ?_⟩) ej
    rw [← q1]
    exact z
theorem range_perm {l : List Nat} {n : Nat} (nd : l.Nodup) (lt : ∀ k ∈ l, k < n) (ln : l.length = n) : l.Perm (List.range n) := by
  refine (List.perm_ext_iff_of_nodup nd List.nodup_range).mpr fun k => ⟨fun h => List.mem_range.mpr (lt k h), fun h => ?_⟩
  by_cases m : k ∈ l
  · exact m
  · have := len_le (o := k :: l) (N := n) (List.nodup_cons.mpr ⟨m, nd⟩) fun j hj => by
      rcases List.mem_cons.mp hj with rfl | hj
      · exact List.mem_range.mp h
      · exact lt j hj
    rw [List.length_cons] at this
    omega
def Paired (rs : List Rk) (R R' : List Rc) (ks : List Kd) (us us' : List V) (fx fx' mine others : List Nat) : Prop :=
  mine.length = others.length ∧ ∃ q : List Nat, q.Perm (List.range mine.length) ∧ Keeps rs R R' ks us us' fx fx' mine (q.map fun k => others.getD k 0)
theorem paired_iff {mine others : List Nat} (s : Side rs R ks us fx) (s' : Side rs R' ks us' fx') (lf : fx'.length = fx.length) (hm : mine.Perm (ordOf rs R ks us fx)) (ho : others.Perm (ordOf rs R' ks us' fx')) :
    (Paired rs R R' ks us us' fx fx' mine others ↔ fstD rs R ks us (ordOf rs R ks us fx) = fstD rs R' ks us' (ordOf rs R' ks us' fx')) ∧
    (Paired rs R R' ks us us' fx fx' mine others → Keeps rs R R' ks us us' fx fx' (ordOf rs R ks us fx) (ordOf rs R' ks us' fx')) := by
  obtain ⟨nd, lt, cv⟩ := s.ord
  obtain ⟨nd', lt', cv'⟩ := s'.ord
  have ndm : mine.Nodup := hm.nodup_iff.mpr nd
  have ndo : others.Nodup := ho.nodup_iff.mpr nd'
  have cvm : Cov rs R ks us fx mine := cv.perm fun i => hm.mem_iff.symm
  have right : Paired rs R R' ks us us' fx fx' mine others → fstD rs R ks us (ordOf rs R ks us fx) = fstD rs R' ks us' (ordOf rs R' ks us' fx') ∧ Keeps rs R R' ks us us' fx fx' (ordOf rs R ks us fx) (ordOf rs R' ks us' fx') := by
    rintro ⟨ln, q, hq, kp⟩
    have ndq : (q.map fun k => others.getD k 0).Nodup := by
      have inj : ∀ l : List Nat, l.Nodup → (∀ k ∈ l, k < others.length) → (l.map fun k => others.getD k 0).Nodup := by
        intro l
        induction l with
        | nil => exact fun _ _ => List.nodup_nil
        | cons k l ih =>
          intro n h
          rw [List.map_cons]
          refine List.nodup_cons.mpr ⟨fun m => ?_, ih (List.nodup_cons.mp n).2 fun j hj => h j (List.mem_cons_of_mem _ hj)⟩
          obtain ⟨j, hj, e⟩ := List.mem_map.mp m
          have e : others.getD j 0 = others.getD k 0 := e
          have a1 := getD_lt (h j (List.mem_cons_of_mem _ hj))
          rw [e] at a1
          have := nodup_at ndo a1 (getD_lt (h k List.mem_cons_self))
          subst this
          exact (List.nodup_cons.mp n).1 hj
      refine inj q (hq.nodup_iff.mpr List.nodup_range) fun k hk => ?_
      have := List.mem_range.mp (hq.mem_iff.mp hk)
      omega
    have p := kp.pair s s' lf ndm ndq (by rw [List.length_map, hq.length_eq, List.length_range]) cvm
    obtain ⟨rk, hp⟩ := s.hp
    have g := p.order cvm
    have e : ordOf rs R' ks us' fx' = (ordOf rs R ks us fx).map fun i => (q.map fun k => others.getD k 0).getD (mine.idxOf i) 0 := g.1
    refine ⟨?_, ?_⟩
    · rw [e]
      unfold fstD
      rw [p.recs cvm hp.rc g.2, tr_map p.inj g.2 p.ln p.val s.vs.v cvm.st (by rw [s.vs.l]; exact Nat.le_refl _)]
    · rw [e]
      exact p.keeps s (fun i => hm.mem_iff.symm) cvm
  refine ⟨⟨fun h => (right h).1, fun h => ?_⟩, fun h => (right h).2⟩
  obtain ⟨ln, kp⟩ := keys_keep s s' lf h
  have p := kp.pair s s' lf nd nd' ln cv
  have km := p.keeps s (fun i => hm.mem_iff) cv
  have lmo : mine.length = others.length := by rw [hm.length_eq, ho.length_eq, ln]
  have fo : ∀ i ∈ mine, (ordOf rs R' ks us' fx').getD ((ordOf rs R ks us fx).idxOf i) 0 ∈ others := fun i hi => by
    have li := List.idxOf_lt_length_iff.mpr (hm.mem_iff.mp hi)
    exact ho.mem_iff.mpr (List.mem_of_getElem? (getD_lt (by omega)))
  refine ⟨lmo, mine.map fun i => others.idxOf ((ordOf rs R' ks us' fx').getD ((ordOf rs R ks us fx).idxOf i) 0), range_perm ?_ (fun k hk => ?_) (by rw [List.length_map]), ?_⟩
  · have inj : ∀ l : List Nat, l.Nodup → (∀ i ∈ l, i ∈ mine) → (l.map fun i => others.idxOf ((ordOf rs R' ks us' fx').getD ((ordOf rs R ks us fx).idxOf i) 0)).Nodup := by
      intro l
      induction l with
      | nil => exact fun _ _ => List.nodup_nil
      | cons i l ih =>
        intro n h
        rw [List.map_cons]
        refine List.nodup_cons.mpr ⟨fun m => ?_, ih (List.nodup_cons.mp n).2 fun j hj => h j (List.mem_cons_of_mem _ hj)⟩
        obtain ⟨j, hj, e⟩ := List.mem_map.mp m
        have e := congrArg (fun k => others.getD k 0) e
        have hj' := h j (List.mem_cons_of_mem _ hj)
        have hi' := h i List.mem_cons_self
        simp only [getD_idx (fo j hj'), getD_idx (fo i hi')] at e
        have := p.inj j (hm.mem_iff.mp hj') i (hm.mem_iff.mp hi') e
        subst this
        exact (List.nodup_cons.mp n).1 hj
    exact inj mine ndm fun i h => h
  · obtain ⟨i, hi, rfl⟩ := List.mem_map.mp hk
    rw [lmo]
    exact List.idxOf_lt_length_iff.mpr (fo i hi)
  · rw [List.map_map]
    have e : mine.map ((fun k => others.getD k 0) ∘ fun i => others.idxOf ((ordOf rs R' ks us' fx').getD ((ordOf rs R ks us fx).idxOf i) 0)) = mine.map fun i => (ordOf rs R' ks us' fx').getD ((ordOf rs R ks us fx).idxOf i) 0 := List.map_congr_left fun i hi => getD_idx (fo i hi)
    rw [e]
    exact km
end
open ZG (Sq ItzG walk_zipG)
open DcS (dc_it)
/-! ### keys: what a record leads to -/
def spLed (K : PySem.W.Frag) : Sp := fun vs H Q _ => ∃ (d a : Addr) (i : Nat) (rs : List Rk) (R : List Rc) (rk : Nat → Nat), vs = [.ref d, .int (i : Int)] ∧ HpOk rs R rk ∧ RunAt K a H d rs R ∧ i < R.length ∧ ∀ l H', Same H H' → H l = none → H' l = some (.lst (natsV (nbR rs R i))) → Q (.ref l) H'
section
variable {P : Program} {w : World} {K : PySem.W.Frag} {mg : Str → Option Value} {base : Heap}
theorem ok_l_led (T : Txt w K mg) : FnOk P w K mg base CX0 1 T.a_l_led T.d_l_led p_l_led (spLed K) := by
  refine T.F_l_led.ok sc_l_led (fun vs H Q E h => ?_) (fun cdv A outer s H vs Q E hr h => ?_)
  · obtain ⟨d, a, i, rs, R, rk, rfl, _⟩ := h
    rfl
  obtain ⟨d, a, i, rs, R, rk, rfl, ok, hrun, hi, q⟩ := h
  refine ⟨_, (pss_cons (ps_set (i := 2) sc_l_led.nd rfl (Or.inr rfl) (pe_ix ix_list (pe_dget (hu_of hr) (pv 0) pe_str (fun _ _ => rfl)) (pv 1) (fun _ _ => rfl)))
      (pss_cons (ps_set (i := 3) sc_l_led.nd rfl (Or.inr rfl) (pe_dget (hu_of hr) (pe_dget (hu_of hr) (pv 0) pe_str (fun _ _ => rfl)) (pe_ix ix_list (pv 2) pe_int (fun _ _ => rfl)) (fun _ _ => rfl)))
      (pss_one (ps_ret (pe_lc (own := [("_law_k", 4)]) (g := gName 4) rfl sc_l_led.nd (pi_range1 rfl T.z_range (pa_cons (pe_callB call_len_seq rfl T.z_len PySem.boot_len (pa_cons (pe_ix ix_list (pv 2) pe_int (fun _ _ => rfl)) pa_nil)) pa_nil)) (blkOk_by (own := [("_law_k", 4)]) (N := n_l_led) (sc := defScope s_l_led) (by decide +kernel)) (fun _ _ _ _ _ => (pg_name (i := 4) sc_l_led.nd rfl (Or.inl rfl))) (fun _ _ _ _ _ => (pts_one (PW.pt (pw_and (pt_cmpR op_eq (pe_ix (show IxR _ (rIxT K) from ix_tup) (pe_ix (show IxR _ (rIxT K) from ix_tup) (pe_ix (show IxR _ (rIxT K) from ix_tup) (pv 3) (pv 4) (fun _ _ => rfl)) pe_int (fun _ _ => rfl)) pe_int (fun _ _ => rfl)) pe_str (nomark _)) (pw_and1 (pt_cmpR op_notN (pe_ix (show IxR _ (rIxL K) from ix_list) (pe_ix (show IxR _ (rIxL K) from ix_list) (pv 2) pe_int (fun _ _ => rfl)) (pv 4) (fun _ _ => rfl)) pe_non (nomark _))))))) (fun _ _ _ _ _ => (pe_ix (show IxR _ (rIxL K) from ix_list) (pe_ix (show IxR _ (rIxL K) from ix_list) (pv 2) pe_int (fun _ _ => rfl)) (pv 4) (fun _ _ => rfl)))))))), ?_⟩
  obtain ⟨kvs, kf, lr, df, rows, hrun⟩ := hrun
  have er : R[i]? = some R[i] := List.getElem?_eq_getElem hi
  have hi2 : i < rows.length := by rw [hrun.lr]; exact hi
  have ev : rows[i]? = some rows[i] := List.getElem?_eq_getElem hi2
  obtain ⟨p, l, ep, np, nl, hp, hl⟩ := hrun.rw i _ _ ev er
  have rok := ok.rc _ (List.getElem_mem hi)
  have enb := nbR_at (rs := rs) er
  generalize R[i] = r at er hp hl rok enb
  rw [ep] at ev
  obtain ⟨rk0, mk0, ek0⟩ := rok.m
  obtain ⟨pf, ef, bs, hbs, lbs, hb⟩ := hrun.fl rk0 mk0
  rw [ek0] at ef
  have efl : flOf rs r.nm = rk0.2.map (·.2) := by rw [← ek0]; exact flOf_mem ok.pok.nd mk0
  have l20 := flOf_len ok.pok (z := r.nm)
  have lbf : bs.length = (flOf rs r.nm).length := by rw [lbs, efl, List.length_map]
  have lv : r.vals.length ≤ (flOf rs r.nm).length := by
    cases hlv : r.live with
    | true => rw [rok.l hlv]; exact Nat.le_refl _
    | false => rw [rok.d hlv]; exact Nat.zero_le _
  have enb2 : nbR rs R i = refsAt r.vals (refTo (flOf rs r.nm) r.vals.length) := by
    rw [enb]
    cases hlv : r.live with
    | true =>
      rw [rok.l hlv]
      rfl
    | false =>
      rw [rok.d hlv]
      rfl
  refine ⟨_, rfl, d, _, rfl, DGet.at (k := Sum.inr "records") hrun.hd hrun.kr, _, rfl, lr, _, _, _, rfl, rfl, SqL.of hrun.hl, atI_nat ev, ?_⟩
  refine ⟨_, rfl, d, _, rfl, DGet.at (k := Sum.inr "fields") hrun.hd hrun.kk, _, rfl, p, _, 0, _, rfl, rfl, SqL.of hp, rfl, df, _, rfl, DGet.at (k := Sum.inr r.nm) hrun.hf ef, ?_⟩
  refine ⟨_, rfl, p, _, 2, _, rfl, rfl, SqL.of hp, rfl, l, _, rfl, .inl (SqL.of hl), _, rfl, by omega, by omega, fun D hD => ?_⟩
  refine lc_range (lo := 0) (n := ((r.vals.length : Nat) : Int).toNat) (fun k G => Same H G ∧ G D = some (.lst (natsV (refsAt r.vals (refTo (flOf rs r.nm) k))))) ⟨Same.new hD _, upd_same⟩ ?_ ?_
  · rintro k G hk ⟨sG, eD⟩
    have hkv : k < r.vals.length := by omega
    have eb : bs[k]? = some (bs[k]'(by omega)) := List.getElem?_eq_getElem _
    have efk : rk0.2[k]? = some (rk0.2[k]'(by omega)) := List.getElem?_eq_getElem _
    obtain ⟨kv, h1, h2⟩ := hb k _ _ eb efk
    have ekd : (flOf rs r.nm).getD k .flag = (rk0.2[k]'(by omega)).2 := by
      rw [efl]
      exact getD_get (by rw [List.getElem?_map, efk]; rfl)
    generalize (rk0.2[k]'(by omega)) = fk at efk h1 h2 ekd
    generalize (bs[k]'(by omega)) = bk at eb h1
    obtain ⟨pk, rfl, hpk⟩ := h2
    have at1 : atI (bs.map V.ref) (0 + (k : Int)) = some (.ref bk) := by rw [Int.zero_add]; exact atI_nat (map_get eb)
    have at2 : atI r.vals (0 + (k : Int)) = some (r.vals.getD k .non) := by rw [Int.zero_add]; exact atI_nat (by rw [List.getD_eq_getElem?_getD, List.getElem?_eq_getElem hkv]; rfl)
    have hpG := sG _ _ hp
    have hlG := sG _ _ hl
    have nxt := refsAt_succ (vs := r.vals) (ks := flOf rs r.nm) (k := k)
    rw [ekd] at nxt
    have kind0 : ∃ s0 rest, fk.2.vals = .str s0 :: rest ∧ (decide (V.str s0 = V.str "ref") = fk.2.isRef) := kd_head fk.2
    obtain ⟨s0, rest, ev0, dec⟩ := kind0
    rw [ev0] at hpk
    refine ⟨rfl, _, rfl, _, rfl, pf, _, _, _, rfl, rfl, Same.tup sG hbs, at1, bk, _, _, _, rfl, rfl, Same.tup sG h1, rfl, pk, V.str s0 :: rest, _, V.str s0, rfl, rfl, Same.tup sG hpk, atI_nat (j := 0) rfl, rfl, _, rfl, ?_⟩
    cases hrf : fk.2.isRef with
    | false =>
      rw [hrf] at dec nxt
      rw [if_neg (by decide)] at nxt
      refine ifF dec (iteF ⟨sG, ?_⟩)
      rw [nxt]
      exact eD
    | true =>
      rw [hrf] at dec nxt
      rw [if_pos rfl] at nxt
      refine ifT dec ⟨_, rfl, p, _, 2, _, rfl, rfl, SqL.of hpG, rfl, _, rfl, l, _, _, _, rfl, rfl, SqL.of hlG, at2, rfl, _, rfl, ?_⟩
      have rv := rok.v k hkv (by rw [ekd]; exact hrf)
      rcases rv with hv | ⟨j, hv, hj⟩
      · rw [hv] at nxt ⊢
        refine ifF (by decide) ⟨sG, ?_⟩
        rw [nxt]
        show G D = some (.lst (natsV (refsAt r.vals (refTo (flOf rs r.nm) k) ++ [])))
        rw [List.append_nil]
        exact eD
      · rw [hv] at nxt at2 ⊢
        refine ifT (by rw [decide_eq_false (fun z => by cases z)]; rfl) ?_
        refine ⟨_, rfl, p, _, 2, _, rfl, rfl, SqL.of hpG, rfl, _, rfl, l, _, _, _, rfl, rfl, SqL.of hlG, at2, _, eD, small1000 ?_, fun b o e => ?_, ?_⟩
        · unfold natsV refsAt
          rw [List.length_map]
          have := List.length_filterMap_le (fun i => asNat (r.vals.getD i .non)) (refTo (flOf rs r.nm) k)
          have := refTo_len (ks := flOf rs r.nm) (i := k)
          omega
        · rw [upd_ne (ne_of_none e hD)]
          exact sG _ _ e
        · rw [nxt, upd_same]
          show some (HO.lst (natsV _ ++ [V.int (j : Int)])) = some (.lst (natsV (refsAt r.vals (refTo (flOf rs r.nm) k) ++ [j])))
          unfold natsV
          rw [List.map_append]
          rfl
  · rintro G ⟨sG, eD⟩
    rw [Int.toNat_natCast, ← enb2] at eD
    exact q D G sG hD eD
end
open ZG (Sq ItzG walk_zipG)
open DcS (dc_it)
/-! ### keys: what is reached -/
def RunV (H : Hp) (d : Addr) (us : List V) (fx : List Nat) : Prop := ∃ kvs lv lx, H d = some (.dK kvs) ∧ valV kvs (Sum.inr "values") = some (.ref lv) ∧ valV kvs (Sum.inr "fixed") = some (.ref lx) ∧ H lv = some (.lst us) ∧ H lx = some (.lst (natsV fx))
theorem RunV.same {H H' : Hp} {d : Addr} {us : List V} {fx : List Nat} (s : Same H H') (h : RunV H d us fx) : RunV H' d us fx := by
  obtain ⟨kvs, lv, lx, h1, h2, h3, h4, h5⟩ := h
  exact ⟨kvs, lv, lx, s _ _ h1, h2, h3, s _ _ h4, s _ _ h5⟩
/-- the order lies within every set that covers -/
theorem order_sub {rs : List Rk} {R : List Rc} {ks : List Kd} {us : List V} {fx S : List Nat} (c : Cov rs R ks us fx S) (lt : ∀ k ∈ S, k < R.length) : ∀ k ∈ ordOf rs R ks us fx, k ∈ S := by
  have vr : ∀ (kd : Kd) (u : V) (N : Nat), (kd.isRef = true → RefV N u) → VR (fun i => i) kd u u := fun kd u N h => by
    unfold VR
    split
    · rename_i z
      rcases h z with rfl | ⟨j, rfl, _⟩
      · rfl
      · show V.int (j : Int) = .int (((j : Int).toNat : Nat) : Int)
        rw [Int.toNat_natCast]
    · rfl
  have nb : ∀ i ∈ S, nbR rs R i = (nbR rs R i).map fun i => i := fun i _ => by rw [List.map_id']
  have meet : ∀ (d i : Nat) (o : List Nat), i ∈ S → (∀ k ∈ o, k ∈ S) → ∀ k ∈ meetF (nbR rs R) d i o, k ∈ S := by
    intro d
    induction d with
    | zero => exact fun i o _ h => h
    | succ d ih =>
      intro i o hi ho k hk
      rw [meetF] at hk
      split at hk
      · exact ho k hk
      · have g : ∀ (l b : List Nat), (∀ j ∈ l, j ∈ S) → (∀ j ∈ b, j ∈ S) → ∀ k ∈ l.foldl (fun o j => meetF (nbR rs R) d j o) b, k ∈ S := by
          intro l
          induction l with
          | nil => exact fun b _ hb => hb
          | cons j l ihl =>
            intro b hl hb
            rw [List.foldl_cons]
            exact ihl _ (fun x hx => hl x (List.mem_cons_of_mem _ hx)) (ih j b (hl j List.mem_cons_self) hb)
        exact g (nbR rs R i) (o ++ [i]) (c.cl i hi) (fun j hj => (List.mem_append.mp hj).elim (ho j) fun z => by rw [List.mem_singleton.mp z]; exact hi) k hk
  have fold : ∀ (l b : List Nat), (∀ j ∈ l, j ∈ S) → (∀ j ∈ b, j ∈ S) → ∀ k ∈ l.foldl (mt (nbR rs R)) b, k ∈ S := by
    intro l
    induction l with
    | nil => exact fun b _ hb => hb
    | cons j l ihl =>
      intro b hl hb
      rw [List.foldl_cons]
      exact ihl _ (fun x hx => hl x (List.mem_cons_of_mem _ hx)) (meet 8 j b (hl j List.mem_cons_self) hb)
  refine fold (refsAt us (refPl ks)) _ c.st (fold (fx.flatMap (nbR rs R)) fx (fun j hj => ?_) c.fx)
  obtain ⟨i, hi, h⟩ := List.mem_flatMap.mp hj
  exact c.cl i (c.fx i hi) j h
/-- a list of seen records on its way to the order -/
structure Seen (rs : List Rk) (R : List Rc) (ks : List Kd) (us : List V) (fx : List Nat) (o : List Nat) : Prop where
  nd : o.Nodup
  sub : ∀ k ∈ o, k ∈ ordOf rs R ks us fx
theorem Seen.snoc {rs : List Rk} {R : List Rc} {ks : List Kd} {us : List V} {fx o : List Nat} {j : Nat} (h : Seen rs R ks us fx o) (m : j ∉ o) (hj : j ∈ ordOf rs R ks us fx) : Seen rs R ks us fx (o ++ [j]) :=
  ⟨List.nodup_append.mpr ⟨h.nd, by simp, fun a ha b hb e => m (by rw [List.mem_singleton.mp hb] at e; rw [← e]; exact ha)⟩, fun k hk => (List.mem_append.mp hk).elim (h.sub k) fun z => by rw [List.mem_singleton.mp z]; exact hj⟩
theorem Seen.len {rs : List Rk} {R : List Rc} {ks : List Kd} {us : List V} {fx o : List Nat} (s : Side rs R ks us fx) (h : Seen rs R ks us fx o) : o.length ≤ 100 := by
  obtain ⟨rk, hp⟩ := s.hp
  have := len_le h.nd fun k hk => s.ord.2.1 k (h.sub k hk)
  have := hp.ln
  omega
theorem Seen.perm {rs : List Rk} {R : List Rc} {ks : List Kd} {us : List V} {fx o : List Nat} (s : Side rs R ks us fx) (h : Seen rs R ks us fx o) (c : Cov rs R ks us fx o) : o.Perm (ordOf rs R ks us fx) :=
  (List.perm_ext_iff_of_nodup h.nd s.ord.1).mpr fun k => ⟨h.sub k, order_sub c (fun k hk => s.ord.2.1 k (h.sub k hk)) k⟩
theorem nats_at {o : List Nat} {n : Nat} {x : V} (h : (natsV o)[n]? = some x) : ∃ w : Nat, o[n]? = some w ∧ x = .int (w : Int) := by
  unfold natsV at h
  rw [List.getElem?_map] at h
  cases e : o[n]? with
  | none => rw [e] at h; cases h
  | some w =>
    rw [e] at h
    exact ⟨w, rfl, (Option.some.inj h).symm⟩
theorem nat_sorted {o : List Nat} {ns : List Int} (h : ns.Perm (o.map fun k : Nat => (k : Int))) (s : ns.Pairwise (· ≤ ·)) : ∃ o' : List Nat, ns = o'.map (fun k : Nat => (k : Int)) ∧ o'.Perm o ∧ o'.Pairwise (· ≤ ·) := by
  have e : ns = (ns.map Int.toNat).map fun k : Nat => (k : Int) := by
    rw [List.map_map]
    have : ∀ i ∈ ns, ((fun k : Nat => (k : Int)) ∘ Int.toNat) i = i := fun i hi => by
      obtain ⟨k, _, rfl⟩ := List.mem_map.mp (h.mem_iff.mp hi)
      rfl
    rw [List.map_congr_left this, List.map_id']
  refine ⟨ns.map Int.toNat, e, ?_, ?_⟩
  · have g := h.map Int.toNat
    rw [List.map_map] at g
    have : ∀ k ∈ o, (Int.toNat ∘ fun k : Nat => (k : Int)) k = k := fun k _ => rfl
    rw [List.map_congr_left this, List.map_id'] at g
    exact g
  · rw [e] at s
    rw [List.pairwise_map] at s
    exact s.imp fun h => Int.ofNat_le.mp h
def spReached (K : PySem.W.Frag) : Sp := fun vs H Q _ => ∃ (d a kl : Addr) (kxs : List V) (rs : List Rk) (R : List Rc) (rk : Nat → Nat) (ks : List Kd) (us : List V) (fx : List Nat), vs = [.ref d, .ref kl] ∧ HpOk rs R rk ∧ (∀ i, i < R.length → rk i < 4) ∧ RunAt K a H d rs R ∧ RunV H d us fx ∧
  H kl = some (.lst kxs) ∧ KdsAt K H kxs ks ∧ Side rs R ks us fx ∧ ∀ l o H', Same H H' → H l = none → H' l = some (.lst (natsV o)) → o.Perm (ordOf rs R ks us fx) → o.Pairwise (· ≤ ·) → Q (.ref l) H'
section
variable {P : Program} {w : World} {K : PySem.W.Frag} {mg : Str → Option Value} {base : Heap}
theorem ok_l_reached (T : Txt w K mg) : FnOk P w K mg base CX0 2 T.a_l_reached T.d_l_reached p_l_reached (spReached K) := by
  have g_l_led := ok_l_led (P := P) (w := w) (K := K) (base := base) T
  refine T.F_l_reached.ok sc_l_reached (fun vs H Q E h => ?_) (fun cdv A outer s H vs Q E hr h => ?_)
  · obtain ⟨d, a, kl, kxs, rs, R, rk, ks, us, fx, rfl, _⟩ := h
    rfl
  obtain ⟨d, a, kl, kxs, rs, R, rk, ks, us, fx, rfl, ok, hr4, hrun, hv, hk, hks, sd, q⟩ := h
  refine ⟨_, (pss_cons (ps_set (i := 2) sc_l_reached.nd rfl (Or.inl rfl) (pe_callTy call_list_of rfl T.z_list bt_list (pa_cons (pe_dget (hu_of hr) (pv 0) pe_str (fun _ _ => rfl)) pa_nil)))
      (pss_cons (ps_for PassesOwn.never rfl (pi_range1 rfl T.z_range (pa_cons (pe_callB call_len_seq rfl T.z_len PySem.boot_len (pa_cons (pv 1) pa_nil)) pa_nil)) (pg_name (i := 3) sc_l_reached.nd rfl (Or.inl rfl))
        (pss_one (ps_if (PW.pt (pw_and (pt_cmpR op_eq (pe_ix ix_tup (pe_ix ix_list (pv 1) (pv 3) (fun _ _ => rfl)) pe_int (fun _ _ => rfl)) pe_str (nomark _)) (pw_and (pt_cmpR op_notN (pe_ix ix_list (pe_dget (hu_of hr) (pv 0) pe_str (fun _ _ => rfl)) (pv 3) (fun _ _ => rfl)) pe_non (nomark _)) (pw_and1 (pt_cmpR op_notIn_seq (pe_ix ix_list (pe_dget (hu_of hr) (pv 0) pe_str (fun _ _ => rfl)) (pv 3) (fun _ _ => rfl)) (pv 2) (by rfl)))))) (pss_one (ps_expr (pe_bm PySem.F.plainAttrs_list PySem.F.slot_list_append PySem.F.type_list_append mt_append (pv 2) (pa_cons (pe_ix ix_list (pe_dget (hu_of hr) (pv 0) pe_str (fun _ _ => rfl)) (pv 3) (fun _ _ => rfl)) pa_nil)))) pss_nil)))
      (pss_cons (ps_for PassesOwn.never rfl (pi_range1 rfl T.z_range (pa_cons pe_int pa_nil)) (pg_name (i := 4) sc_l_reached.nd rfl (Or.inl rfl))
        (pss_one (ps_for PassesOwn.never rfl (pi_list (pe_callTy call_list_of rfl T.z_list bt_list (pa_cons (pv 2) pa_nil))) (pg_name (i := 5) sc_l_reached.nd rfl (Or.inl rfl))
        (pss_one (ps_for PassesOwn.never rfl (pi_list (pe_call g_l_led (hr.mono (by first | decide | omega)) rfl T.m_l_led T.F_l_led.kp T.b_l_led .nil pass0 (pa_cons (pv 0) (pa_cons (pv 5) pa_nil)))) (pg_name (i := 6) sc_l_reached.nd rfl (Or.inl rfl))
        (pss_one (ps_if (pt_cmpR op_notIn_seq (pv 6) (pv 2) (by rfl)) (pss_one (ps_expr (pe_bm PySem.F.plainAttrs_list PySem.F.slot_list_append PySem.F.type_list_append mt_append (pv 2) (pa_cons (pv 6) pa_nil)))) pss_nil)))))))
      (pss_one (ps_ret (pe_callB (cr_sortedI) rfl T.z_sorted bb_sorted (pa_cons (pv 2) pa_nil))))))), ?_⟩
  obtain ⟨kvs, lv, lx, hd, evl, efx, hlv, hlx⟩ := hv
  obtain ⟨ndo, lto, cvo⟩ := sd.ord
  have vl := sd.vs.l
  have k100 := sd.vs.k
  refine ⟨_, rfl, d, _, rfl, DGet.at (k := Sum.inr "fixed") hd efx, lx, _, rfl, .inl (SqL.of hlx), fun D hD => ?_⟩
  have rD := hrun.avoid hD
  have s0 : Same H (upd H D (.lst (natsV fx))) := Same.new hD _
  refine ⟨_, rfl, kl, _, rfl, .inl (SqL.of (s0 _ _ hk)), _, rfl, by rw [hks.1]; omega, by rw [hks.1]; omega, for_range (lo := 0) (fun k σ G => Same H G ∧ (∃ o, G D = some (.lst (natsV o)) ∧ Seen rs R ks us fx o ∧ (∀ i ∈ fx, i ∈ o) ∧ ∀ i ∈ refsAt us (refTo ks k), i ∈ o) ∧ ∃ v3 v4 v5 v6 : Option V, σ = [some (.ref d), some (.ref kl), some (.ref D), v3, v4, v5, v6])
    ⟨s0, ⟨fx, upd_same, ⟨sd.nd, cvo.fx⟩, fun _ h => h, fun i hi => by cases hi⟩, none, none, none, none, rfl⟩ ?_ ?_⟩
  · rintro k σ G hk2 ⟨sG, ⟨o, eD, so, c1, c2⟩, v3, v4, v5, v6, rfl⟩
    have hk3 : k < ks.length := by have := hks.1; omega
    have ex : kxs[k]? = some (kxs[k]'(by have := hks.1; omega)) := List.getElem?_eq_getElem _
    have ek : ks[k]? = some ks[k] := List.getElem?_eq_getElem hk3
    obtain ⟨pk, epk, hpk⟩ := hks.2 k _ _ ex ek
    have gk : ks.getD k .flag = ks[k] := getD_get ek
    rw [epk] at ex
    generalize ks[k] = kd at ek hpk gk
    have at1 : atI kxs (0 + (k : Int)) = some (.ref pk) := by rw [Int.zero_add]; exact atI_nat ex
    have hkv : k < us.length := by omega
    have at2 : atI us (0 + (k : Int)) = some (us.getD k .non) := by rw [Int.zero_add]; exact atI_nat (by rw [List.getD_eq_getElem?_getD, List.getElem?_eq_getElem hkv]; rfl)
    have nxt := refsAt_succ (vs := us) (ks := ks) (k := k)
    rw [gk] at nxt
    obtain ⟨z0, rest, ev0, dec⟩ : ∃ s0 rest, kd.vals = .str s0 :: rest ∧ (decide (V.str s0 = V.str "ref") = kd.isRef) := kd_head kd
    rw [ev0] at hpk
    have hdG := sG _ _ hd
    have hlvG := sG _ _ hlv
    refine ⟨_, rfl, _, rfl, kl, _, _, _, rfl, rfl, SqL.of (sG _ _ hk), at1, pk, V.str z0 :: rest, _, V.str z0, rfl, rfl, Same.tup sG hpk, atI_nat (j := 0) rfl, rfl, _, rfl, ?_⟩
    cases hrf : kd.isRef with
    | false =>
      rw [hrf] at dec nxt
      rw [if_neg (by decide)] at nxt
      exact ifF dec (iteF ⟨sG, ⟨o, eD, so, c1, by rw [nxt]; exact c2⟩, _, _, _, _, rfl⟩)
    | true =>
      rw [hrf] at dec nxt
      rw [if_pos rfl] at nxt
      refine ifT dec ⟨_, rfl, d, _, rfl, DGet.at (k := Sum.inr "values") hdG evl, _, rfl, lv, _, _, _, rfl, rfl, SqL.of hlvG, at2, rfl, _, rfl, ?_⟩
      have rv := sd.vs.v k hkv (by rw [gk]; exact hrf)
      rcases rv with hv | ⟨j, hv, hj⟩
      · rw [hv] at nxt ⊢
        have nxt : refsAt us (refTo ks (k + 1)) = refsAt us (refTo ks k) ++ [] := nxt
        rw [List.append_nil] at nxt
        exact ifF (by decide) (iteF ⟨sG, ⟨o, eD, so, c1, by rw [nxt]; exact c2⟩, _, _, _, _, rfl⟩)
      · have mj : j ∈ ordOf rs R ks us fx := cvo.st j (mem_refsAt (mem_refPl.mpr ⟨hk3, by rw [gk]; exact hrf⟩) hv)
        rw [hv] at nxt at2 ⊢
        have nxt : refsAt us (refTo ks (k + 1)) = refsAt us (refTo ks k) ++ [j] := nxt
        refine ifT (by rw [decide_eq_false (fun z => by cases z)]; rfl) ?_
        refine ⟨_, rfl, d, _, rfl, DGet.at (k := Sum.inr "values") hdG evl, _, rfl, lv, _, _, _, rfl, rfl, SqL.of hlvG, at2, _, rfl, D, _, rfl, .inl (SqL.of eD), rfl, flatN o, _, rfl, ?_⟩
        have eiv : (if true = true then !inV (V.int (j : Int)) (natsV o) else inV (V.int (j : Int)) (natsV o)) = !decide (j ∈ o) := by rw [if_pos rfl, inV_nat]
        by_cases m : j ∈ o
        · refine ifF (by rw [eiv, decide_eq_true m]; rfl) ⟨sG, ⟨o, eD, so, c1, fun i hi => ?_⟩, _, _, _, _, rfl⟩
          rw [nxt] at hi
          exact (List.mem_append.mp hi).elim (c2 i) fun z => by rw [List.mem_singleton.mp z]; exact m
        · refine ifT (by rw [eiv, decide_eq_false m]; rfl) ?_
          have ln := so.len sd
          refine ⟨_, rfl, .inl ⟨rfl, _, SqL.of eD⟩, _, rfl, d, _, rfl, DGet.at (k := Sum.inr "values") hdG evl, _, rfl, lv, _, _, _, rfl, rfl, SqL.of hlvG, at2, D, _, _, rfl, rfl, eD, lt_line (by unfold natsV; rw [List.length_map]; omega), fun b u e => ?_, ⟨o ++ [j], ?_, so.snoc m mj, fun i hi => List.mem_append_left _ (c1 i hi), fun i hi => ?_⟩, _, _, _, _, rfl⟩
          · rw [upd_ne (ne_of_none e hD)]
            exact sG _ _ e
          · rw [upd_same]
            unfold natsV
            rw [List.map_append]
            rfl
          · rw [nxt] at hi
            exact (List.mem_append.mp hi).elim (fun z => List.mem_append_left _ (c2 i z)) fun z => List.mem_append_right _ z
  · rintro σ G ⟨sG, ⟨o, eD, so, c1, c2⟩, v3, v4, v5, v6, rfl⟩
    have c2 : ∀ i ∈ refsAt us (refPl ks), i ∈ o := by
      have e : (((kxs.length : Nat) : Int) - 0).toNat = ks.length := by have := hks.1; omega
      first | exact c2 | (rw [hks.1] at c2; exact c2)
    clear hlv hlx
    refine ⟨4, rfl, by omega, by omega, for_range (lo := 0) (fun t σ G => Same H G ∧ (∃ o, G D = some (.lst (natsV o)) ∧ Seen rs R ks us fx o ∧ (∀ i ∈ fx, i ∈ o) ∧ (∀ i ∈ refsAt us (refPl ks), i ∈ o) ∧ ∀ i ∈ o, (∀ j ∈ nbR rs R i, j ∈ o) ∨ rk i + t < 4) ∧ ∃ v3 v4 v5 v6 : Option V, σ = [some (.ref d), some (.ref kl), some (.ref D), v3, v4, v5, v6])
      ⟨sG, ⟨o, eD, so, c1, c2, fun i hi => .inr (hr4 i (lto i (so.sub i hi)))⟩, v3, v4, v5, v6, rfl⟩ ?_ ?_⟩
    · rintro t σ G ht ⟨sG, ⟨o, eD, so, c1, c2, c3⟩, v3, v4, v5, v6, rfl⟩
      refine ⟨_, rfl, D, _, rfl, .inl (SqL.of eD), fun L hL => ?_⟩
      have nLD : L ≠ D := fun z => by rw [z, eD] at hL; cases hL
      have hLH : H L = none := by
        cases e : H L with
        | none => rfl
        | some u => rw [sG _ _ e] at hL; cases hL
      have sL : Same G (upd G L (.lst (natsV o))) := Same.new hL _
      refine ⟨L, rfl, ⟨_, SqL.of upd_same⟩, for_list (K := K) (a := L) (xs := natsV o) (fun n σ F => Same H F ∧ F L = some (.lst (natsV o)) ∧ (∃ c, F D = some (.lst (natsV c)) ∧ Seen rs R ks us fx c ∧ (∀ i ∈ o, i ∈ c) ∧ (∀ i ∈ o.take n, ∀ j ∈ nbR rs R i, j ∈ c) ∧ ∀ i ∈ c, i ∈ o ∨ ∃ w ∈ o, i ∈ nbR rs R w) ∧ ∃ v3 v4 v5 v6 : Option V, σ = [some (.ref d), some (.ref kl), some (.ref D), v3, v4, v5, v6])
        ⟨sG.trans sL, upd_same, ⟨o, sL _ _ eD, so, fun _ h => h, fun i hi => (by rw [List.take_zero] at hi; cases hi), fun i hi => .inl hi⟩, _, _, _, _, rfl⟩ (fun n σ F _ ⟨_, eL, _⟩ => SqL.of eL) ?_ ?_⟩
      · rintro n x σ F hn ⟨sF, eL, ⟨c, eD, sc, k1, k2, k3⟩, v3, v4, v5, v6, rfl⟩
        obtain ⟨w', hw, rfl⟩ := nats_at hn
        have mw : w' ∈ o := List.mem_of_getElem? hw
        have tk : o.take (n + 1) = o.take n ++ [w'] := by
          rw [List.take_add_one, hw]
          rfl
        have lw := lto w' (so.sub w' mw)
        refine ⟨_, rfl, _, rfl, d, D, w', rs, R, rk, rfl, ok, rD.same sF, lw, fun l F1 s1 hl0 hl => ?_⟩
        have nlD : l ≠ D := fun z => by rw [z, eD] at hl0; cases hl0
        have nlL : l ≠ L := fun z => by rw [z, eL] at hl0; cases hl0
        refine ⟨l, rfl, ⟨_, SqL.of hl⟩, for_list (K := K) (a := l) (xs := natsV (nbR rs R w')) (fun m σ F => Same H F ∧ F L = some (.lst (natsV o)) ∧ F l = some (.lst (natsV (nbR rs R w'))) ∧ (∃ c, F D = some (.lst (natsV c)) ∧ Seen rs R ks us fx c ∧ (∀ i ∈ o, i ∈ c) ∧ (∀ i ∈ o.take n, ∀ j ∈ nbR rs R i, j ∈ c) ∧ (∀ j ∈ (nbR rs R w').take m, j ∈ c) ∧ ∀ i ∈ c, i ∈ o ∨ ∃ w ∈ o, i ∈ nbR rs R w) ∧ ∃ v3 v4 v5 v6 : Option V, σ = [some (.ref d), some (.ref kl), some (.ref D), v3, v4, v5, v6])
          ⟨sF.trans s1, s1 _ _ eL, hl, ⟨c, s1 _ _ eD, sc, k1, k2, fun j hj => (by rw [List.take_zero] at hj; cases hj), k3⟩, _, _, _, _, rfl⟩ (fun m σ F _ ⟨_, _, el, _⟩ => SqL.of el) ?_ ?_⟩
        · rintro m y σ F2 hm ⟨sF2, eL2, el2, ⟨c, eD2, sc, k1, k2, k4, k3⟩, v3, v4, v5, v6, rfl⟩
          obtain ⟨j, hj, rfl⟩ := nats_at hm
          have mj : j ∈ nbR rs R w' := List.mem_of_getElem? hj
          have tkj : (nbR rs R w').take (m + 1) = (nbR rs R w').take m ++ [j] := by
            rw [List.take_add_one, hj]
            rfl
          have eiv : (if true = true then !inV (V.int (j : Int)) (natsV c) else inV (V.int (j : Int)) (natsV c)) = !decide (j ∈ c) := by rw [if_pos rfl, inV_nat]
          refine ⟨_, rfl, _, rfl, D, _, rfl, .inl (SqL.of eD2), rfl, flatN c, _, rfl, ?_⟩
          by_cases z : j ∈ c
          · refine ifF (by rw [eiv, decide_eq_true z]; rfl) ⟨sF2, eL2, el2, ⟨c, eD2, sc, k1, k2, fun i hi => ?_, k3⟩, _, _, _, _, rfl⟩
            rw [tkj] at hi
            exact (List.mem_append.mp hi).elim (k4 i) fun y => by rw [List.mem_singleton.mp y]; exact z
          · have mo : j ∈ ordOf rs R ks us fx := cvo.cl w' (so.sub w' mw) j mj
            have ln := sc.len sd
            have nDH := hD
            refine ifT (by rw [eiv, decide_eq_false z]; rfl) ⟨_, rfl, .inl ⟨rfl, _, SqL.of eD2⟩, _, rfl, D, _, _, rfl, rfl, eD2, lt_line (by unfold natsV; rw [List.length_map]; omega), fun b u e => ?_, by rw [upd_ne nLD]; exact eL2, by rw [upd_ne nlD]; exact el2, ⟨c ++ [j], ?_, sc.snoc z mo, fun i hi => List.mem_append_left _ (k1 i hi), fun i hi x hx => List.mem_append_left _ (k2 i hi x hx), fun i hi => ?_, fun i hi => ?_⟩, _, _, _, _, rfl⟩
            · rw [upd_ne (ne_of_none e hD)]
              exact sF2 _ _ e
            · rw [upd_same]
              unfold natsV
              rw [List.map_append]
              rfl
            · rw [tkj] at hi
              exact (List.mem_append.mp hi).elim (fun y => List.mem_append_left _ (k4 i y)) fun y => List.mem_append_right _ y
            · exact (List.mem_append.mp hi).elim (k3 i) fun y => .inr ⟨w', mw, by rw [List.mem_singleton.mp y]; exact mj⟩
        · rintro σ F2 ⟨sF2, eL2, _, ⟨c, eD2, sc, k1, k2, k4, k3⟩, v3, v4, v5, v6, rfl⟩
          refine ⟨sF2, eL2, ⟨c, eD2, sc, k1, fun i hi x hx => ?_, k3⟩, _, _, _, _, rfl⟩
          rw [tk] at hi
          rcases List.mem_append.mp hi with hi | hi
          · exact k2 i hi x hx
          · rw [List.mem_singleton.mp hi] at hx
            refine k4 x ?_
            rw [List.take_of_length_le (by unfold natsV; rw [List.length_map]; exact Nat.le_refl _)]
            exact hx
      · rintro σ F ⟨sF, _, ⟨c, eD, sc, k1, k2, k3⟩, v3, v4, v5, v6, rfl⟩
        have k2 : ∀ i ∈ o, ∀ j ∈ nbR rs R i, j ∈ c := fun i hi => k2 i (by rw [List.take_of_length_le (by unfold natsV; rw [List.length_map]; exact Nat.le_refl _)]; exact hi)
        refine ⟨sF, ⟨c, eD, sc, fun i hi => k1 i (c1 i hi), fun i hi => k1 i (c2 i hi), fun i hi => ?_⟩, _, _, _, _, rfl⟩
        by_cases mi : i ∈ o
        · exact .inl (k2 i mi)
        · rcases k3 i hi with h | ⟨w', mw, h⟩
          · exact absurd h mi
          · rcases c3 w' mw with h2 | h2
            · exact absurd (h2 i h) mi
            · have := ok.rn.d w' i h
              exact .inr (by omega)
    · rintro σ G ⟨sG, ⟨o, eD, so, c1, c2, c3⟩, v3, v4, v5, v6, rfl⟩
      have cl : ∀ i ∈ o, ∀ j ∈ nbR rs R i, j ∈ o := fun i hi => (c3 i hi).elim id fun h => absurd h (by
        have : ((4 : Int) - 0).toNat = 4 := rfl
        omega)
      have pm := so.perm sd ⟨c1, c2, cl⟩
      refine ⟨_, rfl, D, o.map fun k : Nat => (k : Int), rfl, ?_, fun ns p hp hs np => ?_⟩
      · rw [List.map_map]
        exact SqL.of eD
      · obtain ⟨o', rfl, po, ps⟩ := nat_sorted hp hs
        refine q p o' _ (sG.trans (Same.new np _)) ?_ ?_ (po.trans pm) ps
        · cases e : H p with
          | none => rfl
          | some u => rw [sG _ _ e] at np; cases np
        · rw [upd_same, List.map_map]
          rfl
end
open ZG (Sq ItzG walk_zipG)
open DcS (dc_it)
/-! ### keys: the law's own look at a pairing -/
theorem tyv_ref {kd : Kd} {v : V} (h : TyV kd v) (e : kd.isRef = true) : v = .non ∨ ∃ j : Nat, v = .int (j : Int) := by
  cases kd with
  | flag => cases e
  | num a b => cases e
  | ref s => exact h
theorem tyv_scal {kd : Kd} {u v : V} (h : TyV kd u) (g : TyV kd v) : scal u v = true := by
  cases kd with
  | flag =>
    obtain ⟨b, rfl⟩ := h
    obtain ⟨c, rfl⟩ := g
    rfl
  | num a b =>
    obtain ⟨i, rfl⟩ := h
    obtain ⟨j, rfl⟩ := g
    rfl
  | ref s => rcases h with rfl | ⟨i, rfl⟩ <;> rcases g with rfl | ⟨j, rfl⟩ <;> rfl
def spKept (K : PySem.W.Frag) : Sp := fun vs H Q _ => ∃ (v u u' : V) (pm pn : Addr) (kd : Kd) (m n : List Nat), vs = [v, u, u', .ref pm, .ref pn] ∧ KdAt K H v kd ∧ TyV kd u ∧ TyV kd u' ∧ H pm = some (.lst (natsV m)) ∧ H pn = some (.lst (natsV n)) ∧ (∀ i : Nat, kd.isRef = true → u = .int (i : Int) → i ∈ m) ∧ n.length = m.length ∧
  ∀ b : Bool, (b = true ↔ keptP kd u u' m n) → Q (.bl b) H
section
variable {P : Program} {w : World} {K : PySem.W.Frag} {mg : Str → Option Value} {base : Heap}
theorem ok_l_kept (T : Txt w K mg) : FnOk P w K mg base CX0 1 T.a_l_kept T.d_l_kept p_l_kept (spKept K) := by
  refine T.F_l_kept.ok sc_l_kept (fun vs H Q E h => ?_) (fun cdv A outer s H vs Q E hr h => ?_)
  · obtain ⟨v, u, u', pm, pn, kd, m, n, rfl, _⟩ := h
    rfl
  obtain ⟨v, u, u', pm, pn, kd, m, n, rfl, ⟨p, rfl, hp⟩, tu, tv, hm, hn, mem, ln, q⟩ := h
  refine ⟨_, (pss_cons (ps_if (PW.pt (pw_and (pt_cmpR op_eq (pe_ix ix_tup (pv 0) pe_int (fun _ _ => rfl)) pe_str (nomark _)) (pw_and (pt_cmpR op_notN (pv 1) pe_non (nomark _)) (pw_and1 (pt_cmpR op_notN (pv 2) pe_non (nomark _)))))) (pss_one (ps_ret (pe_cmpR op_eq (pe_ix ix_list (pv 4) (pe_bm PySem.F.plainAttrs_list PySem.F.slot_list_index PySem.F.type_list_index mt_index (pv 3) (pa_cons (pv 1) pa_nil)) (fun _ _ => rfl)) (pv 2) (nomark _)))) pss_nil)
      (pss_one (ps_ret (pe_cmpR op_eq (pv 1) (pv 2) (nomark _))))), ?_⟩
  obtain ⟨z0, rest, ev0, dec⟩ : ∃ s0 rest, kd.vals = .str s0 :: rest ∧ (decide (V.str s0 = V.str "ref") = kd.isRef) := kd_head kd
  rw [ev0] at hp
  refine ⟨_, rfl, p, V.str z0 :: rest, _, V.str z0, rfl, rfl, hp, atI_nat (j := 0) rfl, rfl, _, rfl, ?_⟩
  have plain : ∀ {B : Prop}, (keptP kd u u' m n ↔ u = u') → tRet (tOp rEq (tVar 1) (tVar 2)) { nx := fun _ H' => Q .non H', rt := Q } [some (.ref p), some u, some u', some (.ref pm), some (.ref pn)] H := fun {_} e => ⟨_, rfl, _, rfl, tyv_scal tu tv, q _ (by rw [e]; exact decide_eq_true_iff)⟩
  cases hrf : kd.isRef with
  | false =>
    rw [hrf] at dec
    refine ifF dec (iteF ?_)
    exact plain (B := True) (by unfold keptP; rw [hrf])
  | true =>
    rw [hrf] at dec
    refine ifT dec ?_
    rcases tyv_ref tu hrf with rfl | ⟨i, rfl⟩
    · refine ⟨_, rfl, rfl, _, rfl, ifF (by decide) (iteF ?_)⟩
      exact plain (B := True) (by unfold keptP; rw [hrf])
    · refine ⟨_, rfl, rfl, _, rfl, ifT (by rw [decide_eq_false (fun z => by cases z)]; rfl) ?_⟩
      rcases tyv_ref tv hrf with rfl | ⟨j, rfl⟩
      · refine ⟨_, rfl, rfl, _, rfl, ifF (by decide) ?_⟩
        exact plain (B := True) (by unfold keptP; rw [hrf])
      · refine ⟨_, rfl, rfl, _, rfl, ifT (by rw [decide_eq_false (fun z => by cases z)]; rfl) ?_⟩
        have mi := mem i hrf rfl
        have li := List.idxOf_lt_length_iff.mpr mi
        refine ⟨_, rfl, _, rfl, .inl ⟨rfl, _, SqL.of hm⟩, _, rfl, pm, _, .int (i : Int), m.idxOf i, .int (i : Int), rfl, rfl, SqL.of hm, rfl, flatN m, natsV_get (by rw [List.getElem?_eq_getElem li, List.getElem_idxOf]), beq_self_eq_true ((i : Int)), fun k z' hk hz' => ?_, ?_⟩
        · obtain ⟨y, ey, rfl⟩ := natsV_inv hz'
          have := idx_firstN m hk ey
          exact beq_eq_false_iff_ne.mpr fun w => this (by omega)
        · refine ⟨pn, _, _, _, rfl, rfl, SqL.of hn, atI_nat (natsV_get (getD_lt (m := n) (a := m.idxOf i) (by omega))), _, rfl, rfl, q _ ?_⟩
          rw [kept_ref hrf, decide_eq_true_iff]
          exact ⟨fun e => by injection e with e; exact Int.ofNat.inj e, fun e => by rw [e]⟩
structure SideT (rs : List Rk) (R : List Rc) (ks : List Kd) (us : List V) (fx : List Nat) : Prop where
  w : WldOk rs
  g : HpG rs R
  vs : VsOk ks R.length us
  ty : ∀ k, k < us.length → TyV (ks.getD k .flag) (us.getD k .non)
  nd : fx.Nodup
  fl : ∀ i ∈ fx, i < R.length
theorem SideT.s {rs : List Rk} {R : List Rc} {ks : List Kd} {us : List V} {fx : List Nat} (h : SideT rs R ks us fx) : Side rs R ks us fx := ⟨⟨_, h.g.ok h.w⟩, h.vs, h.nd, h.fl⟩
def spKeeps (K : PySem.W.Frag) : Sp := fun vs H Q _ => ∃ (d d' a kl pm pn : Addr) (kxs : List V) (rs : List Rk) (R R' : List Rc) (ks : List Kd) (us us' : List V) (fx fx' m n : List Nat), vs = [.ref d, .ref d', .ref kl, .ref pm, .ref pn] ∧ RunAt K a H d rs R ∧ RunV H d us fx ∧ RunAt K a H d' rs R' ∧ RunV H d' us' fx' ∧
  H kl = some (.lst kxs) ∧ KdsAt K H kxs ks ∧ SideT rs R ks us fx ∧ SideT rs R' ks us' fx' ∧ H pm = some (.lst (natsV m)) ∧ H pn = some (.lst (natsV n)) ∧ n.length = m.length ∧ m.length ≤ 100 ∧ Cov rs R ks us fx m ∧ (∀ k ∈ m, k < R.length) ∧ (∀ k ∈ n, k < R'.length) ∧ fx'.length = fx.length ∧
  ∀ b : Bool, (b = true ↔ Keeps rs R R' ks us us' fx fx' m n) → Q (.bl b) H
def RowK (rs : List Rk) (R R' : List Rc) (m n : List Nat) (a : Nat) : Prop := ∃ r r', R[m.getD a 0]? = some r ∧ R'[n.getD a 0]? = some r' ∧ r.nm = r'.nm ∧ r.live = r'.live ∧ ∀ k, k < r.vals.length → keptP ((flOf rs r.nm).getD k .flag) (r.vals.getD k .non) (r'.vals.getD k .non) m n
theorem ok_l_keeps (T : Txt w K mg) : FnOk P w K mg base CX0 2 T.a_l_keeps T.d_l_keeps p_l_keeps (spKeeps K) := by
  have g_l_kept := ok_l_kept (P := P) (w := w) (K := K) (base := base) T
  refine T.F_l_keeps.ok sc_l_keeps (fun vs H Q E h => ?_) (fun cdv A outer s H vs Q E hr h => ?_)
  · obtain ⟨d, d', a, kl, pm, pn, kxs, rs, R, R', ks, us, us', fx, fx', m, n, rfl, _⟩ := h
    rfl
  obtain ⟨d, d', a, kl, pm, pn, kxs, rs, R, R', ks, us, us', fx, fx', m, n, rfl, hrun, hv, hrun', hv', hk, hks, sd, sd', hm, hn, ln, m100, cv, mR, nR, lf, q⟩ := h
  refine ⟨_, (pss_cons (ps_for PassesOwn.never rfl (pi_range1 rfl T.z_range (pa_cons (pe_callB call_len_seq rfl T.z_len PySem.boot_len (pa_cons (pe_dget (hu_of hr) (pv 0) pe_str (fun _ _ => rfl)) pa_nil)) pa_nil)) (pg_name (i := 5) sc_l_keeps.nd rfl (Or.inl rfl))
        (pss_one (ps_if (pt_cmpR op_ne (pe_ix ix_list (pv 4) (pe_bm PySem.F.plainAttrs_list PySem.F.slot_list_index PySem.F.type_list_index mt_index (pv 3) (pa_cons (pe_ix ix_list (pe_dget (hu_of hr) (pv 0) pe_str (fun _ _ => rfl)) (pv 5) (fun _ _ => rfl)) pa_nil)) (fun _ _ => rfl)) (pe_ix ix_list (pe_dget (hu_of hr) (pv 1) pe_str (fun _ _ => rfl)) (pv 5) (fun _ _ => rfl)) (nomark _)) (pss_one (ps_ret pe_bl)) pss_nil)))
      (pss_cons (ps_for PassesOwn.never rfl (pi_range1 rfl T.z_range (pa_cons (pe_callB call_len_seq rfl T.z_len PySem.boot_len (pa_cons (pv 2) pa_nil)) pa_nil)) (pg_name (i := 5) sc_l_keeps.nd rfl (Or.inl rfl))
        (pss_one (ps_if (pt_not (pt_val (pe_call g_l_kept (hr.mono (by first | decide | omega)) rfl T.m_l_kept T.F_l_kept.kp T.b_l_kept .nil pass0 (pa_cons (pe_ix ix_list (pv 2) (pv 5) (fun _ _ => rfl)) (pa_cons (pe_ix ix_list (pe_dget (hu_of hr) (pv 0) pe_str (fun _ _ => rfl)) (pv 5) (fun _ _ => rfl)) (pa_cons (pe_ix ix_list (pe_dget (hu_of hr) (pv 1) pe_str (fun _ _ => rfl)) (pv 5) (fun _ _ => rfl)) (pa_cons (pv 3) (pa_cons (pv 4) pa_nil)))))))) (pss_one (ps_ret pe_bl)) pss_nil)))
      (pss_cons (ps_for PassesOwn.never rfl (pi_range1 rfl T.z_range (pa_cons (pe_callB call_len_seq rfl T.z_len PySem.boot_len (pa_cons (pv 3) pa_nil)) pa_nil)) (pg_name (i := 6) sc_l_keeps.nd rfl (Or.inl rfl))
        (pss_cons (ps_set (i := 7) sc_l_keeps.nd rfl (Or.inl rfl) (pe_ix ix_list (pe_dget (hu_of hr) (pv 0) pe_str (fun _ _ => rfl)) (pe_ix ix_list (pv 3) (pv 6) (fun _ _ => rfl)) (fun _ _ => rfl)))
      (pss_cons (ps_set (i := 8) sc_l_keeps.nd rfl (Or.inl rfl) (pe_ix ix_list (pe_dget (hu_of hr) (pv 1) pe_str (fun _ _ => rfl)) (pe_ix ix_list (pv 4) (pv 6) (fun _ _ => rfl)) (fun _ _ => rfl)))
      (pss_cons (ps_if (PW.pt (pw_or (pt_cmpR op_ne (pe_ix ix_list (pv 7) pe_int (fun _ _ => rfl)) (pe_ix ix_list (pv 8) pe_int (fun _ _ => rfl)) (nomark _)) (pw_or1 (pt_cmpR op_ne (pe_ix ix_list (pv 7) pe_int (fun _ _ => rfl)) (pe_ix ix_list (pv 8) pe_int (fun _ _ => rfl)) (nomark _))))) (pss_one (ps_ret pe_bl)) pss_nil)
      (pss_cons (ps_set (i := 9) sc_l_keeps.nd rfl (Or.inl rfl) (pe_dget (hu_of hr) (pe_dget (hu_of hr) (pv 0) pe_str (fun _ _ => rfl)) (pe_ix ix_list (pv 7) pe_int (fun _ _ => rfl)) (fun _ _ => rfl)))
      (pss_one (ps_for PassesOwn.never rfl (pi_range1 rfl T.z_range (pa_cons (pe_callB call_len_seq rfl T.z_len PySem.boot_len (pa_cons (pe_ix ix_list (pv 7) pe_int (fun _ _ => rfl)) pa_nil)) pa_nil)) (pg_name (i := 5) sc_l_keeps.nd rfl (Or.inl rfl))
        (pss_one (ps_if (pt_not (pt_val (pe_call g_l_kept (hr.mono (by first | decide | omega)) rfl T.m_l_kept T.F_l_kept.kp T.b_l_kept .nil pass0 (pa_cons (pe_ix ix_tup (pe_ix ix_tup (pv 9) (pv 5) (fun _ _ => rfl)) pe_int (fun _ _ => rfl)) (pa_cons (pe_ix ix_list (pe_ix ix_list (pv 7) pe_int (fun _ _ => rfl)) (pv 5) (fun _ _ => rfl)) (pa_cons (pe_ix ix_list (pe_ix ix_list (pv 8) pe_int (fun _ _ => rfl)) (pv 5) (fun _ _ => rfl)) (pa_cons (pv 3) (pa_cons (pv 4) pa_nil)))))))) (pss_one (ps_ret pe_bl)) pss_nil)))))))))
      (pss_one (ps_ret pe_bl))))), ?_⟩
  obtain ⟨kvs, lv, lx, hd, evl, efx, hlv, hlx⟩ := hv
  obtain ⟨kvs', lv', lx', hd', evl', efx', hlv', hlx'⟩ := hv'
  obtain ⟨kva, kf, lr, df, rows, run⟩ := hrun
  obtain ⟨kva', kf', lr', df', rows', run'⟩ := hrun'
  have no : ∀ {B : Prop}, (Keeps rs R R' ks us us' fx fx' m n → False) → Q (.bl false) H := fun {_} h => q false ⟨fun z => (by cases z), fun z => (h z).elim⟩
  have fx100 : fx.length ≤ 100 := by have := len_le sd.nd sd.fl; have := sd.g.ln; omega
  have k100 := sd.vs.k
  refine ⟨_, rfl, d, _, rfl, DGet.at (k := Sum.inr "fixed") hd efx, lx, _, rfl, .inl (SqL.of hlx), _, rfl, by unfold natsV; rw [List.length_map]; omega, by unfold natsV; rw [List.length_map]; omega, for_range (lo := 0) (fun k σ G => G = H ∧ (∀ j, j < k → n.getD (m.idxOf (fx.getD j 0)) 0 = fx'.getD j 0) ∧ ∃ v5 v6 v7 v8 v9 : Option V, σ = [some (.ref d), some (.ref d'), some (.ref kl), some (.ref pm), some (.ref pn), v5, v6, v7, v8, v9])
    ⟨rfl, fun j hj => absurd hj (Nat.not_lt_zero _), none, none, none, none, none, rfl⟩ ?_ ?_⟩
  · rintro k σ G hk2 ⟨rfl, c1, v5, v6, v7, v8, v9, rfl⟩
    have hk3 : k < fx.length := by unfold natsV at hk2; rw [List.length_map] at hk2; omega
    have e1 := getD_lt hk3
    have e2 := getD_lt (m := fx') (a := k) (by omega)
    have mi := cv.fx _ (List.mem_of_getElem? e1)
    have li := List.idxOf_lt_length_iff.mpr mi
    have a1 : atI (natsV fx) (0 + (k : Int)) = some (.int ((fx.getD k 0 : Nat) : Int)) := by rw [Int.zero_add]; exact atI_nat (natsV_get e1)
    have a2 : atI (natsV fx') (0 + (k : Int)) = some (.int ((fx'.getD k 0 : Nat) : Int)) := by rw [Int.zero_add]; exact atI_nat (natsV_get e2)
    refine ⟨_, rfl, _, rfl, .inl ⟨rfl, _, SqL.of hm⟩, _, rfl, d, _, rfl, DGet.at (k := Sum.inr "fixed") hd efx, _, rfl, lx, _, _, _, rfl, rfl, SqL.of hlx, a1, pm, _, .int ((fx.getD k 0 : Nat) : Int), m.idxOf (fx.getD k 0), .int ((fx.getD k 0 : Nat) : Int), rfl, rfl, SqL.of hm, rfl, flatN m, natsV_get (by rw [List.getElem?_eq_getElem li, List.getElem_idxOf]), beq_self_eq_true ((fx.getD k 0 : Nat) : Int), fun x z' hx hz' => ?_, ?_⟩
    · obtain ⟨y, ey, rfl⟩ := natsV_inv hz'
      have := idx_firstN m hx ey
      exact beq_eq_false_iff_ne.mpr fun w => this (by omega)
    refine ⟨pn, _, _, _, rfl, rfl, SqL.of hn, atI_nat (natsV_get (getD_lt (m := n) (a := m.idxOf (fx.getD k 0)) (by omega))), _, rfl, d', _, rfl, DGet.at (k := Sum.inr "fixed") hd' efx', _, rfl, lx', _, _, _, rfl, rfl, SqL.of hlx', a2, rfl, _, rfl, ?_⟩
    by_cases z : n.getD (m.idxOf (fx.getD k 0)) 0 = fx'.getD k 0
    · refine ifF (by rw [z, decide_eq_true rfl]; rfl) ⟨rfl, fun j hj => ?_, _, _, _, _, _, rfl⟩
      by_cases hjk : j = k
      · rw [hjk]
        exact z
      · exact c1 j (by omega)
    · refine ifT (by rw [decide_eq_false (fun y => z (by injection y with y; exact Int.ofNat.inj y))]; rfl) ?_
      exact no (B := True) fun kp => z (kp.fx k hk3)
  · rintro σ G ⟨rfl, c1, v5, v6, v7, v8, v9, rfl⟩
    have c1 : ∀ j, j < fx.length → n.getD (m.idxOf (fx.getD j 0)) 0 = fx'.getD j 0 := fun j hj => c1 j (by unfold natsV; rw [List.length_map]; omega)
    clear hlx hlx'
    have lk := hks.1
    refine ⟨_, rfl, kl, _, rfl, .inl (SqL.of hk), _, rfl, by omega, by omega, for_range (lo := 0) (fun k σ F => F = G ∧ (∀ j, j < k → keptP (ks.getD j .flag) (us.getD j .non) (us'.getD j .non) m n) ∧ ∃ v5 v6 v7 v8 v9 : Option V, σ = [some (.ref d), some (.ref d'), some (.ref kl), some (.ref pm), some (.ref pn), v5, v6, v7, v8, v9])
      ⟨rfl, fun j hj => absurd hj (Nat.not_lt_zero _), v5, v6, v7, v8, v9, rfl⟩ ?_ ?_⟩
    · rintro k σ F hk2 ⟨rfl, c2, v5, v6, v7, v8, v9, rfl⟩
      have hk3 : k < ks.length := by omega
      have ex : kxs[k]? = some (kxs[k]'(by omega)) := List.getElem?_eq_getElem _
      have ek : ks[k]? = some ks[k] := List.getElem?_eq_getElem hk3
      have hpk := hks.2 k _ _ ex ek
      have gk : ks.getD k .flag = ks[k] := getD_get ek
      generalize ks[k] = kd at ek hpk gk
      generalize kxs[k] = kx at ex hpk
      have l1 : k < us.length := by rw [sd.vs.l]; exact hk3
      have l2 : k < us'.length := by rw [sd'.vs.l]; exact hk3
      have a0 : atI kxs (0 + (k : Int)) = some kx := by rw [Int.zero_add]; exact atI_nat ex
      have a1 : atI us (0 + (k : Int)) = some (us.getD k .non) := by rw [Int.zero_add]; exact atI_nat (by rw [List.getD_eq_getElem?_getD, List.getElem?_eq_getElem l1]; rfl)
      have a2 : atI us' (0 + (k : Int)) = some (us'.getD k .non) := by rw [Int.zero_add]; exact atI_nat (by rw [List.getD_eq_getElem?_getD, List.getElem?_eq_getElem l2]; rfl)
      have t1 := sd.ty k l1
      have t2 := sd'.ty k l2
      rw [gk] at t1 t2
      refine ⟨_, rfl, _, rfl, kl, _, _, _, rfl, rfl, SqL.of hk, a0, _, rfl, d, _, rfl, DGet.at (k := Sum.inr "values") hd evl, _, rfl, lv, _, _, _, rfl, rfl, SqL.of hlv, a1, _, rfl, d', _, rfl, DGet.at (k := Sum.inr "values") hd' evl', _, rfl, lv', _, _, _, rfl, rfl, SqL.of hlv', a2, _, rfl, _, rfl, kx, us.getD k .non, us'.getD k .non, pm, pn, kd, m, n, rfl, hpk, t1, t2, hm, hn, fun i z e => cv.st i (mem_refsAt (mem_refPl.mpr ⟨hk3, by rw [gk]; exact z⟩) e), ln, fun b hb => ⟨_, rfl, ?_⟩⟩
      cases b with
      | true =>
        refine iteF ⟨rfl, fun j hj => ?_, _, _, _, _, _, rfl⟩
        by_cases hjk : j = k
        · rw [hjk, gk]
          exact hb.mp rfl
        · exact c2 j (by omega)
      | false =>
        refine iteT ?_
        exact no (B := True) fun kp => by
          have := kp.val k hk3
          rw [gk] at this
          exact Bool.noConfusion (hb.mpr this)
    · rintro σ F ⟨rfl, c2, v5, v6, v7, v8, v9, rfl⟩
      have c2 : ∀ j, j < ks.length → keptP (ks.getD j .flag) (us.getD j .non) (us'.getD j .non) m n := fun j hj => c2 j (by omega)
      clear hlv hlv' hks
      refine ⟨_, rfl, pm, _, rfl, .inl (SqL.of hm), _, rfl, by unfold natsV; rw [List.length_map]; omega, by unfold natsV; rw [List.length_map]; omega, for_range (lo := 0) (fun x σ F2 => F2 = F ∧ (∀ y, y < x → RowK rs R R' m n y) ∧ ∃ v5 v6 v7 v8 v9 : Option V, σ = [some (.ref d), some (.ref d'), some (.ref kl), some (.ref pm), some (.ref pn), v5, v6, v7, v8, v9])
        ⟨rfl, fun j hj => absurd hj (Nat.not_lt_zero _), v5, v6, v7, v8, v9, rfl⟩ ?_ ?_⟩
      · rintro x σ F2 hx ⟨rfl, c3, v5, v6, v7, v8, v9, rfl⟩
        have hx : x < m.length := by unfold natsV at hx; rw [List.length_map] at hx; omega
        have e1 := getD_lt hx
        have e2 := getD_lt (m := n) (a := x) (by omega)
        have m1 := List.mem_of_getElem? e1
        have i1 := mR _ m1
        have i2 := nR _ (List.mem_of_getElem? e2)
        have er : R[m.getD x 0]? = some R[m.getD x 0] := List.getElem?_eq_getElem i1
        have er' : R'[n.getD x 0]? = some R'[n.getD x 0] := List.getElem?_eq_getElem i2
        have ev : rows[m.getD x 0]? = some (rows[m.getD x 0]'(by rw [run.lr]; exact i1)) := List.getElem?_eq_getElem _
        have ev' : rows'[n.getD x 0]? = some (rows'[n.getD x 0]'(by rw [run'.lr]; exact i2)) := List.getElem?_eq_getElem _
        obtain ⟨p, l, ep, _, _, hp, hl⟩ := run.rw _ _ _ ev er
        obtain ⟨p', l', ep', _, _, hp', hl'⟩ := run'.rw _ _ _ ev' er'
        have rok := sd.g.rc _ (List.getElem_mem i1)
        have rok' := sd'.g.rc _ (List.getElem_mem i2)
        rw [ep] at ev
        rw [ep'] at ev'
        have am : atI (natsV m) (0 + (x : Int)) = some (.int ((m.getD x 0 : Nat) : Int)) := by rw [Int.zero_add]; exact atI_nat (natsV_get e1)
        have an : atI (natsV n) (0 + (x : Int)) = some (.int ((n.getD x 0 : Nat) : Int)) := by rw [Int.zero_add]; exact atI_nat (natsV_get e2)
        generalize R[m.getD x 0] = r at er hp hl rok
        generalize R'[n.getD x 0] = r' at er' hp' hl' rok'
        have bad : (RowK rs R R' m n x → False) → Q (.bl false) F2 := fun h => no (B := True) fun kp => h (kp.row x hx)
        refine ⟨_, rfl, d, _, rfl, DGet.at (k := Sum.inr "records") run.hd run.kr, _, rfl, _, rfl, pm, _, _, _, rfl, rfl, SqL.of hm, am, lr, _, _, _, rfl, rfl, SqL.of run.hl, atI_nat ev, ?_⟩
        refine ⟨_, rfl, d', _, rfl, DGet.at (k := Sum.inr "records") run'.hd run'.kr, _, rfl, _, rfl, pn, _, _, _, rfl, rfl, SqL.of hn, an, lr', _, _, _, rfl, rfl, SqL.of run'.hl, atI_nat ev', ?_⟩
        refine ⟨_, rfl, p, _, 0, _, rfl, rfl, SqL.of hp, rfl, _, rfl, p', _, 0, _, rfl, rfl, SqL.of hp', rfl, rfl, _, rfl, ?_⟩
        by_cases z1 : r.nm = r'.nm
        · refine ifF (by rw [z1, decide_eq_true rfl]; rfl) ?_
          refine ⟨_, rfl, p, _, 1, _, rfl, rfl, SqL.of hp, rfl, _, rfl, p', _, 1, _, rfl, rfl, SqL.of hp', rfl, rfl, _, rfl, ?_⟩
          by_cases z2 : r.live = r'.live
          · refine ifF (by rw [z2, decide_eq_true rfl]; rfl) ?_
            obtain ⟨rk0, mk0, ek0⟩ := rok.m
            obtain ⟨pf, ef, bs, hbs, lbs, hb⟩ := run.fl rk0 mk0
            rw [ek0] at ef
            have efl : flOf rs r.nm = rk0.2.map (·.2) := by rw [← ek0]; exact flOf_mem sd.w.pok.nd mk0
            have l20 := flOf_len sd.w.pok (z := r.nm)
            have lbf : bs.length = (flOf rs r.nm).length := by rw [lbs, efl, List.length_map]
            have lv : r.vals.length ≤ (flOf rs r.nm).length := by
              cases hlv : r.live with
              | true => rw [rok.l hlv]; exact Nat.le_refl _
              | false => rw [rok.d hlv]; exact Nat.zero_le _
            have lvv : r'.vals.length = r.vals.length := by
              cases hlv : r.live with
              | true => rw [rok.l hlv, rok'.l (by rw [← z2]; exact hlv), z1]
              | false => rw [rok.d hlv, rok'.d (by rw [← z2]; exact hlv)]
            refine ⟨_, rfl, d, _, rfl, DGet.at (k := Sum.inr "fields") run.hd run.kk, _, rfl, p, _, 0, _, rfl, rfl, SqL.of hp, rfl, df, _, rfl, DGet.at (k := Sum.inr r.nm) run.hf ef, ?_⟩
            refine ⟨_, rfl, p, _, 2, _, rfl, rfl, SqL.of hp, rfl, l, _, rfl, .inl (SqL.of hl), _, rfl, by omega, by omega, for_range (lo := 0) (fun k σ F3 => F3 = F2 ∧ (∀ j, j < k → keptP ((flOf rs r.nm).getD j .flag) (r.vals.getD j .non) (r'.vals.getD j .non) m n) ∧ ∃ v5 : Option V, σ = [some (.ref d), some (.ref d'), some (.ref kl), some (.ref pm), some (.ref pn), v5, some (.int (0 + (x : Int))), some (.ref p), some (.ref p'), some (.ref pf)])
              ⟨rfl, fun j hj => absurd hj (Nat.not_lt_zero _), _, rfl⟩ ?_ ?_⟩
            · rintro k σ F3 hk2 ⟨rfl, c4, v5, rfl⟩
              have hkv : k < r.vals.length := by omega
              have eb : bs[k]? = some (bs[k]'(by omega)) := List.getElem?_eq_getElem _
              have efk : rk0.2[k]? = some (rk0.2[k]'(by rw [← lbs]; omega)) := List.getElem?_eq_getElem _
              obtain ⟨kv, h1, h2⟩ := hb k _ _ eb efk
              have ekd : (flOf rs r.nm).getD k .flag = (rk0.2[k]'(by rw [← lbs]; omega)).2 := by
                rw [efl]
                exact getD_get (by rw [List.getElem?_map, efk]; rfl)
              generalize (rk0.2[k]'(by rw [← lbs]; omega)) = fk at efk h1 h2 ekd
              generalize (bs[k]'(by omega)) = bk at eb h1
              have at1 : atI (bs.map V.ref) (0 + (k : Int)) = some (.ref bk) := by rw [Int.zero_add]; exact atI_nat (map_get eb)
              have at2 : atI r.vals (0 + (k : Int)) = some (r.vals.getD k .non) := by rw [Int.zero_add]; exact atI_nat (by rw [List.getD_eq_getElem?_getD, List.getElem?_eq_getElem hkv]; rfl)
              have at3 : atI r'.vals (0 + (k : Int)) = some (r'.vals.getD k .non) := by rw [Int.zero_add]; exact atI_nat (by rw [List.getD_eq_getElem?_getD, List.getElem?_eq_getElem (show k < r'.vals.length by omega)]; rfl)
              have t1 := rok.t k hkv
              have t2 := rok'.t k (by omega)
              rw [← z1] at t2
              rw [ekd] at t1 t2
              have hlive : r.live = true := by
                cases z : r.live with
                | true => rfl
                | false => rw [rok.d z] at hkv; exact absurd hkv (Nat.not_lt_zero _)
              refine ⟨_, rfl, _, rfl, pf, _, _, _, rfl, rfl, hbs, at1, bk, _, 1, _, rfl, rfl, h1, rfl, _, rfl, p, _, 2, _, rfl, rfl, SqL.of hp, rfl, _, rfl, l, _, _, _, rfl, rfl, SqL.of hl, at2, _, rfl, p', _, 2, _, rfl, rfl, SqL.of hp', rfl, _, rfl, l', _, _, _, rfl, rfl, SqL.of hl', at3, _, rfl, _, rfl, kv, r.vals.getD k .non, r'.vals.getD k .non, pm, pn, fk.2, m, n, rfl, h2, t1, t2, hm, hn, fun i z e => ?_, ln, fun b hb2 => ⟨_, rfl, ?_⟩⟩
              · refine cv.cl _ m1 i ?_
                unfold nbR
                rw [er]
                show i ∈ (if r.live then refsAt r.vals (refPl (flOf rs r.nm)) else [])
                rw [hlive]
                exact mem_refsAt (mem_refPl.mpr ⟨by omega, by rw [ekd]; exact z⟩) e
              · cases b with
                | true =>
                  refine iteF ⟨rfl, fun j hj => ?_, _, rfl⟩
                  by_cases hjk : j = k
                  · rw [hjk, ekd]
                    exact hb2.mp rfl
                  · exact c4 j (by omega)
                | false =>
                  refine iteT ?_
                  exact bad fun ⟨q1, q2, w1, w2, _, _, w3⟩ => by
                    rw [er] at w1
                    rw [er'] at w2
                    cases w1
                    cases w2
                    have := w3 k hkv
                    rw [ekd] at this
                    exact Bool.noConfusion (hb2.mpr this)
            · rintro σ F3 ⟨rfl, c4, v5, rfl⟩
              refine ⟨rfl, fun y hy => ?_, _, _, _, _, _, rfl⟩
              by_cases hyx : y = x
              · rw [hyx]
                exact ⟨r, r', er, er', z1, z2, fun k hk => c4 k (by omega)⟩
              · exact c3 y (by omega)
          · refine ifT (by rw [decide_eq_false (fun y => z2 (V.bl.inj y))]; rfl) ?_
            exact bad fun ⟨q1, q2, w1, w2, _, w4, _⟩ => by
              rw [er] at w1
              rw [er'] at w2
              cases w1
              cases w2
              exact z2 w4
        · refine ifT (by rw [decide_eq_false (fun y => z1 (V.str.inj y))]; rfl) (iteT ?_)
          exact bad fun ⟨q1, q2, w1, w2, w3, _, _⟩ => by
            rw [er] at w1
            rw [er'] at w2
            cases w1
            cases w2
            exact z1 w3
      · rintro σ F2 ⟨rfl, c3, v5, v6, v7, v8, v9, rfl⟩
        exact q true ⟨fun _ => ⟨c1, c2, fun a ha => c3 a (by unfold natsV; rw [List.length_map]; omega)⟩, fun _ => rfl⟩
end
open ZG (Sq ItzG walk_zipG)
open DcS (dc_it)
/-! ### keys: all orders -/
def ordF : Nat → List (List Nat)
  | 0 => [[]]
  | k + 1 => (ordF k).flatMap fun o => (List.range (k + 1)).map fun x => o.take x ++ [k] ++ o.drop x
theorem ordF_len : ∀ {n : Nat}, ∀ o ∈ ordF n, o.length = n
  | 0, o, h => by rw [List.mem_singleton.mp h]; rfl
  | n + 1, o, h => by
    obtain ⟨c, hc, h⟩ := List.mem_flatMap.mp h
    obtain ⟨x, _, rfl⟩ := List.mem_map.mp h
    have := ordF_len c hc
    rw [List.length_append, List.length_append, List.length_take, List.length_drop, List.length_singleton]
    omega
theorem ordF_count : ∀ {n : Nat}, (ordF (n + 1)).length = (ordF n).length * (n + 1) := by
  intro n
  show (List.flatMap _ (ordF n)).length = _
  induction ordF n with
  | nil => simp
  | cons o l ih =>
    rw [List.flatMap_cons, List.length_append, ih, List.length_map, List.length_range, List.length_cons, Nat.add_mul, Nat.one_mul, Nat.add_comm]
theorem ordF_few {n : Nat} (h : n ≤ 6) : (ordF n).length ≤ 720 := by
  have e0 : (ordF 0).length = 1 := rfl
  have e1 : (ordF 1).length = (ordF 0).length * 1 := ordF_count
  have e2 : (ordF 2).length = (ordF 1).length * 2 := ordF_count
  have e3 : (ordF 3).length = (ordF 2).length * 3 := ordF_count
  have e4 : (ordF 4).length = (ordF 3).length * 4 := ordF_count
  have e5 : (ordF 5).length = (ordF 4).length * 5 := ordF_count
  have e6 : (ordF 6).length = (ordF 5).length * 6 := ordF_count
  have : n = 0 ∨ n = 1 ∨ n = 2 ∨ n = 3 ∨ n = 4 ∨ n = 5 ∨ n = 6 := by omega
  rcases this with rfl | rfl | rfl | rfl | rfl | rfl | rfl <;> omega
theorem ordF_iff : ∀ {n : Nat} {q : List Nat}, q ∈ ordF n ↔ q.Perm (List.range n)
  | 0, q => by
    rw [List.range_zero, List.perm_nil]
    exact List.mem_singleton
  | n + 1, q => by
    constructor
    · intro h
      obtain ⟨c, hc, h⟩ := List.mem_flatMap.mp h
      obtain ⟨x, _, rfl⟩ := List.mem_map.mp h
      have p := ordF_iff.mp hc
      rw [List.range_succ, List.append_assoc]
      refine (List.perm_append_comm_assoc _ _ _).trans ?_
      rw [List.take_append_drop]
      exact (List.perm_append_comm).trans (p.append_right _)
    · intro h
      have m : n ∈ q := h.mem_iff.mpr (List.mem_range.mpr (Nat.lt_succ_self n))
      obtain ⟨s, t, e⟩ := List.append_of_mem m
      have p : (s ++ t).Perm (List.range n) := by
        rw [e, List.range_succ] at h
        have h2 : (n :: (s ++ t)).Perm (n :: List.range n) := (List.perm_middle.symm.trans h).trans (List.perm_append_comm)
        exact h2.cons_inv
      have l : (s ++ t).length = n := by rw [p.length_eq, List.length_range]
      refine List.mem_flatMap.mpr ⟨s ++ t, ordF_iff.mpr p, List.mem_map.mpr ⟨s.length, List.mem_range.mpr ?_, ?_⟩⟩
      · rw [List.length_append] at l
        omega
      · rw [List.take_left, List.drop_left, e, List.append_assoc]
        rfl
def OrdsAt (H : Hp) (l : Addr) (os : List (List Nat)) : Prop := ∃ as : List Addr, H l = some (.lst (as.map V.ref)) ∧ as.length = os.length ∧ ∀ (i : Nat) (a : Addr) (o : List Nat), as[i]? = some a → os[i]? = some o → H a = some (.lst (natsV o))
theorem OrdsAt.same {H H' : Hp} {l : Addr} {os : List (List Nat)} (s : Same H H') (h : OrdsAt H l os) : OrdsAt H' l os := by
  obtain ⟨as, h1, h2, h3⟩ := h
  exact ⟨as, s _ _ h1, h2, fun i a o e1 e2 => s _ _ (h3 i a o e1 e2)⟩
theorem OrdsAt.push {H H' : Hp} {l p : Addr} {os : List (List Nat)} {o : List Nat} {as : List Addr} (h1 : H l = some (.lst (as.map V.ref))) (h2 : as.length = os.length) (h3 : ∀ (i : Nat) (a : Addr) (o : List Nat), as[i]? = some a → os[i]? = some o → H a = some (.lst (natsV o)) ∧ a ≠ l) (hp : H' p = some (.lst (natsV o))) (np : p ≠ l) (s : Same H H') :
    (upd H' l (.lst (as.map V.ref ++ [.ref p]))) l = some (.lst ((as ++ [p]).map V.ref)) ∧ (as ++ [p]).length = (os ++ [o]).length ∧ ∀ (i : Nat) (a : Addr) (o' : List Nat), (as ++ [p])[i]? = some a → (os ++ [o])[i]? = some o' → (upd H' l (.lst (as.map V.ref ++ [.ref p]))) a = some (.lst (natsV o')) ∧ a ≠ l := by
  refine ⟨by rw [upd_same, List.map_append]; rfl, by rw [List.length_append, List.length_append, h2]; rfl, fun i a o' e1 e2 => ?_⟩
  rcases two_get e1 with ⟨l1, e1⟩ | ⟨l1, rfl⟩
  · rcases two_get e2 with ⟨_, e2⟩ | ⟨l2, _⟩
    · obtain ⟨g1, g2⟩ := h3 i a o' e1 e2
      exact ⟨by rw [upd_ne g2]; exact s _ _ g1, g2⟩
    · omega
  · rcases two_get e2 with ⟨l2, _⟩ | ⟨_, rfl⟩
    · omega
    · exact ⟨by rw [upd_ne np]; exact hp, np⟩
def insF (k : Nat) (o : List Nat) (x : Nat) : List Nat := o.take x ++ [k] ++ o.drop x
def spOrders : Sp := fun vs H Q _ => ∃ n : Nat, vs = [.int (n : Int)] ∧ n ≤ 6 ∧ ∀ l H', Same H H' → OrdsAt H' l (ordF n) → Q (.ref l) H'
section
variable {P : Program} {w : World} {K : PySem.W.Frag} {mg : Str → Option Value} {base : Heap}
theorem ok_l_orders (T : Txt w K mg) : FnOk P w K mg base CX0 1 T.a_l_orders T.d_l_orders p_l_orders spOrders := by
  refine T.F_l_orders.ok sc_l_orders (fun vs H Q E h => ?_) (fun cdv A outer s H vs Q E hr h => ?_)
  · obtain ⟨n, rfl, _⟩ := h
    rfl
  obtain ⟨n, rfl, hn, q⟩ := h
  refine ⟨_, (pss_cons (ps_set (i := 1) sc_l_orders.nd rfl (Or.inl rfl) (pe_lst (pa_cons (pe_lst pa_nil) pa_nil)))
      (pss_cons (ps_for PassesOwn.never rfl (pi_range1 rfl T.z_range (pa_cons (pv 0) pa_nil)) (pg_name (i := 2) sc_l_orders.nd rfl (Or.inl rfl))
        (pss_cons (ps_set (i := 3) sc_l_orders.nd rfl (Or.inl rfl) (pe_lst pa_nil))
      (pss_cons (ps_for PassesOwn.never rfl (pi_list (pv 1)) (pg_name (i := 4) sc_l_orders.nd rfl (Or.inl rfl))
        (pss_one (ps_for PassesOwn.never rfl (pi_range1 rfl T.z_range (pa_cons (pe_op op_add (pv 2) pe_int) pa_nil)) (pg_name (i := 5) sc_l_orders.nd rfl (Or.inl rfl))
        (pss_one (ps_expr (pe_bm PySem.F.plainAttrs_list PySem.F.slot_list_append PySem.F.type_list_append mt_append (pv 3) (pa_cons (pe_op op_cat (pe_op op_cat (pe_slice sl_list (pv 4) po_none (po_some (pv 5))) (pe_lst (pa_cons (pv 2) pa_nil))) (pe_slice sl_list (pv 4) (po_some (pv 5)) po_none)) pa_nil)))))))
      (pss_one (ps_set (i := 1) sc_l_orders.nd rfl (Or.inl rfl) (pe_callTy call_list_of rfl T.z_list bt_list (pa_cons (pv 3) pa_nil)))))))
      (pss_one (ps_ret (pv 1))))), ?_⟩
  refine ⟨by show 0 ≤ sizeLine; decide, fun p0 hp0 => ⟨by show 1 ≤ sizeLine; decide, fun l hl => ?_⟩⟩
  have s0 : Same H (upd (upd H p0 (.lst [])) l (.lst [.ref p0])) := (Same.new hp0 _).trans (Same.new hl _)
  have n0 : p0 ≠ l := fun z => by rw [← z, upd_same] at hl; cases hl
  refine ⟨_, rfl, _, rfl, by omega, by omega, for_range (lo := 0) (fun k σ G => Same H G ∧ ∃ l, OrdsAt G l (ordF k) ∧ ∃ v2 v3 v4 v5 : Option V, σ = [some (.int (n : Int)), some (.ref l), v2, v3, v4, v5])
    ⟨s0, l, ⟨[p0], upd_same, rfl, fun i a o e1 e2 => ?_⟩, none, none, none, none, rfl⟩ ?_ ?_⟩
  · cases i with
    | zero =>
      cases e1
      cases e2
      rw [upd_ne n0]
      exact upd_same
    | succ i => simp at e1
  · rintro k σ G hk ⟨sG, l, ⟨as, h1, h2, h3⟩, v2, v3, v4, v5, rfl⟩
    have hk : k < n := by omega
    refine ⟨by show 0 ≤ sizeLine; decide, fun D hD => ?_⟩
    have sD : Same G (upd G D (.lst [])) := Same.new hD _
    refine ⟨_, rfl, l, rfl, ⟨_, SqL.of (sD _ _ h1)⟩, for_list (K := K) (a := l) (xs := as.map V.ref) (fun j σ F => Same G F ∧ (∃ cs : List Addr, F D = some (.lst (cs.map V.ref)) ∧ cs.length = (((ordF k).take j).flatMap fun o => (List.range (k + 1)).map (insF k o)).length ∧ ∀ (i : Nat) (a : Addr) (o : List Nat), cs[i]? = some a → (((ordF k).take j).flatMap fun o => (List.range (k + 1)).map (insF k o))[i]? = some o → F a = some (.lst (natsV o)) ∧ a ≠ D) ∧ ∃ v4 v5 : Option V, σ = [some (.int (n : Int)), some (.ref l), some (.int (0 + (k : Int))), some (.ref D), v4, v5])
      ⟨sD, ⟨[], upd_same, rfl, fun i a o e => by simp at e⟩, v4, v5, rfl⟩ (fun j σ F _ ⟨sF, _⟩ => SqL.of (sF _ _ h1)) ?_ ?_⟩
    · rintro j x σ F hj ⟨sF, ⟨cs, c1, c2, c3⟩, v4, v5, rfl⟩
      have hj2 : j < as.length := by have := (List.getElem?_eq_some_iff.mp hj).1; rwa [List.length_map] at this
      have ea : as[j]? = some as[j] := List.getElem?_eq_getElem hj2
      have eo : (ordF k)[j]? = some ((ordF k)[j]'(by omega)) := List.getElem?_eq_getElem _
      have hpo := h3 _ _ _ ea eo
      rw [map_get ea] at hj
      obtain rfl := Option.some.inj hj
      have tk : (ordF k).take (j + 1) = (ordF k).take j ++ [(ordF k)[j]'(by omega)] := by
        rw [List.take_add_one, eo]
        rfl
      have lo := ordF_len _ (List.mem_of_getElem? eo)
      generalize ((ordF k)[j]'(by omega)) = o at eo hpo tk lo
      generalize as[j] = po at ea hpo
      rw [tk, List.flatMap_append, List.flatMap_cons, List.flatMap_nil, List.append_nil]
      have few : ∀ x, x ≤ k + 1 → (((ordF k).take j).flatMap (fun o => (List.range (k + 1)).map (insF k o)) ++ (List.range x).map (insF k o)).length ≤ 720 := fun x hx => by
        have f1 := ordF_few (n := k + 1) (by omega)
        have e : ordF (k + 1) = ((ordF k).take j).flatMap (fun o => (List.range (k + 1)).map (insF k o)) ++ ((ordF k).drop j).flatMap (fun o => (List.range (k + 1)).map (insF k o)) := by
          rw [← List.flatMap_append, List.take_append_drop]
          rfl
        have ed : (ordF k).drop j = o :: (ordF k).drop (j + 1) := by
          rw [List.drop_eq_getElem_cons (by omega)]
          rw [List.getElem?_eq_getElem (by omega)] at eo
          rw [Option.some.inj eo]
        rw [e, ed, List.flatMap_cons, List.length_append, List.length_append, List.length_map, List.length_range] at f1
        rw [List.length_append, List.length_map, List.length_range]
        omega
      refine ⟨_, rfl, _, _, rfl, rfl, _, rfl, by omega, by omega, for_range (lo := 0) (fun x σ F => Same G F ∧ (∃ cs : List Addr, F D = some (.lst (cs.map V.ref)) ∧ cs.length = (((ordF k).take j).flatMap (fun o => (List.range (k + 1)).map (insF k o)) ++ (List.range x).map (insF k o)).length ∧ ∀ (i : Nat) (a : Addr) (o' : List Nat), cs[i]? = some a → (((ordF k).take j).flatMap (fun o => (List.range (k + 1)).map (insF k o)) ++ (List.range x).map (insF k o))[i]? = some o' → F a = some (.lst (natsV o')) ∧ a ≠ D) ∧ ∃ v5 : Option V, σ = [some (.int (n : Int)), some (.ref l), some (.int (0 + (k : Int))), some (.ref D), some (.ref po), v5])
        ⟨sF, ⟨cs, c1, by rw [List.range_zero, List.map_nil, List.append_nil]; exact c2, by rw [List.range_zero, List.map_nil, List.append_nil]; exact c3⟩, v5, rfl⟩ ?_ ?_⟩
      · rintro x σ F2 hx ⟨sF2, ⟨cs, c1, c2, c3⟩, v5, rfl⟩
        have hx : x < k + 1 := by omega
        have f1 := few x (by omega)
        have hpo2 := sF2 _ _ hpo
        have lno : (natsV o).length = k := by unfold natsV; rw [List.length_map]; exact lo
        have et : (0 + (x : Int)).toNat = x := by omega
        have k1 : cutV (natsV o) none (some (0 + (x : Int))) = natsV (o.take x) := by
          rw [cut_hi (by omega) (by omega), et]
          unfold natsV
          rw [List.map_take]
        have k2 : cutV (natsV o) (some (0 + (x : Int))) none = natsV (o.drop x) := by
          rw [cut_lo (by omega) (by omega), et]
          unfold natsV
          rw [List.map_drop]
        refine ⟨_, rfl, .inl ⟨rfl, _, SqL.of c1⟩, _, rfl, _, rfl, _, rfl, po, _, rfl, SqL.of hpo2, fun p1 n1 => ?_⟩
        rw [k1]
        have q1 := Same.new n1 (.lst (natsV (o.take x)))
        have e1 : (upd F2 p1 (.lst (natsV (o.take x)))) p1 = some (.lst (natsV (o.take x))) := upd_same
        generalize (upd F2 p1 (.lst (natsV (o.take x)))) = F3 at q1 e1 ⊢
        refine ⟨_, rfl, by show 1 ≤ sizeLine; decide, fun p2 n2 => ?_⟩
        have q2 := Same.new n2 (.lst [.int (0 + (k : Int))])
        have e2 : (upd F3 p2 (.lst [.int (0 + (k : Int))])) p2 = some (.lst [.int (0 + (k : Int))]) := upd_same
        generalize (upd F3 p2 (.lst [.int (0 + (k : Int))])) = F4 at q2 e2 ⊢
        refine ⟨p1, p2, _, _, rfl, rfl, q2 _ _ e1, e2, by unfold natsV; rw [List.length_map, List.length_take, List.length_singleton, sizeLine_eq]; omega, fun p3 n3 => ?_⟩
        have q3 := Same.new n3 (.lst (natsV (o.take x) ++ [.int (0 + (k : Int))]))
        have e3 : (upd F4 p3 (.lst (natsV (o.take x) ++ [.int (0 + (k : Int))]))) p3 = some (.lst (natsV (o.take x) ++ [.int (0 + (k : Int))])) := upd_same
        generalize (upd F4 p3 (.lst (natsV (o.take x) ++ [.int (0 + (k : Int))]))) = F5 at q3 e3 ⊢
        have q13 := q1.trans (q2.trans q3)
        refine ⟨_, rfl, _, rfl, _, rfl, po, _, rfl, SqL.of (q13 _ _ hpo2), fun p4 n4 => ?_⟩
        rw [k2]
        have q4 := Same.new n4 (.lst (natsV (o.drop x)))
        have e4 : (upd F5 p4 (.lst (natsV (o.drop x)))) p4 = some (.lst (natsV (o.drop x))) := upd_same
        generalize (upd F5 p4 (.lst (natsV (o.drop x)))) = F6 at q4 e4 ⊢
        refine ⟨p3, p4, _, _, rfl, rfl, q4 _ _ e3, e4, by unfold natsV; rw [List.length_append, List.length_map, List.length_take, List.length_singleton, List.length_map, List.length_drop, sizeLine_eq]; omega, fun p5 n5 => ?_⟩
        have en : natsV (o.take x) ++ [.int (0 + (k : Int))] ++ natsV (o.drop x) = natsV (insF k o x) := by
          unfold natsV insF
          rw [Int.zero_add, List.map_append, List.map_append]
          rfl
        rw [en]
        have q5 := Same.new n5 (.lst (natsV (insF k o x)))
        have e5 : (upd F6 p5 (.lst (natsV (insF k o x)))) p5 = some (.lst (natsV (insF k o x))) := upd_same
        have q15 := q13.trans (q4.trans q5)
        have n5D : p5 ≠ D := fun z => by
          have := q13.trans q4 D _ c1
          rw [← z, n5] at this
          cases this
        generalize (upd F6 p5 (.lst (natsV (insF k o x)))) = F7 at q15 e5 ⊢
        have g := OrdsAt.push c1 c2 c3 e5 n5D q15
        have er : (List.range (x + 1)).map (insF k o) = (List.range x).map (insF k o) ++ [insF k o x] := by
          rw [List.range_succ, List.map_append]
          rfl
        refine ⟨D, _, _, rfl, rfl, q15 _ _ c1, small1000 (by rw [List.length_map, c2]; omega), fun b u e => ?_, ⟨cs ++ [p5], g.1, ?_, ?_⟩, _, rfl⟩
        · rw [upd_ne (ne_of_none e hD)]
          exact q15 _ _ (sF2 _ _ e)
        · rw [er, ← List.append_assoc]
          exact g.2.1
        · rw [er, ← List.append_assoc]
          exact g.2.2
      · rintro σ F2 ⟨sF2, ⟨cs, c1, c2, c3⟩, v5, rfl⟩
        have e : (0 + (k : Int) + 1).toNat = k + 1 := by omega
        exact ⟨sF2, ⟨cs, c1, by first | exact c2 | (rw [e] at c2; exact c2), by first | exact c3 | (rw [e] at c3; exact c3)⟩, _, _, rfl⟩
    · rintro σ F ⟨sF, ⟨cs, c1, c2, c3⟩, v4, v5, rfl⟩
      rw [List.length_map, h2, List.take_length] at c2 c3
      refine ⟨_, rfl, D, _, rfl, .inl (SqL.of c1), fun l2 n2 => ?_⟩
      have q1 := Same.new n2 (.lst (cs.map V.ref))
      exact ⟨(sG.trans sF).trans q1, l2, ⟨cs, upd_same, c2, fun i a o e1 e2 => q1 _ _ (c3 i a o e1 e2).1⟩, _, _, _, _, rfl⟩
  · rintro σ G ⟨sG, l, ho, v2, v3, v4, v5, rfl⟩
    have e : ((n : Int) - 0).toNat = n := by omega
    refine ⟨_, rfl, q l G sG ?_⟩
    first | exact ho | (rw [e] at ho; exact ho)
end
open ZG (Sq ItzG walk_zipG)
open DcS (dc_it)
/-! ### keys: the law -/
mutual
theorem Dp.same {K : PySem.W.Frag} {H H' : Hp} (s : Same H H') : ∀ (d : PyData) (v : V), Dp K H v d → Dp K H' v d
  | .none, _, h => by cases h; exact .non
  | .bool _, _, h => by cases h; exact .bl _
  | .int _, _, h => by cases h; exact .int _
  | .str _, _, h => by cases h; exact .str _
  | .list ds, _, h => by
    cases h with
    | lst h1 h2 => exact .lst (Same.seq s h1) (DpAll.same s ds _ h2)
  | .tuple ds, _, h => by
    cases h with
    | tup h1 h2 => exact .tup (Same.tup s h1) (DpAll.same s ds _ h2)
  | .dict _, _, h => by cases h
theorem DpAll.same {K : PySem.W.Frag} {H H' : Hp} (s : Same H H') : ∀ (ds : List PyData) (vs : List V), DpAll K H vs ds → DpAll K H' vs ds
  | [], _, h => by cases h; exact .nil
  | d :: ds, _, h => by
    cases h with
    | cons h1 h2 => exact .cons (Dp.same s d _ h1) (DpAll.same s ds _ h2)
end
theorem vD_dok {n : Nat} (v : V) : Dok (n + 1) (vD v) := by
  cases v <;> exact trivial
theorem dok_key {rs : List Rk} {R : List Rc} {ks : List Kd} {us : List V} {o : List Nat} (h1 : us.length ≤ 100) (h2 : o.length ≤ 100) (h3 : ∀ r ∈ R, r.vals.length ≤ 100) : Dok 6 (keyD rs R ks us o) := by
  have vals : ∀ {n : Nat} (l : List V), ∀ d ∈ l.map vD, Dok (n + 1) d := fun l d hd => by
    obtain ⟨v, _, rfl⟩ := List.mem_map.mp hd
    exact vD_dok v
  refine ⟨by show 2 ≤ 100000; decide, fun d hd => ?_⟩
  rcases List.mem_cons.mp hd with rfl | hd
  · refine ⟨by show 2 ≤ 100000; decide, fun d hd => ?_⟩
    rcases List.mem_cons.mp hd with rfl | hd
    · exact ⟨by rw [List.length_map, trL_len]; omega, vals _⟩
    · rw [List.mem_singleton.mp hd]
      refine ⟨by rw [List.length_map]; omega, fun d hd => ?_⟩
      obtain ⟨k, _, rfl⟩ := List.mem_map.mp hd
      unfold recD
      cases e : R[k]? with
      | none => exact trivial
      | some r =>
        have := h3 r (List.mem_of_getElem? e)
        refine ⟨by show 3 ≤ 100000; decide, fun d hd => ?_⟩
        rcases List.mem_cons.mp hd with rfl | hd
        · exact trivial
        · rcases List.mem_cons.mp hd with rfl | hd
          · exact trivial
          · rw [List.mem_singleton.mp hd]
            exact ⟨by rw [List.length_map, trL_len]; omega, vals _⟩
  · rw [List.mem_singleton.mp hd]
    refine ⟨by rw [List.length_map]; omega, fun d hd => ?_⟩
    obtain ⟨k, _, rfl⟩ := List.mem_map.mp hd
    exact trivial
def spTold (K : PySem.W.Frag) : Sp := fun vs H Q _ => ∃ (p d a kl : Addr) (kxs : List V) (rs : List Rk) (R : List Rc) (ks : List Kd) (us : List V) (fx : List Nat), vs = [.ref p, .ref d, .ref kl] ∧ PgAt K H p rs ∧ RunAt K a H d rs R ∧ RunV H d us fx ∧ H kl = some (.lst kxs) ∧ KdsAt K H kxs ks ∧ SideT rs R ks us fx ∧
  ∀ q1 H', Same H H' → Dp K H' (.ref q1) (keyD rs R ks us (ordOf rs R ks us fx)) → Q (.ref q1) H'
section
variable {P : Program} {w : World} {K : PySem.W.Frag} {mg : Str → Option Value} {base : Heap}
theorem ok_l_told (T : Txt w K mg) : FnOk P w K mg base CX0 5 T.a_l_told T.d_l_told p_l_told (spTold K) := by
  have g_number_key := ok_number_key (P := P) (w := w) (K := K) (base := base) T
  refine T.F_l_told.ok sc_l_told (fun vs H Q E h => ?_) (fun cdv A outer s H vs Q E hr h => ?_)
  · obtain ⟨p, d, a, kl, kxs, rs, R, ks, us, fx, rfl, _⟩ := h
    rfl
  obtain ⟨p, d, a, kl, kxs, rs, R, ks, us, fx, rfl, hp, hrun, hv, hk, hks, sd, q⟩ := h
  refine ⟨_, (pss_cons (ps_set (i := 3) sc_l_told.nd rfl (Or.inl rfl) (pe_callTy call_tuple_of rfl T.z_tuple bt_tuple (pa_cons (pe_lc (own := [("_law_row", 4)]) (g := gName 4) (tt := tYes) rfl sc_l_told.nd (pi_list (pe_dget (hu_of hr) (pv 1) pe_str (fun _ _ => rfl))) (blkOk_by (own := [("_law_row", 4)]) (N := n_l_told) (sc := defScope s_l_told) (by decide +kernel)) (fun _ _ _ _ _ => (pg_name (i := 4) sc_l_told.nd rfl (Or.inl rfl))) (fun _ _ _ _ _ => pts_nil) (fun _ _ _ _ _ => (pe_tup (pa_cons (pe_ix (show IxR _ (rIxL K) from ix_list) (pv 4) pe_int (fun _ _ => rfl)) (pa_cons (pe_ix (show IxR _ (rIxL K) from ix_list) (pv 4) pe_int (fun _ _ => rfl)) (pa_cons (pe_callTy (show CallR _ _ (rTupOf K) from call_tuple_of) rfl T.z_tuple bt_tuple (pa_cons (pe_ix (show IxR _ (rIxL K) from ix_list) (pv 4) pe_int (fun _ _ => rfl)) pa_nil)) pa_nil)))))) pa_nil)))
      (pss_one (ps_ret (pe_call g_number_key (hr.mono (by first | decide | omega)) rfl T.m_number_key T.F_number_key.kp T.b_number_key .nil pass0 (pa_cons (pv 0) (pa_cons (pe_callTy call_tuple_of rfl T.z_tuple bt_tuple (pa_cons (pv 2) pa_nil)) (pa_cons (pe_callTy call_tuple_of rfl T.z_tuple bt_tuple (pa_cons (pe_dget (hu_of hr) (pv 1) pe_str (fun _ _ => rfl)) pa_nil)) (pa_cons (pv 3) (pa_cons (pe_callTy call_tuple_of rfl T.z_tuple bt_tuple (pa_cons (pe_dget (hu_of hr) (pv 1) pe_str (fun _ _ => rfl)) pa_nil)) pa_nil))))))))), ?_⟩
  obtain ⟨kvs, vl, lx, hd, evl, efx, hlv, hlx⟩ := hv
  have ok := sd.g.ok sd.w
  have lR := ok.ln
  obtain ⟨kva, kf, lr, df, rows, run⟩ := id hrun
  have lv20 : ∀ r ∈ R, r.vals.length ≤ 20 := fun r hr => by
    have g := sd.g.rc r hr
    have := flOf_len sd.w.pok (z := r.nm)
    cases hl : r.live with
    | true => rw [g.l hl]; omega
    | false => rw [g.d hl]; exact Nat.zero_le _
  refine ⟨_, rfl, d, _, rfl, DGet.at (k := Sum.inr "records") run.hd run.kr, lr, rfl, ⟨_, SqL.of run.hl⟩, fun D hD => ?_⟩
  refine lc_it (walk_list (xs := rows)) (fun m F => Same H F ∧ ∃ xs : List V, F D = some (.lst xs) ∧ xs.length = m ∧ ∀ (i : Nat) (v : V) (r : Rc), xs[i]? = some v → R[i]? = some r → RcAt K F v r) ⟨Same.new hD _, [], upd_same, rfl, fun i v r e => by simp at e⟩ (fun i F _ P => SqL.of (P.1 _ _ run.hl)) ?_ ?_
  · rintro m u F F' hm ⟨sF, xs, eD, lxs, hxs⟩ ⟨rfl, ex⟩
    have hmR : m < R.length := by rw [← run.lr]; exact hm
    have er : R[m]? = some R[m] := List.getElem?_eq_getElem hmR
    obtain ⟨pr, l, rfl, _, _, h1, h2⟩ := run.rw m _ _ ex er
    have l20 := lv20 _ (List.getElem_mem hmR)
    generalize R[m] = r at er h1 h2 l20
    refine ⟨rfl, tyes ?_⟩
    refine ⟨_, rfl, pr, _, 0, _, rfl, rfl, SqL.of (sF _ _ h1), rfl, _, rfl, pr, _, 1, _, rfl, rfl, SqL.of (sF _ _ h1), rfl, _, rfl, pr, _, 2, _, rfl, rfl, SqL.of (sF _ _ h1), rfl, l, _, rfl, .inl ⟨SqL.of (sF _ _ h2), fun t1 ht1 => ⟨by show 3 ≤ sizeLine; decide, fun t2 ht2 => ?_⟩⟩⟩
    have n1 := Same.new ht1 (.tup r.vals)
    have n2 := Same.new ht2 (.tup [.str r.nm, .bl r.live, .ref t1])
    have sE := n1.trans n2
    have eE := sE _ _ eD
    have rcE : RcAt K (upd (upd F' t1 (.tup r.vals)) t2 (.tup [.str r.nm, .bl r.live, .ref t1])) (.ref t2) r := ⟨t2, t1, rfl, SqT.of upd_same, SqT.of (n2 _ _ upd_same)⟩
    refine ⟨_, eE, lt_line (by omega), fun b u e => by rw [upd_ne (ne_of_none e hD)]; exact sE _ _ (sF _ _ e), _, upd_same, by rw [List.length_append, lxs]; rfl, fun i v r' e1 e2 => ?_⟩
    rcases two_get e1 with ⟨l1, e1⟩ | ⟨l1, rfl⟩
    · exact ((hxs i v r' e1 e2).keep (KeepT.of sE)).keep (keepT_lst eE)
    · rw [l1, lxs, er] at e2
      obtain rfl := Option.some.inj e2
      exact rcE.keep (keepT_lst eE)
  rintro F ⟨sF, xs, eD, lxs, hxs⟩
  rw [run.lr] at lxs
  refine ⟨D, _, rfl, .inl ⟨SqL.of eD, fun t0 ht0 => ?_⟩⟩
  have s0 := Same.new ht0 (.tup xs)
  have sH0 := sF.trans s0
  have hrs : RcsAt K (upd F t0 (.tup xs)) xs R := ⟨lxs, fun i v r e1 e2 => (hxs i v r e1 e2).keep (KeepT.of s0)⟩
  have e0 : (upd F t0 (.tup xs)) t0 = some (.tup xs) := upd_same
  generalize (upd F t0 (.tup xs)) = F0 at s0 sH0 hrs e0
  refine ⟨_, rfl, _, rfl, kl, _, rfl, .inl ⟨SqL.of (sH0 _ _ hk), fun t1 ht1 => ?_⟩⟩
  have s1 := Same.new ht1 (.tup kxs)
  have sH1 := sH0.trans s1
  refine ⟨_, rfl, d, _, rfl, DGet.at (k := Sum.inr "values") (sH1 _ _ hd) evl, vl, _, rfl, .inl ⟨SqL.of (sH1 _ _ hlv), fun t2 ht2 => ?_⟩⟩
  have s2 := Same.new ht2 (.tup us)
  have sH2 := sH1.trans s2
  refine ⟨_, rfl, _, rfl, d, _, rfl, DGet.at (k := Sum.inr "fixed") (sH2 _ _ hd) efx, lx, _, rfl, .inl ⟨SqL.of (sH2 _ _ hlx), fun t3 ht3 => ?_⟩⟩
  have s3 := Same.new ht3 (.tup (natsV fx))
  have sH3 := sH2.trans s3
  have s13 := (s1.trans s2).trans s3
  refine ⟨p, t1, t2, t0, t3, rs, kxs, us, xs, ks, R, fx, _, rfl, ok, hp.keep (KeepT.of sH3), SqT.of (s3 _ _ (s2 _ _ upd_same)), hks.keep (KeepT.of sH3), SqT.of (s3 _ _ upd_same), sd.vs, SqT.of (s13 _ _ e0), ⟨hrs.1, fun i v r e1 e2 => (hrs.2 i v r e1 e2).keep (KeepT.of s13)⟩, SqT.of upd_same, sd.nd, sd.fl, fun q1 H1 sq1 d1 => q q1 H1 (sH3.trans sq1) d1⟩
end
open ZG (Sq ItzG walk_zipG)
open DcS (dc_it)
/-! ### keys: is there a pairing -/
def spPaired (K : PySem.W.Frag) : Sp := fun vs H Q _ => ∃ (d d' a kl pm pn : Addr) (kxs : List V) (rs : List Rk) (R R' : List Rc) (ks : List Kd) (us us' : List V) (fx fx' m n : List Nat), vs = [.ref d, .ref d', .ref kl, .ref pm, .ref pn] ∧ RunAt K a H d rs R ∧ RunV H d us fx ∧ RunAt K a H d' rs R' ∧ RunV H d' us' fx' ∧
  H kl = some (.lst kxs) ∧ KdsAt K H kxs ks ∧ SideT rs R ks us fx ∧ SideT rs R' ks us' fx' ∧ H pm = some (.lst (natsV m)) ∧ H pn = some (.lst (natsV n)) ∧ m.length ≤ 6 ∧ n.length ≤ 100 ∧ Cov rs R ks us fx m ∧ (∀ k ∈ m, k < R.length) ∧ (∀ k ∈ n, k < R'.length) ∧ fx'.length = fx.length ∧
  ∀ (b : Bool) H', Same H H' → (b = true ↔ Paired rs R R' ks us us' fx fx' m n) → Q (.bl b) H'
section
variable {P : Program} {w : World} {K : PySem.W.Frag} {mg : Str → Option Value} {base : Heap}
theorem ok_l_paired (T : Txt w K mg) : FnOk P w K mg base CX0 3 T.a_l_paired T.d_l_paired p_l_paired (spPaired K) := by
  have g_l_orders := ok_l_orders (P := P) (w := w) (K := K) (base := base) T
  have g_l_keeps := ok_l_keeps (P := P) (w := w) (K := K) (base := base) T
  refine T.F_l_paired.ok sc_l_paired (fun vs H Q E h => ?_) (fun cdv A outer s H vs Q E hr h => ?_)
  · obtain ⟨d, d', a, kl, pm, pn, kxs, rs, R, R', ks, us, us', fx, fx', m, n, rfl, _⟩ := h
    rfl
  obtain ⟨d, d', a, kl, pm, pn, kxs, rs, R, R', ks, us, us', fx, fx', m, n, rfl, hrun, hv, hrun', hv', hk, hks, sd, sd', hm, hn, m6, n100, cv, mR, nR, lf, q⟩ := h
  refine ⟨_, (pss_cons (ps_if (pt_cmpR op_ne (pe_callB call_len_seq rfl T.z_len PySem.boot_len (pa_cons (pv 3) pa_nil)) (pe_callB call_len_seq rfl T.z_len PySem.boot_len (pa_cons (pv 4) pa_nil)) (nomark _)) (pss_one (ps_ret pe_bl)) pss_nil)
      (pss_cons (ps_for PassesOwn.never rfl (pi_list (pe_call g_l_orders (hr.mono (by first | decide | omega)) rfl T.m_l_orders T.F_l_orders.kp T.b_l_orders .nil pass0 (pa_cons (pe_callB call_len_seq rfl T.z_len PySem.boot_len (pa_cons (pv 3) pa_nil)) pa_nil))) (pg_name (i := 5) sc_l_paired.nd rfl (Or.inl rfl))
        (pss_one (ps_if (pt_val (pe_call g_l_keeps (hr.mono (by first | decide | omega)) rfl T.m_l_keeps T.F_l_keeps.kp T.b_l_keeps .nil pass0 (pa_cons (pv 0) (pa_cons (pv 1) (pa_cons (pv 2) (pa_cons (pv 3) (pa_cons (pe_lc (own := [("_law_k", 6)]) (g := gName 6) (tt := tYes) rfl sc_l_paired.nd (pi_list (pv 5)) (blkOk_by (own := [("_law_k", 6)]) (N := n_l_paired) (sc := defScope s_l_paired) (by decide +kernel)) (fun _ _ _ _ _ => (pg_name (i := 6) sc_l_paired.nd rfl (Or.inl rfl))) (fun _ _ _ _ _ => pts_nil) (fun _ _ _ _ _ => (pe_ix (show IxR _ (rIxL K) from ix_list) (pv 4) (pv 6) (fun _ _ => rfl)))) pa_nil))))))) (pss_one (ps_ret pe_bl)) pss_nil)))
      (pss_one (ps_ret pe_bl)))), ?_⟩
  have lm : (natsV m).length = m.length := by unfold natsV; rw [List.length_map]
  have ln : (natsV n).length = n.length := by unfold natsV; rw [List.length_map]
  refine ⟨_, rfl, pm, _, rfl, .inl (SqL.of hm), _, rfl, pn, _, rfl, .inl (SqL.of hn), rfl, _, rfl, ?_⟩
  rw [lm, ln]
  by_cases e : m.length = n.length
  · refine ifF (by rw [e, decide_eq_true rfl]; rfl) ?_
    refine ⟨_, rfl, pm, _, rfl, .inl (SqL.of hm), m.length, by rw [lm]; rfl, m6, fun l G sG hos => ?_⟩
    obtain ⟨as, h1, h2, h3⟩ := hos
    refine ⟨l, rfl, ⟨_, SqL.of h1⟩, for_list (K := K) (a := l) (xs := as.map V.ref) (fun j σ F => Same G F ∧ (∀ o ∈ (ordF m.length).take j, ¬ Keeps rs R R' ks us us' fx fx' m (o.map fun k => n.getD k 0)) ∧ ∃ v5 v6 : Option V, σ = [some (.ref d), some (.ref d'), some (.ref kl), some (.ref pm), some (.ref pn), v5, v6])
      ⟨Same.refl G, fun o ho => (by rw [List.take_zero] at ho; cases ho), none, none, rfl⟩ (fun j σ F _ ⟨sF, _⟩ => SqL.of (sF _ _ h1)) ?_ ?_⟩
    · rintro j x σ F hj ⟨sF, c, v5, v6, rfl⟩
      have hj2 : j < as.length := by have := (List.getElem?_eq_some_iff.mp hj).1; rwa [List.length_map] at this
      have ea : as[j]? = some as[j] := List.getElem?_eq_getElem hj2
      have eo : (ordF m.length)[j]? = some ((ordF m.length)[j]'(by omega)) := List.getElem?_eq_getElem _
      have hpo := h3 _ _ _ ea eo
      rw [map_get ea] at hj
      obtain rfl := Option.some.inj hj
      have tk : (ordF m.length).take (j + 1) = (ordF m.length).take j ++ [(ordF m.length)[j]'(by omega)] := by
        rw [List.take_add_one, eo]
        rfl
      have mo := List.mem_of_getElem? eo
      generalize ((ordF m.length)[j]'(by omega)) = o at eo hpo tk mo
      generalize as[j] = po at ea hpo
      have lo := ordF_len _ mo
      have po2 := ordF_iff.mp mo
      have bo : ∀ k ∈ o, k < n.length := fun k hk => by have := List.mem_range.mp (po2.mem_iff.mp hk); omega
      have sHF := sG.trans sF
      refine ⟨_, rfl, _, rfl, _, rfl, _, rfl, _, rfl, po, rfl, ⟨_, SqL.of (sF _ _ hpo)⟩, fun D hD => ?_⟩
      refine lc_list (K := K) (a := po) (xs := natsV o) (fun i F2 => Same F F2 ∧ F2 D = some (.lst (natsV ((o.take i).map fun k => n.getD k 0)))) ⟨Same.new hD _, upd_same⟩ (fun i F2 _ P => SqL.of (P.1 _ _ (sF _ _ hpo))) ?_ ?_
      · rintro i x F2 hi ⟨s2, eD⟩
        obtain ⟨k, hk2, rfl⟩ := nats_at hi
        have hkn := bo k (List.mem_of_getElem? hk2)
        have li := (List.getElem?_eq_some_iff.mp hk2).1
        refine ⟨rfl, tyes ?_⟩
        refine ⟨_, rfl, _, rfl, pn, _, _, _, rfl, rfl, SqL.of (s2 _ _ (sHF _ _ hn)), atI_nat (natsV_get (getD_lt hkn)), _, eD, small1000 (by unfold natsV; rw [List.length_map, List.length_map, List.length_take]; omega), fun b u e => ?_, ?_⟩
        · rw [upd_ne (ne_of_none e hD)]
          exact s2 _ _ e
        · rw [upd_same, List.take_add_one, hk2]
          unfold natsV
          rw [List.map_append, List.map_append]
          rfl
      · rintro F2 ⟨s2, eD⟩
        have eD : F2 D = some (.lst (natsV (o.map fun k => n.getD k 0))) := by
          rw [List.take_of_length_le (by unfold natsV; rw [List.length_map]; exact Nat.le_refl _)] at eD
          exact eD
        have sH2 := sHF.trans s2
        refine ⟨d, d', a, kl, pm, D, kxs, rs, R, R', ks, us, us', fx, fx', m, o.map fun k => n.getD k 0, rfl, hrun.same sH2, hv.same sH2, hrun'.same sH2, hv'.same sH2, sH2 _ _ hk, hks.keep (KeepT.of sH2), sd, sd', sH2 _ _ hm, eD, by rw [List.length_map]; exact lo, by omega, cv, mR, fun k hk2 => ?_, lf, fun b hb => ⟨_, rfl, ?_⟩⟩
        · obtain ⟨k', hk', rfl⟩ := List.mem_map.mp hk2
          exact nR _ (List.mem_of_getElem? (getD_lt (bo k' hk')))
        · cases b with
          | true => exact iteT (q true F2 sH2 ⟨fun _ => ⟨e, o, po2, hb.mp rfl⟩, fun _ => rfl⟩)
          | false =>
            refine iteF ⟨sF.trans s2, fun o' ho' => ?_, _, _, rfl⟩
            rw [tk] at ho'
            rcases List.mem_append.mp ho' with h | h
            · exact c o' h
            · rw [List.mem_singleton.mp h]
              exact fun z => Bool.noConfusion (hb.mpr z)
    · rintro σ F ⟨sF, c, v5, v6, rfl⟩
      refine q false F (sG.trans sF) ⟨fun z => (by cases z), fun ⟨_, o, po, kp⟩ => absurd kp (c o ?_)⟩
      rw [List.length_map, h2, List.take_length]
      exact ordF_iff.mpr po
  · refine ifT (by rw [decide_eq_false (fun z => e (by injection z with z; exact Int.ofNat.inj z))]; rfl) ?_
    exact q false H (Same.refl H) ⟨fun z => (by cases z), fun ⟨z, _⟩ => absurd z e⟩
end
open ZG (Sq ItzG walk_zipG)
open DcS (dc_it)
/-! ### _law_same tells whether two data are one -/
def dty : PyData → String
  | .none => "NoneType"
  | .bool _ => "bool"
  | .int _ => "int"
  | .str _ => "str"
  | .list _ => "list"
  | .tuple _ => "tuple"
  | .dict _ => "dict"
def dIs (d : PyData) (c : String) : Bool := match d with
  | .bool _ => c == "bool" || c == "int"
  | _ => c == dty d
theorem dp_tyx {K : PySem.W.Frag} {H : Hp} {v : V} {d : PyData} (h : Dp K H v d) : TyX K H v (.type (dty d)) := by
  cases h with
  | non => exact .base .non
  | bl b => exact .base (.bl b)
  | int i => exact .base (.int i)
  | str x => exact .base (.str x)
  | lst h1 _ => exact tyL h1
  | tup h1 _ => exact tyT h1
theorem kb_all : ∀ t ∈ ["NoneType", "int", "str", "list", "tuple"], ∀ c ∈ ["tuple", "list", "bool", "int", "str"], kitB t c = some (c == t) := by decide +kernel
theorem kb_bool : ∀ c ∈ ["tuple", "list", "bool", "int", "str"], kitB "bool" c = some (c == "bool" || c == "int") := by decide +kernel
theorem kb_d {K : PySem.W.Frag} {H : Hp} {v : V} {d : PyData} (h : Dp K H v d) {c : String} (hc : c ∈ ["tuple", "list", "bool", "int", "str"]) : kitB (dty d) c = some (dIs d c) := by
  cases h with
  | non => exact kb_all "NoneType" (by decide) c hc
  | bl b => exact kb_bool c hc
  | int i => exact kb_all "int" (by decide) c hc
  | str x => exact kb_all "str" (by decide) c hc
  | lst h1 _ => exact kb_all "list" (by decide) c hc
  | tup h1 _ => exact kb_all "tuple" (by decide) c hc
theorem isd {K : PySem.W.Frag} {H : Hp} {v : V} {d : PyData} {c : String} {i : Nat} {σ : L2.St} {Q : VK} {b : Bool} (h0 : σ[i]? = some (some v)) (h : Dp K H v d) (hc : c ∈ ["tuple", "list", "bool", "int", "str"]) (hb : dIs d c = b) (q : Q (.bl b) H) : tCB (rIsi K) (tCons (tVar i) (tCons (tC (.ty c)) tNil)) σ H Q :=
  ⟨_, h0, isi b (dp_tyx h) (by rw [kb_d h hc, hb]) q⟩
def spSameB (K : PySem.W.Frag) (n : Nat) : Sp := fun vs H Q _ => ∃ (x y : V) (d e : PyData), vs = [x, y] ∧ Dp K H x d ∧ Dp K H y e ∧ Dok n e ∧ ∀ b : Bool, (b = true ↔ d = e) → Q (.bl b) H
theorem dpAll_at {K : PySem.W.Frag} {H : Hp} {vs : List V} {ds : List PyData} (h : DpAll K H vs ds) {i : Nat} (hi : i < ds.length) : ∃ v d, vs[i]? = some v ∧ ds[i]? = some d ∧ Dp K H v d := by
  obtain ⟨v, e, g⟩ := dpAll_get h (List.getElem?_eq_getElem hi)
  exact ⟨v, _, e, List.getElem?_eq_getElem hi, g⟩
section
variable {P : Program} {w : World} {K : PySem.W.Frag} {mg : Str → Option Value} {base : Heap}
theorem ok_sameB0 (T : Txt w K mg) : FnOk P w K mg base CX0 0 T.a_l_same T.d_l_same p_l_same (spSameB K 0) := by
  have no : ∀ vs H Q E, ¬ spSameB K 0 vs H Q E := fun vs H Q E h => by
    obtain ⟨x, y, d, e, _, _, _, h, _⟩ := h
    exact h
  exact ⟨fun vs H Q E h => absurd h (no vs H Q E), fun A outer s H args us vs Q E _ _ _ _ h => absurd h (no vs H Q E)⟩
/-- the part for two sequences of one sort -/
theorem seqB {n : Nat} {H : Hp} {p r : Addr} {xs ys : List V} {ds es : List PyData} {i : Nat} (h1 : SqL K H p xs ∨ SqT K H p xs) (h2 : SqL K H r ys ∨ SqT K H r ys) (d1 : DpAll K H xs ds) (d2 : DpAll K H ys es) (hd : ∀ d ∈ es, Dok n d) (hi : i < ds.length) (hj : i < es.length) {R : V → Hp → Prop}
    (q : ∀ b : Bool, (b = true ↔ ds[i]? = es[i]?) → R (.bl b) H) : tCall (spSameB K n) [] E0 (tCons (tOp (rIx K) (tVar 0) (tVar 2)) (tCons (tOp (rIx K) (tVar 1) (tVar 2)) tNil)) [some (.ref p), some (.ref r), some (.int (0 + (i : Int)))] H R := by
  obtain ⟨x, d, e1, f1, q1⟩ := dpAll_at d1 hi
  obtain ⟨y, e, e2, f2, q2⟩ := dpAll_at d2 hj
  have a1 : atI xs (0 + (i : Int)) = some x := by rw [Int.zero_add]; exact atI_nat e1
  have a2 : atI ys (0 + (i : Int)) = some y := by rw [Int.zero_add]; exact atI_nat e2
  have z : spSameB K n [x, y] H R E0 := ⟨x, y, d, e, rfl, q1, q2, hd _ (List.mem_of_getElem? f2), fun b hb => q b (by rw [f1, f2]; exact hb.trans ⟨fun h => by rw [h], fun h => Option.some.inj h⟩)⟩
  have k2 : tOp (rIx K) (tVar 1) (tVar 2) [some (.ref p), some (.ref r), some (.int (0 + (i : Int)))] H (fun v H' => tNil [some (.ref p), some (.ref r), some (.int (0 + (i : Int)))] H' fun vs H'' => spSameB K n ((x :: v :: vs) ++ []) H'' R E0) := by
    refine ⟨_, rfl, _, rfl, ?_⟩
    rcases h2 with h2 | h2
    · exact .inl ⟨r, _, _, _, rfl, rfl, h2, a2, z⟩
    · exact .inr (.inl ⟨r, _, _, _, rfl, rfl, h2, a2, z⟩)
  refine ⟨_, rfl, _, rfl, ?_⟩
  rcases h1 with h1 | h1
  · exact .inl ⟨p, _, _, _, rfl, rfl, h1, a1, k2⟩
  · exact .inr (.inl ⟨p, _, _, _, rfl, rfl, h1, a1, k2⟩)
theorem ok_sameB (T : Txt w K mg) : ∀ n : Nat, FnOk P w K mg base CX0 n T.a_l_same T.d_l_same p_l_same (spSameB K n)
  | 0 => ok_sameB0 T
  | n + 1 => by
    have g_l_same := ok_sameB T n
    refine T.F_l_same.ok sc_l_same (fun vs H Q E h => ?_) (fun cdv A outer s H vs Q E hr h => ?_)
    · obtain ⟨x, y, d, e, rfl, _⟩ := h
      rfl
    obtain ⟨x, y, d, e, rfl, hx, hy, he, q⟩ := h
    refine ⟨_, (pss_cons (ps_if (PW.pt (pw_or (pt_val (pe_callB call_isi rfl T.z_isinstance bb_isinstance (pa_cons (pv 1) (pa_cons (pe_bltn (v := .ty "tuple") rfl T.z_tuple bt_tuple rfl) pa_nil)))) (pw_or1 (pt_val (pe_callB call_isi rfl T.z_isinstance bb_isinstance (pa_cons (pv 1) (pa_cons (pe_bltn (v := .ty "list") rfl T.z_list bt_list rfl) pa_nil))))))) (pss_cons (ps_if (PW.pt (pw_or (pt_cmpR op_ne (pe_callB call_isi rfl T.z_isinstance bb_isinstance (pa_cons (pv 1) (pa_cons (pe_bltn (v := .ty "tuple") rfl T.z_tuple bt_tuple rfl) pa_nil))) (pe_callB call_isi rfl T.z_isinstance bb_isinstance (pa_cons (pv 0) (pa_cons (pe_bltn (v := .ty "tuple") rfl T.z_tuple bt_tuple rfl) pa_nil))) (nomark _)) (pw_or1 (pt_cmpR op_ne (pe_callB call_isi rfl T.z_isinstance bb_isinstance (pa_cons (pv 1) (pa_cons (pe_bltn (v := .ty "list") rfl T.z_list bt_list rfl) pa_nil))) (pe_callB call_isi rfl T.z_isinstance bb_isinstance (pa_cons (pv 0) (pa_cons (pe_bltn (v := .ty "list") rfl T.z_list bt_list rfl) pa_nil))) (nomark _))))) (pss_one (ps_ret pe_bl)) pss_nil)
      (pss_cons (ps_if (pt_cmpR op_ne (pe_callB call_len_seq rfl T.z_len PySem.boot_len (pa_cons (pv 0) pa_nil)) (pe_callB call_len_seq rfl T.z_len PySem.boot_len (pa_cons (pv 1) pa_nil)) (nomark _)) (pss_one (ps_ret pe_bl)) pss_nil)
      (pss_cons (ps_for PassesOwn.never rfl (pi_range1 rfl T.z_range (pa_cons (pe_callB call_len_seq rfl T.z_len PySem.boot_len (pa_cons (pv 1) pa_nil)) pa_nil)) (pg_name (i := 2) sc_l_same.nd rfl (Or.inl rfl))
        (pss_one (ps_if (pt_not (pt_val (pe_call g_l_same (hr.mono (by first | decide | omega)) rfl T.m_l_same T.F_l_same.kp T.b_l_same .nil pass0 (pa_cons (pe_ix ix_seq (pv 0) (pv 2) (fun _ _ => rfl)) (pa_cons (pe_ix ix_seq (pv 1) (pv 2) (fun _ _ => rfl)) pa_nil))))) (pss_one (ps_ret pe_bl)) pss_nil)))
      (pss_one (ps_ret pe_bl))))) pss_nil)
      (pss_cons (ps_if (pt_cmpR op_isN (pv 1) pe_non (nomark _)) (pss_one (ps_ret (pe_cmpR op_isN (pv 0) pe_non (nomark _)))) pss_nil)
      (pss_cons (ps_if (pt_val (pe_callB call_isi rfl T.z_isinstance bb_isinstance (pa_cons (pv 1) (pa_cons (pe_bltn (v := .ty "bool") rfl T.z_bool bt_bool rfl) pa_nil)))) (pss_one (ps_ret (pe_and (pe_callB call_isi rfl T.z_isinstance bb_isinstance (pa_cons (pv 0) (pa_cons (pe_bltn (v := .ty "bool") rfl T.z_bool bt_bool rfl) pa_nil))) (pe_one (pe_cmpR op_eq (pv 0) (pv 1) (nomark _)))))) pss_nil)
      (pss_cons (ps_if (pt_val (pe_callB call_isi rfl T.z_isinstance bb_isinstance (pa_cons (pv 1) (pa_cons (pe_bltn (v := .ty "int") rfl T.z_int bt_int rfl) pa_nil)))) (pss_one (ps_ret (pe_and (pe_callB call_isi rfl T.z_isinstance bb_isinstance (pa_cons (pv 0) (pa_cons (pe_bltn (v := .ty "int") rfl T.z_int bt_int rfl) pa_nil))) (pe_and (pe_not (pe_callB call_isi rfl T.z_isinstance bb_isinstance (pa_cons (pv 0) (pa_cons (pe_bltn (v := .ty "bool") rfl T.z_bool bt_bool rfl) pa_nil)))) (pe_one (pe_cmpR op_eq (pv 0) (pv 1) (nomark _))))))) pss_nil)
      (pss_one (ps_ret (pe_and (pe_callB call_isi rfl T.z_isinstance bb_isinstance (pa_cons (pv 0) (pa_cons (pe_bltn (v := .ty "str") rfl T.z_str bt_str rfl) pa_nil))) (pe_one (pe_cmpR op_eq (pv 0) (pv 1) (nomark _)))))))))), ?_⟩
    have no : d ≠ e → Q (.bl false) H := fun z => q false ⟨fun y => (by cases y), fun y => absurd y z⟩
    have yes : d = e → Q (.bl true) H := fun z => q true ⟨fun _ => z, fun _ => rfl⟩
    cases e with
    | none =>
      refine isd (i := 1) rfl hy (by decide) rfl ⟨_, rfl, iteF (isd (i := 1) rfl hy (by decide) rfl ⟨_, rfl, iteF ?_⟩)⟩
      cases hy
      refine ⟨_, rfl, rfl, _, rfl, iteT ?_⟩
      refine ⟨_, rfl, rfl, ?_⟩
      cases hx with
      | non => exact yes rfl
      | bl b => exact no (fun z => by cases z)
      | int b => exact no (fun z => by cases z)
      | str b => exact no (fun z => by cases z)
      | lst _ _ => exact no (fun z => by cases z)
      | tup _ _ => exact no (fun z => by cases z)
    | bool b =>
      refine isd (i := 1) rfl hy (by decide) rfl ⟨_, rfl, iteF (isd (i := 1) rfl hy (by decide) rfl ⟨_, rfl, iteF ?_⟩)⟩
      have hy' := hy
      cases hy
      refine ⟨_, rfl, rfl, _, rfl, iteF ?_⟩
      refine isd (i := 1) rfl hy' (by decide) rfl ⟨_, rfl, iteT ?_⟩
      have hx' := hx
      cases hx with
      | bl c =>
        refine isd (i := 0) rfl hx' (by decide) rfl ⟨_, rfl, iteT ⟨_, rfl, _, rfl, rfl, q _ ?_⟩⟩
        rw [decide_eq_true_iff]
        exact ⟨fun z => by cases z; rfl, fun z => by cases z; rfl⟩
      | non =>
        refine isd (i := 0) rfl hx' (by decide) rfl ⟨_, rfl, iteF ?_⟩
        exact no (fun z => by cases z)
      | int c =>
        refine isd (i := 0) rfl hx' (by decide) rfl ⟨_, rfl, iteF ?_⟩
        exact no (fun z => by cases z)
      | str c =>
        refine isd (i := 0) rfl hx' (by decide) rfl ⟨_, rfl, iteF ?_⟩
        exact no (fun z => by cases z)
      | lst _ _ =>
        refine isd (i := 0) rfl hx' (by decide) rfl ⟨_, rfl, iteF ?_⟩
        exact no (fun z => by cases z)
      | tup _ _ =>
        refine isd (i := 0) rfl hx' (by decide) rfl ⟨_, rfl, iteF ?_⟩
        exact no (fun z => by cases z)
    | int b =>
      refine isd (i := 1) rfl hy (by decide) rfl ⟨_, rfl, iteF (isd (i := 1) rfl hy (by decide) rfl ⟨_, rfl, iteF ?_⟩)⟩
      have hy' := hy
      cases hy
      refine ⟨_, rfl, rfl, _, rfl, iteF ?_⟩
      refine isd (i := 1) rfl hy' (by decide) rfl ⟨_, rfl, iteF (isd (i := 1) rfl hy' (by decide) rfl ⟨_, rfl, iteT ?_⟩)⟩
      have hx' := hx
      cases hx with
      | int c =>
        refine isd (i := 0) rfl hx' (by decide) rfl ⟨_, rfl, iteT (isd (i := 0) rfl hx' (by decide) rfl ⟨_, rfl, _, rfl, iteT ⟨_, rfl, _, rfl, rfl, q _ ?_⟩⟩)⟩
        rw [decide_eq_true_iff]
        exact ⟨fun z => by cases z; rfl, fun z => by cases z; rfl⟩
      | bl c =>
        refine isd (i := 0) rfl hx' (by decide) rfl ⟨_, rfl, iteT (isd (i := 0) rfl hx' (by decide) rfl ⟨_, rfl, _, rfl, iteF ?_⟩)⟩
        exact no (fun z => by cases z)
      | non =>
        refine isd (i := 0) rfl hx' (by decide) rfl ⟨_, rfl, iteF ?_⟩
        exact no (fun z => by cases z)
      | str c =>
        refine isd (i := 0) rfl hx' (by decide) rfl ⟨_, rfl, iteF ?_⟩
        exact no (fun z => by cases z)
      | lst _ _ =>
        refine isd (i := 0) rfl hx' (by decide) rfl ⟨_, rfl, iteF ?_⟩
        exact no (fun z => by cases z)
      | tup _ _ =>
        refine isd (i := 0) rfl hx' (by decide) rfl ⟨_, rfl, iteF ?_⟩
        exact no (fun z => by cases z)
    | str b =>
      refine isd (i := 1) rfl hy (by decide) rfl ⟨_, rfl, iteF (isd (i := 1) rfl hy (by decide) rfl ⟨_, rfl, iteF ?_⟩)⟩
      have hy' := hy
      cases hy
      refine ⟨_, rfl, rfl, _, rfl, iteF ?_⟩
      refine isd (i := 1) rfl hy' (by decide) rfl ⟨_, rfl, iteF (isd (i := 1) rfl hy' (by decide) rfl ⟨_, rfl, iteF ?_⟩)⟩
      have hx' := hx
      cases hx with
      | str c =>
        refine isd (i := 0) rfl hx' (by decide) rfl ⟨_, rfl, iteT ⟨_, rfl, _, rfl, rfl, q _ ?_⟩⟩
        rw [decide_eq_true_iff]
        exact ⟨fun z => by cases z; rfl, fun z => by cases z; rfl⟩
      | non =>
        refine isd (i := 0) rfl hx' (by decide) rfl ⟨_, rfl, iteF ?_⟩
        exact no (fun z => by cases z)
      | bl c =>
        refine isd (i := 0) rfl hx' (by decide) rfl ⟨_, rfl, iteF ?_⟩
        exact no (fun z => by cases z)
      | int c =>
        refine isd (i := 0) rfl hx' (by decide) rfl ⟨_, rfl, iteF ?_⟩
        exact no (fun z => by cases z)
      | lst _ _ =>
        refine isd (i := 0) rfl hx' (by decide) rfl ⟨_, rfl, iteF ?_⟩
        exact no (fun z => by cases z)
      | tup _ _ =>
        refine isd (i := 0) rfl hx' (by decide) rfl ⟨_, rfl, iteF ?_⟩
        exact no (fun z => by cases z)
    | dict _ => exact absurd he id
    | list es =>
      refine isd (i := 1) rfl hy (by decide) rfl ⟨_, rfl, iteF (isd (i := 1) rfl hy (by decide) rfl ⟨_, rfl, iteT ?_⟩)⟩
      have hx' := hx
      cases hx with
      | @lst p xs ds h1 d1 =>
        refine isd (i := 1) rfl hy (by decide) rfl (isd (i := 0) rfl hx' (by decide) rfl ⟨rfl, _, rfl, ifF rfl ?_⟩)
        refine isd (i := 1) rfl hy (by decide) rfl (isd (i := 0) rfl hx' (by decide) rfl ⟨rfl, _, rfl, ifF rfl ?_⟩)
        cases hy with
        | @lst r ys _ h2 d2 =>
        have l1 := dpAll_len d1
        have l2 := dpAll_len d2
        obtain ⟨hlen, hd⟩ := he
        refine ⟨_, rfl, p, _, rfl, .inl h1, _, rfl, r, _, rfl, .inl h2, rfl, _, rfl, ?_⟩
        by_cases el : ds.length = es.length
        · refine ifF (by rw [l1, l2, el, decide_eq_true rfl]; rfl) ?_
          refine ⟨_, rfl, r, _, rfl, .inl h2, _, rfl, by omega, by omega, for_range (lo := 0) (fun i σ H' => H' = H ∧ (∀ j, j < i → ds[j]? = es[j]?) ∧ ∃ v : Option V, σ = [some (.ref p), some (.ref r), v]) ⟨rfl, fun j hj => absurd hj (Nat.not_lt_zero _), none, rfl⟩ ?_ ?_⟩
          · rintro i σ H' hi ⟨rfl, c, v, rfl⟩
            refine seqB (.inl h1) (.inl h2) d1 d2 hd (by omega) (by omega) fun b hb => ⟨_, rfl, ?_⟩
            cases b with
            | true =>
              refine iteF ⟨rfl, fun j hj => ?_, _, rfl⟩
              by_cases hji : j = i
              · rw [hji]
                exact hb.mp rfl
              · exact c j (by omega)
            | false => exact iteT (no fun z => by cases z; exact Bool.noConfusion (hb.mpr rfl))
          · rintro σ H' ⟨rfl, c, v, rfl⟩
            refine yes (congrArg PyData.list (List.ext_getElem? fun j => ?_))
            by_cases hj : j < es.length
            · exact c j (by omega)
            · rw [List.getElem?_eq_none (by omega), List.getElem?_eq_none (by omega)]
        · refine ifT (by rw [l1, l2, decide_eq_false (fun z => el (by injection z with z; exact Int.ofNat.inj z))]; rfl) ?_
          exact no fun z => by cases z; exact el rfl
      | tup _ _ =>
        refine isd (i := 1) rfl hy (by decide) rfl (isd (i := 0) rfl hx' (by decide) rfl ⟨rfl, _, rfl, ifT rfl (iteT ?_)⟩)
        exact no (fun z => by cases z)
      | non =>
        refine isd (i := 1) rfl hy (by decide) rfl (isd (i := 0) rfl hx' (by decide) rfl ⟨rfl, _, rfl, ifF rfl ?_⟩)
        refine isd (i := 1) rfl hy (by decide) rfl (isd (i := 0) rfl hx' (by decide) rfl ⟨rfl, _, rfl, ifT rfl ?_⟩)
        exact no (fun z => by cases z)
      | bl c =>
        refine isd (i := 1) rfl hy (by decide) rfl (isd (i := 0) rfl hx' (by decide) rfl ⟨rfl, _, rfl, ifF rfl ?_⟩)
        refine isd (i := 1) rfl hy (by decide) rfl (isd (i := 0) rfl hx' (by decide) rfl ⟨rfl, _, rfl, ifT rfl ?_⟩)
        exact no (fun z => by cases z)
      | int c =>
        refine isd (i := 1) rfl hy (by decide) rfl (isd (i := 0) rfl hx' (by decide) rfl ⟨rfl, _, rfl, ifF rfl ?_⟩)
        refine isd (i := 1) rfl hy (by decide) rfl (isd (i := 0) rfl hx' (by decide) rfl ⟨rfl, _, rfl, ifT rfl ?_⟩)
        exact no (fun z => by cases z)
      | str c =>
        refine isd (i := 1) rfl hy (by decide) rfl (isd (i := 0) rfl hx' (by decide) rfl ⟨rfl, _, rfl, ifF rfl ?_⟩)
        refine isd (i := 1) rfl hy (by decide) rfl (isd (i := 0) rfl hx' (by decide) rfl ⟨rfl, _, rfl, ifT rfl ?_⟩)
        exact no (fun z => by cases z)
    | tuple es =>
      refine isd (i := 1) rfl hy (by decide) rfl ⟨_, rfl, iteT ?_⟩
      refine iteT ?_
      have hx' := hx
      cases hx with
      | @tup p xs ds h1 d1 =>
        refine isd (i := 1) rfl hy (by decide) rfl (isd (i := 0) rfl hx' (by decide) rfl ⟨rfl, _, rfl, ifF rfl ?_⟩)
        refine isd (i := 1) rfl hy (by decide) rfl (isd (i := 0) rfl hx' (by decide) rfl ⟨rfl, _, rfl, ifF rfl ?_⟩)
        cases hy with
        | @tup r ys _ h2 d2 =>
        have l1 := dpAll_len d1
        have l2 := dpAll_len d2
        obtain ⟨hlen, hd⟩ := he
        refine ⟨_, rfl, p, _, rfl, .inr h1, _, rfl, r, _, rfl, .inr h2, rfl, _, rfl, ?_⟩
        by_cases el : ds.length = es.length
        · refine ifF (by rw [l1, l2, el, decide_eq_true rfl]; rfl) ?_
          refine ⟨_, rfl, r, _, rfl, .inr h2, _, rfl, by omega, by omega, for_range (lo := 0) (fun i σ H' => H' = H ∧ (∀ j, j < i → ds[j]? = es[j]?) ∧ ∃ v : Option V, σ = [some (.ref p), some (.ref r), v]) ⟨rfl, fun j hj => absurd hj (Nat.not_lt_zero _), none, rfl⟩ ?_ ?_⟩
          · rintro i σ H' hi ⟨rfl, c, v, rfl⟩
            refine seqB (.inr h1) (.inr h2) d1 d2 hd (by omega) (by omega) fun b hb => ⟨_, rfl, ?_⟩
            cases b with
            | true =>
              refine iteF ⟨rfl, fun j hj => ?_, _, rfl⟩
              by_cases hji : j = i
              · rw [hji]
                exact hb.mp rfl
              · exact c j (by omega)
            | false => exact iteT (no fun z => by cases z; exact Bool.noConfusion (hb.mpr rfl))
          · rintro σ H' ⟨rfl, c, v, rfl⟩
            refine yes (congrArg PyData.tuple (List.ext_getElem? fun j => ?_))
            by_cases hj : j < es.length
            · exact c j (by omega)
            · rw [List.getElem?_eq_none (by omega), List.getElem?_eq_none (by omega)]
        · refine ifT (by rw [l1, l2, decide_eq_false (fun z => el (by injection z with z; exact Int.ofNat.inj z))]; rfl) ?_
          exact no fun z => by cases z; exact el rfl
      | non =>
        refine isd (i := 1) rfl hy (by decide) rfl (isd (i := 0) rfl hx' (by decide) rfl ⟨rfl, _, rfl, ifT rfl (iteT ?_)⟩)
        exact no (fun z => by cases z)
      | bl c =>
        refine isd (i := 1) rfl hy (by decide) rfl (isd (i := 0) rfl hx' (by decide) rfl ⟨rfl, _, rfl, ifT rfl (iteT ?_)⟩)
        exact no (fun z => by cases z)
      | int c =>
        refine isd (i := 1) rfl hy (by decide) rfl (isd (i := 0) rfl hx' (by decide) rfl ⟨rfl, _, rfl, ifT rfl (iteT ?_)⟩)
        exact no (fun z => by cases z)
      | str c =>
        refine isd (i := 1) rfl hy (by decide) rfl (isd (i := 0) rfl hx' (by decide) rfl ⟨rfl, _, rfl, ifT rfl (iteT ?_)⟩)
        exact no (fun z => by cases z)
      | lst _ _ =>
        refine isd (i := 1) rfl hy (by decide) rfl (isd (i := 0) rfl hx' (by decide) rfl ⟨rfl, _, rfl, ifT rfl (iteT ?_)⟩)
        exact no (fun z => by cases z)
end
open ZG (Sq ItzG walk_zipG)
open DcS (dc_it)
/-! ### == of lists of ints -/
theorem eqvI : ∀ xs ys : List Int, PyData.eqvAll (xs.map PyData.int) (ys.map PyData.int) = decide (xs = ys)
  | [], [] => by simp [PyData.eqvAll]
  | [], y :: ys => by simp [PyData.eqvAll]
  | x :: xs, [] => by simp [PyData.eqvAll]
  | x :: xs, y :: ys => by
    have ih := eqvI xs ys
    simp only [List.map_cons, PyData.eqvAll, PyData.eqv, ih, List.cons.injEq]
    rw [Bool.decide_and]
    congr 1
theorem eqvL (xs ys : List Int) : PyData.eqv (.list (xs.map PyData.int)) (.list (ys.map PyData.int)) = decide (xs = ys) := by
  rw [PyData.eqv]
  exact eqvI xs ys
theorem dpAllI {K : PySem.W.Frag} {H : Hp} : ∀ xs : List Int, DpAll K H (xs.map V.int) (xs.map PyData.int)
  | [] => .nil
  | _ :: xs => .cons (.int _) (dpAllI xs)
theorem dpI {K : PySem.W.Frag} {H : Hp} {a : Addr} {xs : List Int} (h : SqL K H a (xs.map V.int)) : Dp K H (.ref a) (.list (xs.map PyData.int)) := .lst h (dpAllI xs)
theorem shapedAllI : ∀ xs : List Int, PyData.canLayAll0 (xs.map PyData.int) = true ∧ PyData.depthAll (xs.map PyData.int) = 0
  | [] => ⟨rfl, rfl⟩
  | x :: xs => by
    obtain ⟨h1, h2⟩ := shapedAllI xs
    constructor
    · rw [List.map_cons, PyData.canLayAll0, PyData.canLay0, h1]
      rfl
    · rw [List.map_cons, PyData.depthAll, PyData.depth, h2]
      rfl
theorem shapedI (xs : List Int) : SeqAt.shaped (.list (xs.map PyData.int)) = true := by
  obtain ⟨h1, h2⟩ := shapedAllI xs
  unfold SeqAt.shaped
  rw [PyData.canLay0, h1, PyData.depth, h2]
  rfl
/-- told: two lists of ints, compared -/
theorem neI {K : PySem.W.Frag} {H : Hp} {a b : Addr} {xs ys : List Int} {Q : VK} (ha : SqL K H a (xs.map V.int)) (hb : SqL K H b (ys.map V.int)) (q : Q (.bl (!decide (xs = ys))) H) : rNeD K (.ref a) (.ref b) H Q := ⟨_, _, dpI ha, dpI hb, shapedI xs, shapedI ys, by rw [eqvL]; exact q⟩
theorem eqI {K : PySem.W.Frag} {H : Hp} {a b : Addr} {xs ys : List Int} {Q : VK} (ha : SqL K H a (xs.map V.int)) (hb : SqL K H b (ys.map V.int)) (q : Q (.bl (decide (xs = ys))) H) : rEqD K (.ref a) (.ref b) H Q := ⟨_, _, dpI ha, dpI hb, shapedI xs, shapedI ys, by rw [eqvL]; exact q⟩
/-- two ints in order -/
theorem sorted_pm {ns ms : List Int} (p : ms.Perm ns) (s : ms.Pairwise (· ≤ ·)) : ms = [-1, 1] ↔ ns.Perm [-1, 1] := by
  constructor
  · intro e
    rw [e] at p
    exact p.symm
  · intro q
    have r := p.trans q
    have l := r.length_eq
    match ms, l with
    | [x, y], _ =>
      have m1 : (-1 : Int) ∈ [x, y] := r.symm.subset (by simp)
      have m2 : (1 : Int) ∈ [x, y] := r.symm.subset (by simp)
      have le := (List.pairwise_cons.mp s).1 y (by simp)
      simp only [List.mem_cons, List.not_mem_nil, or_false] at m1 m2
      have e1 : x = -1 ∧ y = 1 := by omega
      rw [e1.1, e1.2]
/-! ### keys: is an answer the order of what is reached -/
theorem natsV_int (o : List Nat) : natsV o = (o.map fun k : Nat => (k : Int)).map V.int := by
  unfold natsV
  rw [List.map_map]
  rfl
theorem sorted_uniq : ∀ {a b : List Nat}, a.Perm b → a.Pairwise (· ≤ ·) → b.Pairwise (· ≤ ·) → a = b := fun {a b} p h1 h2 =>
  p.eq_of_pairwise (fun a b _ _ x y => Nat.le_antisymm x y) h1 h2
theorem isv {K : PySem.W.Frag} {H : Hp} {v : V} {t c : String} {i : Nat} {σ : L2.St} {Q : VK} {b : Bool} (h0 : σ[i]? = some (some v)) (h : TyX K H v (.type t)) (hb : kitB t c = some b) (q : Q (.bl b) H) : tCB (rIsi K) (tCons (tVar i) (tCons (tC (.ty c)) tNil)) σ H Q :=
  ⟨_, h0, isi b h hb q⟩
def spIsOrder (K : PySem.W.Frag) : Sp := fun vs H Q _ => ∃ (p l : Addr) (o m : List Nat), vs = [.ref p, .ref l] ∧ SqT K H p (natsV o) ∧ H l = some (.lst (natsV m)) ∧ m.Perm o ∧ m.Pairwise (· ≤ ·) ∧ o.length ≤ 100 ∧ ∀ H', Same H H' → Q (.bl true) H'
section
variable {P : Program} {w : World} {K : PySem.W.Frag} {mg : Str → Option Value} {base : Heap}
theorem ok_l_is_order (T : Txt w K mg) : FnOk P w K mg base CX0 1 T.a_l_is_order T.d_l_is_order p_l_is_order (spIsOrder K) := by
  refine T.F_l_is_order.ok sc_l_is_order (fun vs H Q E h => ?_) (fun cdv A outer s H vs Q E hr h => ?_)
  · obtain ⟨p, l, o, m, rfl, _⟩ := h
    rfl
  obtain ⟨p, l, o, m, rfl, hp, hl, pm, ps, lo, q⟩ := h
  refine ⟨_, (pss_cons (ps_if (PW.pt (pw_or (pt_not (pt_val (pe_callB call_isi rfl T.z_isinstance bb_isinstance (pa_cons (pv 0) (pa_cons (pe_bltn (v := .ty "tuple") rfl T.z_tuple bt_tuple rfl) pa_nil))))) (pw_or1 (pt_cmpR op_ne (pe_callB call_len_seq rfl T.z_len PySem.boot_len (pa_cons (pv 0) pa_nil)) (pe_callB call_len_seq rfl T.z_len PySem.boot_len (pa_cons (pv 1) pa_nil)) (nomark _))))) (pss_one (ps_ret pe_bl)) pss_nil)
      (pss_cons (ps_for PassesOwn.never rfl (pi_tup (pv 0)) (pg_name (i := 2) sc_l_is_order.nd rfl (Or.inl rfl))
        (pss_one (ps_if (PW.pt (pw_or (pt_not (pt_val (pe_callB call_isi rfl T.z_isinstance bb_isinstance (pa_cons (pv 2) (pa_cons (pe_bltn (v := .ty "int") rfl T.z_int bt_int rfl) pa_nil))))) (pw_or1 (pt_val (pe_callB call_isi rfl T.z_isinstance bb_isinstance (pa_cons (pv 2) (pa_cons (pe_bltn (v := .ty "bool") rfl T.z_bool bt_bool rfl) pa_nil))))))) (pss_one (ps_ret pe_bl)) pss_nil)))
      (pss_one (ps_ret (pe_cmpR (op_eqD hr.units) (pe_callB (SD.cr_sortedTup) rfl T.z_sorted bb_sorted (pa_cons (pv 0) pa_nil)) (pv 1) (nomark _)))))), ?_⟩
  have l1 : (natsV o).length = (natsV m).length := by
    unfold natsV
    rw [List.length_map, List.length_map, pm.length_eq]
  refine isv (i := 0) rfl (tyT hp) (b := true) (by decide +kernel) ⟨_, rfl, iteF ⟨_, rfl, p, _, rfl, .inr hp, _, rfl, l, _, rfl, .inl (SqL.of hl), rfl, _, rfl, ifF (by rw [l1, decide_eq_true rfl]; rfl) ?_⟩⟩
  refine ⟨_, rfl, p, rfl, ⟨_, hp⟩, for_tup (K := K) (a := p) (xs := natsV o) (fun i σ F => F = H ∧ ∃ v : Option V, σ = [some (.ref p), some (.ref l), v]) ⟨rfl, none, rfl⟩ (fun i σ F _ ⟨e, _⟩ => by rw [e]; exact hp) ?_ ?_⟩
  · rintro i x σ F hi ⟨rfl, v, rfl⟩
    obtain ⟨k, hk, rfl⟩ := nats_at hi
    refine isv (i := 2) rfl (.base (.int _)) (b := true) (by decide +kernel) ⟨_, rfl, iteF (isv (i := 2) rfl (.base (.int _)) (b := false) (by decide +kernel) ⟨_, rfl, iteF ⟨rfl, _, rfl⟩⟩)⟩
  · rintro σ F ⟨rfl, v, rfl⟩
    refine ⟨_, rfl, p, o.map fun k : Nat => (k : Int), rfl, by rw [← natsV_int]; exact hp, fun ns q1 hp1 hs np => ?_⟩
    obtain ⟨o', rfl, po, ps'⟩ := nat_sorted hp1 hs
    have e : o' = m := sorted_uniq (po.trans pm.symm) ps' ps
    subst e
    have sF : Same F (upd F q1 (.lst ((o'.map fun k : Nat => (k : Int)).map V.int))) := Same.new np _
    have e1 := SqL.of (K := K) (upd_same (H := F) (a := q1) (o := HO.lst ((o'.map fun k : Nat => (k : Int)).map V.int)))
    have e2 := sF _ _ hl
    rw [natsV_int] at e2
    refine ⟨_, rfl, eqI e1 (SqL.of e2) ?_⟩
    rw [decide_eq_true rfl]
    exact q _ sF
end
open ZG (Sq ItzG walk_zipG)
open DcS (dc_it)
/-! ### keys: the two keys beside the pairings -/
theorem dpAll_nats {K : PySem.W.Frag} {H : Hp} : ∀ {o : List Nat} {ys : List V}, DpAll K H ys (o.map fun k : Nat => PyData.int (k : Int)) → ys = natsV o
  | [], _, h => by
    cases h
    rfl
  | k :: o, _, h => by
    rw [List.map_cons] at h
    cases h with
    | cons h1 h2 =>
      cases h1
      rw [dpAll_nats h2]
      rfl
theorem key_split {K : PySem.W.Frag} {H : Hp} {q : Addr} {rs : List Rk} {R : List Rc} {ks : List Kd} {us : List V} {o : List Nat} (h : Dp K H (.ref q) (keyD rs R ks us o)) : ∃ p1 p2 : Addr, SqT K H q [.ref p1, .ref p2] ∧ Dp K H (.ref p1) (fstD rs R ks us o) ∧ SqT K H p2 (natsV o) ∧ ∃ xs, SqT K H p1 xs := by
  unfold keyD at h
  cases h with
  | tup h1 h2 =>
  cases h2 with
  | cons a h2 =>
  cases h2 with
  | cons b h2 =>
  cases h2
  have a0 := a
  cases a with
  | tup a1 a2 =>
  cases b with
  | tup b1 b2 =>
  rw [dpAll_nats b2] at b1
  exact ⟨_, _, h1, a0, b1, _, a1⟩
theorem fst_dok {rs : List Rk} {R : List Rc} {ks : List Kd} {us : List V} {o : List Nat} (h1 : us.length ≤ 100) (h2 : o.length ≤ 100) (h3 : ∀ r ∈ R, r.vals.length ≤ 100) : Dok 5 (fstD rs R ks us o) :=
  (dok_key (rs := rs) (ks := ks) h1 h2 h3).2 _ List.mem_cons_self
theorem isx {K : PySem.W.Frag} {H : Hp} {q : Addr} {xs : List V} {v : V} {t c : String} {i j : Nat} {σ : L2.St} {Q : VK} {b : Bool} (h0 : σ[i]? = some (some (.ref q))) (h1 : SqT K H q xs) (e : xs[j]? = some v) (h : TyX K H v (.type t)) (hb : kitB t c = some b) (k : Q (.bl b) H) :
    tCB (rIsi K) (tCons (tOp (rIxT K) (tVar i) (tC (.int (j : Int)))) (tCons (tC (.ty c)) tNil)) σ H Q :=
  ⟨_, h0, q, xs, (j : Int), v, rfl, rfl, h1, atI_nat e, isi b h hb k⟩
def spRight (K : PySem.W.Frag) : Sp := fun vs H Q _ => ∃ (p d d' a kl : Addr) (kxs : List V) (rs : List Rk) (R R' : List Rc) (ks : List Kd) (us us' : List V) (fx fx' : List Nat), vs = [.ref p, .ref d, .ref d', .ref kl] ∧ PgAt K H p rs ∧ RunAt K a H d rs R ∧ RunV H d us fx ∧ RunAt K a H d' rs R' ∧ RunV H d' us' fx' ∧
  H kl = some (.lst kxs) ∧ KdsAt K H kxs ks ∧ SideT rs R ks us fx ∧ SideT rs R' ks us' fx' ∧ R.length ≤ 6 ∧ fx'.length = fx.length ∧ ∀ H', Same H H' → Q (.bl true) H'
theorem rk_lt4 {rs : List Rk} {R : List Rc} (w : WldOk rs) (g : HpG rs R) : ∀ i, i < R.length → rkOf rs R i < 4 := fun i hi => by
  unfold rkOf
  have er : R[i]? = some R[i] := List.getElem?_eq_getElem hi
  rw [er]
  obtain ⟨k, mk, ek⟩ := (g.rc _ (List.getElem_mem hi)).m
  have := List.idxOf_lt_length_iff.mpr (show R[i].nm ∈ rs.map (·.1) from List.mem_map.mpr ⟨k, mk, ek⟩)
  rw [List.length_map] at this
  have := w.l
  show (rs.map (·.1)).idxOf R[i].nm < 4
  omega
section
variable {P : Program} {w : World} {K : PySem.W.Frag} {mg : Str → Option Value} {base : Heap}
theorem ok_l_right (T : Txt w K mg) : FnOk P w K mg base CX0 6 T.a_l_right T.d_l_right p_l_right (spRight K) := by
  have g_l_reached := ok_l_reached (P := P) (w := w) (K := K) (base := base) T
  have g_l_told := ok_l_told (P := P) (w := w) (K := K) (base := base) T
  have g_l_is_order := ok_l_is_order (P := P) (w := w) (K := K) (base := base) T
  have g_l_paired := ok_l_paired (P := P) (w := w) (K := K) (base := base) T
  have g_l_same := ok_sameB (P := P) (w := w) (K := K) (base := base) T 5
  have g_l_keeps := ok_l_keeps (P := P) (w := w) (K := K) (base := base) T
  refine T.F_l_right.ok sc_l_right (fun vs H Q E h => ?_) (fun cdv A outer s H vs Q E hr h => ?_)
  · obtain ⟨p, d, d', a, kl, kxs, rs, R, R', ks, us, us', fx, fx', rfl, _⟩ := h
    rfl
  obtain ⟨p, d, d', a, kl, kxs, rs, R, R', ks, us, us', fx, fx', rfl, hp, hrun, hv, hrun', hv', hk, hks, sd, sd', R6, lf, q⟩ := h
  refine ⟨_, (pss_cons (ps_set (i := 4) sc_l_right.nd rfl (Or.inl rfl) (pe_call g_l_reached (hr.mono (by first | decide | omega)) rfl T.m_l_reached T.F_l_reached.kp T.b_l_reached .nil pass0 (pa_cons (pv 1) (pa_cons (pv 3) pa_nil))))
      (pss_cons (ps_set (i := 5) sc_l_right.nd rfl (Or.inl rfl) (pe_call g_l_reached (hr.mono (by first | decide | omega)) rfl T.m_l_reached T.F_l_reached.kp T.b_l_reached .nil pass0 (pa_cons (pv 2) (pa_cons (pv 3) pa_nil))))
      (pss_cons (ps_set (i := 6) sc_l_right.nd rfl (Or.inl rfl) (pe_call g_l_told (hr.mono (by first | decide | omega)) rfl T.m_l_told T.F_l_told.kp T.b_l_told .nil pass0 (pa_cons (pv 0) (pa_cons (pv 1) (pa_cons (pv 3) pa_nil)))))
      (pss_cons (ps_set (i := 7) sc_l_right.nd rfl (Or.inl rfl) (pe_call g_l_told (hr.mono (by first | decide | omega)) rfl T.m_l_told T.F_l_told.kp T.b_l_told .nil pass0 (pa_cons (pv 0) (pa_cons (pv 2) (pa_cons (pv 3) pa_nil)))))
      (pss_cons (ps_if (PW.pt (pw_or (pt_not (pt_val (pe_callB call_isi rfl T.z_isinstance bb_isinstance (pa_cons (pv 6) (pa_cons (pe_bltn (v := .ty "tuple") rfl T.z_tuple bt_tuple rfl) pa_nil))))) (pw_or (pt_cmpR op_ne (pe_callB call_len_seq rfl T.z_len PySem.boot_len (pa_cons (pv 6) pa_nil)) pe_int (nomark _)) (pw_or (pt_not (pt_val (pe_callB call_isi rfl T.z_isinstance bb_isinstance (pa_cons (pv 7) (pa_cons (pe_bltn (v := .ty "tuple") rfl T.z_tuple bt_tuple rfl) pa_nil))))) (pw_or1 (pt_cmpR op_ne (pe_callB call_len_seq rfl T.z_len PySem.boot_len (pa_cons (pv 7) pa_nil)) pe_int (nomark _))))))) (pss_one (ps_ret pe_bl)) pss_nil)
      (pss_cons (ps_if (PW.pt (pw_or (pt_not (pt_val (pe_callB call_isi rfl T.z_isinstance bb_isinstance (pa_cons (pe_ix ix_tup (pv 6) pe_int (fun _ _ => rfl)) (pa_cons (pe_bltn (v := .ty "tuple") rfl T.z_tuple bt_tuple rfl) pa_nil))))) (pw_or1 (pt_not (pt_val (pe_callB call_isi rfl T.z_isinstance bb_isinstance (pa_cons (pe_ix ix_tup (pv 7) pe_int (fun _ _ => rfl)) (pa_cons (pe_bltn (v := .ty "tuple") rfl T.z_tuple bt_tuple rfl) pa_nil)))))))) (pss_one (ps_ret pe_bl)) pss_nil)
      (pss_cons (ps_if (PW.pt (pw_or (pt_not (pt_val (pe_call g_l_is_order (hr.mono (by first | decide | omega)) rfl T.m_l_is_order T.F_l_is_order.kp T.b_l_is_order .nil pass0 (pa_cons (pe_ix ix_tup (pv 6) pe_int (fun _ _ => rfl)) (pa_cons (pv 4) pa_nil))))) (pw_or1 (pt_not (pt_val (pe_call g_l_is_order (hr.mono (by first | decide | omega)) rfl T.m_l_is_order T.F_l_is_order.kp T.b_l_is_order .nil pass0 (pa_cons (pe_ix ix_tup (pv 7) pe_int (fun _ _ => rfl)) (pa_cons (pv 5) pa_nil)))))))) (pss_one (ps_ret pe_bl)) pss_nil)
      (pss_cons (ps_if (pt_not (pt_val (pe_call g_l_paired (hr.mono (by first | decide | omega)) rfl T.m_l_paired T.F_l_paired.kp T.b_l_paired .nil pass0 (pa_cons (pv 1) (pa_cons (pv 2) (pa_cons (pv 3) (pa_cons (pv 4) (pa_cons (pv 5) pa_nil)))))))) (pss_one (ps_ret (pe_not (pe_call g_l_same (hr.mono (by first | decide | omega)) rfl T.m_l_same T.F_l_same.kp T.b_l_same .nil pass0 (pa_cons (pe_ix ix_tup (pv 6) pe_int (fun _ _ => rfl)) (pa_cons (pe_ix ix_tup (pv 7) pe_int (fun _ _ => rfl)) pa_nil)))))) pss_nil)
      (pss_one (ps_ret (pe_and (pe_call g_l_same (hr.mono (by first | decide | omega)) rfl T.m_l_same T.F_l_same.kp T.b_l_same .nil pass0 (pa_cons (pe_ix ix_tup (pv 6) pe_int (fun _ _ => rfl)) (pa_cons (pe_ix ix_tup (pv 7) pe_int (fun _ _ => rfl)) pa_nil))) (pe_one (pe_call g_l_keeps (hr.mono (by first | decide | omega)) rfl T.m_l_keeps T.F_l_keeps.kp T.b_l_keeps .nil pass0 (pa_cons (pv 1) (pa_cons (pv 2) (pa_cons (pv 3) (pa_cons (pe_callTy call_list_of rfl T.z_list bt_list (pa_cons (pe_ix ix_tup (pv 6) pe_int (fun _ _ => rfl)) pa_nil)) (pa_cons (pe_callTy call_list_of rfl T.z_list bt_list (pa_cons (pe_ix ix_tup (pv 7) pe_int (fun _ _ => rfl)) pa_nil)) pa_nil)))))))))))))))))), ?_⟩
  obtain ⟨ndo, lto, cvo⟩ := sd.s.ord
  obtain ⟨ndo', lto', cvo'⟩ := sd'.s.ord
  have lo := len_le ndo lto
  have lo' := len_le ndo' lto'
  have R100 := sd'.g.ln
  have lv : ∀ {R : List Rc}, HpG rs R → ∀ r ∈ R, r.vals.length ≤ 100 := fun {R} g r hr => by
    have c := g.rc r hr
    have := flOf_len sd.w.pok (z := r.nm)
    cases hl : r.live with
    | true => rw [c.l hl]; omega
    | false => rw [c.d hl]; exact Nat.zero_le _
  refine ⟨_, rfl, _, rfl, d, a, kl, kxs, rs, R, _, ks, us, fx, rfl, sd.g.ok sd.w, rk_lt4 sd.w sd.g, hrun, hv, hk, hks, sd.s, fun lm m H1 s1 nlm elm pm sm => ?_⟩
  refine ⟨_, rfl, _, rfl, d', a, kl, kxs, rs, R', _, ks, us', fx', rfl, sd'.g.ok sd'.w, rk_lt4 sd'.w sd'.g, hrun'.same s1, hv'.same s1, s1 _ _ hk, hks.keep (KeepT.of s1), sd'.s, fun ln n H2 s2 nln eln pn sn => ?_⟩
  have s12 := s1.trans s2
  refine ⟨_, rfl, _, rfl, _, rfl, p, d, a, kl, kxs, rs, R, ks, us, fx, rfl, hp.keep (KeepT.of s12), hrun.same s12, hv.same s12, s12 _ _ hk, hks.keep (KeepT.of s12), sd, fun q1 H3 s3 d1 => ?_⟩
  have s13 := s12.trans s3
  refine ⟨_, rfl, _, rfl, _, rfl, p, d', a, kl, kxs, rs, R', ks, us', fx', rfl, hp.keep (KeepT.of s13), hrun'.same s13, hv'.same s13, s13 _ _ hk, hks.keep (KeepT.of s13), sd', fun q2 H4 s4 d2 => ?_⟩
  have s14 := s13.trans s4
  have d1 := Dp.same s4 _ _ d1
  have elm := s4 _ _ (s3 _ _ (s2 _ _ elm))
  have eln := s4 _ _ (s3 _ _ eln)
  obtain ⟨a1, b1, h1, g1, o1, x1, t1⟩ := key_split d1
  obtain ⟨a2, b2, h2, g2, o2, x2, t2⟩ := key_split d2
  have hrun4 := hrun.same s14
  have hv4 := hv.same s14
  have hrun4' := hrun'.same s14
  have hv4' := hv'.same s14
  have hk4 := s14 _ _ hk
  have hks4 := hks.keep (KeepT.of s14)
  clear d1 d2 hp hrun hrun' hv hv' hk hks s12 s13
  have pi := paired_iff sd.s sd'.s lf pm pn
  refine isv (i := 6) rfl (tyT h1) (b := true) (by decide +kernel) ⟨_, rfl, iteF ?_⟩
  refine ⟨_, rfl, q1, _, rfl, .inr h1, rfl, _, rfl, ifF rfl ?_⟩
  refine isv (i := 7) rfl (tyT h2) (b := true) (by decide +kernel) ⟨_, rfl, iteF ?_⟩
  refine ⟨_, rfl, q2, _, rfl, .inr h2, rfl, _, rfl, ifF rfl ?_⟩
  have f1 : SqT K H4 a1 x1 := t1
  have ty1 := tyT t1
  have ty2 := tyT t2
  have kt : kitB "tuple" "tuple" = some true := by decide +kernel
  refine isx (i := 6) (j := 0) rfl h1 rfl ty1 kt ?_
  refine ⟨_, rfl, iteF ?_⟩
  refine isx (i := 7) (j := 0) rfl h2 rfl ty2 kt ?_
  refine ⟨_, rfl, iteF ?_⟩
  refine ⟨_, rfl, q1, _, 1, _, rfl, rfl, h1, rfl, _, rfl, b1, lm, _, m, rfl, o1, elm, pm, sm, by omega, fun H5 s5 => ?_⟩
  refine ⟨_, rfl, iteF ?_⟩
  refine ⟨_, rfl, q2, _, 1, _, rfl, rfl, Same.tup s5 h2, rfl, _, rfl, b2, ln, _, n, rfl, Same.tup s5 o2, s5 _ _ eln, pn, sn, by omega, fun H6 s6 => ?_⟩
  refine ⟨_, rfl, iteF ?_⟩
  have s56 := s5.trans s6
  have mm : ∀ k, k ∈ m ↔ k ∈ ordOf rs R ks us fx := fun k => pm.mem_iff
  have mn : ∀ k, k ∈ n ↔ k ∈ ordOf rs R' ks us' fx' := fun k => pn.mem_iff
  have cvm : Cov rs R ks us fx m := cvo.perm fun i => (mm i).symm
  have lm6 : m.length ≤ 6 := by rw [pm.length_eq]; omega
  have ln100 : n.length ≤ 100 := by rw [pn.length_eq]; omega
  refine ⟨_, rfl, _, rfl, _, rfl, _, rfl, _, rfl, d, d', a, kl, lm, ln, kxs, rs, R, R', ks, us, us', fx, fx', m, n, rfl, hrun4.same s56, hv4.same s56, hrun4'.same s56, hv4'.same s56, s56 _ _ hk4, hks4.keep (KeepT.of s56), sd, sd', s56 _ _ elm, s56 _ _ eln, lm6, ln100, cvm, fun k h => lto k ((mm k).mp h), fun k h => lto' k ((mn k).mp h), lf, fun b H7 s7 hb => ⟨_, rfl, ?_⟩⟩
  have s57 := s56.trans s7
  cases b with
  | false =>
    refine iteT ?_
    refine ⟨_, rfl, q1, _, 0, _, rfl, rfl, Same.tup s57 h1, rfl, _, rfl, q2, _, 0, _, rfl, rfl, Same.tup s57 h2, rfl, .ref a1, .ref a2, _, _, rfl, Dp.same s57 _ _ g1, Dp.same s57 _ _ g2, fst_dok (by rw [sd'.vs.l]; exact sd'.vs.k) (by omega) (lv sd'.g), fun c hc => ?_⟩
    have np : ¬ Paired rs R R' ks us us' fx fx' m n := fun z => Bool.noConfusion (hb.mpr z)
    cases c with
    | true => exact absurd (pi.1.mpr (hc.mp rfl)) np
    | false => exact ⟨_, rfl, q _ (s14.trans s57)⟩
  | true =>
    refine iteF ?_
    have pr : Paired rs R R' ks us us' fx fx' m n := hb.mp rfl
    refine ⟨_, rfl, q1, _, 0, _, rfl, rfl, Same.tup s57 h1, rfl, _, rfl, q2, _, 0, _, rfl, rfl, Same.tup s57 h2, rfl, .ref a1, .ref a2, _, _, rfl, Dp.same s57 _ _ g1, Dp.same s57 _ _ g2, fst_dok (by rw [sd'.vs.l]; exact sd'.vs.k) (by omega) (lv sd'.g), fun c hc => ?_⟩
    have ec : c = true := hc.mpr (pi.1.mp pr)
    subst ec
    refine ⟨_, rfl, ?_⟩
    rw [if_pos rfl]
    obtain ⟨lno, _⟩ := keys_keep sd.s sd'.s lf (pi.1.mp pr)
    refine ⟨_, rfl, _, rfl, _, rfl, _, rfl, q1, _, 1, _, rfl, rfl, Same.tup s57 h1, rfl, b1, _, rfl, .inr (Same.tup s57 o1), fun D hD => ?_⟩
    have s8 := Same.new hD (.lst (natsV (ordOf rs R ks us fx)))
    have eD : (upd H7 D (.lst (natsV (ordOf rs R ks us fx)))) D = some (.lst (natsV (ordOf rs R ks us fx))) := upd_same
    have s58 := s57.trans s8
    generalize (upd H7 D (.lst (natsV (ordOf rs R ks us fx)))) = H8 at s8 eD s58
    refine ⟨_, rfl, q2, _, 1, _, rfl, rfl, Same.tup s58 h2, rfl, b2, _, rfl, .inr (Same.tup s58 o2), fun D' hD' => ?_⟩
    have s9 := Same.new hD' (.lst (natsV (ordOf rs R' ks us' fx')))
    have eD' : (upd H8 D' (.lst (natsV (ordOf rs R' ks us' fx')))) D' = some (.lst (natsV (ordOf rs R' ks us' fx'))) := upd_same
    have s59 := s58.trans s9
    have eD := s9 _ _ eD
    generalize (upd H8 D' (.lst (natsV (ordOf rs R' ks us' fx')))) = H9 at s9 eD' s59 eD
    refine ⟨d, d', a, kl, D, D', kxs, rs, R, R', ks, us, us', fx, fx', ordOf rs R ks us fx, ordOf rs R' ks us' fx', rfl, hrun4.same s59, hv4.same s59, hrun4'.same s59, hv4'.same s59, s59 _ _ hk4, hks4.keep (KeepT.of s59), sd, sd', eD, eD', lno, by omega, cvo, lto, lto', lf, fun b hb2 => ?_⟩
    have eb : b = true := hb2.mpr (pi.2 pr)
    subst eb
    exact q _ (s14.trans s59)
end
open ZG (Sq ItzG walk_zipG)
open DcS (dc_it)
/-! ### keys: a run of one's own -/
/-- a source stands at a, and nothing else that was tracked has changed, but what stands at x -/
structure St2 (a x : Addr) (H H' : Hp) : Prop where
  s : Src H' a
  k : ∀ b o, b ≠ a → b ≠ x → H b = some o → H' b = some o
theorem St2.of {a x : Addr} {H H' : Hp} (s : Stp a H H') : St2 a x H H' := ⟨s.s, fun b o n _ e => s.k b o n e⟩
theorem St2.trans {a x : Addr} {H H1 H2 : Hp} (s : St2 a x H H1) (t : St2 a x H1 H2) : St2 a x H H2 := ⟨t.s, fun b o n m e => t.k b o n m (s.k b o n m e)⟩
theorem St2.put {a x : Addr} {H H' : Hp} (s : St2 a x H H') (n : x ≠ a) (o : HO) : St2 a x H (upd H' x o) := by
  refine ⟨?_, fun b u na nx e => by rw [upd_ne nx]; exact s.k b u na nx e⟩
  obtain ⟨c, m, k, e⟩ := s.s
  exact ⟨c, m, k, by rw [upd_ne n.symm]; exact e⟩
theorem St2.stp {a x : Addr} {H H1 H2 : Hp} (s : St2 a x H H1) (t : Stp a H1 H2) : St2 a x H H2 := s.trans (St2.of t)
theorem St2.over {a x : Addr} {H0 H H' : Hp} (s : Stp a H0 H) (n : H0 x = none) (t : St2 a x H H') : Stp a H0 H' := ⟨t.s, fun b o na e => t.k b o na (ne_of_none e n) (s.k b o na e)⟩
structure Own (K : PySem.W.Frag) (H0 : Hp) (a : Addr) (H : Hp) (d lr lv lx df : Addr) (ps qs : List Addr) (kvs kf : List (Key × V)) (rs : List Rk) (R : List Rc) (us : List V) (fx : List Nat) (tag : Addr → Nat) : Prop where
  s0 : Src H0 a
  st : Stp a H0 H
  nd : H0 d = none
  nlr : H0 lr = none
  nlv : H0 lv = none
  nlx : H0 lx = none
  np : ∀ (i : Nat) (p : Addr), ps[i]? = some p → H0 p = none
  nq : ∀ (i : Nat) (q : Addr), qs[i]? = some q → H0 q = none
  td : tag d = 0
  tlr : tag lr = 1
  tlv : tag lv = 2
  tlx : tag lx = 3
  tp : ∀ (i : Nat) (p : Addr), ps[i]? = some p → tag p = 4 + 2 * i
  tq : ∀ (i : Nat) (q : Addr), qs[i]? = some q → tag q = 5 + 2 * i
  hd : H d = some (.dK kvs)
  kr : valV kvs (Sum.inr "records") = some (.ref lr)
  kk : valV kvs (Sum.inr "fields") = some (.ref df)
  kv : valV kvs (Sum.inr "values") = some (.ref lv)
  kx : valV kvs (Sum.inr "fixed") = some (.ref lx)
  hlr : H lr = some (.lst (ps.map V.ref))
  hlv : H lv = some (.lst us)
  hlx : H lx = some (.lst (natsV fx))
  hp : ∀ (i : Nat) (p q : Addr) (r : Rc), ps[i]? = some p → qs[i]? = some q → R[i]? = some r → H p = some (.lst [.str r.nm, .bl r.live, .ref q]) ∧ H q = some (.lst r.vals)
  lp : ps.length = R.length
  lq : qs.length = R.length
  nf : df ≠ a
  hf : H0 df = some (.dK kf)
  fl : FldAt K H0 kf rs
section
variable {K : PySem.W.Frag} {H0 H H' : Hp} {a d lr lv lx df x : Addr} {ps qs : List Addr} {kvs kf : List (Key × V)} {rs : List Rk} {R : List Rc} {us us' : List V} {fx fx' : List Nat} {tag : Addr → Nat}
theorem Own.run (h : Own K H0 a H d lr lv lx df ps qs kvs kf rs R us fx tag) : RunAt K a H d rs R := by
  refine ⟨kvs, kf, lr, df, ps.map V.ref, (h.s0.ne h.nd).symm, (h.s0.ne h.nlr).symm, h.nf, h.hd, h.kr, h.kk, h.hlr, by rw [List.length_map]; exact h.lp, fun i v r e1 e2 => ?_, h.st.k _ _ h.nf h.hf, h.fl.keep (h.st.keepT h.s0)⟩
  have hi := (List.getElem?_eq_some_iff.mp e2).1
  have ep : ps[i]? = some (ps[i]'(by rw [h.lp]; exact hi)) := List.getElem?_eq_getElem _
  have eq : qs[i]? = some (qs[i]'(by rw [h.lq]; exact hi)) := List.getElem?_eq_getElem _
  rw [map_get ep] at e1
  obtain rfl := Option.some.inj e1
  obtain ⟨h1, h2⟩ := h.hp i _ _ r ep eq e2
  exact ⟨_, _, rfl, (h.s0.ne (h.np i _ ep)).symm, (h.s0.ne (h.nq i _ eq)).symm, h1, h2⟩
theorem Own.val (h : Own K H0 a H d lr lv lx df ps qs kvs kf rs R us fx tag) : RunV H d us fx := ⟨kvs, lv, lx, h.hd, h.kv, h.kx, h.hlv, h.hlx⟩
theorem Own.stp (h : Own K H0 a H d lr lv lx df ps qs kvs kf rs R us fx tag) (s : Stp a H H') : Own K H0 a H' d lr lv lx df ps qs kvs kf rs R us fx tag := by
  have ne : ∀ {b}, H0 b = none → b ≠ a := fun n => (h.s0.ne n).symm
  exact ⟨h.s0, h.st.trans s, h.nd, h.nlr, h.nlv, h.nlx, h.np, h.nq, h.td, h.tlr, h.tlv, h.tlx, h.tp, h.tq, s.k _ _ (ne h.nd) h.hd, h.kr, h.kk, h.kv, h.kx, s.k _ _ (ne h.nlr) h.hlr, s.k _ _ (ne h.nlv) h.hlv, s.k _ _ (ne h.nlx) h.hlx, fun i p q r e1 e2 e3 => by
    obtain ⟨g1, g2⟩ := h.hp i p q r e1 e2 e3
    exact ⟨s.k _ _ (ne (h.np i p e1)) g1, s.k _ _ (ne (h.nq i q e2)) g2⟩, h.lp, h.lq, h.nf, h.hf, h.fl⟩
/-- two of one's own addresses with other tags differ -/
theorem tag_ne {x y : Addr} {m n : Nat} (h : tag x = m) (g : tag y = n) (ne : m ≠ n) : x ≠ y := fun z => ne (by rw [← h, ← g, z])
theorem Own.setV (h : Own K H0 a H d lr lv lx df ps qs kvs kf rs R us fx tag) (s : St2 a lv H H') (e : H' lv = some (.lst us')) : Own K H0 a H' d lr lv lx df ps qs kvs kf rs R us' fx tag := by
  have ne : ∀ {b}, H0 b = none → b ≠ a := fun n => (h.s0.ne n).symm
  exact ⟨h.s0, s.over h.st h.nlv, h.nd, h.nlr, h.nlv, h.nlx, h.np, h.nq, h.td, h.tlr, h.tlv, h.tlx, h.tp, h.tq, s.k _ _ (ne h.nd) (tag_ne h.td h.tlv (by decide)) h.hd, h.kr, h.kk, h.kv, h.kx, s.k _ _ (ne h.nlr) (tag_ne h.tlr h.tlv (by decide)) h.hlr, e, s.k _ _ (ne h.nlx) (tag_ne h.tlx h.tlv (by decide)) h.hlx, fun i p q r e1 e2 e3 => by
    obtain ⟨g1, g2⟩ := h.hp i p q r e1 e2 e3
    exact ⟨s.k _ _ (ne (h.np i p e1)) (tag_ne (h.tp i p e1) h.tlv (by omega)) g1, s.k _ _ (ne (h.nq i q e2)) (tag_ne (h.tq i q e2) h.tlv (by omega)) g2⟩, h.lp, h.lq, h.nf, h.hf, h.fl⟩
theorem Own.setX (h : Own K H0 a H d lr lv lx df ps qs kvs kf rs R us fx tag) (s : St2 a lx H H') (e : H' lx = some (.lst (natsV fx'))) : Own K H0 a H' d lr lv lx df ps qs kvs kf rs R us fx' tag := by
  have ne : ∀ {b}, H0 b = none → b ≠ a := fun n => (h.s0.ne n).symm
  exact ⟨h.s0, s.over h.st h.nlx, h.nd, h.nlr, h.nlv, h.nlx, h.np, h.nq, h.td, h.tlr, h.tlv, h.tlx, h.tp, h.tq, s.k _ _ (ne h.nd) (tag_ne h.td h.tlx (by decide)) h.hd, h.kr, h.kk, h.kv, h.kx, s.k _ _ (ne h.nlr) (tag_ne h.tlr h.tlx (by decide)) h.hlr, s.k _ _ (ne h.nlv) (tag_ne h.tlv h.tlx (by decide)) h.hlv, e, fun i p q r e1 e2 e3 => by
    obtain ⟨g1, g2⟩ := h.hp i p q r e1 e2 e3
    exact ⟨s.k _ _ (ne (h.np i p e1)) (tag_ne (h.tp i p e1) h.tlx (by omega)) g1, s.k _ _ (ne (h.nq i q e2)) (tag_ne (h.tq i q e2) h.tlx (by omega)) g2⟩, h.lp, h.lq, h.nf, h.hf, h.fl⟩
/-- the values of one record are written -/
theorem Own.setQ (h : Own K H0 a H d lr lv lx df ps qs kvs kf rs R us fx tag) {k : Nat} {qk : Addr} {rk : Rc} {vals : List V} (ek : qs[k]? = some qk) (er : R[k]? = some rk) (s : St2 a qk H H') (e : H' qk = some (.lst vals)) : Own K H0 a H' d lr lv lx df ps qs kvs kf rs (R.set k ⟨rk.nm, rk.live, vals⟩) us fx tag := by
  have ne : ∀ {b}, H0 b = none → b ≠ a := fun n => (h.s0.ne n).symm
  have tk := h.tq k qk ek
  exact ⟨h.s0, s.over h.st (h.nq k qk ek), h.nd, h.nlr, h.nlv, h.nlx, h.np, h.nq, h.td, h.tlr, h.tlv, h.tlx, h.tp, h.tq, s.k _ _ (ne h.nd) (tag_ne h.td tk (by omega)) h.hd, h.kr, h.kk, h.kv, h.kx, s.k _ _ (ne h.nlr) (tag_ne h.tlr tk (by omega)) h.hlr, s.k _ _ (ne h.nlv) (tag_ne h.tlv tk (by omega)) h.hlv, s.k _ _ (ne h.nlx) (tag_ne h.tlx tk (by omega)) h.hlx, fun i p q r e1 e2 e3 => by
    rw [List.getElem?_set] at e3
    split at e3
    · rename_i z
      subst z
      split at e3
      · obtain rfl := Option.some.inj e3
        obtain ⟨g1, _⟩ := h.hp k p q rk e1 e2 er
        rw [ek] at e2
        obtain rfl := Option.some.inj e2
        exact ⟨s.k _ _ (ne (h.np k p e1)) (tag_ne (h.tp k p e1) tk (by omega)) g1, e⟩
      · cases e3
    · rename_i z
      obtain ⟨g1, g2⟩ := h.hp i p q r e1 e2 e3
      exact ⟨s.k _ _ (ne (h.np i p e1)) (tag_ne (h.tp i p e1) tk (by omega)) g1, s.k _ _ (ne (h.nq i q e2)) (tag_ne (h.tq i q e2) tk (by omega)) g2⟩, by rw [List.length_set]; exact h.lp, by rw [List.length_set]; exact h.lq, h.nf, h.hf, h.fl⟩
/-- one record is written; its values stay where they are -/
theorem Own.setP (h : Own K H0 a H d lr lv lx df ps qs kvs kf rs R us fx tag) {k : Nat} {pk qk : Addr} {rk : Rc} {nm : Str} {b : Bool} (ep : ps[k]? = some pk) (ek : qs[k]? = some qk) (er : R[k]? = some rk) (s : St2 a pk H H') (e : H' pk = some (.lst [.str nm, .bl b, .ref qk])) : Own K H0 a H' d lr lv lx df ps qs kvs kf rs (R.set k ⟨nm, b, rk.vals⟩) us fx tag := by
  have ne : ∀ {b}, H0 b = none → b ≠ a := fun n => (h.s0.ne n).symm
  have tk := h.tp k pk ep
  exact ⟨h.s0, s.over h.st (h.np k pk ep), h.nd, h.nlr, h.nlv, h.nlx, h.np, h.nq, h.td, h.tlr, h.tlv, h.tlx, h.tp, h.tq, s.k _ _ (ne h.nd) (tag_ne h.td tk (by omega)) h.hd, h.kr, h.kk, h.kv, h.kx, s.k _ _ (ne h.nlr) (tag_ne h.tlr tk (by omega)) h.hlr, s.k _ _ (ne h.nlv) (tag_ne h.tlv tk (by omega)) h.hlv, s.k _ _ (ne h.nlx) (tag_ne h.tlx tk (by omega)) h.hlx, fun i p q r e1 e2 e3 => by
    rw [List.getElem?_set] at e3
    split at e3
    · rename_i z
      subst z
      split at e3
      · obtain rfl := Option.some.inj e3
        obtain ⟨_, g2⟩ := h.hp k p q rk e1 e2 er
        rw [ek] at e2
        obtain rfl := Option.some.inj e2
        rw [ep] at e1
        obtain rfl := Option.some.inj e1
        exact ⟨e, s.k _ _ (ne (h.nq k _ ek)) (tag_ne (h.tq k _ ek) tk (by omega)) g2⟩
      · cases e3
    · rename_i z
      obtain ⟨g1, g2⟩ := h.hp i p q r e1 e2 e3
      exact ⟨s.k _ _ (ne (h.np i p e1)) (tag_ne (h.tp i p e1) tk (by omega)) g1, s.k _ _ (ne (h.nq i q e2)) (tag_ne (h.tq i q e2) tk (by omega)) g2⟩, by rw [List.length_set]; exact h.lp, by rw [List.length_set]; exact h.lq, h.nf, h.hf, h.fl⟩
/-- one record is written; its values are a new list -/
theorem Own.setN (h : Own K H0 a H d lr lv lx df ps qs kvs kf rs R us fx tag) {k : Nat} {pk l : Addr} {nm : Str} {b : Bool} {vals : List V} (ep : ps[k]? = some pk) (s : St2 a pk H H') (nl : H l = none) (e : H' pk = some (.lst [.str nm, .bl b, .ref l])) (el : H' l = some (.lst vals)) :
    Own K H0 a H' d lr lv lx df ps (qs.set k l) kvs kf rs (R.set k ⟨nm, b, vals⟩) us fx (fun y => if y = l then 5 + 2 * k else tag y) := by
  have ne : ∀ {b}, H0 b = none → b ≠ a := fun n => (h.s0.ne n).symm
  have tk := h.tp k pk ep
  have n0 : H0 l = none := h.st.free nl
  have hk : k < R.length := by rw [← h.lp]; exact (List.getElem?_eq_some_iff.mp ep).1
  have other : ∀ {y : Addr} {o : HO}, H y = some o → (if y = l then 5 + 2 * k else tag y) = tag y := fun {y o} e => if_neg (ne_of_none e nl)
  have gp : ∀ (i : Nat) (p : Addr), ps[i]? = some p → ∃ o, H p = some o := fun i p e1 => by
    have hi := (List.getElem?_eq_some_iff.mp e1).1
    have l1 := h.lp
    have l2 := h.lq
    exact ⟨_, (h.hp i p (qs[i]'(by omega)) (R[i]'(by omega)) e1 (List.getElem?_eq_getElem _) (List.getElem?_eq_getElem _)).1⟩
  have gq : ∀ (i : Nat) (q : Addr), qs[i]? = some q → ∃ o, H q = some o := fun i q e1 => by
    have hi := (List.getElem?_eq_some_iff.mp e1).1
    have l1 := h.lp
    have l2 := h.lq
    exact ⟨_, (h.hp i (ps[i]'(by omega)) q (R[i]'(by omega)) (List.getElem?_eq_getElem _) e1 (List.getElem?_eq_getElem _)).2⟩
  refine ⟨h.s0, s.over h.st (h.np k pk ep), h.nd, h.nlr, h.nlv, h.nlx, h.np, fun i q e1 => ?_, by rw [other h.hd]; exact h.td, by rw [other h.hlr]; exact h.tlr, by rw [other h.hlv]; exact h.tlv, by rw [other h.hlx]; exact h.tlx, fun i p e1 => ?_, fun i q e1 => ?_, s.k _ _ (ne h.nd) (tag_ne h.td tk (by omega)) h.hd, h.kr, h.kk, h.kv, h.kx, s.k _ _ (ne h.nlr) (tag_ne h.tlr tk (by omega)) h.hlr, s.k _ _ (ne h.nlv) (tag_ne h.tlv tk (by omega)) h.hlv, s.k _ _ (ne h.nlx) (tag_ne h.tlx tk (by omega)) h.hlx, fun i p q r e1 e2 e3 => ?_, by rw [List.length_set]; exact h.lp, by rw [List.length_set, List.length_set]; exact h.lq, h.nf, h.hf, h.fl⟩
  · rw [List.getElem?_set] at e1
    split at e1
    · split at e1
      · obtain rfl := Option.some.inj e1
        exact n0
      · cases e1
    · exact h.nq i q e1
  · obtain ⟨o, eo⟩ := gp i p e1
    rw [other eo]
    exact h.tp i p e1
  · rw [List.getElem?_set] at e1
    split at e1
    · rename_i z
      subst z
      split at e1
      · obtain rfl := Option.some.inj e1
        exact if_pos rfl
      · cases e1
    · obtain ⟨o, eo⟩ := gq i q e1
      rw [other eo]
      exact h.tq i q e1
  · rw [List.getElem?_set] at e2 e3
    split at e3
    · rename_i z
      subst z
      rw [if_pos rfl, if_pos (by rw [h.lq]; exact hk)] at e2
      obtain rfl := Option.some.inj e3
      obtain rfl := Option.some.inj e2
      rw [ep] at e1
      obtain rfl := Option.some.inj e1
      exact ⟨e, el⟩
    · rename_i z
      rw [if_neg z] at e2
      obtain ⟨g1, g2⟩ := h.hp i p q r e1 e2 e3
      exact ⟨s.k _ _ (ne (h.np i p e1)) (tag_ne (h.tp i p e1) tk (by omega)) g1, s.k _ _ (ne (h.nq i q e2)) (tag_ne (h.tq i q e2) tk (by omega)) g2⟩
/-- one record more -/
theorem Own.push (h : Own K H0 a H d lr lv lx df ps qs kvs kf rs R us fx tag) {p l : Addr} {r : Rc} (s : St2 a lr H H') (n1 : H0 p = none) (n2 : H0 l = none) (np : ∀ y, y = d ∨ y = lr ∨ y = lv ∨ y = lx ∨ y ∈ ps ∨ y ∈ qs → y ≠ p ∧ y ≠ l) (npl : p ≠ l) (e : H' lr = some (.lst (ps.map V.ref ++ [.ref p]))) (ep : H' p = some (.lst [.str r.nm, .bl r.live, .ref l])) (el : H' l = some (.lst r.vals)) :
    Own K H0 a H' d lr lv lx df (ps ++ [p]) (qs ++ [l]) kvs kf rs (R ++ [r]) us fx (fun y => if y = p then 4 + 2 * R.length else if y = l then 5 + 2 * R.length else tag y) := by
  have ne : ∀ {b}, H0 b = none → b ≠ a := fun n => (h.s0.ne n).symm
  have other : ∀ {y : Addr}, y = d ∨ y = lr ∨ y = lv ∨ y = lx ∨ y ∈ ps ∨ y ∈ qs → (if y = p then 4 + 2 * R.length else if y = l then 5 + 2 * R.length else tag y) = tag y := fun hy => by rw [if_neg (np _ hy).1, if_neg (np _ hy).2]
  have l1 := h.lp
  have l2 := h.lq
  refine ⟨h.s0, s.over h.st h.nlr, h.nd, h.nlr, h.nlv, h.nlx, fun i x e1 => ?_, fun i x e1 => ?_, by rw [other (.inl rfl)]; exact h.td, by rw [other (.inr (.inl rfl))]; exact h.tlr, by rw [other (.inr (.inr (.inl rfl)))]; exact h.tlv, by rw [other (.inr (.inr (.inr (.inl rfl))))]; exact h.tlx, fun i x e1 => ?_, fun i x e1 => ?_, s.k _ _ (ne h.nd) (tag_ne h.td h.tlr (by omega)) h.hd, h.kr, h.kk, h.kv, h.kx, by rw [e, List.map_append]; rfl, s.k _ _ (ne h.nlv) (tag_ne h.tlv h.tlr (by omega)) h.hlv, s.k _ _ (ne h.nlx) (tag_ne h.tlx h.tlr (by omega)) h.hlx, fun i x q r' e1 e2 e3 => ?_, by rw [List.length_append, List.length_append, l1]; rfl, by rw [List.length_append, List.length_append, l2]; rfl, h.nf, h.hf, h.fl⟩
  · rcases two_get e1 with ⟨_, e1⟩ | ⟨_, rfl⟩
    · exact h.np i x e1
    · exact n1
  · rcases two_get e1 with ⟨_, e1⟩ | ⟨_, rfl⟩
    · exact h.nq i x e1
    · exact n2
  · rcases two_get e1 with ⟨_, e1⟩ | ⟨li, rfl⟩
    · rw [other (.inr (.inr (.inr (.inr (.inl (List.mem_of_getElem? e1))))))]
      exact h.tp i x e1
    · rw [if_pos rfl, li, l1]
  · rcases two_get e1 with ⟨_, e1⟩ | ⟨li, rfl⟩
    · rw [other (.inr (.inr (.inr (.inr (.inr (List.mem_of_getElem? e1))))))]
      exact h.tq i x e1
    · rw [if_neg npl.symm, if_pos rfl, li, l2]
  · rcases two_get e1 with ⟨i1, e1⟩ | ⟨i1, rfl⟩
    · rcases two_get e2 with ⟨i2, e2⟩ | ⟨i2, _⟩
      · rcases two_get e3 with ⟨i3, e3⟩ | ⟨i3, _⟩
        · obtain ⟨g1, g2⟩ := h.hp i x q r' e1 e2 e3
          exact ⟨s.k _ _ (ne (h.np i x e1)) (tag_ne (h.tp i x e1) h.tlr (by omega)) g1, s.k _ _ (ne (h.nq i q e2)) (tag_ne (h.tq i q e2) h.tlr (by omega)) g2⟩
        · omega
      · omega
    · rcases two_get e2 with ⟨i2, _⟩ | ⟨i2, rfl⟩
      · omega
      · rcases two_get e3 with ⟨i3, _⟩ | ⟨i3, rfl⟩
        · omega
        · exact ⟨ep, el⟩
end
open ZG (Sq ItzG walk_zipG)
open DcS (dc_it)
/-! ### keys: a record that is drawn anew -/
def spRedraw (K : PySem.W.Frag) : Sp := fun vs H Q _ => ∃ (a d p l0 : Addr) (nm : Str) (b0 : Bool) (rs : List Rk) (Rw : Rc → List Rc), vs = [.ref a, .ref d, .ref p] ∧ Src H a ∧ p ≠ a ∧ H p = some (.lst [.str nm, .bl b0, .ref l0]) ∧ WldOk rs ∧ (∃ k ∈ rs, k.1 = nm) ∧
  (∀ r, (Rw r).length ≤ 100) ∧ (∀ (H' : Hp) (b : Bool) (l : Addr) (vals : List V), St2 a p H H' → H l = none → H' p = some (.lst [.str nm, .bl b, .ref l]) → H' l = some (.lst vals) → RunAt K a H' d rs (Rw ⟨nm, b, vals⟩)) ∧
  ∀ (b : Bool) (l : Addr) (vals : List V) (H' : Hp), St2 a p H H' → H l = none → H' p = some (.lst [.str nm, .bl b, .ref l]) → H' l = some (.lst vals) → (b = false → vals = []) → (b = true → vals.length = (flOf rs nm).length) → (∀ k, k < vals.length → DrV (Rw ⟨nm, b, []⟩) ((flOf rs nm).getD k .flag) (vals.getD k .non)) → Q .non H'
section
variable {P : Program} {w : World} {K : PySem.W.Frag} {mg : Str → Option Value} {base : Heap}
theorem ok_l_redraw (T : Txt w K mg) : FnOk P w K mg base CX0 4 T.a_l_redraw T.d_l_redraw p_l_redraw (spRedraw K) := by
  have g_l_pick := ok_l_pick (P := P) (w := w) (base := base) T
  have g_l_drawn_value := ok_l_drawn_value (P := P) (w := w) (K := K) (base := base) T
  refine T.F_l_redraw.ok sc_l_redraw (fun vs H Q E h => ?_) (fun cdv A outer s H vs Q E hr h => ?_)
  · obtain ⟨a, d, p, l0, nm, b0, rs, Rw, rfl, _⟩ := h
    rfl
  obtain ⟨a, d, p, l0, nm, b0, rs, Rw, rfl, hS, pa, hp, wok, ⟨r, mr, er⟩, R100, hold, q⟩ := h
  refine ⟨_, (pss_cons (ps_asg (pe_cmpR op_gt (pe_call g_l_pick (hr.mono (by first | decide | omega)) rfl T.m_l_pick T.F_l_pick.kp T.b_l_pick .nil pass0 (pa_cons (pv 0) (pa_cons pe_int pa_nil))) pe_int (nomark _)) (pg_sub (pv 2) pe_int set_list))
      (pss_cons (ps_asg (pe_lst pa_nil) (pg_sub (pv 2) pe_int set_list))
      (pss_one (ps_if (pt_val (pe_ix ix_list (pv 2) pe_int (fun _ _ => rfl))) (pss_one (ps_asg (pe_lc (own := [("_law_field", 3)]) (g := gName 3) (tt := tYes) rfl sc_l_redraw.nd (pi_tup (pe_dget (hu_of hr) (pe_dget (hu_of hr) (pv 1) pe_str (fun _ _ => rfl)) (pe_ix ix_list (pv 2) pe_int (fun _ _ => rfl)) (fun _ _ => rfl))) (blkOk_by (own := [("_law_field", 3)]) (N := n_l_redraw) (sc := defScope s_l_redraw) (by decide +kernel)) (fun _ _ _ _ _ => (pg_name (i := 3) sc_l_redraw.nd rfl (Or.inl rfl))) (fun _ _ _ _ _ => pts_nil) (fun _ _ _ _ _ => (pe_call g_l_drawn_value (hr.mono (by first | decide | omega)) rfl T.m_l_drawn_value T.F_l_drawn_value.kp T.b_l_drawn_value .nil pass0 (pa_cons (pv 0) (pa_cons (pv 1) (pa_cons (pe_ix (show IxR _ (rIxT K) from ix_tup) (pv 3) pe_int (fun _ _ => rfl)) pa_nil)))))) (pg_sub (pv 2) pe_int set_list))) pss_nil)))), ?_⟩
  have hpne : ∀ {b : Addr} {o : HO} {G : Hp}, G b = some o → G p = none → b ≠ p := fun e n => ne_of_none e n
  refine ⟨_, rfl, a, 4, rfl, hS, by decide, fun pk H1 st1 _ _ => ⟨_, _, rfl, rfl, ?_⟩⟩
  dsimp only
  generalize decide (0 < pk) = b
  refine ⟨_, rfl, p, _, 1, _, rfl, rfl, st1.k _ _ pa hp, rfl, ?_⟩
  generalize eG : upd H1 p _ = H2
  have e1 : H2 p = some (.lst [.str nm, .bl b, .ref l0]) := by rw [← eG]; exact upd_same
  have s1 : St2 a p H H2 := by rw [← eG]; exact (St2.of st1).put pa _
  clear eG
  refine ⟨by show 0 ≤ sizeLine; decide, fun l hl => ⟨_, rfl, p, _, 2, _, rfl, rfl, Same.new hl _ _ _ e1, rfl, ?_⟩⟩
  have npl : l ≠ p := (ne_of_none e1 hl).symm
  have l0H : H l = none := by
    cases e : H l with
    | none => rfl
    | some o =>
      have na : l ≠ a := fun z => by
        obtain ⟨c, m, k, w⟩ := s1.s
        rw [z, w] at hl
        cases hl
      rw [s1.k _ _ na npl e] at hl
      cases hl
  have nla := (hS.ne l0H).symm
  generalize eG : upd _ p _ = H3
  have s2 : St2 a p H H3 := by rw [← eG]; exact (s1.stp (Stp.of_same s1.s (Same.new hl _))).put pa _
  have e2 : H3 p = some (.lst [.str nm, .bl b, .ref l]) := by rw [← eG]; exact upd_same
  have f2 : H3 l = some (.lst []) := by
    rw [← eG, upd_ne npl]
    exact upd_same
  clear eG
  clear e1 s1 hl st1
  refine ⟨_, rfl, p, _, 1, _, rfl, rfl, SqL.of e2, rfl, _, rfl, ?_⟩
  cases b with
  | false =>
    refine iteF ?_
    exact q false l [] H3 s2 l0H e2 f2 (fun _ => rfl) (fun z => by cases z) (fun k hk => by cases hk)
  | true =>
    refine iteT ?_
    have run3 := hold H3 true l [] s2 l0H e2 f2
    obtain ⟨kvs, kf, lr, df, rows, run⟩ := id run3
    obtain ⟨pf, ef, bs, hbs, lbs, hb⟩ := run.fl r mr
    rw [er] at ef
    have efl : flOf rs nm = r.2.map (·.2) := by rw [← er]; exact flOf_mem wok.nd mr
    have lf5 := wok.f _ mr
    have kfo := wok.k _ mr
    refine ⟨_, rfl, d, _, rfl, DGet.at (k := Sum.inr "fields") run.hd run.kk, _, rfl, p, _, 0, _, rfl, rfl, SqL.of e2, rfl, df, _, rfl, DGet.at (k := Sum.inr nm) run.hf ef, pf, rfl, ⟨_, hbs⟩, fun D hD => ?_⟩
    have nD := (s2.s.ne hD).symm
    refine lc_it (walk_tup (xs := bs.map V.ref)) (fun m G => Stp a H3 G ∧ ∃ us : List V, G D = some (.lst us) ∧ us.length = m ∧ ∀ (k : Nat) (u : V) (f : Str × Kd), us[k]? = some u → r.2[k]? = some f → DrV (Rw ⟨nm, true, []⟩) f.2 u) ⟨Stp.of_same s2.s (Same.new hD _), [], upd_same, rfl, fun k u f e => by simp at e⟩ (fun i G _ P => P.1.rd hbs s2.s) ?_ ?_
    · rintro m u G G' hm ⟨sG, us, eD, lus, hus⟩ ⟨rfl, ex⟩
      rw [List.length_map] at hm
      have eb : bs[m]? = some bs[m] := List.getElem?_eq_getElem hm
      have hm2 : m < r.2.length := by omega
      have efm : r.2[m]? = some r.2[m] := List.getElem?_eq_getElem hm2
      obtain ⟨kv, g1, g2⟩ := hb m _ _ eb efm
      have kok := kfo _ (List.getElem_mem hm2)
      rw [map_get eb] at ex
      obtain rfl := Option.some.inj ex
      generalize r.2[m] = fm at efm g1 g2 kok
      refine ⟨rfl, tyes ?_⟩
      refine ⟨_, rfl, _, rfl, _, rfl, bs[m], _, 1, _, rfl, rfl, sG.rd g1 s2.s, rfl, a, d, kv, fm.2, rs, _, rfl, sG.s, RunAt.stp sG s2.s run3, g2.keep (sG.keepT s2.s), kok, R100 _, fun u G2 s3 hu => ?_⟩
      refine ⟨_, s3.k _ _ nD eD, lt_line (by omega), (sG.trans s3).put s2.s hD, us ++ [u], upd_same, by rw [List.length_append, lus]; rfl, fun k u' f' e1 e2 => ?_⟩
      rcases two_get e1 with ⟨l1, e1⟩ | ⟨l1, rfl⟩
      · exact hus k u' f' e1 e2
      · rw [l1, lus, efm] at e2
        obtain rfl := Option.some.inj e2
        exact hu
    rintro G ⟨sG, us, eD, lus, hus⟩
    rw [List.length_map, lbs] at lus
    have eP := sG.k _ _ pa e2
    have npD : D ≠ p := (ne_of_none e2 hD).symm
    refine ⟨_, rfl, p, _, 2, _, rfl, rfl, eP, rfl, ?_⟩
    generalize eG : upd _ p _ = G2
    have hDH : H D = none := by
      cases e : H D with
      | none => rfl
      | some o =>
        rw [s2.k _ _ nD npD e] at hD
        cases hD
    refine q true D us G2 ?_ hDH (by rw [← eG]; exact upd_same) (by rw [← eG, upd_ne npD]; exact eD) (fun z => by cases z) (fun _ => by rw [efl, List.length_map]; exact lus) fun k hk => ?_
    · rw [← eG]
      exact (s2.stp sG).put pa _
    · have e1 := List.getElem?_eq_getElem hk
      have hk2 : k < r.2.length := by omega
      have e3 := List.getElem?_eq_getElem hk2
      have g := hus k _ _ e1 e3
      rw [efl, getD_get (by rw [List.getElem?_map, e3]; rfl), getD_get e1]
      exact g
end
open ZG (Sq ItzG walk_zipG)
open DcS (dc_it)
/-! ### keys: a copy of a run -/
def rListOf (K : PySem.W.Frag) : List V → Hp → VK → Prop := fun xs H Q => ∃ p ys, xs = [.ref p] ∧ (SqL K H p ys ∨ SqT K H p ys) ∧ ∀ l, H l = none → Q (.ref l) (upd H l (.lst ys))
theorem Same.free {p : Addr} {H H' : Hp} (x : Same H H') (n : H' p = none) : H p = none := by
  cases q : H p with
  | none => rfl
  | some o =>
    rw [x _ _ q] at n
    cases n
structure RowsO (F : Hp) (G : Hp) (ps qs : List Addr) (R : List Rc) (tag : Addr → Nat) (m : Nat) : Prop where
  lp : ps.length = m
  lq : qs.length = m
  np : ∀ (i : Nat) (p : Addr), ps[i]? = some p → F p = none ∧ tag p = 4 + 2 * i
  nq : ∀ (i : Nat) (q : Addr), qs[i]? = some q → F q = none ∧ tag q = 5 + 2 * i
  hp : ∀ (i : Nat) (p q : Addr) (r : Rc), ps[i]? = some p → qs[i]? = some q → R[i]? = some r → G p = some (.lst [.str r.nm, .bl r.live, .ref q]) ∧ G q = some (.lst r.vals)
def spCopy (K : PySem.W.Frag) : Sp := fun vs H Q _ => ∃ (a d : Addr) (rs : List Rk) (R : List Rc) (us : List V) (fx : List Nat), vs = [.ref d] ∧ Src H a ∧ RunAt K a H d rs R ∧ RunV H d us fx ∧ R.length ≤ 100 ∧
  ∀ d' lr lv lx df ps qs kvs kf tag H', Same H H' → Own K H a H' d' lr lv lx df ps qs kvs kf rs R us fx tag → Q (.ref d') H'
theorem lv_put {kvs : List (Key × V)} {k k' : Str} {v : V} (h : k' ≠ k) : valV (putK kvs (Sum.inr k) v) (Sum.inr k') = valV kvs (Sum.inr k') := by
  rw [valV_put, if_neg (fun z => h (Sum.inr.inj z))]
section
variable {P : Program} {w : World} {K : PySem.W.Frag} {mg : Str → Option Value} {base : Heap}
theorem ok_l_copy (T : Txt w K mg) : FnOk P w K mg base CX0 1 T.a_l_copy T.d_l_copy p_l_copy (spCopy K) := by
  refine T.F_l_copy.ok sc_l_copy (fun vs H Q E h => ?_) (fun cdv A outer s H vs Q E hr h => ?_)
  · obtain ⟨a, d, rs, R, us, fx, rfl, _⟩ := h
    rfl
  obtain ⟨a, d, rs, R, us, fx, rfl, hS, hrun, hv, R100, q⟩ := h
  refine ⟨_, (pss_cons (ps_set (i := 1) sc_l_copy.nd rfl (Or.inl rfl) (pe_disp (pps_cons pe_str (pe_lc (own := [("_law_row", 2)]) (g := gName 2) (tt := tYes) rfl sc_l_copy.nd (pi_list (pe_dget (hu_of hr) (pv 0) pe_str (fun _ _ => rfl))) (blkOk_by (own := [("_law_row", 2)]) (N := n_l_copy) (sc := defScope s_l_copy) (by decide +kernel)) (fun _ _ _ _ _ => (pg_name (i := 2) sc_l_copy.nd rfl (Or.inl rfl))) (fun _ _ _ _ _ => pts_nil) (fun _ _ _ _ _ => (pe_lst (pa_cons (pe_ix (show IxR _ (rIxL K) from ix_list) (pv 2) pe_int (fun _ _ => rfl)) (pa_cons (pe_ix (show IxR _ (rIxL K) from ix_list) (pv 2) pe_int (fun _ _ => rfl)) (pa_cons (pe_callTy (show CallR _ _ (rListOf K) from call_list_of) rfl T.z_list bt_list (pa_cons (pe_ix (show IxR _ (rIxL K) from ix_list) (pv 2) pe_int (fun _ _ => rfl)) pa_nil)) pa_nil)))))) (pps_cons pe_str (pe_dget (hu_of hr) (pv 0) pe_str (fun _ _ => rfl)) pps_nil)) (by rfl) (by rfl) (fun z => by cases z) (by decide)))
      (pss_cons (ps_dput (hu_of hr) (pv 1) pe_str (pe_callTy call_list_of rfl T.z_list bt_list (pa_cons (pe_dget (hu_of hr) (pv 0) pe_str (fun _ _ => rfl)) pa_nil)) rfl)
      (pss_cons (ps_dput (hu_of hr) (pv 1) pe_str (pe_callTy call_list_of rfl T.z_list bt_list (pa_cons (pe_dget (hu_of hr) (pv 0) pe_str (fun _ _ => rfl)) pa_nil)) rfl)
      (pss_one (ps_ret (pv 1)))))), ?_⟩
  obtain ⟨kv0, kf, lr0, df, rows, run⟩ := id hrun
  obtain ⟨kv1, lv0, lx0, hd1, evl, efx, hlv, hlx⟩ := hv
  refine fun d' hd' => ?_
  have sF := Same.new hd' (.dK [])
  have eF : (upd H d' (.dK [])) d' = some (.dK []) := upd_same
  generalize (upd H d' (.dK [])) = F at sF eF
  refine ⟨_, rfl, d, _, rfl, DGet.at (k := Sum.inr "records") (sF _ _ run.hd) run.kr, lr0, rfl, ⟨_, SqL.of (sF _ _ run.hl)⟩, fun D hD => ?_⟩
  have nDd : D ≠ d' := (ne_of_none eF hD).symm
  refine lc_it (walk_list (xs := rows)) (fun m G => Same F G ∧ ∃ ps qs tag, G D = some (.lst (ps.map V.ref)) ∧ tag d' = 0 ∧ tag D = 1 ∧ RowsO F G ps qs R tag m) ⟨Same.new hD _, [], [], fun y => if y = d' then 0 else 1, upd_same, if_pos rfl, if_neg nDd, rfl, rfl, fun i p e => (by simp at e), fun i p e => (by simp at e), fun i p q r e => by simp at e⟩ (fun i G _ P => SqL.of (P.1 _ _ (sF _ _ run.hl))) ?_ ?_
  · rintro m u G G' hm ⟨sG, ps, qs, tag, eD, td, tD, ro⟩ ⟨rfl, ex⟩
    have hmR : m < R.length := by rw [← run.lr]; exact hm
    have er : R[m]? = some R[m] := List.getElem?_eq_getElem hmR
    obtain ⟨p0, l0, rfl, n1, n2, h1, h2⟩ := run.rw m _ _ ex er
    have h1G := sG _ _ (sF _ _ h1)
    have h2G := sG _ _ (sF _ _ h2)
    generalize R[m] = r at er h1 h2 h1G h2G
    refine ⟨rfl, tyes ?_⟩
    refine ⟨_, rfl, p0, _, 0, _, rfl, rfl, SqL.of h1G, rfl, _, rfl, p0, _, 1, _, rfl, rfl, SqL.of h1G, rfl, _, rfl, p0, _, 2, _, rfl, rfl, SqL.of h1G, rfl, l0, _, rfl, .inl (SqL.of h2G), fun q1 hq1 => ⟨by show 3 ≤ sizeLine; decide, fun p1 hp1 => ?_⟩⟩
    have k1 := Same.new hq1 (.lst r.vals)
    have k2 := Same.new hp1 (.lst [.str r.nm, .bl r.live, .ref q1])
    have epq : (upd G' q1 (.lst r.vals)) q1 = some (.lst r.vals) := upd_same
    have npq : q1 ≠ p1 := ne_of_none epq hp1
    have eP : (upd (upd G' q1 (.lst r.vals)) p1 (.lst [.str r.nm, .bl r.live, .ref q1])) p1 = some (.lst [.str r.nm, .bl r.live, .ref q1]) := upd_same
    have eQ : (upd (upd G' q1 (.lst r.vals)) p1 (.lst [.str r.nm, .bl r.live, .ref q1])) q1 = some (.lst r.vals) := k2 _ _ epq
    have hp1' : G' p1 = none := k1.free hp1
    have s2 := k1.trans k2
    generalize (upd (upd G' q1 (.lst r.vals)) p1 (.lst [.str r.nm, .bl r.live, .ref q1])) = G2 at eP eQ s2
    clear k1 k2 epq hp1
    have e2D := s2 _ _ eD
    have eFG := sG _ _ eF
    have nDq : D ≠ q1 := ne_of_none eD hq1
    have nDp : D ≠ p1 := ne_of_none eD hp1'
    have ndq : d' ≠ q1 := ne_of_none eFG hq1
    have ndp : d' ≠ p1 := ne_of_none eFG hp1'
    have old : ∀ {y : Addr} {o : HO}, G' y = some o → (if y = p1 then 4 + 2 * m else if y = q1 then 5 + 2 * m else tag y) = tag y := fun {y o} e => by rw [if_neg (ne_of_none e hp1'), if_neg (ne_of_none e hq1)]
    have lpm := ro.lp
    have lqm := ro.lq
    have up : ∀ {y : Addr} {o : HO}, y ≠ D → G2 y = some o → (upd G2 D (.lst (ps.map V.ref ++ [.ref p1]))) y = some o := fun n e => by rw [upd_ne n]; exact e
    have at2 : ∀ (i : Nat) (p q : Addr), ps[i]? = some p → qs[i]? = some q → ∃ r', R[i]? = some r' := fun i p q e1 e2 => ⟨R[i]'(by have := (List.getElem?_eq_some_iff.mp e1).1; omega), List.getElem?_eq_getElem _⟩
    refine ⟨_, e2D, lt_line (by rw [List.length_map]; omega), fun b o e => by rw [upd_ne (ne_of_none e hD)]; exact s2 _ _ (sG _ _ e), ps ++ [p1], qs ++ [q1], fun y => if y = p1 then 4 + 2 * m else if y = q1 then 5 + 2 * m else tag y, by rw [upd_same, List.map_append]; rfl, (old eFG).trans td, (old eD).trans tD, ⟨by rw [List.length_append, lpm]; rfl, by rw [List.length_append, lqm]; rfl, fun i p e1 => ?_, fun i p e1 => ?_, fun i p q r' e1 e2 e3 => ?_⟩⟩
    · rcases two_get e1 with ⟨i1, e1⟩ | ⟨i1, rfl⟩
      · obtain ⟨g1, g2⟩ := ro.np i p e1
        obtain ⟨r', er'⟩ : ∃ r', R[i]? = some r' := ⟨R[i]'(by omega), List.getElem?_eq_getElem _⟩
        have eq2 : qs[i]? = some (qs[i]'(by omega)) := List.getElem?_eq_getElem _
        exact ⟨g1, by rw [old (ro.hp i p _ r' e1 eq2 er').1]; exact g2⟩
      · exact ⟨sG.free hp1', by rw [if_pos rfl, i1, lpm]⟩
    · rcases two_get e1 with ⟨i1, e1⟩ | ⟨i1, rfl⟩
      · obtain ⟨g1, g2⟩ := ro.nq i p e1
        obtain ⟨r', er'⟩ : ∃ r', R[i]? = some r' := ⟨R[i]'(by omega), List.getElem?_eq_getElem _⟩
        have ep2 : ps[i]? = some (ps[i]'(by omega)) := List.getElem?_eq_getElem _
        exact ⟨g1, by rw [old (ro.hp i _ p r' ep2 e1 er').2]; exact g2⟩
      · exact ⟨sG.free hq1, by rw [if_neg npq, if_pos rfl, i1, lqm]⟩
    · rcases two_get e1 with ⟨i1, e1⟩ | ⟨i1, rfl⟩
      · rcases two_get e2 with ⟨i2, e2⟩ | ⟨i2, _⟩
        · obtain ⟨g1, g2⟩ := ro.hp i p q r' e1 e2 e3
          exact ⟨up (tag_ne (ro.np i p e1).2 tD (by omega)) (s2 _ _ g1), up (tag_ne (ro.nq i q e2).2 tD (by omega)) (s2 _ _ g2)⟩
        · omega
      · rcases two_get e2 with ⟨i2, _⟩ | ⟨i2, rfl⟩
        · omega
        · rw [i1, lpm, er] at e3
          obtain rfl := Option.some.inj e3
          exact ⟨up nDp.symm eP, up nDq.symm eQ⟩
  rintro G ⟨sG, ps, qs, tag, eD, td, tD, ro⟩
  have hdG := sG _ _ (sF _ _ run.hd)
  refine ⟨_, rfl, d, _, rfl, DGet.at (k := Sum.inr "fields") hdG run.kk, sG _ _ eF, [(Sum.inr "records", .ref D), (Sum.inr "fields", .ref df)], rfl, by show 2 ≤ 15; decide, ?_⟩
  rw [kvR_mk]
  have sHG := sF.trans sG
  have nd0 : H d' = none := hd'
  have ndf : df ≠ d' := ne_of_none run.hf hd'
  have nd1 : d ≠ d' := ne_of_none run.hd hd'
  have S1 : Same H (upd G d' (.dK (kvR D df))) := fun b o e => by rw [upd_ne (ne_of_none e hd')]; exact sHG _ _ e
  have e1 : (upd G d' (.dK (kvR D df))) d' = some (.dK (kvR D df)) := upd_same
  have D1 : (upd G d' (.dK (kvR D df))) D = some (.lst (ps.map V.ref)) := by rw [upd_ne nDd]; exact eD
  have keep1 : ∀ b o, b ≠ d' → G b = some o → (upd G d' (.dK (kvR D df))) b = some o := fun b o n e => by rw [upd_ne n]; exact e
  generalize (upd G d' (.dK (kvR D df))) = G1 at S1 e1 D1 keep1
  refine ⟨_, rfl, d, _, rfl, DGet.at (k := Sum.inr "values") (S1 _ _ hd1) evl, lv0, _, rfl, .inl (SqL.of (S1 _ _ hlv)), fun lv hlv1 => ?_⟩
  have ndv : d' ≠ lv := ne_of_none e1 hlv1
  have nDv : D ≠ lv := ne_of_none D1 hlv1
  refine ⟨_, rfl, d', _, rfl, DPut.k (k := Sum.inr "values") (by rw [upd_ne ndv]; exact e1) (by show 2 < sizeLine; decide), ?_⟩
  obtain ⟨kv2, ek2⟩ : ∃ kv2, kv2 = putK (kvR D df) (Sum.inr "values") (.ref lv) := ⟨_, rfl⟩
  have l2 : kv2.length ≤ 3 := by rw [ek2]; exact length_putK _ _ _
  have v2r : valV kv2 (Sum.inr "records") = some (.ref D) := by rw [ek2, lv_put (by decide)]; exact kvR_rec
  have v2f : valV kv2 (Sum.inr "fields") = some (.ref df) := by rw [ek2, lv_put (by decide)]; exact kvR_fld
  have v2v : valV kv2 (Sum.inr "values") = some (.ref lv) := by rw [ek2, valV_put, if_pos rfl]
  rw [← ek2]
  have hlvH : H lv = none := S1.free hlv1
  have S2 : Same H (upd (upd G1 lv (.lst us)) d' (.dK kv2)) := fun b o e => by rw [upd_ne (ne_of_none e hd'), upd_ne (ne_of_none e hlvH)]; exact S1 _ _ e
  have e2 : (upd (upd G1 lv (.lst us)) d' (.dK kv2)) d' = some (.dK kv2) := upd_same
  have D2 : (upd (upd G1 lv (.lst us)) d' (.dK kv2)) D = some (.lst (ps.map V.ref)) := by rw [upd_ne nDd, upd_ne nDv]; exact D1
  have V2 : (upd (upd G1 lv (.lst us)) d' (.dK kv2)) lv = some (.lst us) := by rw [upd_ne ndv.symm]; exact upd_same
  have keep2 : ∀ b o, b ≠ d' → G1 b = some o → (upd (upd G1 lv (.lst us)) d' (.dK kv2)) b = some o := fun b o n e => by rw [upd_ne n, upd_ne (ne_of_none e hlv1)]; exact e
  generalize (upd (upd G1 lv (.lst us)) d' (.dK kv2)) = G2 at S2 e2 D2 V2 keep2
  refine ⟨_, rfl, d, _, rfl, DGet.at (k := Sum.inr "fixed") (S2 _ _ hd1) efx, lx0, _, rfl, .inl (SqL.of (S2 _ _ hlx)), fun lx hlx1 => ?_⟩
  have ndx : d' ≠ lx := ne_of_none e2 hlx1
  have nDx : D ≠ lx := ne_of_none D2 hlx1
  have nvx : lv ≠ lx := ne_of_none V2 hlx1
  refine ⟨_, rfl, d', _, rfl, DPut.k (k := Sum.inr "fixed") (by rw [upd_ne ndx]; exact e2) (Nat.lt_of_le_of_lt l2 (by decide)), ?_⟩
  obtain ⟨kv3, ek3⟩ : ∃ kv3, kv3 = putK kv2 (Sum.inr "fixed") (.ref lx) := ⟨_, rfl⟩
  have v3r : valV kv3 (Sum.inr "records") = some (.ref D) := by rw [ek3, lv_put (by decide)]; exact v2r
  have v3f : valV kv3 (Sum.inr "fields") = some (.ref df) := by rw [ek3, lv_put (by decide)]; exact v2f
  have v3v : valV kv3 (Sum.inr "values") = some (.ref lv) := by rw [ek3, lv_put (by decide)]; exact v2v
  have v3x : valV kv3 (Sum.inr "fixed") = some (.ref lx) := by rw [ek3, valV_put, if_pos rfl]
  rw [← ek3]
  have hlxH : H lx = none := S2.free hlx1
  have S3 : Same H (upd (upd G2 lx (.lst (natsV fx))) d' (.dK kv3)) := fun b o e => by rw [upd_ne (ne_of_none e hd'), upd_ne (ne_of_none e hlxH)]; exact S2 _ _ e
  have e3 : (upd (upd G2 lx (.lst (natsV fx))) d' (.dK kv3)) d' = some (.dK kv3) := upd_same
  have D3 : (upd (upd G2 lx (.lst (natsV fx))) d' (.dK kv3)) D = some (.lst (ps.map V.ref)) := by rw [upd_ne nDd, upd_ne nDx]; exact D2
  have V3 : (upd (upd G2 lx (.lst (natsV fx))) d' (.dK kv3)) lv = some (.lst us) := by rw [upd_ne ndv.symm, upd_ne nvx]; exact V2
  have X3 : (upd (upd G2 lx (.lst (natsV fx))) d' (.dK kv3)) lx = some (.lst (natsV fx)) := by rw [upd_ne ndx.symm]; exact upd_same
  have keep3 : ∀ b o, b ≠ d' → G2 b = some o → (upd (upd G2 lx (.lst (natsV fx))) d' (.dK kv3)) b = some o := fun b o n e => by rw [upd_ne n, upd_ne (ne_of_none e hlx1)]; exact e
  generalize (upd (upd G2 lx (.lst (natsV fx))) d' (.dK kv3)) = G3 at S3 e3 D3 V3 X3 keep3
  have lpR : ps.length = R.length := by rw [ro.lp, ← run.lr]
  have lqR : qs.length = R.length := by rw [ro.lq, ← run.lr]
  -- the rows stay
  have free : ∀ {y : Addr}, F y = none → H y = none ∧ y ≠ d' := fun {y} e => ⟨sF.free e, fun z => by rw [z, eF] at e; cases e⟩
  have kept : ∀ {y : Addr} {o : HO}, y ≠ d' → G y = some o → G1 y = some o ∧ G2 y = some o ∧ G3 y = some o := fun {y o} n e => ⟨keep1 _ _ n e, keep2 _ _ n (keep1 _ _ n e), keep3 _ _ n (keep2 _ _ n (keep1 _ _ n e))⟩
  have other : ∀ {y : Addr} {o : HO}, y ≠ d' → G y = some o → (if y = lv then 2 else if y = lx then 3 else tag y) = tag y := fun {y o} n e => by
    obtain ⟨g1, g2, _⟩ := kept n e
    rw [if_neg (ne_of_none g1 hlv1), if_neg (ne_of_none g2 hlx1)]
  refine ⟨_, rfl, q d' D lv lx df ps qs kv3 kf (fun y => if y = lv then 2 else if y = lx then 3 else tag y) G3 S3 ⟨hS, Stp.of_same hS S3, hd', sF.free hD, hlvH, hlxH, fun i p e => (free (ro.np i p e).1).1, fun i p e => (free (ro.nq i p e).1).1, ?_, (other nDd eD).trans tD, if_pos rfl, ?_, fun i p e => ?_, fun i p e => ?_, e3, v3r, v3f, v3v, v3x, D3, V3, X3, fun i p q r h1 h2 h3 => ?_, lpR, lqR, run.nf, run.hf, run.fl⟩⟩
  · show (if d' = lv then 2 else if d' = lx then 3 else tag d') = 0
    rw [if_neg ndv, if_neg ndx]
    exact td
  · show (if lx = lv then 2 else if lx = lx then 3 else tag lx) = 3
    rw [if_neg nvx.symm, if_pos rfl]
  · obtain ⟨g1, g2⟩ := ro.np i p e
    have hi := (List.getElem?_eq_some_iff.mp e).1
    exact (other (free g1).2 (ro.hp i p (qs[i]'(by omega)) (R[i]'(by omega)) e (List.getElem?_eq_getElem _) (List.getElem?_eq_getElem _)).1).trans g2
  · obtain ⟨g1, g2⟩ := ro.nq i p e
    have hi := (List.getElem?_eq_some_iff.mp e).1
    exact (other (free g1).2 (ro.hp i (ps[i]'(by omega)) p (R[i]'(by omega)) (List.getElem?_eq_getElem _) e (List.getElem?_eq_getElem _)).2).trans g2
  · obtain ⟨g1, g2⟩ := ro.hp i p q r h1 h2 h3
    exact ⟨(kept (free (ro.np i p h1).1).2 g1).2.2, (kept (free (ro.nq i q h2).1).2 g2).2.2⟩
end
open ZG (Sq ItzG walk_zipG)
open DcS (dc_it)
/-! ### keys: what a written run keeps -/
def Nms (R R' : List Rc) : Prop := ∀ (j : Nat) (r : Rc), R[j]? = some r → ∃ r', R'[j]? = some r' ∧ r'.nm = r.nm
theorem Nms.set {R : List Rc} {k : Nat} {rk r : Rc} (e : R[k]? = some rk) (n : r.nm = rk.nm) : Nms R (R.set k r) := fun j r' h => by
  rw [List.getElem?_set]
  by_cases z : k = j
  · subst z
    rw [if_pos rfl, if_pos (List.getElem?_eq_some_iff.mp e).1]
    rw [e] at h
    obtain rfl := Option.some.inj h
    exact ⟨r, rfl, n⟩
  · rw [if_neg z]
    exact ⟨r', h, rfl⟩
theorem Nms.set2 {R : List Rc} {k : Nat} {r r' : Rc} (n : r'.nm = r.nm) : Nms (R.set k r) (R.set k r') := fun j q h => by
  rw [List.getElem?_set] at h ⊢
  by_cases z : k = j
  · rw [if_pos z] at h ⊢
    split at h
    · rename_i l
      obtain rfl := Option.some.inj h
      rw [if_pos l]
      exact ⟨r', rfl, n⟩
    · cases h
  · rw [if_neg z] at h ⊢
    exact ⟨q, h, rfl⟩
theorem Nms.push {R : List Rc} {r : Rc} : Nms R (R ++ [r]) := fun j r' h => ⟨r', by rw [List.getElem?_append_left (List.getElem?_eq_some_iff.mp h).1]; exact h, rfl⟩
theorem RcG.up2 {rs : List Rk} {R R' : List Rc} {r : Rc} (n : Nms R R') (h : RcG rs R r) : RcG rs R' r :=
  ⟨h.m, h.l, h.d, fun k s hk hs => (h.v k s hk hs).imp_right fun ⟨j, r', e1, e2, e3⟩ => by
    obtain ⟨r'', g1, g2⟩ := n j r' e2
    exact ⟨j, r'', e1, g1, by rw [g2, e3]⟩, h.f, h.t⟩
theorem HpG.set {rs : List Rk} {R : List Rc} {k : Nat} {rk r : Rc} (h : HpG rs R) (e : R[k]? = some rk) (n : r.nm = rk.nm) (g : RcG rs (R.set k r) r) : HpG rs (R.set k r) :=
  ⟨fun r' hr => by
    rcases List.mem_or_eq_of_mem_set hr with hr | rfl
    · exact (h.rc r' hr).up2 (Nms.set e n)
    · exact g, by rw [List.length_set]; exact h.ln⟩
theorem HpG.push {rs : List Rk} {R : List Rc} {r : Rc} (h : HpG rs R) (g : RcG rs R r) (l : R.length + 1 ≤ 100) : HpG rs (R ++ [r]) :=
  ⟨fun r' hr => by
    rcases List.mem_append.mp hr with hr | hr
    · exact (h.rc r' hr).up2 Nms.push
    · rw [List.mem_singleton.mp hr]
      exact g.up2 Nms.push, by rw [List.length_append]; exact l⟩
theorem RcG.draw {rs : List Rk} {R R' : List Rc} {nm : Str} {b : Bool} {vals : List V} (m : ∃ k ∈ rs, k.1 = nm) (d : b = false → vals = []) (l : b = true → vals.length = (flOf rs nm).length) (v : ∀ k, k < vals.length → DrV R ((flOf rs nm).getD k .flag) (vals.getD k .non)) (n : Nms R R') : RcG rs R' ⟨nm, b, vals⟩ := by
  refine ⟨m, l, d, fun k s hk hs => ?_, fun u hu => ?_, fun k hk => (v k hk).ty⟩
  · have g := v k hk
    have hs : (flOf rs nm).getD k .flag = .ref s := hs
    rw [hs] at g
    rcases g with g | ⟨j, r', g1, g2, g3⟩
    · exact .inl g
    · obtain ⟨r'', w1, w2⟩ := n j r' g2
      exact .inr ⟨j, r'', g1, w1, by rw [w2, g3]⟩
  · obtain ⟨k, hk, rfl⟩ := List.getElem_of_mem hu
    have g := (v k hk).flat
    rw [getD_get (List.getElem?_eq_getElem hk)] at g
    exact g
theorem RefV.mono {m n : Nat} {v : V} (l : m ≤ n) (h : RefV m v) : RefV n v := h.imp_right fun ⟨j, e, hj⟩ => ⟨j, e, by omega⟩
theorem SideT.heap {rs : List Rk} {R R' : List Rc} {ks : List Kd} {us : List V} {fx : List Nat} (s : SideT rs R ks us fx) (g : HpG rs R') (l : R.length ≤ R'.length) : SideT rs R' ks us fx :=
  ⟨s.w, g, ⟨s.vs.l, fun k hk hr => (s.vs.v k hk hr).mono l, s.vs.f, s.vs.k⟩, s.ty, s.nd, fun i hi => by have := s.fl i hi; omega⟩
theorem SideT.fix {rs : List Rk} {R : List Rc} {ks : List Kd} {us : List V} {fx fx' : List Nat} (s : SideT rs R ks us fx) (nd : fx'.Nodup) (fl : ∀ i ∈ fx', i < R.length) : SideT rs R ks us fx' := ⟨s.w, s.g, s.vs, s.ty, nd, fl⟩
theorem set_getD {us : List V} {k j : Nat} {u : V} (h : j < us.length) : (us.set k u).getD j .non = if k = j then u else us.getD j .non := by
  rw [List.getD_eq_getElem?_getD, List.getElem?_set, List.getD_eq_getElem?_getD]
  split
  · rename_i z
    subst z
    rw [if_pos h]
    rfl
  · rfl
theorem SideT.val {rs : List Rk} {R : List Rc} {ks : List Kd} {us : List V} {fx : List Nat} {k : Nat} {u : V} (s : SideT rs R ks us fx) (h : DrV R (ks.getD k .flag) u) : SideT rs R ks (us.set k u) fx := by
  refine ⟨s.w, s.g, ⟨by rw [List.length_set]; exact s.vs.l, fun j hj hr => ?_, fun v hv => ?_, s.vs.k⟩, fun j hj => ?_, s.nd, s.fl⟩
  · rw [List.length_set] at hj
    rw [set_getD hj]
    split
    · rename_i z
      subst z
      obtain ⟨n, en⟩ := isRef_eq hr
      rw [en] at h
      rcases h with h | ⟨i, r, h1, h2, _⟩
      · exact .inl h
      · exact .inr ⟨i, h1, (List.getElem?_eq_some_iff.mp h2).1⟩
    · exact s.vs.v j hj hr
  · rcases List.mem_or_eq_of_mem_set hv with hv | rfl
    · exact s.vs.f v hv
    · exact h.flat
  · rw [List.length_set] at hj
    rw [set_getD hj]
    split
    · rename_i z
      subst z
      exact h.ty
    · exact s.ty j hj
/-- a run's values as they are drawn -/
theorem SideT.of {rs : List Rk} {R : List Rc} {ks : List Kd} {us : List V} {fx : List Nat} (w : WldOk rs) (g : HpG rs R) (l : us.length = ks.length) (k : ks.length ≤ 100) (h : ∀ (k : Nat) (u : V) (kd : Kd), us[k]? = some u → ks[k]? = some kd → DrV R kd u) (nd : fx.Nodup) (fl : ∀ i ∈ fx, i < R.length) : SideT rs R ks us fx := by
  have h2 : ∀ k, k < us.length → DrV R (ks.getD k .flag) (us.getD k .non) := fun k hk => by
    have e1 := List.getElem?_eq_getElem hk
    have e2 : ks[k]? = some (ks[k]'(by omega)) := List.getElem?_eq_getElem _
    rw [getD_get e1, getD_get e2]
    exact h k _ _ e1 e2
  refine ⟨w, g, ⟨l, fun k hk hr => ?_, fun v hv => ?_, k⟩, fun k hk => (h2 k hk).ty, nd, fl⟩
  · have g := h2 k hk
    obtain ⟨n, en⟩ := isRef_eq hr
    rw [en] at g
    rcases g with g | ⟨i, r, h1, h2, _⟩
    · exact .inl g
    · exact .inr ⟨i, h1, (List.getElem?_eq_some_iff.mp h2).1⟩
  · obtain ⟨k, hk, rfl⟩ := List.getElem_of_mem hv
    have g := (h2 k hk).flat
    rw [getD_get (List.getElem?_eq_getElem hk)] at g
    exact g
/-- other numbers for all -/
theorem SideT.mov {rs : List Rk} {R : List Rc} {ks : List Kd} {us : List V} {fx o : List Nat} (s : SideT rs R ks us fx) (pm : o.Perm (List.range R.length)) : SideT rs (movR rs R o) ks (trL ks us o) (fx.map fun i => o.idxOf i) := by
  have mo : ∀ k, k ∈ o ↔ k < R.length := fun k => by rw [pm.mem_iff, List.mem_range]
  have lm : (movR rs R o).length = R.length := by unfold movR; rw [List.length_map, pm.length_eq, List.length_range]
  have lo : o.length = R.length := by rw [pm.length_eq, List.length_range]
  refine ⟨s.w, s.g.mov pm, ⟨by rw [trL_len]; exact s.vs.l, fun k hk hr => ?_, trL_flat s.vs.f, s.vs.k⟩, fun k hk => ?_, ?_, fun i hi => ?_⟩
  · rw [trL_len] at hk
    rw [trL_getD hk, if_pos hr]
    rcases s.vs.v k hk hr with h | ⟨j, h, hj⟩
    · rw [h]
      exact .inl rfl
    · rw [h]
      exact .inr ⟨o.idxOf j, rfl, by rw [lm, ← lo]; exact List.idxOf_lt_length_iff.mpr ((mo j).mpr hj)⟩
  · rw [trL_len] at hk
    rw [trL_getD hk]
    have t := s.ty k hk
    cases z : ks.getD k .flag with
    | flag => rw [z] at t; exact t
    | num a b => rw [z] at t; exact t
    | ref n =>
      rw [z] at t
      rw [if_pos (show (Kd.ref n).isRef = true from rfl)]
      rcases t with t | ⟨j, t⟩
      · rw [t]
        exact .inl rfl
      · rw [t]
        exact .inr ⟨_, rfl⟩
  · have inj : ∀ l : List Nat, l.Nodup → (∀ i ∈ l, i ∈ o) → (l.map fun i => o.idxOf i).Nodup := by
      intro l
      induction l with
      | nil => exact fun _ _ => List.nodup_nil
      | cons i l ih =>
        intro n h
        rw [List.map_cons]
        refine List.nodup_cons.mpr ⟨fun m => ?_, ih (List.nodup_cons.mp n).2 fun j hj => h j (List.mem_cons_of_mem _ hj)⟩
        obtain ⟨j, hj, e⟩ := List.mem_map.mp m
        have e := congrArg (fun k => o.getD k 0) e
        simp only [getD_idx (h j (List.mem_cons_of_mem _ hj)), getD_idx (h i List.mem_cons_self)] at e
        subst e
        exact (List.nodup_cons.mp n).1 hj
    exact inj fx s.nd fun i hi => (mo i).mpr (s.fl i hi)
  · obtain ⟨j, hj, rfl⟩ := List.mem_map.mp hi
    rw [lm, ← lo]
    exact List.idxOf_lt_length_iff.mpr ((mo j).mpr (s.fl j hj))
/-- a run's dict gets another key -/
theorem RunE.dict {K : PySem.W.Frag} {a : Addr} {H : Hp} {d : Addr} {rs : List Rk} {R : List Rc} {kvs kvs' kf : List (Key × V)} {l df : Addr} {vs : List V} (h : RunE K a H d rs R kvs kf l df vs) (nf : df ≠ d) (e1 : valV kvs' (Sum.inr "records") = some (.ref l)) (e2 : valV kvs' (Sum.inr "fields") = some (.ref df)) : RunE K a (upd H d (.dK kvs')) d rs R kvs' kf l df vs := by
  have ne : ∀ {b : Addr} {xs : List V}, H b = some (.lst xs) → b ≠ d := fun e z => by
    rw [z, h.hd] at e
    cases e
  refine ⟨h.nd, h.nl, h.nf, upd_same, e1, e2, by rw [upd_ne (ne h.hl)]; exact h.hl, h.lr, fun i v r q1 q2 => ?_, by rw [upd_ne nf]; exact h.hf, h.fl.keep fun p xs hp => ?_⟩
  · obtain ⟨p, q, e, n1, n2, g1, g2⟩ := h.rw i v r q1 q2
    exact ⟨p, q, e, n1, n2, by rw [upd_ne (ne g1)]; exact g1, by rw [upd_ne (ne g2)]; exact g2⟩
  · have nt : ∀ {w : HO}, H p = some w → (∀ ys, w ≠ .dK ys) → p ≠ d := fun e n z => by
      rw [z, h.hd] at e
      exact n _ (Option.some.inj e).symm
    rcases hp with (q | ⟨o', q⟩) | q
    · exact .inl (.inl (by rw [upd_ne (nt q (fun _ z => nomatch z))]; exact q))
    · exact .inl (.inr ⟨o', by rw [upd_ne (nt q (fun _ z => nomatch z))]; exact q⟩)
    · exact .inr q
/-- one of one's own records is drawn anew -/
theorem own_redraw {K : PySem.W.Frag} {H0 H : Hp} {a d lr lv lx df p : Addr} {ps qs : List Addr} {kvs kf : List (Key × V)} {rs : List Rk} {R : List Rc} {us : List V} {fx : List Nat} {tag : Addr → Nat} {ks : List Kd} {k : Nat} {rk : Rc}
    (h : Own K H0 a H d lr lv lx df ps qs kvs kf rs R us fx tag) (ep : ps[k]? = some p) (er : R[k]? = some rk) (m : ∃ c ∈ rs, c.1 = rk.nm) (R100 : R.length ≤ 100) (sx : ∀ b vals, RcG rs (R.set k ⟨rk.nm, b, vals⟩) ⟨rk.nm, b, vals⟩ → SideT rs (R.set k ⟨rk.nm, b, vals⟩) ks us fx) :
    ∃ l0, Src H a ∧ p ≠ a ∧ H p = some (.lst [.str rk.nm, .bl rk.live, .ref l0]) ∧ (∀ r, (R.set k r).length ≤ 100) ∧ (∀ (H' : Hp) (b : Bool) (l : Addr) (vals : List V), St2 a p H H' → H l = none → H' p = some (.lst [.str rk.nm, .bl b, .ref l]) → H' l = some (.lst vals) → RunAt K a H' d rs (R.set k ⟨rk.nm, b, vals⟩)) ∧
      ∀ (b : Bool) (l : Addr) (vals : List V) (H' : Hp), St2 a p H H' → H l = none → H' p = some (.lst [.str rk.nm, .bl b, .ref l]) → H' l = some (.lst vals) → (b = false → vals = []) → (b = true → vals.length = (flOf rs rk.nm).length) → (∀ i, i < vals.length → DrV (R.set k ⟨rk.nm, b, []⟩) ((flOf rs rk.nm).getD i .flag) (vals.getD i .non)) →
        ∃ qs' R' tag', Own K H0 a H' d lr lv lx df ps qs' kvs kf rs R' us fx tag' ∧ SideT rs R' ks us fx ∧ R'.length = R.length := by
  have hk := (List.getElem?_eq_some_iff.mp er).1
  have eq : qs[k]? = some (qs[k]'(by rw [h.lq]; exact hk)) := List.getElem?_eq_getElem _
  refine ⟨_, h.st.s, (h.s0.ne (h.np k p ep)).symm, (h.hp k p _ rk ep eq er).1, fun r => by rw [List.length_set]; exact R100, fun H' b l vals s nl e1 e2 => (h.setN ep s nl e1 e2).run, fun b l vals H' s nl e1 e2 hd hl hv => ⟨_, _, _, h.setN ep s nl e1 e2, sx b vals (RcG.draw m hd hl hv (Nms.set2 rfl)), by rw [List.length_set]⟩⟩
open ZG (Sq ItzG walk_zipG)
open DcS (dc_it)
/-! ### keys: the first run -/
def spFirst (K : PySem.W.Frag) : Sp := fun vs H Q _ => ∃ (a p kl : Addr) (kxs : List V) (ks : List Kd) (rs : List Rk), vs = [.ref a, .ref p, .ref kl] ∧ Src H a ∧ PgAt K H p rs ∧ WldOk rs ∧ rs ≠ [] ∧ kl ≠ a ∧ H kl = some (.lst kxs) ∧ KdsAt K H kxs ks ∧ ks.length ≤ 12 ∧ (∀ k ∈ ks, KOk k) ∧
  ∀ d R us fx H', Stp a H H' → H d = none → RunAt K a H' d rs R → RunV H' d us fx → SideT rs R ks us fx → R.length ≤ 5 → Q (.ref d) H'
section
variable {P : Program} {w : World} {K : PySem.W.Frag} {mg : Str → Option Value} {base : Heap}
theorem ok_l_first (T : Txt w K mg) : FnOk P w K mg base CX0 5 T.a_l_first T.d_l_first p_l_first (spFirst K) := by
  have g_l_pick := ok_l_pick (P := P) (w := w) (base := base) T
  have g_l_one := ok_l_oneG (P := P) (w := w) (K := K) (base := base) T
  have g_l_heap := ok_l_heap (P := P) (w := w) (K := K) (base := base) T
  have g_l_drawn_value := ok_l_drawn_value (P := P) (w := w) (K := K) (base := base) T
  have g_l_shuffled := ok_l_shuffled (P := P) (w := w) (base := base) T
  refine T.F_l_first.ok sc_l_first (fun vs H Q E h => ?_) (fun cdv A outer s H vs Q E hr h => ?_)
  · obtain ⟨a, p, kl, kxs, ks, rs, rfl, _⟩ := h
    rfl
  obtain ⟨a, p, kl, kxs, ks, rs, rfl, hS, hp, wok, rne, nkl, ekl, hk, lk, kok, q⟩ := h
  refine ⟨_, (pss_cons (ps_set (i := 3) sc_l_first.nd rfl (Or.inl rfl) (pe_call g_l_one (hr.mono (by first | decide | omega)) rfl T.m_l_one T.F_l_one.kp T.b_l_one .nil pass0 (pa_cons (pv 0) (pa_cons (pe_lst (pa_cons pe_int (pa_cons pe_int (pa_cons pe_int (pa_cons pe_int (pa_cons pe_int (pa_cons pe_int (pa_cons pe_int (pa_cons pe_int pa_nil))))))))) pa_nil))))
      (pss_cons (ps_set (i := 4) sc_l_first.nd rfl (Or.inl rfl) pe_int)
      (C8.pss_cut (ps_if (pt_cmpR op_eq (pe_call g_l_pick (hr.mono (by first | decide | omega)) rfl T.m_l_pick T.F_l_pick.kp T.b_l_pick .nil pass0 (pa_cons (pv 0) (pa_cons pe_int pa_nil))) pe_int (nomark _)) (pss_cons (ps_set (i := 3) sc_l_first.nd rfl (Or.inl rfl) (pe_op op_add pe_int (pe_call g_l_pick (hr.mono (by first | decide | omega)) rfl T.m_l_pick T.F_l_pick.kp T.b_l_pick .nil pass0 (pa_cons (pv 0) (pa_cons pe_int pa_nil)))))
      (pss_one (ps_set (i := 4) sc_l_first.nd rfl (Or.inl rfl) pe_int))) pss_nil)
      (pss_cons (ps_set (i := 5) sc_l_first.nd rfl (Or.inr rfl) (pe_call g_l_heap (hr.mono (by first | decide | omega)) rfl T.m_l_heap T.F_l_heap.kp T.b_l_heap .nil pass0 (pa_cons (pv 0) (pa_cons (pv 1) (pa_cons (pv 3) (pa_cons (pv 4) pa_nil))))))
      (pss_cons (ps_dput (hu_of hr) (pv 5) pe_str (pe_lc (own := [("_law_kind", 6)]) (g := gName 6) (tt := tYes) rfl sc_l_first.nd (pi_list (pv 2)) (blkOk_by (own := [("_law_kind", 6)]) (N := n_l_first) (sc := defScope s_l_first) (by decide +kernel)) (fun _ _ _ _ _ => (pg_name (i := 6) sc_l_first.nd rfl (Or.inl rfl))) (fun _ _ _ _ _ => pts_nil) (fun _ _ _ _ _ => (pe_call g_l_drawn_value (hr.mono (by first | decide | omega)) rfl T.m_l_drawn_value T.F_l_drawn_value.kp T.b_l_drawn_value .nil pass0 (pa_cons (pv 0) (pa_cons (pv 5) (pa_cons (pv 6) pa_nil)))))) rfl)
      (pss_cons (ps_dput (hu_of hr) (pv 5) pe_str (pe_slice sl_list (pe_call g_l_shuffled (hr.mono (by first | decide | omega)) rfl T.m_l_shuffled T.F_l_shuffled.kp T.b_l_shuffled .nil pass0 (pa_cons (pv 0) (pa_cons (pe_callB call_len_seq rfl T.z_len PySem.boot_len (pa_cons (pe_dget (hu_of hr) (pv 5) pe_str (fun _ _ => rfl)) pa_nil)) pa_nil))) po_none (po_some (pe_call g_l_pick (hr.mono (by first | decide | omega)) rfl T.m_l_pick T.F_l_pick.kp T.b_l_pick .nil pass0 (pa_cons (pv 0) (pa_cons pe_int pa_nil))))) rfl)
      (pss_one (ps_ret (pv 5))))))))), ?_⟩
  have st12 : ∀ (G : Hp) (sz tm : Nat), Stp a H G → (tm = 0 ∧ sz ≤ 5 ∨ tm = 1 ∧ sz ≤ 2) → True := fun _ _ _ _ _ => trivial
  refine ⟨_, rfl, by show 8 ≤ sizeLine; decide, fun l0 hl0 => ?_⟩
  have s0 := Same.new hl0 (.lst ([0, 2, 3, 4, 5, 5, 4, 3].map V.int))
  have sS := Stp.of_same hS s0
  have nl0 : l0 ≠ a := (hS.ne hl0).symm
  refine ⟨a, l0, [0, 2, 3, 4, 5, 5, 4, 3].map V.int, false, rfl, sS.s, fun _ => nl0, SqL.of upd_same, by decide, by decide, fun v H1 hv st1 => ?_⟩
  have hv2 : ∃ sz : Nat, v = .int (sz : Int) ∧ sz ≤ 5 := by
    obtain ⟨i, hi, rfl⟩ := List.mem_map.mp hv
    have : i ∈ [(0 : Int), 2, 3, 4, 5, 5, 4, 3] := hi
    simp only [List.mem_cons, List.not_mem_nil, or_false] at this
    exact ⟨i.toNat, by congr 1; omega, by omega⟩
  obtain ⟨sz, rfl, sz5⟩ := hv2
  have stH1 := sS.trans st1
  refine ⟨fun σ G => ∃ (sz tm : Nat), Stp a H G ∧ (tm = 0 ∧ sz ≤ 5 ∨ tm = 1 ∧ sz ≤ 2) ∧ σ = [some (.ref a), some (.ref p), some (.ref kl), some (.int (sz : Int)), some (.int (tm : Int)), none, none], ?_, ?_⟩
  · refine ⟨_, rfl, a, 4, rfl, stH1.s, by decide, fun r G st r0 _ => ⟨rfl, _, rfl, ite2 (fun h => ?_) (fun h => ?_)⟩⟩
    · refine ⟨_, rfl, a, 2, rfl, st.s, by decide, fun r2 G2 st2 r20 r21 => ?_⟩
      obtain ⟨n2, rfl⟩ := Int.eq_ofNat_of_zero_le r20
      have e : ((1 + n2 : Nat) : Int) = 1 + (n2 : Int) := by omega
      refine ⟨_, _, rfl, rfl, 1 + n2, 1, (stH1.trans st).trans st2, .inr ⟨rfl, by omega⟩, ?_⟩
      rw [e]
      rfl
    · exact ⟨sz, 0, stH1.trans st, .inl ⟨rfl, sz5⟩, rfl⟩
  rintro σ G ⟨sz, tm, stG, hst, rfl⟩
  have h5 : sz * (tm + 1) ≤ 5 := by
    rcases hst with ⟨rfl, h⟩ | ⟨rfl, h⟩ <;> omega
  refine ⟨_, rfl, _, rfl, _, rfl, _, rfl, a, p, sz, tm, rs, rfl, stG.s, hp.keep (stG.keepT hS), wok, rne, by omega, by omega, by omega, fun d R H4 st4 hd0 hrun hg hlR => ?_⟩
  have stH4 := stG.trans st4
  have hdH := stG.free hd0
  obtain ⟨kf, l, df, rows, ndf, run⟩ := hrun
  have ekl4 := stH4.k _ _ nkl ekl
  refine ⟨_, rfl, kl, rfl, ⟨_, SqL.of ekl4⟩, fun D hD => ?_⟩
  have nD := (st4.s.ne hD).symm
  refine lc_it (walk_list (xs := kxs)) (fun m G => Stp a H4 G ∧ ∃ us : List V, G D = some (.lst us) ∧ us.length = m ∧ ∀ (k : Nat) (u : V) (kd : Kd), us[k]? = some u → ks[k]? = some kd → DrV R kd u) ⟨Stp.of_same st4.s (Same.new hD _), [], upd_same, rfl, fun k u f e => by simp at e⟩ (fun i G _ P => SqL.of (P.1.k _ _ nkl ekl4)) ?_ ?_
  · rintro m u F F' hm ⟨sF, us, eD, lus, hus⟩ ⟨rfl, ex⟩
    have hm2 : m < ks.length := by rw [← hk.1]; exact hm
    have ek : ks[m]? = some ks[m] := List.getElem?_eq_getElem hm2
    have hkd := hk.2 m _ _ ex ek
    have kok1 := kok _ (List.getElem_mem hm2)
    generalize ks[m] = kd at ek hkd kok1
    refine ⟨rfl, tyes ?_⟩
    refine ⟨_, rfl, _, rfl, _, rfl, a, d, u, kd, rs, R, rfl, sF.s, RunAt.stp sF st4.s ⟨_, _, _, _, _, run⟩, hkd.keep ((stH4.trans sF).keepT hS), kok1, hg.ln, fun v G2 s2 hv => ?_⟩
    refine ⟨_, s2.k _ _ nD eD, lt_line (by omega), (sF.trans s2).put st4.s hD, us ++ [v], upd_same, by rw [List.length_append, lus]; rfl, fun k u' f' e1 e2 => ?_⟩
    rcases two_get e1 with ⟨l1, e1⟩ | ⟨l1, rfl⟩
    · exact hus k u' f' e1 e2
    · rw [l1, lus, ek] at e2
      obtain rfl := Option.some.inj e2
      exact hv
  rintro F ⟨sF, us, eD, lus, hus⟩
  rw [hk.1] at lus
  have runF : RunE K a F d rs R (kvR l df) kf l df rows := run.but (fun b o ne e => sF.k b o ne e) (sF.keepT st4.s)
  have nDd : D ≠ d := (ne_of_none run.hd hD).symm
  refine ⟨_, rfl, d, _, rfl, DPut.k (k := Sum.inr "values") runF.hd (by show 2 < sizeLine; decide), ?_⟩
  obtain ⟨kv2, ek2⟩ : ∃ kv2, kv2 = putK (kvR l df) (Sum.inr "values") (.ref D) := ⟨_, rfl⟩
  have l2 : kv2.length ≤ 3 := by rw [ek2]; exact length_putK _ _ _
  have v2r : valV kv2 (Sum.inr "records") = some (.ref l) := by rw [ek2, lv_put (by decide)]; exact kvR_rec
  have v2f : valV kv2 (Sum.inr "fields") = some (.ref df) := by rw [ek2, lv_put (by decide)]; exact kvR_fld
  have v2v : valV kv2 (Sum.inr "values") = some (.ref D) := by rw [ek2, valV_put, if_pos rfl]
  rw [← ek2]
  have run2 := runF.dict (kvs' := kv2) ndf v2r v2f
  have eD2 : (upd F d (.dK kv2)) D = some (.lst us) := by rw [upd_ne nDd]; exact eD
  have stH2 : Stp a H (upd F d (.dK kv2)) := (stH4.trans sF).put hS hdH
  generalize (upd F d (.dK kv2)) = F2 at run2 eD2 stH2
  refine ⟨_, rfl, _, rfl, d, _, rfl, DGet.at (k := Sum.inr "records") run2.hd v2r, l, _, rfl, .inl (SqL.of run2.hl), a, R.length, by rw [run2.lr]; rfl, stH2.s, hg.ln, fun lo o F3 st6 hlo eo pm => ?_⟩
  have nla := (stH2.s.ne hlo).symm
  refine ⟨_, rfl, a, 4, rfl, st6.s, by decide, fun r F4 st7 r0 _ => ⟨r, rfl, lo, _, rfl, SqL.of (st7.k _ _ nla eo), fun lx hlx => ?_⟩⟩
  rw [cut_hiM r0]
  have st67 := st6.trans st7
  have run4 : RunE K a F4 d rs R kv2 kf l df rows := run2.but (fun b o ne e => st67.k b o ne e) (st67.keepT stH2.s)
  have eD4 := st67.k _ _ ((hS.ne ((stG.trans st4).free hD)).symm) eD2
  have ndx : d ≠ lx := ne_of_none run4.hd hlx
  have nDx : D ≠ lx := ne_of_none eD4 hlx
  have sx := Same.new hlx (.lst ((natsV o).take r.toNat))
  have ex : (upd F4 lx (.lst ((natsV o).take r.toNat))) lx = some (.lst (natsV (o.take r.toNat))) := by
    rw [upd_same]
    unfold natsV
    rw [List.map_take]
  have run5 : RunE K a (upd F4 lx (.lst ((natsV o).take r.toNat))) d rs R kv2 kf l df rows := run4.but (But.of_same sx) (KeepT.of sx)
  have eD5 := sx _ _ eD4
  have stH5 := (stH2.trans st67).same sx
  have lx0 : H lx = none := (stH2.trans st67).free hlx
  generalize (upd F4 lx (.lst ((natsV o).take r.toNat))) = F5 at sx ex run5 eD5 stH5
  refine ⟨_, rfl, d, _, rfl, DPut.k (k := Sum.inr "fixed") run5.hd (Nat.lt_of_le_of_lt l2 (by decide)), ?_⟩
  obtain ⟨kv3, ek3⟩ : ∃ kv3, kv3 = putK kv2 (Sum.inr "fixed") (.ref lx) := ⟨_, rfl⟩
  have v3r : valV kv3 (Sum.inr "records") = some (.ref l) := by rw [ek3, lv_put (by decide)]; exact v2r
  have v3f : valV kv3 (Sum.inr "fields") = some (.ref df) := by rw [ek3, lv_put (by decide)]; exact v2f
  have v3v : valV kv3 (Sum.inr "values") = some (.ref D) := by rw [ek3, lv_put (by decide)]; exact v2v
  have v3x : valV kv3 (Sum.inr "fixed") = some (.ref lx) := by rw [ek3, valV_put, if_pos rfl]
  rw [← ek3]
  have run6 := run5.dict (kvs' := kv3) ndf v3r v3f
  have mo : ∀ k, k ∈ o → k < R.length := fun k hk => by rw [pm.mem_iff, List.mem_range] at hk; exact hk
  refine ⟨_, rfl, q d R us (o.take r.toNat) _ (stH5.put hS hdH) hdH ⟨_, _, _, _, _, run6⟩ ⟨kv3, D, lx, upd_same, v3v, v3x, by rw [upd_ne nDd]; exact eD5, by rw [upd_ne ndx.symm]; exact ex⟩ (SideT.of wok hg lus (by omega) hus ((pm.nodup_iff.mpr List.nodup_range).sublist (List.take_sublist _ _)) fun i hi => mo i (List.mem_of_mem_take hi)) (by omega)⟩
end
open ZG (Sq ItzG walk_zipG)
open DcS (dc_it)
/-! ### keys: the twin -/
def spTwin (K : PySem.W.Frag) : Sp := fun vs H Q _ => ∃ (a p d kl : Addr) (kxs : List V) (ks : List Kd) (rs : List Rk) (R : List Rc) (us : List V) (fx : List Nat) (B : Hp), vs = [.ref a, .ref p, .ref d, .ref kl] ∧ Src H a ∧ Same B H ∧ B a = none ∧ PgAt K B p rs ∧ WldOk rs ∧ rs ≠ [] ∧ B kl = some (.lst kxs) ∧ KdsAt K B kxs ks ∧ RunAt K a B d rs R ∧ RunV B d us fx ∧ SideT rs R ks us fx ∧ R.length ≤ 50 ∧
  ∀ d' R' us' fx' H', Stp a H H' → H d' = none → RunAt K a H' d' rs R' → RunV H' d' us' fx' → SideT rs R' ks us' fx' → fx'.length = fx.length → R'.length ≤ R.length + 2 → Q (.ref d') H'
section
variable {P : Program} {w : World} {K : PySem.W.Frag} {mg : Str → Option Value} {base : Heap}
theorem ok_l_twin (T : Txt w K mg) : FnOk P w K mg base CX0 5 T.a_l_twin T.d_l_twin p_l_twin (spTwin K) := by
  have g_l_pick := ok_l_pick (P := P) (w := w) (base := base) T
  have g_l_one := ok_l_oneG (P := P) (w := w) (K := K) (base := base) T
  have g_l_copy := ok_l_copy (P := P) (w := w) (K := K) (base := base) T
  have g_l_reached := ok_l_reached (P := P) (w := w) (K := K) (base := base) T
  have g_l_redraw := ok_l_redraw (P := P) (w := w) (K := K) (base := base) T
  have g_l_shuffled := ok_l_shuffled (P := P) (w := w) (base := base) T
  have g_l_moved := ok_l_moved (P := P) (w := w) (K := K) (base := base) T
  have g_l_renumbered := ok_l_renumbered (P := P) (w := w) (K := K) (base := base) T
  refine T.F_l_twin.ok sc_l_twin (fun vs H Q E h => ?_) (fun cdv A outer s H vs Q E hr h => ?_)
  · obtain ⟨a, p, d, kl, kxs, ks, rs, R, us, fx, B, rfl, _⟩ := h
    rfl
  obtain ⟨a, p, d, kl, kxs, ks, rs, R, us, fx, B, rfl, hS, sB, nB, ⟨pr, x, y, z, as, hp, hpr, las, has⟩, wok, rne, hk, hks, hrun, hv, sd, R50, q⟩ := h
  refine ⟨_, (pss_cons (ps_set (i := 4) sc_l_twin.nd rfl (Or.inl rfl) (pe_call g_l_copy (hr.mono (by first | decide | omega)) rfl T.m_l_copy T.F_l_copy.kp T.b_l_copy .nil pass0 (pa_cons (pv 2) pa_nil)))
      (pss_cons (ps_set (i := 5) sc_l_twin.nd rfl (Or.inl rfl) (pe_call g_l_reached (hr.mono (by first | decide | omega)) rfl T.m_l_reached T.F_l_reached.kp T.b_l_reached .nil pass0 (pa_cons (pv 2) (pa_cons (pv 3) pa_nil))))
      (pss_cons (ps_for PassesOwn.never rfl (pi_range1 rfl T.z_range (pa_cons (pe_callB call_len_seq rfl T.z_len PySem.boot_len (pa_cons (pe_dget (hu_of hr) (pv 2) pe_str (fun _ _ => rfl)) pa_nil)) pa_nil)) (pg_name (i := 6) sc_l_twin.nd rfl (Or.inl rfl))
        (pss_one (ps_if (pt_cmpR op_notIn_seq (pv 6) (pv 5) (by rfl)) (pss_one (ps_expr (pe_call g_l_redraw (hr.mono (by first | decide | omega)) rfl T.m_l_redraw T.F_l_redraw.kp T.b_l_redraw .nil pass0 (pa_cons (pv 0) (pa_cons (pv 4) (pa_cons (pe_ix ix_list (pe_dget (hu_of hr) (pv 4) pe_str (fun _ _ => rfl)) (pv 6) (fun _ _ => rfl)) pa_nil)))))) pss_nil)))
      (pss_cons (ps_for PassesOwn.never rfl (pi_range1 rfl T.z_range (pa_cons (pe_call g_l_pick (hr.mono (by first | decide | omega)) rfl T.m_l_pick T.F_l_pick.kp T.b_l_pick .nil pass0 (pa_cons (pv 0) (pa_cons pe_int pa_nil))) pa_nil)) (pg_name (i := 6) sc_l_twin.nd rfl (Or.inl rfl))
        (pss_cons (ps_set (i := 7) sc_l_twin.nd rfl (Or.inl rfl) (pe_lst (pa_cons (pe_ix ix_tup (pe_call g_l_one (hr.mono (by first | decide | omega)) rfl T.m_l_one T.F_l_one.kp T.b_l_one .nil pass0 (pa_cons (pv 0) (pa_cons (pe_ix ix_tup (pv 1) pe_int (fun _ _ => rfl)) pa_nil))) pe_int (fun _ _ => rfl)) (pa_cons pe_bl (pa_cons (pe_lst pa_nil) pa_nil)))))
      (pss_cons (ps_expr (pe_call g_l_redraw (hr.mono (by first | decide | omega)) rfl T.m_l_redraw T.F_l_redraw.kp T.b_l_redraw .nil pass0 (pa_cons (pv 0) (pa_cons (pv 4) (pa_cons (pv 7) pa_nil)))))
      (pss_one (ps_expr (pe_bm PySem.F.plainAttrs_list PySem.F.slot_list_append PySem.F.type_list_append mt_append (pe_dget (hu_of hr) (pv 4) pe_str (fun _ _ => rfl)) (pa_cons (pv 7) pa_nil)))))))
      (pss_cons (ps_set (i := 8) sc_l_twin.nd rfl (Or.inr rfl) (pe_call g_l_shuffled (hr.mono (by first | decide | omega)) rfl T.m_l_shuffled T.F_l_shuffled.kp T.b_l_shuffled .nil pass0 (pa_cons (pv 0) (pa_cons (pe_callB call_len_seq rfl T.z_len PySem.boot_len (pa_cons (pe_dget (hu_of hr) (pv 4) pe_str (fun _ _ => rfl)) pa_nil)) pa_nil))))
      (pss_cons (ps_set (i := 9) sc_l_twin.nd rfl (Or.inl rfl) (pe_call g_l_moved (hr.mono (by first | decide | omega)) rfl T.m_l_moved T.F_l_moved.kp T.b_l_moved .nil pass0 (pa_cons (pv 4) (pa_cons (pv 8) pa_nil))))
      (pss_cons (ps_dput (hu_of hr) (pv 9) pe_str (pe_lc (own := [("_law_k", 6)]) (g := gName 6) (tt := tYes) rfl sc_l_twin.nd (pi_range1 rfl T.z_range (pa_cons (pe_callB call_len_seq rfl T.z_len PySem.boot_len (pa_cons (pv 3) pa_nil)) pa_nil)) (blkOk_by (own := [("_law_k", 6)]) (N := n_l_twin) (sc := defScope s_l_twin) (by decide +kernel)) (fun _ _ _ _ _ => (pg_name (i := 6) sc_l_twin.nd rfl (Or.inl rfl))) (fun _ _ _ _ _ => pts_nil) (fun _ _ _ _ _ => (pe_call g_l_renumbered (hr.mono (by first | decide | omega)) rfl T.m_l_renumbered T.F_l_renumbered.kp T.b_l_renumbered .nil pass0 (pa_cons (pe_ix (show IxR _ (rIxL K) from ix_list) (pv 3) (pv 6) (fun _ _ => rfl)) (pa_cons (pe_ix (show IxR _ (rIxL K) from ix_list) (pe_dget (hu_of hr) (pv 2) pe_str (fun _ _ => rfl)) (pv 6) (fun _ _ => rfl)) (pa_cons (pv 8) pa_nil)))))) rfl)
      (pss_cons (ps_dput (hu_of hr) (pv 9) pe_str (pe_lc (own := [("_law_where", 10)]) (g := gName 10) (tt := tYes) rfl sc_l_twin.nd (pi_list (pe_dget (hu_of hr) (pv 2) pe_str (fun _ _ => rfl))) (blkOk_by (own := [("_law_where", 10)]) (N := n_l_twin) (sc := defScope s_l_twin) (by decide +kernel)) (fun _ _ _ _ _ => (pg_name (i := 10) sc_l_twin.nd rfl (Or.inl rfl))) (fun _ _ _ _ _ => pts_nil) (fun _ _ _ _ _ => (show PE _ _ (tBM K _ (rIndex K) _ _) from (pe_bm PySem.F.plainAttrs_list PySem.F.slot_list_index PySem.F.type_list_index mt_index (pv 8) (pa_cons (pv 10) pa_nil))))) rfl)
      (pss_one (ps_ret (pv 9))))))))))), ?_⟩
  have lrs := wok.l
  have rpos : 0 < rs.length := List.length_pos_iff.mpr rne
  have bs : ∀ {G : Hp}, Stp a H G → Same B G := fun st => Stp.fresh sB nB st
  refine ⟨_, rfl, a, d, rs, R, us, fx, rfl, hS, hrun.same sB, hv.same sB, by omega, fun d' lr lv lx df ps qs kvs kf tag H1 s1 own1 => ?_⟩
  have st1 := Stp.of_same hS s1
  have b1 := bs st1
  refine ⟨_, rfl, _, rfl, d, a, kl, kxs, rs, R, _, ks, us, fx, rfl, sd.g.ok sd.w, rk_lt4 sd.w sd.g, hrun.same b1, hv.same b1, b1 _ _ hk, hks.keep (KeepT.of b1), sd.s, fun lm m H2 s2 nlm elm pm sm => ?_⟩
  have own2 := own1.stp (Stp.of_same st1.s s2)
  have st2 := st1.same s2
  have nps : ∀ (i : Nat) (p : Addr), ps[i]? = some p → lm ≠ p := fun i p e => by
    have hi := (List.getElem?_eq_some_iff.mp e).1
    have l1 := own1.lp
    have l2 := own1.lq
    exact (ne_of_none (own1.hp i p (qs[i]'(by omega)) (R[i]'(by omega)) e (List.getElem?_eq_getElem _) (List.getElem?_eq_getElem _)).1 nlm).symm
  have nlma : lm ≠ a := (st1.s.ne nlm).symm
  have b2 := bs st2
  obtain ⟨kvs0, kf0, lr0, df0, rows0, run0⟩ := id hrun
  refine ⟨_, rfl, d, _, rfl, DGet.at (k := Sum.inr "records") (b2 _ _ run0.hd) run0.kr, lr0, _, rfl, .inl (SqL.of (b2 _ _ run0.hl)), _, rfl, by have := run0.lr; omega, by have := run0.lr; omega, for_range (lo := 0) (fun k σ G => (∃ qs R1 tag, Own K H a G d' lr lv lx df ps qs kvs kf rs R1 us fx tag ∧ SideT rs R1 ks us fx ∧ R1.length = R.length) ∧ G lm = some (.lst (natsV m)) ∧ ∃ v6 : Option V, σ = [some (.ref a), some (.ref p), some (.ref d), some (.ref kl), some (.ref d'), some (.ref lm), v6, none, none, none, none])
    ⟨⟨qs, R, tag, own2, sd, rfl⟩, elm, none, rfl⟩ ?_ ?_⟩
  · rintro k σ G hk2 ⟨⟨qs, R1, tag, own, sd1, lR1⟩, elm, v6, rfl⟩
    have hkR : k < R1.length := by have := run0.lr; omega
    have eiv : (if true = true then !inV (V.int (0 + (k : Int))) (natsV m) else inV (V.int (0 + (k : Int))) (natsV m)) = !decide (k ∈ m) := by rw [if_pos rfl, Int.zero_add, inV_nat]
    refine ⟨_, rfl, _, rfl, lm, _, rfl, .inl (SqL.of elm), rfl, flatN m, _, rfl, ?_⟩
    by_cases mk : k ∈ m
    · exact ifF (by rw [eiv, decide_eq_true mk]; rfl) ⟨⟨qs, R1, tag, own, sd1, lR1⟩, elm, _, rfl⟩
    refine ifT (by rw [eiv, decide_eq_false mk]; rfl) ?_
    have hkp : k < ps.length := by rw [own.lp]; exact hkR
    have ep : ps[k]? = some ps[k] := List.getElem?_eq_getElem hkp
    have er : R1[k]? = some R1[k] := List.getElem?_eq_getElem hkR
    have rok := sd1.g.rc _ (List.getElem_mem hkR)
    have npk := nps k _ ep
    generalize ps[k] = pk at ep npk
    generalize R1[k] = rk at er rok
    have at1 : atI (ps.map V.ref) (0 + (k : Int)) = some (.ref pk) := by rw [Int.zero_add]; exact atI_nat (map_get ep)
    obtain ⟨l0, h1, h2, h3, h5, h6, h7⟩ := own_redraw (ks := ks) own ep er rok.m (by omega) (fun b vals g => sd1.heap (sd1.g.set er rfl g) (by rw [List.length_set]; exact Nat.le_refl _))
    refine ⟨_, rfl, _, rfl, _, rfl, d', _, rfl, DGet.at (k := Sum.inr "records") own.hd own.kr, _, rfl, lr, _, _, _, rfl, rfl, SqL.of own.hlr, at1, a, d', pk, l0, rk.nm, rk.live, rs, fun r => R1.set k r, rfl, h1, h2, h3, wok, rok.m, h5, h6, fun b l vals H' s' nl e1 e2 hd hl hv => ?_⟩
    obtain ⟨qs', R', tag', own', sd', lR'⟩ := h7 b l vals H' s' nl e1 e2 hd hl hv
    exact ⟨⟨qs', R', tag', own', sd', by omega⟩, s'.k _ _ nlma npk elm, _, rfl⟩
  rintro σ G ⟨⟨qs, R1, tag, own, sd1, lR1⟩, _, v6, rfl⟩
  clear elm pm sm nps nlm nlma own1 own2
  refine ⟨_, rfl, a, 3, rfl, own.st.s, by decide, fun r G1 st3 r0 r3 => ?_⟩
  have own3 := own.stp st3
  refine ⟨r, rfl, by omega, by omega, for_range (lo := 0) (fun i σ G2 => (∃ ps qs R2 tag, Own K H a G2 d' lr lv lx df ps qs kvs kf rs R2 us fx tag ∧ SideT rs R2 ks us fx ∧ R2.length = R.length + i) ∧ ∃ v6 v7 : Option V, σ = [some (.ref a), some (.ref p), some (.ref d), some (.ref kl), some (.ref d'), some (.ref lm), v6, v7, none, none, none])
    ⟨⟨ps, qs, R1, tag, own3, sd1, lR1⟩, _, _, rfl⟩ ?_ ?_⟩
  · clear own3 own sd1 lR1 tag R1 qs ps
    rintro i σ G2 hi ⟨⟨ps, qs, R2, tag, own, sd2, lR2⟩, v6, v7, rfl⟩
    have bG := bs own.st
    refine ⟨_, rfl, _, rfl, p, _, 0, _, rfl, rfl, Same.tup bG hp, rfl, a, pr, as.map V.ref, true, rfl, own.st.s, (fun h => by cases h), Same.tup bG hpr, by rw [List.length_map]; omega, by rw [List.length_map]; omega, fun v G3 hv st4 => ?_⟩
    obtain ⟨b0, hb0, rfl⟩ := List.mem_map.mp hv
    obtain ⟨j, hj, rfl⟩ := List.getElem_of_mem hb0
    have hj2 : j < rs.length := by omega
    obtain ⟨pf, h1, _⟩ := has j _ _ (List.getElem?_eq_getElem hj) (List.getElem?_eq_getElem hj2)
    have mr : rs[j] ∈ rs := List.getElem_mem hj2
    generalize rs[j] = rj at h1 mr
    have own4 := own.stp st4
    refine ⟨_, _, 0, _, rfl, rfl, Same.tup (bs own4.st) h1, rfl, by show 0 ≤ sizeLine; decide, fun q0 hq0 => ⟨by show 3 ≤ sizeLine; decide, fun p0 hp0 => ?_⟩⟩
    have nq := Same.new hq0 (.lst [])
    have np := Same.new hp0 (.lst [.str rj.1, .bl false, .ref q0])
    have eP : (upd (upd G3 q0 (.lst [])) p0 (.lst [.str rj.1, .bl false, .ref q0])) p0 = some (.lst [.str rj.1, .bl false, .ref q0]) := upd_same
    have hp00 : G3 p0 = none := nq.free hp0
    have sN := nq.trans np
    generalize (upd (upd G3 q0 (.lst [])) p0 (.lst [.str rj.1, .bl false, .ref q0])) = G4 at eP sN
    clear nq np hp0
    have st5 : Stp a G3 G4 := Stp.of_same own4.st.s sN
    have npa : p0 ≠ a := (own4.st.s.ne hp00).symm
    have over : ∀ {H' : Hp}, St2 a p0 G4 H' → Stp a G3 H' := fun s => ⟨s.s, fun b o n e => s.k b o n (ne_of_none e hp00) (sN _ _ e)⟩
    refine ⟨_, rfl, _, rfl, _, rfl, a, d', p0, q0, rj.1, false, rs, fun _ => R2, rfl, st5.s, npa, eP, wok, ⟨rj, mr, rfl⟩, fun _ => (by show R2.length ≤ 100; omega), fun H' b l vals s' nl e1 e2 => (own4.stp (over s')).run, fun b l vals H' s' nl e1 e2 hd hl hv => ?_⟩
    have own5 := own4.stp (over s')
    refine ⟨_, rfl, d', _, rfl, DGet.at (k := Sum.inr "records") own5.hd own5.kr, .inl ⟨rfl, _, SqL.of own5.hlr⟩, _, rfl, lr, _, _, rfl, rfl, own5.hlr, lt_line (by rw [List.length_map, own5.lp]; omega), ?_⟩
    have nlr : lr ≠ a := (own.s0.ne own.nlr).symm
    have nl3 : G3 l = none := sN.free nl
    have npl : p0 ≠ l := ne_of_none eP nl
    have some4 : ∀ y, y = d' ∨ y = lr ∨ y = lv ∨ y = lx ∨ y ∈ ps ∨ y ∈ qs → ∃ o, G3 y = some o := fun y hy => by
      rcases hy with rfl | rfl | rfl | rfl | hy | hy
      · exact ⟨_, own4.hd⟩
      · exact ⟨_, own4.hlr⟩
      · exact ⟨_, own4.hlv⟩
      · exact ⟨_, own4.hlx⟩
      · obtain ⟨i, hi, rfl⟩ := List.getElem_of_mem hy
        have l1 := own4.lp
        have l2 := own4.lq
        exact ⟨_, (own4.hp i _ (qs[i]'(by omega)) (R2[i]'(by omega)) (List.getElem?_eq_getElem hi) (List.getElem?_eq_getElem _) (List.getElem?_eq_getElem _)).1⟩
      · obtain ⟨i, hi, rfl⟩ := List.getElem_of_mem hy
        have l1 := own4.lp
        have l2 := own4.lq
        exact ⟨_, (own4.hp i (ps[i]'(by omega)) _ (R2[i]'(by omega)) (List.getElem?_eq_getElem _) (List.getElem?_eq_getElem hi) (List.getElem?_eq_getElem _)).2⟩
    have nown : ∀ y, y = d' ∨ y = lr ∨ y = lv ∨ y = lx ∨ y ∈ ps ∨ y ∈ qs → y ≠ p0 ∧ y ≠ l := fun y hy => by
      obtain ⟨o, e⟩ := some4 y hy
      exact ⟨ne_of_none e hp00, ne_of_none e nl3⟩
    have nlrp := (nown lr (.inr (.inl rfl))).1
    have nlrl := (nown lr (.inr (.inl rfl))).2
    have own6 := own4.push (r := ⟨rj.1, b, vals⟩) ((St2.of (over s')).put nlr (.lst (ps.map V.ref ++ [.ref p0]))) (own4.st.free hp00) (own4.st.free nl3) nown npl upd_same (by rw [upd_ne nlrp.symm]; exact e1) (by rw [upd_ne nlrl.symm]; exact e2)
    have g : RcG rs R2 ⟨rj.1, b, vals⟩ := RcG.draw ⟨rj, mr, rfl⟩ hd hl hv fun j r e => ⟨r, e, rfl⟩
    exact ⟨⟨_, _, _, _, own6, sd2.heap (sd2.g.push g (by omega)) (by rw [List.length_append]; omega), by rw [List.length_append, lR2]; rfl⟩, _, _, rfl⟩
  rintro σ G2 ⟨⟨ps, qs, R2, tag, own, sd2, lR2⟩, v6, v7, rfl⟩
  have lR2 : R2.length ≤ R.length + 2 := by omega
  refine ⟨_, rfl, _, rfl, d', _, rfl, DGet.at (k := Sum.inr "records") own.hd own.kr, lr, _, rfl, .inl (SqL.of own.hlr), a, R2.length, by rw [List.length_map, own.lp]; rfl, own.st.s, by omega, fun lo o G3 st6 hlo eo pm => ?_⟩
  have own3 := own.stp st6
  refine ⟨_, rfl, _, rfl, d', lo, a, rs, R2, o, rfl, wok, sd2.g, st6.s, own3.run, eo, pm, fun d2 G4 s4 hd2 runN => ?_⟩
  obtain ⟨kf2, l2, df2, vs2, ndf2, run2⟩ := runN
  have st4 := (own.st.trans st6).same s4
  have b4 := bs st4
  have d2H : H d2 = none := (own.st.trans st6).free hd2
  have eo4 := s4 _ _ eo
  have sd3 := (sd2.mov pm)
  have lks := hks.1
  have lk100 := sd.vs.k
  have lus := sd.vs.l
  have mo : ∀ k, k < R.length → k ∈ o := fun k hk => by rw [pm.mem_iff, List.mem_range]; have := sd2; omega
  obtain ⟨kv1, lv0, lx0, hd1, evl, efx, hlv0, hlx0⟩ := hv
  refine ⟨_, rfl, kl, _, rfl, .inl (SqL.of (b4 _ _ hk)), _, rfl, by omega, by omega, fun D hD => ?_⟩
  refine lc_it walk_range (fun m G => Same G4 G ∧ G D = some (.lst (trTo ks us o m))) ⟨Same.new hD _, upd_same⟩ (fun _ _ _ _ => trivial) ?_ ?_
  · rintro m x F F' hm ⟨sF, eD⟩ ⟨rfl, rfl⟩
    have hm2 : m < ks.length := by omega
    have ex : kxs[m]? = some (kxs[m]'(by omega)) := List.getElem?_eq_getElem _
    have ek : ks[m]? = some ks[m] := List.getElem?_eq_getElem hm2
    have hpk := hks.2 m _ _ ex ek
    have gk : ks.getD m .flag = ks[m] := getD_get ek
    generalize ks[m] = kd at ek hpk gk
    generalize kxs[m] = kx at ex hpk
    have hmu : m < us.length := by omega
    have a0 : atI kxs (0 + (m : Int)) = some kx := by rw [Int.zero_add]; exact atI_nat ex
    have a1 : atI us (0 + (m : Int)) = some (us.getD m .non) := by rw [Int.zero_add]; exact atI_nat (by rw [List.getD_eq_getElem?_getD, List.getElem?_eq_getElem hmu]; rfl)
    have bF : Same B F' := b4.trans sF
    refine ⟨rfl, tyes ?_⟩
    refine ⟨_, rfl, _, rfl, kl, _, _, _, rfl, rfl, SqL.of (bF _ _ hk), a0, _, rfl, d, _, rfl, DGet.at (k := Sum.inr "values") (bF _ _ hd1) evl, _, rfl, lv0, _, _, _, rfl, rfl, SqL.of (bF _ _ hlv0), a1, _, rfl, kx, us.getD m .non, lo, kd, o, rfl, hpk.keep (KeepT.of bF), sF _ _ eo4, fun hrf => ?_, fun _ => flat_getD sd.vs.f m, ?_⟩
    · rcases sd.vs.v m hmu (by rw [gk]; exact hrf) with h | ⟨j, h, hj⟩
      · exact .inl h
      · exact .inr ⟨j, h, mo j hj⟩
    · refine ⟨_, eD, lt_line (by unfold trTo; rw [List.length_map, List.length_range]; omega), fun b u e => by rw [upd_ne (ne_of_none e hD)]; exact sF _ _ e, ?_⟩
      rw [trTo_succ, gk]
      exact upd_same
  rintro G5 ⟨s5, eD⟩
  have eD : G5 D = some (.lst (trL ks us o)) := by
    rw [eD]
    unfold trTo trL
    rw [lks, lus]
    rfl
  have run5 : RunE K a G5 d2 rs (movR rs R2 o) (kvR l2 df2) kf2 l2 df2 vs2 := run2.but (But.of_same s5) (KeepT.of s5)
  have st5 := st4.same s5
  have nDd : D ≠ d2 := (ne_of_none run2.hd hD).symm
  refine ⟨_, rfl, d2, _, rfl, DPut.k (k := Sum.inr "values") run5.hd (by show 2 < sizeLine; decide), ?_⟩
  obtain ⟨kv2, ek2⟩ : ∃ kv2, kv2 = putK (kvR l2 df2) (Sum.inr "values") (.ref D) := ⟨_, rfl⟩
  have l2' : kv2.length ≤ 3 := by rw [ek2]; exact length_putK _ _ _
  have v2r : valV kv2 (Sum.inr "records") = some (.ref l2) := by rw [ek2, lv_put (by decide)]; exact kvR_rec
  have v2f : valV kv2 (Sum.inr "fields") = some (.ref df2) := by rw [ek2, lv_put (by decide)]; exact kvR_fld
  have v2v : valV kv2 (Sum.inr "values") = some (.ref D) := by rw [ek2, valV_put, if_pos rfl]
  rw [← ek2]
  have run6 := run5.dict (kvs' := kv2) ndf2 v2r v2f
  have eD6 : (upd G5 d2 (.dK kv2)) D = some (.lst (trL ks us o)) := by rw [upd_ne nDd]; exact eD
  have eo6 : (upd G5 d2 (.dK kv2)) lo = some (.lst (natsV o)) := by
    rw [upd_ne (ne_of_none eo hd2)]
    exact s5 _ _ eo4
  have st6' : Stp a H (upd G5 d2 (.dK kv2)) := st5.put hS d2H
  generalize (upd G5 d2 (.dK kv2)) = G6 at run6 eD6 eo6 st6'
  have b6 := bs st6'
  refine ⟨_, rfl, d, _, rfl, DGet.at (k := Sum.inr "fixed") (b6 _ _ hd1) efx, lx0, rfl, ⟨_, SqL.of (b6 _ _ hlx0)⟩, fun D2 hD2 => ?_⟩
  have lfx := len_le sd.nd sd.fl
  refine lc_it (walk_list (xs := natsV fx)) (fun m G => Same G6 G ∧ G D2 = some (.lst (natsV ((fx.take m).map fun i => o.idxOf i)))) ⟨Same.new hD2 _, upd_same⟩ (fun i G _ P => SqL.of (P.1 _ _ (b6 _ _ hlx0))) ?_ ?_
  · rintro m x F F' hm ⟨sF, eD2⟩ ⟨rfl, ex⟩
    obtain ⟨i, ei, rfl⟩ := nats_at ex
    have mi := mo i (sd.fl i (List.mem_of_getElem? ei))
    have li := List.idxOf_lt_length_iff.mpr mi
    refine ⟨rfl, tyes ?_⟩
    refine ⟨_, rfl, .inl ⟨rfl, _, SqL.of (sF _ _ eo6)⟩, _, rfl, lo, _, .int (i : Int), o.idxOf i, .int (i : Int), rfl, rfl, SqL.of (sF _ _ eo6), rfl, flatN o, natsV_get (by rw [List.getElem?_eq_getElem li, List.getElem_idxOf]), beq_self_eq_true ((i : Int)), fun k z' hk hz' => ?_, ?_⟩
    · obtain ⟨y, ey, rfl⟩ := natsV_inv hz'
      have := idx_firstN o hk ey
      exact beq_eq_false_iff_ne.mpr fun w => this (by omega)
    · refine ⟨_, eD2, lt_line (by rw [natsV_len, List.length_map, List.length_take]; omega), fun b u e => by rw [upd_ne (ne_of_none e hD2)]; exact sF _ _ e, ?_⟩
      rw [upd_same, List.take_add_one, ei]
      unfold natsV
      rw [List.map_append, List.map_append]
      rfl
  rintro G7 ⟨s7, eD2⟩
  have eD2 : G7 D2 = some (.lst (natsV (fx.map fun i => o.idxOf i))) := by
    rw [List.take_of_length_le (by rw [natsV_len]; exact Nat.le_refl _)] at eD2
    exact eD2
  have run7 : RunE K a G7 d2 rs (movR rs R2 o) kv2 kf2 l2 df2 vs2 := run6.but (But.of_same s7) (KeepT.of s7)
  have eD7 := s7 _ _ eD6
  have ndx : D2 ≠ d2 := (ne_of_none run6.hd hD2).symm
  refine ⟨_, rfl, d2, _, rfl, DPut.k (k := Sum.inr "fixed") run7.hd (Nat.lt_of_le_of_lt l2' (by decide)), ?_⟩
  obtain ⟨kv3, ek3⟩ : ∃ kv3, kv3 = putK kv2 (Sum.inr "fixed") (.ref D2) := ⟨_, rfl⟩
  have v3r : valV kv3 (Sum.inr "records") = some (.ref l2) := by rw [ek3, lv_put (by decide)]; exact v2r
  have v3f : valV kv3 (Sum.inr "fields") = some (.ref df2) := by rw [ek3, lv_put (by decide)]; exact v2f
  have v3v : valV kv3 (Sum.inr "values") = some (.ref D) := by rw [ek3, lv_put (by decide)]; exact v2v
  have v3x : valV kv3 (Sum.inr "fixed") = some (.ref D2) := by rw [ek3, valV_put, if_pos rfl]
  rw [← ek3]
  have run8 := run7.dict (kvs' := kv3) ndf2 v3r v3f
  refine ⟨_, rfl, q d2 _ _ _ _ ((st6'.same s7).put hS d2H) d2H ⟨_, _, _, _, _, run8⟩ ⟨kv3, D, D2, upd_same, v3v, v3x, by rw [upd_ne nDd]; exact eD7, by rw [upd_ne ndx]; exact eD2⟩ sd3 (by rw [List.length_map]) ?_⟩
  unfold movR
  rw [List.length_map, pm.length_eq, List.length_range]
  exact lR2
end
open ZG (Sq ItzG walk_zipG)
open DcS (dc_it)
/-! ### keys: other fixed records -/
theorem nodup_swap {l : List Nat} {i j : Nat} (n : l.Nodup) (hi : i < l.length) (hj : j < l.length) : ((l.set i l[j]).set j l[i]).Nodup := (List.set_set_perm hi hj).nodup_iff.mpr n
theorem nodup_set {l : List Nat} {i v : Nat} (n : l.Nodup) (nv : v ∉ l) : (l.set i v).Nodup := by
  induction l generalizing i with
  | nil => exact n
  | cons x l ih =>
    rw [List.nodup_cons] at n
    have h1 : v ≠ x := fun z => nv (by rw [z]; exact List.mem_cons_self)
    have h2 : v ∉ l := fun z => nv (List.mem_cons_of_mem _ z)
    cases i with
    | zero => exact List.nodup_cons.mpr ⟨h2, n.2⟩
    | succ i =>
      refine List.nodup_cons.mpr ⟨fun z => ?_, ih n.2 h2⟩
      rcases List.mem_or_eq_of_mem_set z with z | z
      · exact n.1 z
      · exact h1 z.symm
theorem natsV_set {l : List Nat} {i v : Nat} : (natsV l).set i (.int (v : Int)) = natsV (l.set i v) := by
  unfold natsV
  rw [List.map_set]
/-- a record that nothing refers to gets another kind -/
theorem HpG.renamed {rs : List Rk} {R : List Rc} {k : Nat} {r : Rc} (h : HpG rs R) (no : ∀ i, ∀ j ∈ nbR rs R i, j ≠ k) (g : RcG rs (R.set k r) r) : HpG rs (R.set k r) :=
  ⟨fun r' hr => by
    rcases List.mem_or_eq_of_mem_set hr with hr | rfl
    · have c := h.rc r' hr
      obtain ⟨i, hi, ei⟩ := List.getElem_of_mem hr
      have er : R[i]? = some r' := by rw [List.getElem?_eq_getElem hi, ei]
      refine ⟨c.m, c.l, c.d, fun x s hx hs => ?_, c.f, c.t⟩
      rcases c.v x s hx hs with v | ⟨j, r'', v, e2, e3⟩
      · exact .inl v
      · refine .inr ⟨j, r'', v, ?_, e3⟩
        have hl : r'.live = true := by
          cases z : r'.live with
          | true => rfl
          | false => rw [c.d z] at hx; cases hx
        have mj : j ∈ nbR rs R i := by
          unfold nbR
          rw [er]
          show j ∈ (if r'.live then refsAt r'.vals (refPl (flOf rs r'.nm)) else [])
          rw [hl]
          exact mem_refsAt (mem_refPl.mpr ⟨by rw [← c.l hl]; exact hx, by rw [hs]; rfl⟩) v
        rw [List.getElem?_set, if_neg (no i j mj).symm]
        exact e2
    · exact g, by rw [List.length_set]; exact h.ln⟩
def UsedOk (rs : List Rk) (R : List Rc) (n : Nat) (U : List V) : Prop := U.all flatV = true ∧ U.length ≤ 1000 + 20 * n ∧ ∀ i, i < n → ∀ j ∈ nbR rs R i, V.int (j : Int) ∈ U
theorem inV_mem {x : Int} {U : List V} (h : V.int x ∈ U) : inV (.int x) U = true := by
  unfold inV
  exact List.any_eq_true.mpr ⟨_, h, beq_self_eq_true x⟩
def spOther (K : PySem.W.Frag) : Sp := fun vs H Q _ => ∃ (a p d kl : Addr) (ch : Int) (kxs : List V) (ks : List Kd) (rs : List Rk) (R : List Rc) (us : List V) (fx : List Nat) (B H0 : Hp) (lr lv lx df : Addr) (ps qs : List Addr) (kvs kf : List (Key × V)) (tag : Addr → Nat), vs = [.ref a, .ref p, .ref d, .ref kl, .int ch] ∧ Same B H0 ∧ B a = none ∧ PgAt K B p rs ∧ rs ≠ [] ∧ B kl = some (.lst kxs) ∧ KdsAt K B kxs ks ∧
  Own K H0 a H d lr lv lx df ps qs kvs kf rs R us fx tag ∧ SideT rs R ks us fx ∧ R.length ≤ 60 ∧ fx ≠ [] ∧
  ∀ qs' R' fx' tag' H', Own K H0 a H' d lr lv lx df ps qs' kvs kf rs R' us fx' tag' → SideT rs R' ks us fx' → fx'.length = fx.length → Q .non H'
section
variable {P : Program} {w : World} {K : PySem.W.Frag} {mg : Str → Option Value} {base : Heap}
theorem ok_l_with_other_fixed (T : Txt w K mg) : FnOk P w K mg base CX0 5 T.a_l_with_other_fixed T.d_l_with_other_fixed p_l_with_other_fixed (spOther K) := by
  have g_l_pick := ok_l_pick (P := P) (w := w) (base := base) T
  have g_l_one := ok_l_oneG (P := P) (w := w) (K := K) (base := base) T
  have g_l_led := ok_l_led (P := P) (w := w) (K := K) (base := base) T
  have g_l_redraw := ok_l_redraw (P := P) (w := w) (K := K) (base := base) T
  refine T.F_l_with_other_fixed.ok sc_l_with_other_fixed (fun vs H Q E h => ?_) (fun cdv A outer s H vs Q E hr h => ?_)
  · obtain ⟨a, p, d, kl, ch, kxs, ks, rs, R, us, fx, B, H0, lr, lv, lx, df, ps, qs, kvs, kf, tag, rfl, _⟩ := h
    rfl
  obtain ⟨a, p, d, kl, ch, kxs, ks, rs, R, us, fx, B, H0, lr, lv, lx, df, ps, qs, kvs, kf, tag, rfl, sB, nB, ⟨pr, x, y, z, as, hp, hpr, las, has⟩, rne, hk, hks, own, sd, R60, nfx, q⟩ := h
  refine ⟨_, (pss_cons (ps_set (i := 5) sc_l_with_other_fixed.nd rfl (Or.inr rfl) (pe_dget (hu_of hr) (pv 2) pe_str (fun _ _ => rfl)))
      (pss_cons (ps_set (i := 6) sc_l_with_other_fixed.nd rfl (Or.inl rfl) (pe_call g_l_pick (hr.mono (by first | decide | omega)) rfl T.m_l_pick T.F_l_pick.kp T.b_l_pick .nil pass0 (pa_cons (pv 0) (pa_cons (pe_callB call_len_seq rfl T.z_len PySem.boot_len (pa_cons (pv 5) pa_nil)) pa_nil))))
      (C8.pss_cut (ps_if (pt_cmpR op_eq (pv 4) pe_int (nomark _)) (pss_cons (ps_set (i := 7) sc_l_with_other_fixed.nd rfl (Or.inl rfl) (pe_op op_modN (pe_callTy call_int1 rfl T.z_int bt_int (pa_cons (pe_op op_add (pv 6) pe_int) pa_nil)) (pe_callB call_len_seq rfl T.z_len PySem.boot_len (pa_cons (pv 5) pa_nil))))
      (pss_cons (ps_set (i := 8) sc_l_with_other_fixed.nd rfl (Or.inl rfl) (pe_ix ix_list (pv 5) (pv 6) (fun _ _ => rfl)))
      (pss_cons (ps_asg (pe_ix ix_list (pv 5) (pv 7) (fun _ _ => rfl)) (pg_sub (pv 5) (pv 6) set_list))
      (pss_one (ps_asg (pv 8) (pg_sub (pv 5) (pv 7) set_list)))))) pss_nil)
      (pss_cons (ps_setLc (i := 9) (own := [("_law_k", 10)]) (g := gName 10) rfl sc_l_with_other_fixed.nd rfl rfl (sw_true rfl rfl rfl (by decide +kernel)) (pi_range1 rfl T.z_range (pa_cons (pe_callB call_len_seq rfl T.z_len PySem.boot_len (pa_cons (pe_dget (hu_of hr) (pv 2) pe_str (fun _ _ => rfl)) pa_nil)) pa_nil)) (blkOk_by (own := [("_law_k", 10)]) (N := n_l_with_other_fixed) (sc := defScope s_l_with_other_fixed) (by decide +kernel)) (fun _ _ _ _ _ => (pg_name (i := 10) sc_l_with_other_fixed.nd rfl (Or.inl rfl))) (fun _ _ _ _ _ => (pts_one (pt_cmpR (show OpR _ _ (rIn K true) from op_notIn_seq) (pv 10) (pv 5) (by rfl)))) (fun _ _ _ _ _ => (pv 10)))
      (C8.pss_cut (ps_if (PW.pt (pw_and (pt_cmpR op_eq (pv 4) pe_int (nomark _)) (pw_and1 (pt_cmpR (op_neL0 hr.units0) (pv 9) (pe_lst pa_nil) (nomark _))))) (pss_one (ps_asg (pe_call g_l_one (hr.mono (by first | decide | omega)) rfl T.m_l_one T.F_l_one.kp T.b_l_one .nil pass0 (pa_cons (pv 0) (pa_cons (pv 9) pa_nil))) (pg_sub (pv 5) (pv 6) set_list))) pss_nil)
      (pss_cons (ps_setLc (i := 11) (own := [("_law_k", 10)]) (g := gName 10) rfl sc_l_with_other_fixed.nd rfl rfl (sw_true rfl rfl rfl (by decide +kernel)) (pi_range1 rfl T.z_range (pa_cons (pe_callB call_len_seq rfl T.z_len PySem.boot_len (pa_cons (pv 3) pa_nil)) pa_nil)) (blkOk_by (own := [("_law_k", 10)]) (N := n_l_with_other_fixed) (sc := defScope s_l_with_other_fixed) (by decide +kernel)) (fun _ _ _ _ _ => (pg_name (i := 10) sc_l_with_other_fixed.nd rfl (Or.inl rfl))) (fun _ _ _ _ _ => (pts_one (pt_cmpR op_eq (pe_ix (show IxR _ (rIxT K) from ix_tup) (pe_ix (show IxR _ (rIxL K) from ix_list) (pv 3) (pv 10) (fun _ _ => rfl)) pe_int (fun _ _ => rfl)) pe_str (nomark _)))) (fun _ _ _ _ _ => (pe_ix (show IxR _ (rIxL K) from ix_list) (pe_dget (hu_of hr) (pv 2) pe_str (fun _ _ => rfl)) (pv 10) (fun _ _ => rfl))))
      (pss_cons (ps_for PassesOwn.never rfl (pi_range1 rfl T.z_range (pa_cons (pe_callB call_len_seq rfl T.z_len PySem.boot_len (pa_cons (pe_dget (hu_of hr) (pv 2) pe_str (fun _ _ => rfl)) pa_nil)) pa_nil)) (pg_name (i := 10) sc_l_with_other_fixed.nd rfl (Or.inl rfl))
        (pss_one (ps_set (i := 11) sc_l_with_other_fixed.nd rfl (Or.inl rfl) (pe_op op_cat (pv 11) (pe_call g_l_led (hr.mono (by first | decide | omega)) rfl T.m_l_led T.F_l_led.kp T.b_l_led .nil pass0 (pa_cons (pv 2) (pa_cons (pv 10) pa_nil)))))))
      (pss_cons (ps_set (i := 12) sc_l_with_other_fixed.nd rfl (Or.inl rfl) (pe_ix ix_list (pe_dget (hu_of hr) (pv 2) pe_str (fun _ _ => rfl)) (pe_ix ix_list (pv 5) (pv 6) (fun _ _ => rfl)) (fun _ _ => rfl)))
      (pss_one (ps_if (PW.pt (pw_and (pt_cmpR op_eq (pv 4) pe_int (nomark _)) (pw_and1 (pt_cmpR op_notIn_seq (pe_ix ix_list (pv 5) (pv 6) (fun _ _ => rfl)) (pv 11) (by rfl))))) (pss_cons (ps_asg (pe_ix ix_tup (pe_call g_l_one (hr.mono (by first | decide | omega)) rfl T.m_l_one T.F_l_one.kp T.b_l_one .nil pass0 (pa_cons (pv 0) (pa_cons (pe_ix ix_tup (pv 1) pe_int (fun _ _ => rfl)) pa_nil))) pe_int (fun _ _ => rfl)) (pg_sub (pv 12) pe_int set_list))
      (pss_one (ps_if (pt_val (pe_ix ix_list (pv 12) pe_int (fun _ _ => rfl))) (pss_one (ps_expr (pe_call g_l_redraw (hr.mono (by first | decide | omega)) rfl T.m_l_redraw T.F_l_redraw.kp T.b_l_redraw .nil pass0 (pa_cons (pv 0) (pa_cons (pv 2) (pa_cons (pv 12) pa_nil)))))) pss_nil))) pss_nil)))))))))), ?_⟩
  have wok := sd.w
  have lrs := wok.l
  have rpos : 0 < rs.length := List.length_pos_iff.mpr rne
  have fpos : 0 < fx.length := List.length_pos_iff.mpr nfx
  have lfx := len_le sd.nd sd.fl
  have nxa : lx ≠ a := (own.s0.ne own.nlx).symm
  have bs : ∀ {G : Hp}, Stp a H0 G → Same B G := fun st => Stp.fresh sB nB st
  refine ⟨_, rfl, d, _, rfl, DGet.at (k := Sum.inr "fixed") own.hd own.kx, ?_⟩
  refine ⟨_, rfl, _, rfl, lx, _, rfl, .inl (SqL.of own.hlx), a, fx.length, by rw [natsV_len]; rfl, own.st.s, by omega, fun r G st r0 r1 => ?_⟩
  obtain ⟨n, rfl⟩ := Int.eq_ofNat_of_zero_le r0
  have hn : n < fx.length := by omega
  have own1 := own.stp st
  refine ⟨fun σ G => ∃ fx1, Own K H0 a G d lr lv lx df ps qs kvs kf rs R us fx1 tag ∧ fx1.Nodup ∧ (∀ i ∈ fx1, i < R.length) ∧ fx1.length = fx.length ∧ ∃ v7 v8 : Option V, σ = [some (.ref a), some (.ref p), some (.ref d), some (.ref kl), some (.int ch), some (.ref lx), some (.int (n : Int)), v7, v8, none, none, none, none], ?_, ?_⟩
  · refine ⟨_, rfl, rfl, _, rfl, ite2 (fun h => ?_) (fun h => ?_)⟩
    · have em : ((n : Int) + 1).fmod ((natsV fx).length : Int) = (((n + 1) % fx.length : Nat) : Int) := by
        rw [natsV_len, Int.fmod_eq_emod_of_nonneg _ (Int.natCast_nonneg _)]
        rfl
      have hm : (n + 1) % fx.length < fx.length := Nat.mod_lt _ fpos
      generalize (n + 1) % fx.length = m at em hm
      refine ⟨_, rfl, _, _, rfl, rfl, .inl ⟨_, rfl, _, rfl, lx, _, rfl, .inl (SqL.of own1.hlx), _, _, rfl, rfl, by rw [natsV_len]; omega, ?_⟩⟩
      dsimp only
      rw [em]
      have e1 : (natsV fx)[n]? = some (.int (fx[n] : Nat)) := natsV_get (List.getElem?_eq_getElem hn)
      have e2 : (natsV fx)[m]? = some (.int (fx[m] : Nat)) := natsV_get (List.getElem?_eq_getElem hm)
      refine ⟨_, rfl, _, rfl, lx, _, _, _, rfl, rfl, SqL.of own1.hlx, atI_nat e1, ?_⟩
      refine ⟨_, rfl, _, rfl, lx, _, _, _, rfl, rfl, SqL.of own1.hlx, atI_nat e2, _, rfl, _, rfl, lx, _, _, n, rfl, rfl, own1.hlx, ixN_at (by rw [natsV_len]; exact hn), ?_⟩
      rw [natsV_set]
      have w1 : St2 a lx G (upd G lx (.lst (natsV (fx.set n fx[m])))) := (St2.of (Stp.refl own1.st.s)).put nxa _
      have f1 : (upd G lx (.lst (natsV (fx.set n fx[m])))) lx = some (.lst (natsV (fx.set n fx[m]))) := upd_same
      have own2 := own1.setX w1 f1
      generalize (upd G lx (.lst (natsV (fx.set n fx[m])))) = G2 at own2 w1 f1
      refine ⟨_, rfl, _, rfl, _, rfl, lx, _, _, m, rfl, rfl, f1, ixN_at (by rw [natsV_len, List.length_set]; exact hm), ?_⟩
      rw [natsV_set]
      have own3 := own2.setX (fx' := (fx.set n fx[m]).set m fx[n]) ((St2.of (Stp.refl own2.st.s)).put nxa _) upd_same
      refine ⟨_, own3, nodup_swap sd.nd hn hm, fun i hi => ?_, by rw [List.length_set, List.length_set], _, _, rfl⟩
      exact sd.fl i ((List.set_set_perm hn hm).mem_iff.mp hi)
    · exact ⟨fx, own1, sd.nd, sd.fl, rfl, _, _, rfl⟩
  rintro σ G1 ⟨fx1, own2, nd1, fl1, lf1, v7, v8, rfl⟩
  have R100 : R.length ≤ 100 := by omega
  have lr1 : (ps.map V.ref).length = R.length := by rw [List.length_map]; exact own2.lp
  refine ⟨_, rfl, d, _, rfl, DGet.at (k := Sum.inr "records") own2.hd own2.kr, lr, _, rfl, .inl (SqL.of own2.hlr), _, rfl, by rw [lr1]; omega, by rw [lr1]; omega, fun D hD => ?_⟩
  have nDa := (own2.st.s.ne hD).symm
  refine lc_it walk_range (fun m F => Same G1 F ∧ ∃ pl : List Nat, F D = some (.lst (natsV pl)) ∧ pl.length ≤ m ∧ ∀ j ∈ pl, j < R.length ∧ j ∉ fx1) ⟨Same.new hD _, [], upd_same, Nat.le_refl _, fun j hj => by cases hj⟩ (fun _ _ _ _ => trivial) ?_ ?_
  · rintro m z F F' hm ⟨sF, pl, eD, lpl, hpl⟩ ⟨rfl, rfl⟩
    rw [lr1] at hm
    have hmR : m < R.length := by omega
    have eiv : (if true = true then !inV (V.int (0 + (m : Int))) (natsV fx1) else inV (V.int (0 + (m : Int))) (natsV fx1)) = !decide (m ∈ fx1) := by rw [if_pos rfl, Int.zero_add, inV_nat]
    refine ⟨rfl, _, rfl, _, rfl, lx, _, rfl, .inl (SqL.of (sF _ _ own2.hlx)), rfl, flatN fx1, _, rfl, ?_⟩
    by_cases mk : m ∈ fx1
    · exact ifF (by rw [eiv, decide_eq_true mk]; rfl) ⟨sF, pl, eD, by omega, hpl⟩
    · refine ifT (by rw [eiv, decide_eq_false mk]; rfl) ⟨_, rfl, _, eD, lt_line (by rw [natsV_len]; omega), fun b u e => by rw [upd_ne (ne_of_none e hD)]; exact sF _ _ e, pl ++ [m], ?_, by rw [List.length_append]; show pl.length + 1 ≤ _; omega, fun j hj => ?_⟩
      · rw [natsV_app]
        show upd F' D (HO.lst (natsV pl ++ [V.int (0 + (m : Int))])) D = some (HO.lst (natsV pl ++ [V.int (m : Int)]))
        rw [Int.zero_add]
        exact upd_same
      · rcases List.mem_append.mp hj with h | h
        · exact hpl j h
        · rw [List.mem_singleton.mp h]
          exact ⟨hmR, mk⟩
  rintro G2 ⟨sG2, pl, eD, lpl, hpl⟩
  have own3 := own2.stp (Stp.of_same own2.st.s sG2)
  refine ⟨fun σ G => ∃ fx1, Own K H0 a G d lr lv lx df ps qs kvs kf rs R us fx1 tag ∧ fx1.Nodup ∧ (∀ i ∈ fx1, i < R.length) ∧ fx1.length = fx.length ∧ σ = [some (.ref a), some (.ref p), some (.ref d), some (.ref kl), some (.int ch), some (.ref lx), some (.int (n : Int)), v7, v8, some (.ref D), none, none, none], ?_, ?_⟩
  · refine ⟨_, rfl, rfl, _, rfl, ite2 (fun h => ?_) (fun h => iteF ⟨fx1, own3, nd1, fl1, lf1, rfl⟩)⟩
    refine ⟨_, rfl, by show 0 ≤ sizeLine; decide, fun e0 he => ?_⟩
    have se := Same.new he (.lst [])
    have own4 := own3.stp (Stp.of_same own3.st.s se)
    refine ⟨D, e0, _, rfl, rfl, SqL.of (se _ _ eD), SqL.of upd_same, _, rfl, ?_⟩
    have eD4 := se _ _ eD
    generalize (upd G2 e0 (.lst [])) = G4 at own4 eD4
    by_cases nep : pl = []
    · subst nep
      exact ifF rfl ⟨fx1, own4, nd1, fl1, lf1, rfl⟩
    · refine ifT (by cases pl with | nil => exact absurd rfl nep | cons x l => rfl) ?_
      refine ⟨_, rfl, _, rfl, a, D, _, false, rfl, own4.st.s, fun _ => nDa, SqL.of eD4, by rw [natsV_len]; exact List.length_pos_iff.mpr nep, by rw [natsV_len]; rw [lr1] at lpl; omega, fun u G5 hu st5 => ?_⟩
      obtain ⟨j, hj, rfl⟩ := List.mem_map.mp hu
      obtain ⟨j1, j2⟩ := hpl j hj
      have own5 := own4.stp st5
      refine ⟨_, rfl, _, rfl, lx, _, _, n, rfl, rfl, own5.hlx, ixN_at (by rw [natsV_len]; omega), ?_⟩
      rw [natsV_set]
      have own6 := own5.setX (fx' := fx1.set n j) ((St2.of (Stp.refl own5.st.s)).put nxa _) upd_same
      refine ⟨_, own6, nodup_set nd1 j2, fun i hi => ?_, by rw [List.length_set]; exact lf1, rfl⟩
      rcases List.mem_or_eq_of_mem_set hi with hi | rfl
      · exact fl1 i hi
      · exact j1
  rintro σ G3 ⟨fx2, own4, nd2, fl2, lf2, rfl⟩
  have sd2 : SideT rs R ks us fx2 := sd.fix nd2 fl2
  clear own3 own2 own1 eD lpl hpl sG2 hD nd1 fl1 lf1
  have b3 := bs own4.st
  have lks := hks.1
  have lk100 := sd.vs.k
  have lus := sd.vs.l
  refine ⟨_, rfl, kl, _, rfl, .inl (SqL.of (b3 _ _ hk)), _, rfl, by omega, by omega, fun U hU => ?_⟩
  refine lc_it walk_range (fun m F => Same G3 F ∧ ∃ ul : List V, F U = some (.lst ul) ∧ ul.all flatV = true ∧ ul.length ≤ m) ⟨Same.new hU _, [], upd_same, rfl, Nat.le_refl _⟩ (fun _ _ _ _ => trivial) ?_ ?_
  · rintro m z F F' hm ⟨sF, ul, eU, ful, lul⟩ ⟨rfl, rfl⟩
    have hm2 : m < ks.length := by omega
    have ex : kxs[m]? = some (kxs[m]'(by omega)) := List.getElem?_eq_getElem _
    have ek : ks[m]? = some ks[m] := List.getElem?_eq_getElem hm2
    obtain ⟨pk, epk, hpk⟩ := hks.2 m _ _ ex ek
    rw [epk] at ex
    generalize ks[m] = kd at ek hpk
    obtain ⟨z0, rest, ev0, dec⟩ : ∃ s0 rest, kd.vals = .str s0 :: rest ∧ (decide (V.str s0 = V.str "ref") = kd.isRef) := kd_head kd
    rw [ev0] at hpk
    have a0 : atI kxs (0 + (m : Int)) = some (.ref pk) := by rw [Int.zero_add]; exact atI_nat ex
    have hmu : m < us.length := by omega
    have a1 : atI us (0 + (m : Int)) = some (us.getD m .non) := by rw [Int.zero_add]; exact atI_nat (by rw [List.getD_eq_getElem?_getD, List.getElem?_eq_getElem hmu]; rfl)
    have bF := b3.trans sF
    have oF := own4.stp (Stp.of_same own4.st.s sF)
    refine ⟨rfl, _, rfl, _, rfl, kl, _, _, _, rfl, rfl, SqL.of (bF _ _ hk), a0, pk, V.str z0 :: rest, _, V.str z0, rfl, rfl, Same.tup bF hpk, atI_nat (j := 0) rfl, rfl, _, rfl, ?_⟩
    cases hrf : kd.isRef with
    | false =>
      rw [hrf] at dec
      exact ifF dec ⟨sF, ul, eU, ful, by omega⟩
    | true =>
      rw [hrf] at dec
      refine ifT dec ⟨_, rfl, d, _, rfl, DGet.at (k := Sum.inr "values") oF.hd oF.kv, _, rfl, lv, _, _, _, rfl, rfl, SqL.of oF.hlv, a1, _, eU, lt_line (by omega), fun b u e => by rw [upd_ne (ne_of_none e hU)]; exact sF _ _ e, _, upd_same, ?_, by rw [List.length_append]; show ul.length + 1 ≤ _; omega⟩
      rw [List.all_append, ful]
      have := flat_getD sd.vs.f m
      rcases this with h | ⟨b, h⟩ | ⟨i, h⟩ <;> rw [h] <;> rfl
  rintro G4 ⟨sG4, ul, eU, ful, lul⟩
  have own5 := own4.stp (Stp.of_same own4.st.s sG4)
  have ok := sd.g.ok sd.w
  clear own4
  refine ⟨_, rfl, d, _, rfl, DGet.at (k := Sum.inr "records") own5.hd own5.kr, lr, _, rfl, .inl (SqL.of own5.hlr), _, rfl, by rw [lr1]; omega, by rw [lr1]; omega, for_range (lo := 0) (fun i σ G => Own K H0 a G d lr lv lx df ps qs kvs kf rs R us fx2 tag ∧ ∃ (ua : Addr) (U : List V) (v10 : Option V), G ua = some (.lst U) ∧ UsedOk rs R i U ∧ σ = [some (.ref a), some (.ref p), some (.ref d), some (.ref kl), some (.int ch), some (.ref lx), some (.int (n : Int)), v7, v8, some (.ref D), v10, some (.ref ua), none])
    ⟨own5, U, ul, none, eU, ⟨ful, by omega, fun i hi => absurd hi (Nat.not_lt_zero _)⟩, rfl⟩ ?_ ?_⟩
  · clear own5 eU ful lul ul U sG4 hU G4
    rintro i σ G hi ⟨own5, ua, U, v10, eU, ⟨fU, lU, mU⟩, rfl⟩
    rw [lr1] at hi
    have hiR : i < R.length := by omega
    refine ⟨_, rfl, _, rfl, _, rfl, d, a, i, rs, R, _, by rw [Int.zero_add]; rfl, ok, own5.run, hiR, fun l F1 s1 nl hl => ⟨ua, l, _, _, rfl, rfl, s1 _ _ eU, hl, ?_, fun q1 hq1 => ?_⟩⟩
    · have := ok.rn.l i
      rw [natsV_len]
      exact Nat.le_trans (show U.length + (nbR rs R i).length ≤ 3000 by omega) (by decide)
    · refine ⟨own5.stp ((Stp.of_same own5.st.s s1).same (Same.new hq1 _)), q1, _, _, upd_same, ⟨?_, ?_, fun j hj x hx => ?_⟩, rfl⟩
      · rw [List.all_append, fU, flatN]
        rfl
      · have := ok.rn.l i
        rw [List.length_append, natsV_len]
        omega
      · by_cases z : j = i
        · subst z
          exact List.mem_append_right _ (List.mem_map.mpr ⟨x, hx, rfl⟩)
        · exact List.mem_append_left _ (mU j (by omega) x hx)
  rintro σ G5 ⟨own6, ua, U, v10, eU, ⟨fU, _, mU⟩, rfl⟩
  have no : ∀ k, (V.int ((k : Nat) : Int) ∈ U → False) → ∀ i, ∀ j ∈ nbR rs R i, j ≠ k := fun k h i j hj e => by
    subst e
    by_cases hi : i < R.length
    · exact h (mU i (by rw [lr1]; omega) j hj)
    · unfold nbR at hj
      rw [List.getElem?_eq_none (by omega)] at hj
      cases hj
  have hn2 : n < fx2.length := by omega
  have en : (natsV fx2)[n]? = some (.int (fx2[n] : Nat)) := natsV_get (List.getElem?_eq_getElem hn2)
  have hk2 := fl2 _ (List.getElem_mem hn2)
  generalize fx2[n] = k at en hk2
  have ep : ps[k]? = some (ps[k]'(by rw [own6.lp]; exact hk2)) := List.getElem?_eq_getElem _
  have eq : qs[k]? = some (qs[k]'(by rw [own6.lq]; exact hk2)) := List.getElem?_eq_getElem _
  have er : R[k]? = some R[k] := List.getElem?_eq_getElem hk2
  have rok := sd.g.rc _ (List.getElem_mem hk2)
  generalize R[k] = rk at er rok
  generalize (ps[k]'(by rw [own6.lp]; exact hk2)) = pk at ep
  generalize (qs[k]'(by rw [own6.lq]; exact hk2)) = qk at eq
  refine ⟨_, rfl, d, _, rfl, DGet.at (k := Sum.inr "records") own6.hd own6.kr, _, rfl, _, rfl, lx, _, _, _, rfl, rfl, SqL.of own6.hlx, atI_nat en, lr, _, _, _, rfl, rfl, SqL.of own6.hlr, atI_nat (map_get ep), ?_⟩
  refine ⟨_, rfl, rfl, _, rfl, ite2 (fun h => ?_) (fun h => iteF (q _ _ _ _ _ own6 sd2 lf2))⟩
  refine ⟨_, rfl, _, rfl, lx, _, _, _, rfl, rfl, SqL.of own6.hlx, atI_nat en, _, rfl, ua, _, rfl, .inl (SqL.of eU), rfl, fU, _, rfl, ?_⟩
  have eiv : (if true = true then !inV (V.int ((k : Nat) : Int)) U else inV (V.int ((k : Nat) : Int)) U) = !inV (V.int ((k : Nat) : Int)) U := if_pos rfl
  cases hin : inV (V.int ((k : Nat) : Int)) U with
  | true => exact ifF rfl (q _ _ _ _ _ own6 sd2 lf2)
  | false =>
    have nr := no k fun m => by
      rw [inV_mem m] at hin
      cases hin
    refine ifT rfl ?_
    have b6 := bs own6.st
    refine ⟨_, rfl, _, rfl, p, _, 0, _, rfl, rfl, Same.tup b6 hp, rfl, a, pr, as.map V.ref, true, rfl, own6.st.s, (fun h => by cases h), Same.tup b6 hpr, by rw [List.length_map]; omega, by rw [List.length_map]; omega, fun v G6 hv st7 => ?_⟩
    obtain ⟨b0, hb0, rfl⟩ := List.mem_map.mp hv
    obtain ⟨j, hj, rfl⟩ := List.getElem_of_mem hb0
    have hj2 : j < rs.length := by omega
    obtain ⟨pf, h1, _⟩ := has j _ _ (List.getElem?_eq_getElem hj) (List.getElem?_eq_getElem hj2)
    have mr : rs[j] ∈ rs := List.getElem_mem hj2
    generalize rs[j] = rj at h1 mr
    have own7 := own6.stp st7
    have npa : pk ≠ a := (own7.s0.ne (own7.np k pk ep)).symm
    have e7 := (own7.hp k pk qk rk ep eq er).1
    refine ⟨_, _, 0, _, rfl, rfl, Same.tup (bs own7.st) h1, rfl, _, rfl, pk, _, 0, _, rfl, rfl, e7, rfl, ?_⟩
    generalize eG : upd G6 pk _ = G8
    have w8 : St2 a pk G6 G8 := by rw [← eG]; exact (St2.of (Stp.refl own7.st.s)).put npa _
    have e8 : G8 pk = some (.lst [.str rj.1, .bl rk.live, .ref qk]) := by rw [← eG]; exact upd_same
    have own8 := own7.setP ep eq er w8 e8
    clear eG
    have er8 : (R.set k ⟨rj.1, rk.live, rk.vals⟩)[k]? = some ⟨rj.1, rk.live, rk.vals⟩ := by rw [List.getElem?_set, if_pos rfl, if_pos hk2]
    have side : ∀ b vals, RcG rs (R.set k ⟨rj.1, b, vals⟩) ⟨rj.1, b, vals⟩ → SideT rs (R.set k ⟨rj.1, b, vals⟩) ks us fx2 := fun b vals g => sd2.heap (sd2.g.renamed nr g) (by rw [List.length_set]; exact Nat.le_refl _)
    refine ⟨_, rfl, pk, _, 1, _, rfl, rfl, SqL.of e8, rfl, _, rfl, ?_⟩
    cases hl : rk.live with
    | false =>
      refine iteF (q _ _ _ _ _ own8 ?_ lf2)
      rw [hl, rok.d hl]
      exact side false [] ⟨⟨rj, mr, rfl⟩, (fun h => by cases h), fun _ => rfl, (fun k s hk => by cases hk), (fun v hv => by cases hv), fun k hk => by cases hk⟩
    | true =>
      refine iteT ?_
      obtain ⟨l0, g1, g2, g3, g5, g6, g7⟩ := own_redraw (ks := ks) own8 ep er8 ⟨rj, mr, rfl⟩ (by rw [List.length_set]; omega) (fun b vals g => by
        rw [List.set_set] at g ⊢
        exact side b vals g)
      refine ⟨_, rfl, _, rfl, _, rfl, a, d, pk, l0, rj.1, rk.live, rs, fun r => (R.set k ⟨rj.1, rk.live, rk.vals⟩).set k r, rfl, g1, g2, g3, wok, ⟨rj, mr, rfl⟩, g5, g6, fun b l vals H' s' nl e1 e2 hd hl hv => ?_⟩
      obtain ⟨qs', R', tag', own', sd', lR'⟩ := g7 b l vals H' s' nl e1 e2 hd hl hv
      exact q _ _ _ _ _ own' sd' lf2
end
open ZG (Sq ItzG walk_zipG)
open DcS (dc_it)
/-! ### keys: one thing changed -/
theorem rgV_natsK {n : Nat} : rgV 0 (n : Int) = natsV (List.range n) := by
  unfold rgV natsV
  rw [Int.sub_zero, Int.toNat_natCast]
  exact List.map_congr_left fun i _ => by rw [Int.zero_add]
theorem St2.free {a x l : Addr} {H H' : Hp} (s : St2 a x H H') (na : l ≠ a) (nx : l ≠ x) (n : H' l = none) : H l = none := by
  cases e : H l with
  | none => rfl
  | some o =>
    rw [s.k _ _ na nx e] at n
    cases n
theorem RcG.setv {rs : List Rk} {R : List Rc} {r : Rc} {n : Nat} {u : V} (g : RcG rs R r) (hl : r.live = true) (h : DrV R ((flOf rs r.nm).getD n .flag) u) : RcG rs R ⟨r.nm, r.live, r.vals.set n u⟩ := by
  refine ⟨g.m, fun z => by rw [List.length_set]; exact g.l z, fun z => (by rw [hl] at z; cases z), fun k s hk hs => ?_, fun v hv => ?_, fun k hk => ?_⟩
  · have hk : k < r.vals.length := by rw [List.length_set] at hk; exact hk
    show (r.vals.set n u).getD k .non = .non ∨ _
    rw [set_getD hk]
    split
    · rename_i z
      subst z
      have hs : (flOf rs r.nm).getD n .flag = .ref s := hs
      rw [hs] at h
      exact h
    · exact g.v k s hk hs
  · rcases List.mem_or_eq_of_mem_set hv with hv | rfl
    · exact g.f v hv
    · exact h.flat
  · have hk : k < r.vals.length := by rw [List.length_set] at hk; exact hk
    show TyV ((flOf rs r.nm).getD k .flag) ((r.vals.set n u).getD k .non)
    rw [set_getD hk]
    split
    · rename_i z
      subst z
      exact h.ty
    · exact g.t k hk
def spChanged (K : PySem.W.Frag) : Sp := fun vs H Q _ => ∃ (a p d kl : Addr) (kxs : List V) (ks : List Kd) (rs : List Rk) (R : List Rc) (us : List V) (fx : List Nat) (B : Hp), vs = [.ref a, .ref p, .ref d, .ref kl] ∧ Src H a ∧ Same B H ∧ B a = none ∧ PgAt K B p rs ∧ rs ≠ [] ∧ B kl = some (.lst kxs) ∧ KdsAt K B kxs ks ∧ (∀ k ∈ ks, KOk k) ∧ RunAt K a B d rs R ∧ RunV B d us fx ∧ SideT rs R ks us fx ∧ R.length ≤ 50 ∧
  ∀ d' R' us' fx' H', Stp a H H' → RunAt K a H' d' rs R' → RunV H' d' us' fx' → SideT rs R' ks us' fx' → fx'.length = fx.length → Q (.ref d') H'
section
variable {P : Program} {w : World} {K : PySem.W.Frag} {mg : Str → Option Value} {base : Heap}
theorem ok_l_changed (T : Txt w K mg) : FnOk P w K mg base CX0 6 T.a_l_changed T.d_l_changed p_l_changed (spChanged K) := by
  have g_l_pick := ok_l_pick (P := P) (w := w) (base := base) T
  have g_l_one := ok_l_oneG (P := P) (w := w) (K := K) (base := base) T
  have g_l_copy := ok_l_copy (P := P) (w := w) (K := K) (base := base) T
  have g_l_reached := ok_l_reached (P := P) (w := w) (K := K) (base := base) T
  have g_l_redraw := ok_l_redraw (P := P) (w := w) (K := K) (base := base) T
  have g_l_drawn_value := ok_l_drawn_value (P := P) (w := w) (K := K) (base := base) T
  have g_l_with_other_fixed := ok_l_with_other_fixed (P := P) (w := w) (K := K) (base := base) T
  refine T.F_l_changed.ok sc_l_changed (fun vs H Q E h => ?_) (fun cdv A outer s H vs Q E hr h => ?_)
  · obtain ⟨a, p, d, kl, kxs, ks, rs, R, us, fx, B, rfl, _⟩ := h
    rfl
  obtain ⟨a, p, d, kl, kxs, ks, rs, R, us, fx, B, rfl, hS, sB, nB, hpg, rne, hk, hks, kok, hrun, hv, sd, R50, q⟩ := h
  refine ⟨_, (pss_cons (ps_set (i := 4) sc_l_changed.nd rfl (Or.inl rfl) (pe_call g_l_copy (hr.mono (by first | decide | omega)) rfl T.m_l_copy T.F_l_copy.kp T.b_l_copy .nil pass0 (pa_cons (pv 2) pa_nil)))
      (pss_cons (ps_set (i := 5) sc_l_changed.nd rfl (Or.inl rfl) (pe_call g_l_pick (hr.mono (by first | decide | omega)) rfl T.m_l_pick T.F_l_pick.kp T.b_l_pick .nil pass0 (pa_cons (pv 0) (pa_cons pe_int pa_nil))))
      (C8.pss_cut (ps_if (PW.pt (pw_and (pt_cmpR op_lt (pv 5) pe_int (nomark _)) (pw_and1 (pt_cmpR (op_neL0 hr.units0) (pe_dget (hu_of hr) (pv 4) pe_str (fun _ _ => rfl)) (pe_lst pa_nil) (nomark _))))) (pss_cons (ps_expr (pe_call g_l_with_other_fixed (hr.mono (by first | decide | omega)) rfl T.m_l_with_other_fixed T.F_l_with_other_fixed.kp T.b_l_with_other_fixed .nil pass0 (pa_cons (pv 0) (pa_cons (pv 1) (pa_cons (pv 4) (pa_cons (pv 3) (pa_cons (pv 5) pa_nil)))))))
      (pss_one (ps_ret (pv 4)))) pss_nil)
      (pss_cons (ps_set (i := 6) sc_l_changed.nd rfl (Or.inl rfl) (pe_call g_l_reached (hr.mono (by first | decide | omega)) rfl T.m_l_reached T.F_l_reached.kp T.b_l_reached .nil pass0 (pa_cons (pv 4) (pa_cons (pv 3) pa_nil))))
      (C8.pss_cut (ps_if (PW.pt (pw_or (pt_cmpR (op_eqL0 hr.units0) (pv 6) (pe_lst pa_nil) (nomark _)) (pw_or1 (pt_cmpR op_eq (pe_call g_l_pick (hr.mono (by first | decide | omega)) rfl T.m_l_pick T.F_l_pick.kp T.b_l_pick .nil pass0 (pa_cons (pv 0) (pa_cons pe_int pa_nil))) pe_int (nomark _))))) (pss_one (ps_set (i := 6) sc_l_changed.nd rfl (Or.inl rfl) (pe_listRg rfl rfl T.z_list (prg_1 rfl T.z_range (pe_callB call_len_seq rfl T.z_len PySem.boot_len (pa_cons (pe_dget (hu_of hr) (pv 4) pe_str (fun _ _ => rfl)) pa_nil)))))) pss_nil)
      (C8.pss_cut (ps_if (PW.pt (pw_or (PW.pt (pw_and (pt_cmpR op_gt (pv 5) pe_int (nomark _)) (pw_and1 (pt_cmpR (op_neL0 hr.units0) (pv 3) (pe_lst pa_nil) (nomark _))))) (pw_or1 (pt_cmpR (op_eqL0 hr.units0) (pv 6) (pe_lst pa_nil) (nomark _))))) (C8.pss_cut (ps_if (pt_cmpR (op_neL0 hr.units0) (pv 3) (pe_lst pa_nil) (nomark _)) (pss_cons (ps_set (i := 7) sc_l_changed.nd rfl (Or.inl rfl) (pe_call g_l_pick (hr.mono (by first | decide | omega)) rfl T.m_l_pick T.F_l_pick.kp T.b_l_pick .nil pass0 (pa_cons (pv 0) (pa_cons (pe_callB call_len_seq rfl T.z_len PySem.boot_len (pa_cons (pv 3) pa_nil)) pa_nil))))
      (pss_cons (ps_set (i := 8) sc_l_changed.nd rfl (Or.inl rfl) (pe_dget (hu_of hr) (pv 4) pe_str (fun _ _ => rfl)))
      (pss_one (ps_asg (pe_call g_l_drawn_value (hr.mono (by first | decide | omega)) rfl T.m_l_drawn_value T.F_l_drawn_value.kp T.b_l_drawn_value .nil pass0 (pa_cons (pv 0) (pa_cons (pv 4) (pa_cons (pe_ix ix_list (pv 3) (pv 7) (fun _ _ => rfl)) pa_nil)))) (pg_sub (pv 8) (pv 7) set_list))))) pss_nil)
      (pss_one (ps_ret (pv 4)))) pss_nil)
      (pss_cons (ps_set (i := 9) sc_l_changed.nd rfl (Or.inl rfl) (pe_ix ix_list (pe_dget (hu_of hr) (pv 4) pe_str (fun _ _ => rfl)) (pe_call g_l_one (hr.mono (by first | decide | omega)) rfl T.m_l_one T.F_l_one.kp T.b_l_one .nil pass0 (pa_cons (pv 0) (pa_cons (pv 6) pa_nil))) (fun _ _ => rfl)))
      (C8.pss_cut (ps_if (PW.pt (pw_or (pt_cmpR op_eq (pv 5) pe_int (nomark _)) (pw_or1 (pt_not (pt_val (pe_ix ix_list (pv 9) pe_int (fun _ _ => rfl))))))) (pss_one (ps_expr (pe_call g_l_redraw (hr.mono (by first | decide | omega)) rfl T.m_l_redraw T.F_l_redraw.kp T.b_l_redraw .nil pass0 (pa_cons (pv 0) (pa_cons (pv 4) (pa_cons (pv 9) pa_nil)))))) (pss_one (ps_if (PW.pt (pw_or (pt_cmpR op_eq (pv 5) pe_int (nomark _)) (pw_or1 (pt_cmpR (op_eqL0 hr.units0) (pe_ix ix_list (pv 9) pe_int (fun _ _ => rfl)) (pe_lst pa_nil) (nomark _))))) (pss_cons (ps_asg pe_bl (pg_sub (pv 9) pe_int set_list))
      (pss_one (ps_asg (pe_lst pa_nil) (pg_sub (pv 9) pe_int set_list)))) (pss_cons (ps_set (i := 7) sc_l_changed.nd rfl (Or.inl rfl) (pe_call g_l_pick (hr.mono (by first | decide | omega)) rfl T.m_l_pick T.F_l_pick.kp T.b_l_pick .nil pass0 (pa_cons (pv 0) (pa_cons (pe_callB call_len_seq rfl T.z_len PySem.boot_len (pa_cons (pe_ix ix_list (pv 9) pe_int (fun _ _ => rfl)) pa_nil)) pa_nil))))
      (pss_cons (ps_set (i := 10) sc_l_changed.nd rfl (Or.inl rfl) (pe_dget (hu_of hr) (pe_dget (hu_of hr) (pv 4) pe_str (fun _ _ => rfl)) (pe_ix ix_list (pv 9) pe_int (fun _ _ => rfl)) (fun _ _ => rfl)))
      (pss_cons (ps_set (i := 11) sc_l_changed.nd rfl (Or.inl rfl) (pe_ix ix_list (pv 9) pe_int (fun _ _ => rfl)))
      (pss_one (ps_asg (pe_call g_l_drawn_value (hr.mono (by first | decide | omega)) rfl T.m_l_drawn_value T.F_l_drawn_value.kp T.b_l_drawn_value .nil pass0 (pa_cons (pv 0) (pa_cons (pv 4) (pa_cons (pe_ix ix_tup (pe_ix ix_tup (pv 10) (pv 7) (fun _ _ => rfl)) pe_int (fun _ _ => rfl)) pa_nil)))) (pg_sub (pv 11) (pv 7) set_list)))))))))
      (pss_one (ps_ret (pv 4))))))))))), ?_⟩
  have wok := sd.w
  have bs : ∀ {G : Hp}, Stp a H G → Same B G := fun st => Stp.fresh sB nB st
  refine ⟨_, rfl, a, d, rs, R, us, fx, rfl, hS, hrun.same sB, hv.same sB, by omega, fun d' lr lv lx df ps qs kvs kf tag H1 s1 own1 => ?_⟩
  have fin : ∀ {qs : List Addr} {R' : List Rc} {us' : List V} {fx' : List Nat} {tag : Addr → Nat} {G : Hp}, Own K H a G d' lr lv lx df ps qs kvs kf rs R' us' fx' tag → SideT rs R' ks us' fx' → fx'.length = fx.length → Q (.ref d') G := fun o s l => q _ _ _ _ _ o.st o.run o.val s l
  refine ⟨_, rfl, a, 8, rfl, own1.st.s, by decide, fun ch G2 st2 _ _ => ?_⟩
  have own2 := own1.stp st2
  refine ⟨fun σ G => Own K H a G d' lr lv lx df ps qs kvs kf rs R us fx tag ∧ σ = [some (.ref a), some (.ref p), some (.ref d), some (.ref kl), some (.ref d'), some (.int ch), none, none, none, none, none, none], ?_, ?_⟩
  · refine ⟨_, rfl, _, _, rfl, rfl, _, rfl, ite2 (fun h => ?_) (fun h => iteF ⟨own2, rfl⟩)⟩
    refine ⟨_, rfl, d', _, rfl, DGet.at (k := Sum.inr "fixed") own2.hd own2.kx, by show 0 ≤ sizeLine; decide, fun e0 he => ?_⟩
    have se := Same.new he (.lst [])
    have own3 := own2.stp (Stp.of_same own2.st.s se)
    refine ⟨lx, e0, _, rfl, rfl, SqL.of (se _ _ own2.hlx), SqL.of upd_same, _, rfl, ?_⟩
    generalize (upd G2 e0 (.lst [])) = G3 at own3
    by_cases nfx : fx = []
    · exact ifF (by rw [nfx]; rfl) ⟨own3, rfl⟩
    · refine ifT (by cases fx with | nil => exact absurd rfl nfx | cons x l => rfl) ?_
      exact ⟨_, rfl, _, rfl, _, rfl, _, rfl, _, rfl, a, p, d', kl, ch, kxs, ks, rs, R, us, fx, B, H, lr, lv, lx, df, ps, qs, kvs, kf, tag, rfl, sB, nB, hpg, rne, hk, hks, own3, sd, by omega, nfx, fun qs' R' fx' tag' H' o s l => ⟨_, rfl, fin o s l⟩⟩
  rintro σ G3 ⟨own3, rfl⟩
  have b3 := bs own3.st
  refine ⟨_, rfl, _, rfl, d', a, kl, kxs, rs, R, _, ks, us, fx, rfl, sd.g.ok sd.w, rk_lt4 sd.w sd.g, own3.run, own3.val, b3 _ _ hk, hks.keep (KeepT.of b3), sd.s, fun lm m G4 s4 nlm elm pm sm => ?_⟩
  have own4 := own3.stp (Stp.of_same own3.st.s s4)
  have nlma : lm ≠ a := (own3.st.s.ne nlm).symm
  obtain ⟨_, lto, _⟩ := sd.s.ord
  have mR : ∀ j ∈ m, j < R.length := fun j hj => lto j (pm.mem_iff.mp hj)
  have m100 : m.length ≤ 100 := by
    rw [pm.length_eq]
    obtain ⟨ndo, lto, _⟩ := sd.s.ord
    have := len_le ndo lto
    omega
  refine ⟨fun σ G => Own K H a G d' lr lv lx df ps qs kvs kf rs R us fx tag ∧ ∃ pa pl, pa ≠ a ∧ G pa = some (.lst (natsV pl)) ∧ pl.length ≤ 100 ∧ (∀ j ∈ pl, j < R.length) ∧ σ = [some (.ref a), some (.ref p), some (.ref d), some (.ref kl), some (.ref d'), some (.int ch), some (.ref pa), none, none, none, none, none], ?_, ?_⟩
  · refine ⟨_, rfl, by show 0 ≤ sizeLine; decide, fun e0 he => ?_⟩
    have se := Same.new he (.lst [])
    have own5 := own4.stp (Stp.of_same own4.st.s se)
    have elm5 := se _ _ elm
    refine ⟨lm, e0, _, rfl, rfl, SqL.of elm5, SqL.of upd_same, _, rfl, ?_⟩
    generalize (upd G4 e0 (.lst [])) = G5 at own5 elm5
    have l5 : (ps.map V.ref).length = R.length := by rw [List.length_map]; exact own5.lp
    by_cases nep : m = []
    · refine ifT (by rw [nep]; rfl) ?_
      refine ⟨_, rfl, d', _, rfl, DGet.at (k := Sum.inr "records") own5.hd own5.kr, lr, _, rfl, .inl (SqL.of own5.hlr), ?_⟩
      refine ⟨_, rfl, RgOk.of_le (by decide) (by omega) (by decide) (by omega), fun q1 hq1 => ?_⟩
      rw [l5, rgV_natsK]
      exact ⟨own5.stp (Stp.of_same own5.st.s (Same.new hq1 _)), q1, List.range R.length, (own5.st.s.ne hq1).symm, upd_same, by rw [List.length_range]; omega, fun j hj => List.mem_range.mp hj, rfl⟩
    · refine ifF (by cases m with | nil => exact absurd rfl nep | cons x l => rfl) ?_
      refine ⟨_, rfl, a, 6, rfl, own5.st.s, by decide, fun r G6 st6 r0 _ => ⟨rfl, _, rfl, ite2 (fun h => ?_) (fun h => ?_)⟩⟩
      · have own6 := own5.stp st6
        refine ⟨_, rfl, d', _, rfl, DGet.at (k := Sum.inr "records") own6.hd own6.kr, lr, _, rfl, .inl (SqL.of own6.hlr), ?_⟩
        refine ⟨_, rfl, RgOk.of_le (by decide) (by omega) (by decide) (by omega), fun q1 hq1 => ?_⟩
        rw [l5, rgV_natsK]
        exact ⟨own6.stp (Stp.of_same own6.st.s (Same.new hq1 _)), q1, List.range R.length, (own6.st.s.ne hq1).symm, upd_same, by rw [List.length_range]; omega, fun j hj => List.mem_range.mp hj, rfl⟩
      · exact ⟨own5.stp st6, lm, m, nlma, st6.k _ _ nlma elm5, m100, mR, rfl⟩
  rintro σ G5 ⟨own5, pa, pl, npa, epl, lpl, plR, rfl⟩
  have lks := hks.1
  have lk100 := sd.vs.k
  have lus := sd.vs.l
  refine ⟨fun σ G => Own K H a G d' lr lv lx df ps qs kvs kf rs R us fx tag ∧ pl ≠ [] ∧ G pa = some (.lst (natsV pl)) ∧ σ = [some (.ref a), some (.ref p), some (.ref d), some (.ref kl), some (.ref d'), some (.int ch), some (.ref pa), none, none, none, none, none], ?_, ?_⟩
  · refine ⟨_, rfl, _, _, rfl, rfl, _, rfl, ite2 (fun h => ?A) (fun h => ?B)⟩
    case' A =>
      refine ⟨_, rfl, by show 0 ≤ sizeLine; decide, fun e0 he => ?_⟩
      have se := Same.new he (.lst [])
      have own6 := own5.stp (Stp.of_same own5.st.s se)
      have epl6 := se _ _ epl
      refine ⟨kl, e0, _, rfl, rfl, SqL.of (bs own6.st _ _ hk), SqL.of upd_same, _, rfl, ?_⟩
      generalize (upd G5 e0 (.lst [])) = G6 at own6 epl6
      rcases Classical.em (kxs = []) with nk | nk
      case' inr => refine ifT (by cases kxs with | nil => exact absurd rfl nk | cons x l => rfl) ?_
      case' inl =>
        refine ifF (by rw [nk]; rfl) ?_
        refine ⟨_, rfl, by show 0 ≤ sizeLine; decide, fun e1 he1 => ?_⟩
        have se1 := Same.new he1 (.lst [])
        have own7 := own6.stp (Stp.of_same own6.st.s se1)
        have epl7 := se1 _ _ epl6
        refine ⟨pa, e1, _, rfl, rfl, SqL.of epl7, SqL.of upd_same, _, rfl, ?_⟩
        generalize (upd G6 e1 (.lst [])) = G7 at own7 epl7
        clear own6 epl6
        have own6 := own7
        have epl6 := epl7
        rcases Classical.em (pl = []) with np | np
        case' inr => exact ifF (by cases pl with | nil => exact absurd rfl np | cons x l => rfl) ⟨own6, np, epl6, rfl⟩
        case' inl => refine ifT (by rw [np]; rfl) ?_
    case' B =>
      refine iteF ?_
      refine ⟨_, rfl, by show 0 ≤ sizeLine; decide, fun e1 he1 => ?_⟩
      have se1 := Same.new he1 (.lst [])
      have own6 := own5.stp (Stp.of_same own5.st.s se1)
      have epl6 := se1 _ _ epl
      refine ⟨pa, e1, _, rfl, rfl, SqL.of epl6, SqL.of upd_same, _, rfl, ?_⟩
      generalize (upd G5 e1 (.lst [])) = G6 at own6 epl6
      rcases Classical.em (pl = []) with np | np
      case' inr => exact ifF (by cases pl with | nil => exact absurd rfl np | cons x l => rfl) ⟨own6, np, epl6, rfl⟩
      case' inl => refine ifT (by rw [np]; rfl) ?_
    all_goals
      refine ⟨fun σ G => ∃ us', Own K H a G d' lr lv lx df ps qs kvs kf rs R us' fx tag ∧ SideT rs R ks us' fx ∧ ∃ v7 v8 : Option V, σ = [some (.ref a), some (.ref p), some (.ref d), some (.ref kl), some (.ref d'), some (.int ch), some (.ref pa), v7, v8, none, none, none], ?_, ?_⟩
      · refine ⟨_, rfl, by show 0 ≤ sizeLine; decide, fun e2 he2 => ?_⟩
        have se2 := Same.new he2 (.lst [])
        have own8 := own6.stp (Stp.of_same own6.st.s se2)
        refine ⟨kl, e2, _, rfl, rfl, SqL.of (bs own8.st _ _ hk), SqL.of upd_same, _, rfl, ?_⟩
        generalize (upd _ e2 (.lst [])) = G8 at own8
        by_cases nk2 : kxs = []
        · exact ifF (by rw [nk2]; rfl) ⟨us, own8, sd, _, _, rfl⟩
        · refine ifT (by cases kxs with | nil => exact absurd rfl nk2 | cons x l => rfl) ?_
          have kpos : 0 < kxs.length := List.length_pos_iff.mpr nk2
          refine ⟨_, rfl, _, rfl, kl, _, rfl, .inl (SqL.of (bs own8.st _ _ hk)), a, kxs.length, rfl, own8.st.s, by omega, fun r G9 st9 r0 r1 => ?_⟩
          obtain ⟨n, rfl⟩ := Int.eq_ofNat_of_zero_le r0
          have hn : n < ks.length := by omega
          have own9 := own8.stp st9
          have ex : kxs[n]? = some (kxs[n]'(by omega)) := List.getElem?_eq_getElem _
          have ek : ks[n]? = some ks[n] := List.getElem?_eq_getElem hn
          have hkd := hks.2 n _ _ ex ek
          have kok1 := kok _ (List.getElem_mem hn)
          have gk : ks.getD n .flag = ks[n] := getD_get ek
          generalize ks[n] = kd at ek hkd kok1 gk
          generalize (kxs[n]'(by omega)) = kx at ex hkd
          have b9 := bs own9.st
          refine ⟨_, rfl, d', _, rfl, DGet.at (k := Sum.inr "values") own9.hd own9.kv, ?_⟩
          refine ⟨_, rfl, _, rfl, _, rfl, _, rfl, kl, _, _, _, rfl, rfl, SqL.of (b9 _ _ hk), atI_nat ex, a, d', kx, kd, rs, R, rfl, own9.st.s, own9.run, hkd.keep (KeepT.of b9), kok1, by omega, fun u G10 st10 hu => ?_⟩
          have own10 := own9.stp st10
          refine ⟨_, rfl, _, rfl, lv, _, _, n, rfl, rfl, own10.hlv, ixN_at (by omega), ?_⟩
          have own11 := own10.setV (us' := us.set n u) ((St2.of (Stp.refl own10.st.s)).put ((own10.s0.ne own10.nlv).symm) _) upd_same
          exact ⟨_, own11, sd.val (by rw [gk]; exact hu), _, _, rfl⟩
      · rintro σ G8 ⟨us', own8, sd8, v7, v8, rfl⟩
        exact ⟨_, rfl, fin own8 sd8 rfl⟩
  rintro σ G6 ⟨own6, npl, epl6, rfl⟩
  refine ⟨_, rfl, d', _, rfl, DGet.at (k := Sum.inr "records") own6.hd own6.kr, _, rfl, _, rfl, a, pa, natsV pl, false, rfl, own6.st.s, fun _ => npa, SqL.of epl6, by rw [natsV_len]; exact List.length_pos_iff.mpr npl, by rw [natsV_len]; omega, fun v G7 hv st7 => ?_⟩
  obtain ⟨k, hkm, rfl⟩ := List.mem_map.mp hv
  have hk2 := plR k hkm
  have own7 := own6.stp st7
  have ep : ps[k]? = some (ps[k]'(by rw [own7.lp]; exact hk2)) := List.getElem?_eq_getElem _
  have eq : qs[k]? = some (qs[k]'(by rw [own7.lq]; exact hk2)) := List.getElem?_eq_getElem _
  have er : R[k]? = some R[k] := List.getElem?_eq_getElem hk2
  have rok := sd.g.rc _ (List.getElem_mem hk2)
  generalize R[k] = rk at er rok
  generalize (ps[k]'(by rw [own7.lp]; exact hk2)) = pk at ep
  generalize (qs[k]'(by rw [own7.lq]; exact hk2)) = qk at eq
  refine ⟨lr, _, _, _, rfl, rfl, SqL.of own7.hlr, atI_nat (map_get ep), ?_⟩
  have npk : pk ≠ a := (own7.s0.ne (own7.np k pk ep)).symm
  have nqk : qk ≠ a := (own7.s0.ne (own7.nq k qk eq)).symm
  obtain ⟨e7, f7⟩ := own7.hp k pk qk rk ep eq er
  refine ⟨fun σ G => ∃ qs R' tag, Own K H a G d' lr lv lx df ps qs kvs kf rs R' us fx tag ∧ SideT rs R' ks us fx ∧ ∃ v7 v10 v11 : Option V, σ = [some (.ref a), some (.ref p), some (.ref d), some (.ref kl), some (.ref d'), some (.int ch), some (.ref pa), v7, none, some (.ref pk), v10, v11], ?_, ?_⟩
  · refine ⟨_, rfl, rfl, _, rfl, ite2 (fun h => ?A2) (fun h => ?B2)⟩
    case' B2 =>
      refine ⟨_, rfl, pk, _, 1, _, rfl, rfl, SqL.of e7, rfl, _, rfl, ?_⟩
      rcases Bool.eq_false_or_eq_true rk.live with hl | hl
      case' inl =>
        rw [hl]
        refine iteF ?_
        refine ⟨_, rfl, rfl, _, rfl, ite2 (fun h => ?C2) (fun h => ?D2)⟩
        case' D2 =>
          refine ⟨_, rfl, pk, _, 2, _, rfl, rfl, SqL.of e7, rfl, by show 0 ≤ sizeLine; decide, fun e1 he1 => ?_⟩
          have se1 := Same.new he1 (.lst [])
          have own8 := own7.stp (Stp.of_same own7.st.s se1)
          have e8 := se1 _ _ e7
          have f8 := se1 _ _ f7
          refine ⟨qk, e1, _, rfl, rfl, SqL.of f8, SqL.of upd_same, _, rfl, ?_⟩
          generalize (upd G7 e1 (.lst [])) = G8 at own8 e8 f8
          rcases Classical.em (rk.vals = []) with nv | nv
          case' inl =>
            refine ifT (by rw [nv]; rfl) ?_
            refine ⟨_, rfl, pk, _, 1, _, rfl, rfl, e8, rfl, ?_⟩
            generalize eG : upd _ pk _ = G9
            have e9 : G9 pk = some (.lst [.str rk.nm, .bl false, .ref qk]) := by rw [← eG]; exact upd_same
            have w9 : St2 a pk G8 G9 := by rw [← eG]; exact (St2.of (Stp.refl own8.st.s)).put npk _
            clear eG
            refine ⟨by show 0 ≤ sizeLine; decide, fun l hl9 => ⟨_, rfl, pk, _, 2, _, rfl, rfl, Same.new hl9 _ _ _ e9, rfl, ?_⟩⟩
            have npl : l ≠ pk := (ne_of_none e9 hl9).symm
            have nla : l ≠ a := (w9.s.ne hl9).symm
            have hl8 := St2.free w9 nla npl hl9
            generalize eG : upd _ pk _ = G10
            have w10 : St2 a pk G8 G10 := by rw [← eG]; exact (w9.stp (Stp.of_same w9.s (Same.new hl9 (.lst [])))).put npk _
            have e10 : G10 pk = some (.lst [.str rk.nm, .bl false, .ref l]) := by rw [← eG]; exact upd_same
            have f10 : G10 l = some (.lst []) := by
              rw [← eG, upd_ne npl]
              exact upd_same
            clear eG
            have own10 := own8.setN (nm := rk.nm) (b := false) (vals := []) ep w10 hl8 e10 f10
            have g : RcG rs (R.set k ⟨rk.nm, false, []⟩) ⟨rk.nm, false, []⟩ := ⟨rok.m, (fun h => by cases h), fun _ => rfl, (fun k s hk => by cases hk), (fun v hv => by cases hv), fun k hk => by cases hk⟩
            exact ⟨_, _, _, own10, sd.heap (sd.g.set er rfl g) (by rw [List.length_set]; exact Nat.le_refl _), _, _, _, rfl⟩
          case' inr =>
            refine ifF (by generalize rk.vals = l at nv; cases l with | nil => exact absurd rfl nv | cons x l => rfl) ?_
            have vpos : 0 < rk.vals.length := List.length_pos_iff.mpr nv
            have lv20 : rk.vals.length ≤ 20 := by rw [rok.l hl]; exact flOf_len wok.pok
            refine ⟨_, rfl, _, rfl, pk, _, 2, _, rfl, rfl, SqL.of e8, rfl, qk, _, rfl, .inl (SqL.of f8), a, rk.vals.length, rfl, own8.st.s, by omega, fun r G9 st9 r0 r1 => ?_⟩
            obtain ⟨n, rfl⟩ := Int.eq_ofNat_of_zero_le r0
            have hn : n < rk.vals.length := by omega
            have own9 := own8.stp st9
            obtain ⟨e9, f9⟩ := own9.hp k pk qk rk ep eq er
            obtain ⟨c0, mc0, ec0⟩ := rok.m
            obtain ⟨pf, ef, bs0, hbs, lbs, hb⟩ := own9.fl c0 mc0
            rw [ec0] at ef
            have efl : flOf rs rk.nm = c0.2.map (·.2) := by rw [← ec0]; exact flOf_mem wok.nd mc0
            have hn2 : n < c0.2.length := by
              have := rok.l hl
              rw [efl, List.length_map] at this
              omega
            have eb : bs0[n]? = some (bs0[n]'(by omega)) := List.getElem?_eq_getElem _
            have efn : c0.2[n]? = some c0.2[n] := List.getElem?_eq_getElem hn2
            obtain ⟨kv, h1, h2⟩ := hb n _ _ eb efn
            have kok1 := wok.k c0 mc0 _ (List.getElem_mem hn2)
            have gk : (flOf rs rk.nm).getD n .flag = (c0.2[n]).2 := by rw [efl]; exact getD_get (by rw [List.getElem?_map, efn]; rfl)
            generalize c0.2[n] = fn at efn h1 h2 kok1 gk
            generalize (bs0[n]'(by omega)) = b at eb h1
            have kt : KeepT K H G9 := own9.st.keepT hS
            refine ⟨_, rfl, d', _, rfl, DGet.at (k := Sum.inr "fields") own9.hd own9.kk, _, rfl, pk, _, 0, _, rfl, rfl, SqL.of e9, rfl, df, _, rfl, DGet.at (k := Sum.inr rk.nm) (own9.st.k _ _ own9.nf own9.hf) ef, ?_⟩
            refine ⟨_, rfl, pk, _, 2, _, rfl, rfl, SqL.of e9, rfl, ?_⟩
            refine ⟨_, rfl, _, rfl, _, rfl, _, rfl, pf, _, _, _, rfl, rfl, kt _ _ hbs, atI_nat (map_get eb), b, _, 1, _, rfl, rfl, kt _ _ h1, rfl, a, d', kv, fn.2, rs, R, rfl, own9.st.s, own9.run, h2.keep kt, kok1, by omega, fun u G10 st10 hu => ?_⟩
            have own10 := own9.stp st10
            obtain ⟨_, f10⟩ := own10.hp k pk qk rk ep eq er
            refine ⟨_, rfl, _, rfl, qk, _, _, n, rfl, rfl, f10, ixN_at hn, ?_⟩
            have own11 := own10.setQ (vals := rk.vals.set n u) eq er ((St2.of (Stp.refl own10.st.s)).put nqk _) upd_same
            have g : RcG rs R ⟨rk.nm, rk.live, rk.vals.set n u⟩ := rok.setv hl (by rw [gk]; exact hu)
            exact ⟨_, _, _, own11, sd.heap (sd.g.set er rfl (g.up2 (Nms.set er rfl))) (by rw [List.length_set]; exact Nat.le_refl _), _, _, _, rfl⟩
        case' C2 =>
          have own8 := own7
          have e8 := e7
          refine ⟨_, rfl, pk, _, 1, _, rfl, rfl, e8, rfl, ?_⟩
          generalize eG : upd _ pk _ = G9
          have e9 : G9 pk = some (.lst [.str rk.nm, .bl false, .ref qk]) := by rw [← eG]; exact upd_same
          have w9 : St2 a pk G7 G9 := by rw [← eG]; exact (St2.of (Stp.refl own8.st.s)).put npk _
          clear eG
          refine ⟨by show 0 ≤ sizeLine; decide, fun l hl9 => ⟨_, rfl, pk, _, 2, _, rfl, rfl, Same.new hl9 _ _ _ e9, rfl, ?_⟩⟩
          have npl : l ≠ pk := (ne_of_none e9 hl9).symm
          have nla : l ≠ a := (w9.s.ne hl9).symm
          have hl8 := St2.free w9 nla npl hl9
          generalize eG : upd _ pk _ = G10
          have w10 : St2 a pk G7 G10 := by rw [← eG]; exact (w9.stp (Stp.of_same w9.s (Same.new hl9 (.lst [])))).put npk _
          have e10 : G10 pk = some (.lst [.str rk.nm, .bl false, .ref l]) := by rw [← eG]; exact upd_same
          have f10 : G10 l = some (.lst []) := by
            rw [← eG, upd_ne npl]
            exact upd_same
          clear eG
          have own10 := own8.setN (nm := rk.nm) (b := false) (vals := []) ep w10 hl8 e10 f10
          have g : RcG rs (R.set k ⟨rk.nm, false, []⟩) ⟨rk.nm, false, []⟩ := ⟨rok.m, (fun h => by cases h), fun _ => rfl, (fun k s hk => by cases hk), (fun v hv => by cases hv), fun k hk => by cases hk⟩
          exact ⟨_, _, _, own10, sd.heap (sd.g.set er rfl g) (by rw [List.length_set]; exact Nat.le_refl _), _, _, _, rfl⟩
      case' inr =>
        rw [hl]
        refine iteT ?_
    all_goals
      obtain ⟨l0, g1, g2, g3, g5, g6, g7⟩ := own_redraw (ks := ks) own7 ep er rok.m (by omega) (fun b vals g => sd.heap (sd.g.set er rfl g) (by rw [List.length_set]; exact Nat.le_refl _))
      refine ⟨_, rfl, _, rfl, _, rfl, a, d', pk, l0, rk.nm, rk.live, rs, fun r => R.set k r, rfl, g1, g2, g3, wok, rok.m, g5, g6, fun b l vals H' s' nl e1 e2 hd hl hv => ?_⟩
      obtain ⟨qs', R', tag', own', sd', lR'⟩ := g7 b l vals H' s' nl e1 e2 hd hl hv
      exact ⟨qs', R', tag', own', sd', _, _, _, rfl⟩
  rintro σ G8 ⟨qs8, R8, tag8, own8, sd8, v7, v10, v11, rfl⟩
  exact ⟨_, rfl, fin own8 sd8 rfl⟩
end
open ZG (Sq ItzG walk_zipG)
open DcS (dc_it)
/-! ### keys: the law -/
def spLaw (K : PySem.W.Frag) : Sp := fun vs H Q _ => ∃ (a : Addr) (ns : List Int), vs = [.ref a] ∧ SqL K H a (ns.map V.int) ∧ ns.length ≤ 63 ∧ ∀ H', Q (.bl true) H'
section
variable {P : Program} {w : World} {K : PySem.W.Frag} {mg : Str → Option Value} {base : Heap}
theorem ok_law (T : Txt w K mg) : FnOk P w K mg base CX0 20 T.a_law T.d_law p_law (spLaw K) := by
  have g_l_cell := ok_l_cell (P := P) (w := w) (K := K) (base := base) T
  have g_l_source := ok_l_source (P := P) (w := w) (base := base) T
  have g_l_pick := ok_l_pick (P := P) (w := w) (base := base) T
  have g_l_world := ok_l_world (P := P) (w := w) (K := K) (base := base) T
  have g_l_variables := ok_l_variables (P := P) (w := w) (K := K) (base := base) T
  have g_l_first := ok_l_first (P := P) (w := w) (K := K) (base := base) T
  have g_l_twin := ok_l_twin (P := P) (w := w) (K := K) (base := base) T
  have g_l_changed := ok_l_changed (P := P) (w := w) (K := K) (base := base) T
  have g_l_right := ok_l_right (P := P) (w := w) (K := K) (base := base) T
  refine T.F_law.ok sc_law (fun vs H Q E h => ?_) (fun cdv A outer s H vs Q E hr h => ?_)
  · obtain ⟨a, ns, rfl, _⟩ := h
    rfl
  obtain ⟨a, ns, rfl, hS, h63, q⟩ := h
  refine ⟨_, (pss_cons (ps_set (i := 1) sc_law.nd rfl (Or.inl rfl) (pe_call g_l_source (hr.mono (by first | decide | omega)) rfl T.m_l_source T.F_l_source.kp T.b_l_source .nil pass0 (pa_cons (pe_call g_l_cell (hr.mono (by first | decide | omega)) rfl T.m_l_cell T.F_l_cell.kp T.b_l_cell .nil pass0 (pa_cons (pv 0) (pa_cons pe_int pa_nil))) pa_nil)))
      (pss_cons (ps_set (i := 2) sc_law.nd rfl (Or.inl rfl) (pe_call g_l_world (hr.mono (by first | decide | omega)) rfl T.m_l_world T.F_l_world.kp T.b_l_world .nil pass0 (pa_cons (pv 1) (pa_cons (pe_call g_l_pick (hr.mono (by first | decide | omega)) rfl T.m_l_pick T.F_l_pick.kp T.b_l_pick .nil pass0 (pa_cons (pv 1) (pa_cons pe_int pa_nil))) pa_nil))))
      (pss_cons (ps_set (i := 1) sc_law.nd rfl (Or.inl rfl) (pe_call g_l_source (hr.mono (by first | decide | omega)) rfl T.m_l_source T.F_l_source.kp T.b_l_source .nil pass0 (pa_cons (pe_op op_add (pe_call g_l_cell (hr.mono (by first | decide | omega)) rfl T.m_l_cell T.F_l_cell.kp T.b_l_cell .nil pass0 (pa_cons (pv 0) (pa_cons pe_int pa_nil))) pe_int) pa_nil)))
      (pss_cons (ps_set (i := 3) sc_law.nd rfl (Or.inl rfl) (pe_call g_l_variables (hr.mono (by first | decide | omega)) rfl T.m_l_variables T.F_l_variables.kp T.b_l_variables .nil pass0 (pa_cons (pv 1) (pa_cons (pv 2) (pa_cons pe_int pa_nil)))))
      (pss_cons (ps_set (i := 4) sc_law.nd rfl (Or.inl rfl) (pe_call g_l_first (hr.mono (by first | decide | omega)) rfl T.m_l_first T.F_l_first.kp T.b_l_first .nil pass0 (pa_cons (pv 1) (pa_cons (pv 2) (pa_cons (pv 3) pa_nil)))))
      (pss_cons (ps_set (i := 5) sc_law.nd rfl (Or.inl rfl) (pe_call g_l_twin (hr.mono (by first | decide | omega)) rfl T.m_l_twin T.F_l_twin.kp T.b_l_twin .nil pass0 (pa_cons (pe_call g_l_source (hr.mono (by first | decide | omega)) rfl T.m_l_source T.F_l_source.kp T.b_l_source .nil pass0 (pa_cons (pe_op op_add (pe_call g_l_cell (hr.mono (by first | decide | omega)) rfl T.m_l_cell T.F_l_cell.kp T.b_l_cell .nil pass0 (pa_cons (pv 0) (pa_cons pe_int pa_nil))) pe_int) pa_nil)) (pa_cons (pv 2) (pa_cons (pv 4) (pa_cons (pv 3) pa_nil))))))
      (pss_cons (ps_if (pt_not (pt_val (pe_call g_l_right (hr.mono (by first | decide | omega)) rfl T.m_l_right T.F_l_right.kp T.b_l_right .nil pass0 (pa_cons (pv 2) (pa_cons (pv 4) (pa_cons (pv 5) (pa_cons (pv 3) pa_nil))))))) (pss_one (ps_ret pe_bl)) pss_nil)
      (pss_cons (ps_for PassesOwn.never rfl (pi_range1 rfl T.z_range (pa_cons pe_int pa_nil)) (pg_name (i := 6) sc_law.nd rfl (Or.inl rfl))
        (pss_cons (ps_set (i := 1) sc_law.nd rfl (Or.inl rfl) (pe_call g_l_source (hr.mono (by first | decide | omega)) rfl T.m_l_source T.F_l_source.kp T.b_l_source .nil pass0 (pa_cons (pe_op op_add (pe_op op_add (pe_call g_l_cell (hr.mono (by first | decide | omega)) rfl T.m_l_cell T.F_l_cell.kp T.b_l_cell .nil pass0 (pa_cons (pv 0) (pa_cons (pe_op op_add pe_int (pv 6)) pa_nil))) pe_int) (pv 6)) pa_nil)))
      (pss_one (ps_if (pt_not (pt_val (pe_call g_l_right (hr.mono (by first | decide | omega)) rfl T.m_l_right T.F_l_right.kp T.b_l_right .nil pass0 (pa_cons (pv 2) (pa_cons (pv 4) (pa_cons (pe_call g_l_changed (hr.mono (by first | decide | omega)) rfl T.m_l_changed T.F_l_changed.kp T.b_l_changed .nil pass0 (pa_cons (pv 1) (pa_cons (pv 2) (pa_cons (pv 5) (pa_cons (pv 3) pa_nil))))) (pa_cons (pv 3) pa_nil))))))) (pss_one (ps_ret pe_bl)) pss_nil))))
      (pss_one (ps_ret pe_bl)))))))))), ?_⟩
  refine ⟨_, rfl, a, ns, 0, rfl, hS, by decide, fun c0 => ⟨c0, rfl, fun p0 H1 hp0 s1 src => ?_⟩⟩
  refine ⟨_, rfl, _, rfl, p0, 8, rfl, src, by decide, fun sh H2 st2 y0 y1 => ⟨p0, sh, rfl, st2.s, y0, by omega, fun p rs H3 st3 hp wok rne => ?_⟩⟩
  have S3 := Stp.fresh s1 hp0 (st2.trans st3)
  refine ⟨_, rfl, a, ns, 1, rfl, S3.seq hS, by decide, fun c1 => ⟨_, _, rfl, rfl, _, rfl, fun p1 H4 hp1 s4 src4 => ?_⟩⟩
  refine ⟨_, rfl, _, rfl, p1, p, 4, rs, rfl, src4, hp.keep (KeepT.of s4), wok, rne, by decide, fun kl kxs ks H5 st5 hkl ekl hk lk kok => ?_⟩
  have nkl := (src4.ne hkl).symm
  refine ⟨_, rfl, _, rfl, _, rfl, p1, p, kl, kxs, ks, rs, rfl, st5.s, (hp.keep (KeepT.of s4)).keep (st5.keepT src4), wok, rne, nkl, ekl, hk, lk, kok, fun d R us fx H6 st6 hd hrun hv sd R5 => ?_⟩
  have st56 := st5.trans st6
  have S6 := S3.trans (Stp.fresh s4 hp1 st56)
  have hp6 := (hp.keep (KeepT.of s4)).keep (st56.keepT src4)
  have ekl6 := st6.k _ _ nkl ekl
  have hk6 := hk.keep (st6.keepT st5.s)
  refine ⟨_, rfl, a, ns, 2, rfl, S6.seq hS, by decide, fun c2 => ⟨_, _, rfl, rfl, _, rfl, fun p2 H7 hp2 s7 src7 => ?_⟩⟩
  have hrun2 := hrun.avoid hp2
  refine ⟨_, rfl, _, rfl, _, rfl, p2, p, d, kl, kxs, ks, rs, R, us, fx, H6, rfl, src7, s7, hp2, hp6, wok, rne, ekl6, hk6, hrun2, hv, sd, by omega, fun d' R' us' fx' H8 st8 hd' hrun' hv' sd' lf lR' => ?_⟩
  have b8 := Stp.fresh s7 hp2 st8
  refine ⟨_, rfl, _, rfl, _, rfl, _, rfl, p, d, d', p2, kl, kxs, rs, R, R', ks, us, us', fx, fx', rfl, hp6.keep (KeepT.of b8), hrun2.same b8, hv.same b8, hrun', hv', b8 _ _ ekl6, hk6.keep (KeepT.of b8), sd, sd', by omega, lf, fun H9 s9 => ⟨_, rfl, iteF ?_⟩⟩
  have b9 := b8.trans s9
  refine ⟨2, rfl, by omega, by omega, for_range (lo := 0) (fun i σ F => Same H9 F ∧ ∃ (p1' : Addr) (v6 : Option V), σ = [some (.ref a), some (.ref p1'), some (.ref p), some (.ref kl), some (.ref d), some (.ref d'), v6]) ⟨Same.refl _, p1, none, rfl⟩ ?_ ?_⟩
  · rintro i σ F hi ⟨sF, p1', v6, rfl⟩
    have bF := b9.trans sF
    have cF := s9.trans sF
    refine ⟨_, rfl, _, rfl, _, _, rfl, rfl, a, ns, 3 + (0 + (i : Int)), rfl, (S6.trans bF).seq hS, by omega, fun c => ⟨_, _, rfl, rfl, _, rfl, _, _, rfl, rfl, _, rfl, fun p3 G1 hp3 t1 src3 => ?_⟩⟩
    refine ⟨_, rfl, _, rfl, _, rfl, _, rfl, _, rfl, _, rfl, p3, p, d', kl, kxs, ks, rs, R', us', fx', F, rfl, src3, t1, hp3, hp6.keep (KeepT.of bF), rne, bF _ _ ekl6, hk6.keep (KeepT.of bF), kok, (hrun'.same cF).avoid hp3, hv'.same cF, sd', by omega, fun d3 R3 us3 fx3 G2 st3 run3 v3 sd3 lf3 => ?_⟩
    have u2 := Stp.fresh t1 hp3 st3
    have b2 := bF.trans u2
    refine ⟨_, rfl, p, d, d3, p3, kl, kxs, rs, R, R3, ks, us, us3, fx, fx3, rfl, hp6.keep (KeepT.of b2), ((hrun2.same bF).avoid hp3).same u2, hv.same b2, run3, v3, b2 _ _ ekl6, hk6.keep (KeepT.of b2), sd, sd3, by omega, by omega, fun G3 w3 => ⟨_, rfl, iteF ?_⟩⟩
    exact ⟨sF.trans (u2.trans w3), p3, _, rfl⟩
  · rintro σ F ⟨_, p1', v6, rfl⟩
    exact q F
end
theorem all_mk {l : PySem.W.OpenLaw} {w : World} {K : PySem.W.Frag} {h : Heap} {mg : Str → Option Value} {fa : Addr} (X : K.In h) (G : h.Ns mainGlobals mg) (hfa : mg "law" = some (.ref fa))
    {f_reference_places : Addr} {od_reference_places an_reference_places : Option Addr} {sl_reference_places : Array (Option Value)} {oc_reference_places kV_reference_places dc_reference_places pm_reference_places cd_reference_places ct_reference_places : Value}
    (A_reference_places : PySem.W.nsIn K mainGlobals "reference_places" = some (some (.ref f_reference_places))) (L_reference_places : K.lookup f_reference_places = some ⟨oc_reference_places, od_reference_places, .func (PySem.W.fnOf "reference_places" "reference_places" (defArgs s_reference_places) (defBody s_reference_places) (defScope s_reference_places) .none kV_reference_places dc_reference_places pm_reference_places an_reference_places cd_reference_places ct_reference_places), sl_reference_places⟩) (C_reference_places : PySem.W.codeIn K cd_reference_places "reference_places" = true) (K_reference_places : PySem.W.keepIn K (.ref f_reference_places) = true)
    {f_places_in_records : Addr} {od_places_in_records an_places_in_records : Option Addr} {sl_places_in_records : Array (Option Value)} {oc_places_in_records kV_places_in_records dc_places_in_records pm_places_in_records cd_places_in_records ct_places_in_records : Value}
    (A_places_in_records : PySem.W.nsIn K mainGlobals "places_in_records" = some (some (.ref f_places_in_records))) (L_places_in_records : K.lookup f_places_in_records = some ⟨oc_places_in_records, od_places_in_records, .func (PySem.W.fnOf "places_in_records" "places_in_records" (defArgs s_places_in_records) (defBody s_places_in_records) (defScope s_places_in_records) .none kV_places_in_records dc_places_in_records pm_places_in_records an_places_in_records cd_places_in_records ct_places_in_records), sl_places_in_records⟩) (C_places_in_records : PySem.W.codeIn K cd_places_in_records "places_in_records" = true) (K_places_in_records : PySem.W.keepIn K (.ref f_places_in_records) = true)
    {f_referred : Addr} {od_referred an_referred : Option Addr} {sl_referred : Array (Option Value)} {oc_referred kV_referred dc_referred pm_referred cd_referred ct_referred : Value}
    (A_referred : PySem.W.nsIn K mainGlobals "referred" = some (some (.ref f_referred))) (L_referred : K.lookup f_referred = some ⟨oc_referred, od_referred, .func (PySem.W.fnOf "referred" "referred" (defArgs s_referred) (defBody s_referred) (defScope s_referred) .none kV_referred dc_referred pm_referred an_referred cd_referred ct_referred), sl_referred⟩) (C_referred : PySem.W.codeIn K cd_referred "referred" = true) (K_referred : PySem.W.keepIn K (.ref f_referred) = true)
    {f_translated : Addr} {od_translated an_translated : Option Addr} {sl_translated : Array (Option Value)} {oc_translated kV_translated dc_translated pm_translated cd_translated ct_translated : Value}
    (A_translated : PySem.W.nsIn K mainGlobals "translated" = some (some (.ref f_translated))) (L_translated : K.lookup f_translated = some ⟨oc_translated, od_translated, .func (PySem.W.fnOf "translated" "translated" (defArgs s_translated) (defBody s_translated) (defScope s_translated) .none kV_translated dc_translated pm_translated an_translated cd_translated ct_translated), sl_translated⟩) (C_translated : PySem.W.codeIn K cd_translated "translated" = true) (K_translated : PySem.W.keepIn K (.ref f_translated) = true)
    {f_translated_record : Addr} {od_translated_record an_translated_record : Option Addr} {sl_translated_record : Array (Option Value)} {oc_translated_record kV_translated_record dc_translated_record pm_translated_record cd_translated_record ct_translated_record : Value}
    (A_translated_record : PySem.W.nsIn K mainGlobals "translated_record" = some (some (.ref f_translated_record))) (L_translated_record : K.lookup f_translated_record = some ⟨oc_translated_record, od_translated_record, .func (PySem.W.fnOf "translated_record" "translated_record" (defArgs s_translated_record) (defBody s_translated_record) (defScope s_translated_record) .none kV_translated_record dc_translated_record pm_translated_record an_translated_record cd_translated_record ct_translated_record), sl_translated_record⟩) (C_translated_record : PySem.W.codeIn K cd_translated_record "translated_record" = true) (K_translated_record : PySem.W.keepIn K (.ref f_translated_record) = true)
    {f_neighbours : Addr} {od_neighbours an_neighbours : Option Addr} {sl_neighbours : Array (Option Value)} {oc_neighbours kV_neighbours dc_neighbours pm_neighbours cd_neighbours ct_neighbours : Value}
    (A_neighbours : PySem.W.nsIn K mainGlobals "neighbours" = some (some (.ref f_neighbours))) (L_neighbours : K.lookup f_neighbours = some ⟨oc_neighbours, od_neighbours, .func (PySem.W.fnOf "neighbours" "neighbours" (defArgs s_neighbours) (defBody s_neighbours) (defScope s_neighbours) .none kV_neighbours dc_neighbours pm_neighbours an_neighbours cd_neighbours ct_neighbours), sl_neighbours⟩) (C_neighbours : PySem.W.codeIn K cd_neighbours "neighbours" = true) (K_neighbours : PySem.W.keepIn K (.ref f_neighbours) = true)
    {f_visit_records : Addr} {od_visit_records an_visit_records : Option Addr} {sl_visit_records : Array (Option Value)} {oc_visit_records kV_visit_records dc_visit_records pm_visit_records cd_visit_records ct_visit_records : Value}
    (A_visit_records : PySem.W.nsIn K mainGlobals "visit_records" = some (some (.ref f_visit_records))) (L_visit_records : K.lookup f_visit_records = some ⟨oc_visit_records, od_visit_records, .func (PySem.W.fnOf "visit_records" "visit_records" (defArgs s_visit_records) (defBody s_visit_records) (defScope s_visit_records) .none kV_visit_records dc_visit_records pm_visit_records an_visit_records cd_visit_records ct_visit_records), sl_visit_records⟩) (C_visit_records : PySem.W.codeIn K cd_visit_records "visit_records" = true) (K_visit_records : PySem.W.keepIn K (.ref f_visit_records) = true)
    {f_number_key : Addr} {od_number_key an_number_key : Option Addr} {sl_number_key : Array (Option Value)} {oc_number_key kV_number_key dc_number_key pm_number_key cd_number_key ct_number_key : Value}
    (A_number_key : PySem.W.nsIn K mainGlobals "number_key" = some (some (.ref f_number_key))) (L_number_key : K.lookup f_number_key = some ⟨oc_number_key, od_number_key, .func (PySem.W.fnOf "number_key" "number_key" (defArgs s_number_key) (defBody s_number_key) (defScope s_number_key) .none kV_number_key dc_number_key pm_number_key an_number_key cd_number_key ct_number_key), sl_number_key⟩) (C_number_key : PySem.W.codeIn K cd_number_key "number_key" = true) (K_number_key : PySem.W.keepIn K (.ref f_number_key) = true)
    {f_l_cell : Addr} {od_l_cell an_l_cell : Option Addr} {sl_l_cell : Array (Option Value)} {oc_l_cell kV_l_cell dc_l_cell pm_l_cell cd_l_cell ct_l_cell : Value}
    (A_l_cell : PySem.W.nsIn K mainGlobals "_law_cell" = some (some (.ref f_l_cell))) (L_l_cell : K.lookup f_l_cell = some ⟨oc_l_cell, od_l_cell, .func (PySem.W.fnOf "_law_cell" "_law_cell" (defArgs s_l_cell) (defBody s_l_cell) (defScope s_l_cell) .none kV_l_cell dc_l_cell pm_l_cell an_l_cell cd_l_cell ct_l_cell), sl_l_cell⟩) (C_l_cell : PySem.W.codeIn K cd_l_cell "_law_cell" = true) (K_l_cell : PySem.W.keepIn K (.ref f_l_cell) = true)
    {f_l_source : Addr} {od_l_source an_l_source : Option Addr} {sl_l_source : Array (Option Value)} {oc_l_source kV_l_source dc_l_source pm_l_source cd_l_source ct_l_source : Value}
    (A_l_source : PySem.W.nsIn K mainGlobals "_law_source" = some (some (.ref f_l_source))) (L_l_source : K.lookup f_l_source = some ⟨oc_l_source, od_l_source, .func (PySem.W.fnOf "_law_source" "_law_source" (defArgs s_l_source) (defBody s_l_source) (defScope s_l_source) .none kV_l_source dc_l_source pm_l_source an_l_source cd_l_source ct_l_source), sl_l_source⟩) (C_l_source : PySem.W.codeIn K cd_l_source "_law_source" = true) (K_l_source : PySem.W.keepIn K (.ref f_l_source) = true)
    {f_l_pick : Addr} {od_l_pick an_l_pick : Option Addr} {sl_l_pick : Array (Option Value)} {oc_l_pick kV_l_pick dc_l_pick pm_l_pick cd_l_pick ct_l_pick : Value}
    (A_l_pick : PySem.W.nsIn K mainGlobals "_law_pick" = some (some (.ref f_l_pick))) (L_l_pick : K.lookup f_l_pick = some ⟨oc_l_pick, od_l_pick, .func (PySem.W.fnOf "_law_pick" "_law_pick" (defArgs s_l_pick) (defBody s_l_pick) (defScope s_l_pick) .none kV_l_pick dc_l_pick pm_l_pick an_l_pick cd_l_pick ct_l_pick), sl_l_pick⟩) (C_l_pick : PySem.W.codeIn K cd_l_pick "_law_pick" = true) (K_l_pick : PySem.W.keepIn K (.ref f_l_pick) = true)
    {f_l_one : Addr} {od_l_one an_l_one : Option Addr} {sl_l_one : Array (Option Value)} {oc_l_one kV_l_one dc_l_one pm_l_one cd_l_one ct_l_one : Value}
    (A_l_one : PySem.W.nsIn K mainGlobals "_law_one" = some (some (.ref f_l_one))) (L_l_one : K.lookup f_l_one = some ⟨oc_l_one, od_l_one, .func (PySem.W.fnOf "_law_one" "_law_one" (defArgs s_l_one) (defBody s_l_one) (defScope s_l_one) .none kV_l_one dc_l_one pm_l_one an_l_one cd_l_one ct_l_one), sl_l_one⟩) (C_l_one : PySem.W.codeIn K cd_l_one "_law_one" = true) (K_l_one : PySem.W.keepIn K (.ref f_l_one) = true)
    {f_l_names : Addr} {od_l_names an_l_names : Option Addr} {sl_l_names : Array (Option Value)} {oc_l_names kV_l_names dc_l_names pm_l_names cd_l_names ct_l_names : Value}
    (A_l_names : PySem.W.nsIn K mainGlobals "_law_names" = some (some (.ref f_l_names))) (L_l_names : K.lookup f_l_names = some ⟨oc_l_names, od_l_names, .func (PySem.W.fnOf "_law_names" "_law_names" (defArgs s_l_names) (defBody s_l_names) (defScope s_l_names) .none kV_l_names dc_l_names pm_l_names an_l_names cd_l_names ct_l_names), sl_l_names⟩) (C_l_names : PySem.W.codeIn K cd_l_names "_law_names" = true) (K_l_names : PySem.W.keepIn K (.ref f_l_names) = true)
    {f_l_renumbered : Addr} {od_l_renumbered an_l_renumbered : Option Addr} {sl_l_renumbered : Array (Option Value)} {oc_l_renumbered kV_l_renumbered dc_l_renumbered pm_l_renumbered cd_l_renumbered ct_l_renumbered : Value}
    (A_l_renumbered : PySem.W.nsIn K mainGlobals "_law_renumbered" = some (some (.ref f_l_renumbered))) (L_l_renumbered : K.lookup f_l_renumbered = some ⟨oc_l_renumbered, od_l_renumbered, .func (PySem.W.fnOf "_law_renumbered" "_law_renumbered" (defArgs s_l_renumbered) (defBody s_l_renumbered) (defScope s_l_renumbered) .none kV_l_renumbered dc_l_renumbered pm_l_renumbered an_l_renumbered cd_l_renumbered ct_l_renumbered), sl_l_renumbered⟩) (C_l_renumbered : PySem.W.codeIn K cd_l_renumbered "_law_renumbered" = true) (K_l_renumbered : PySem.W.keepIn K (.ref f_l_renumbered) = true)
    {f_l_drawn_value : Addr} {od_l_drawn_value an_l_drawn_value : Option Addr} {sl_l_drawn_value : Array (Option Value)} {oc_l_drawn_value kV_l_drawn_value dc_l_drawn_value pm_l_drawn_value cd_l_drawn_value ct_l_drawn_value : Value}
    (A_l_drawn_value : PySem.W.nsIn K mainGlobals "_law_drawn_value" = some (some (.ref f_l_drawn_value))) (L_l_drawn_value : K.lookup f_l_drawn_value = some ⟨oc_l_drawn_value, od_l_drawn_value, .func (PySem.W.fnOf "_law_drawn_value" "_law_drawn_value" (defArgs s_l_drawn_value) (defBody s_l_drawn_value) (defScope s_l_drawn_value) .none kV_l_drawn_value dc_l_drawn_value pm_l_drawn_value an_l_drawn_value cd_l_drawn_value ct_l_drawn_value), sl_l_drawn_value⟩) (C_l_drawn_value : PySem.W.codeIn K cd_l_drawn_value "_law_drawn_value" = true) (K_l_drawn_value : PySem.W.keepIn K (.ref f_l_drawn_value) = true)
    {f_l_same : Addr} {od_l_same an_l_same : Option Addr} {sl_l_same : Array (Option Value)} {oc_l_same kV_l_same dc_l_same pm_l_same cd_l_same ct_l_same : Value}
    (A_l_same : PySem.W.nsIn K mainGlobals "_law_same" = some (some (.ref f_l_same))) (L_l_same : K.lookup f_l_same = some ⟨oc_l_same, od_l_same, .func (PySem.W.fnOf "_law_same" "_law_same" (defArgs s_l_same) (defBody s_l_same) (defScope s_l_same) .none kV_l_same dc_l_same pm_l_same an_l_same cd_l_same ct_l_same), sl_l_same⟩) (C_l_same : PySem.W.codeIn K cd_l_same "_law_same" = true) (K_l_same : PySem.W.keepIn K (.ref f_l_same) = true)
    {f_l_number_kind : Addr} {od_l_number_kind an_l_number_kind : Option Addr} {sl_l_number_kind : Array (Option Value)} {oc_l_number_kind kV_l_number_kind dc_l_number_kind pm_l_number_kind cd_l_number_kind ct_l_number_kind : Value}
    (A_l_number_kind : PySem.W.nsIn K mainGlobals "_law_number_kind" = some (some (.ref f_l_number_kind))) (L_l_number_kind : K.lookup f_l_number_kind = some ⟨oc_l_number_kind, od_l_number_kind, .func (PySem.W.fnOf "_law_number_kind" "_law_number_kind" (defArgs s_l_number_kind) (defBody s_l_number_kind) (defScope s_l_number_kind) .none kV_l_number_kind dc_l_number_kind pm_l_number_kind an_l_number_kind cd_l_number_kind ct_l_number_kind), sl_l_number_kind⟩) (C_l_number_kind : PySem.W.codeIn K cd_l_number_kind "_law_number_kind" = true) (K_l_number_kind : PySem.W.keepIn K (.ref f_l_number_kind) = true)
    {f_l_world : Addr} {od_l_world an_l_world : Option Addr} {sl_l_world : Array (Option Value)} {oc_l_world kV_l_world dc_l_world pm_l_world cd_l_world ct_l_world : Value}
    (A_l_world : PySem.W.nsIn K mainGlobals "_law_world" = some (some (.ref f_l_world))) (L_l_world : K.lookup f_l_world = some ⟨oc_l_world, od_l_world, .func (PySem.W.fnOf "_law_world" "_law_world" (defArgs s_l_world) (defBody s_l_world) (defScope s_l_world) .none kV_l_world dc_l_world pm_l_world an_l_world cd_l_world ct_l_world), sl_l_world⟩) (C_l_world : PySem.W.codeIn K cd_l_world "_law_world" = true) (K_l_world : PySem.W.keepIn K (.ref f_l_world) = true)
    {f_l_shuffled : Addr} {od_l_shuffled an_l_shuffled : Option Addr} {sl_l_shuffled : Array (Option Value)} {oc_l_shuffled kV_l_shuffled dc_l_shuffled pm_l_shuffled cd_l_shuffled ct_l_shuffled : Value}
    (A_l_shuffled : PySem.W.nsIn K mainGlobals "_law_shuffled" = some (some (.ref f_l_shuffled))) (L_l_shuffled : K.lookup f_l_shuffled = some ⟨oc_l_shuffled, od_l_shuffled, .func (PySem.W.fnOf "_law_shuffled" "_law_shuffled" (defArgs s_l_shuffled) (defBody s_l_shuffled) (defScope s_l_shuffled) .none kV_l_shuffled dc_l_shuffled pm_l_shuffled an_l_shuffled cd_l_shuffled ct_l_shuffled), sl_l_shuffled⟩) (C_l_shuffled : PySem.W.codeIn K cd_l_shuffled "_law_shuffled" = true) (K_l_shuffled : PySem.W.keepIn K (.ref f_l_shuffled) = true)
    {f_l_moved : Addr} {od_l_moved an_l_moved : Option Addr} {sl_l_moved : Array (Option Value)} {oc_l_moved kV_l_moved dc_l_moved pm_l_moved cd_l_moved ct_l_moved : Value}
    (A_l_moved : PySem.W.nsIn K mainGlobals "_law_moved" = some (some (.ref f_l_moved))) (L_l_moved : K.lookup f_l_moved = some ⟨oc_l_moved, od_l_moved, .func (PySem.W.fnOf "_law_moved" "_law_moved" (defArgs s_l_moved) (defBody s_l_moved) (defScope s_l_moved) .none kV_l_moved dc_l_moved pm_l_moved an_l_moved cd_l_moved ct_l_moved), sl_l_moved⟩) (C_l_moved : PySem.W.codeIn K cd_l_moved "_law_moved" = true) (K_l_moved : PySem.W.keepIn K (.ref f_l_moved) = true)
    {f_l_heap : Addr} {od_l_heap an_l_heap : Option Addr} {sl_l_heap : Array (Option Value)} {oc_l_heap kV_l_heap dc_l_heap pm_l_heap cd_l_heap ct_l_heap : Value}
    (A_l_heap : PySem.W.nsIn K mainGlobals "_law_heap" = some (some (.ref f_l_heap))) (L_l_heap : K.lookup f_l_heap = some ⟨oc_l_heap, od_l_heap, .func (PySem.W.fnOf "_law_heap" "_law_heap" (defArgs s_l_heap) (defBody s_l_heap) (defScope s_l_heap) .none kV_l_heap dc_l_heap pm_l_heap an_l_heap cd_l_heap ct_l_heap), sl_l_heap⟩) (C_l_heap : PySem.W.codeIn K cd_l_heap "_law_heap" = true) (K_l_heap : PySem.W.keepIn K (.ref f_l_heap) = true)
    {f_l_variables : Addr} {od_l_variables an_l_variables : Option Addr} {sl_l_variables : Array (Option Value)} {oc_l_variables kV_l_variables dc_l_variables pm_l_variables cd_l_variables ct_l_variables : Value}
    (A_l_variables : PySem.W.nsIn K mainGlobals "_law_variables" = some (some (.ref f_l_variables))) (L_l_variables : K.lookup f_l_variables = some ⟨oc_l_variables, od_l_variables, .func (PySem.W.fnOf "_law_variables" "_law_variables" (defArgs s_l_variables) (defBody s_l_variables) (defScope s_l_variables) .none kV_l_variables dc_l_variables pm_l_variables an_l_variables cd_l_variables ct_l_variables), sl_l_variables⟩) (C_l_variables : PySem.W.codeIn K cd_l_variables "_law_variables" = true) (K_l_variables : PySem.W.keepIn K (.ref f_l_variables) = true)
    {f_l_redraw : Addr} {od_l_redraw an_l_redraw : Option Addr} {sl_l_redraw : Array (Option Value)} {oc_l_redraw kV_l_redraw dc_l_redraw pm_l_redraw cd_l_redraw ct_l_redraw : Value}
    (A_l_redraw : PySem.W.nsIn K mainGlobals "_law_redraw" = some (some (.ref f_l_redraw))) (L_l_redraw : K.lookup f_l_redraw = some ⟨oc_l_redraw, od_l_redraw, .func (PySem.W.fnOf "_law_redraw" "_law_redraw" (defArgs s_l_redraw) (defBody s_l_redraw) (defScope s_l_redraw) .none kV_l_redraw dc_l_redraw pm_l_redraw an_l_redraw cd_l_redraw ct_l_redraw), sl_l_redraw⟩) (C_l_redraw : PySem.W.codeIn K cd_l_redraw "_law_redraw" = true) (K_l_redraw : PySem.W.keepIn K (.ref f_l_redraw) = true)
    {f_l_first : Addr} {od_l_first an_l_first : Option Addr} {sl_l_first : Array (Option Value)} {oc_l_first kV_l_first dc_l_first pm_l_first cd_l_first ct_l_first : Value}
    (A_l_first : PySem.W.nsIn K mainGlobals "_law_first" = some (some (.ref f_l_first))) (L_l_first : K.lookup f_l_first = some ⟨oc_l_first, od_l_first, .func (PySem.W.fnOf "_law_first" "_law_first" (defArgs s_l_first) (defBody s_l_first) (defScope s_l_first) .none kV_l_first dc_l_first pm_l_first an_l_first cd_l_first ct_l_first), sl_l_first⟩) (C_l_first : PySem.W.codeIn K cd_l_first "_law_first" = true) (K_l_first : PySem.W.keepIn K (.ref f_l_first) = true)
    {f_l_copy : Addr} {od_l_copy an_l_copy : Option Addr} {sl_l_copy : Array (Option Value)} {oc_l_copy kV_l_copy dc_l_copy pm_l_copy cd_l_copy ct_l_copy : Value}
    (A_l_copy : PySem.W.nsIn K mainGlobals "_law_copy" = some (some (.ref f_l_copy))) (L_l_copy : K.lookup f_l_copy = some ⟨oc_l_copy, od_l_copy, .func (PySem.W.fnOf "_law_copy" "_law_copy" (defArgs s_l_copy) (defBody s_l_copy) (defScope s_l_copy) .none kV_l_copy dc_l_copy pm_l_copy an_l_copy cd_l_copy ct_l_copy), sl_l_copy⟩) (C_l_copy : PySem.W.codeIn K cd_l_copy "_law_copy" = true) (K_l_copy : PySem.W.keepIn K (.ref f_l_copy) = true)
    {f_l_led : Addr} {od_l_led an_l_led : Option Addr} {sl_l_led : Array (Option Value)} {oc_l_led kV_l_led dc_l_led pm_l_led cd_l_led ct_l_led : Value}
    (A_l_led : PySem.W.nsIn K mainGlobals "_law_led" = some (some (.ref f_l_led))) (L_l_led : K.lookup f_l_led = some ⟨oc_l_led, od_l_led, .func (PySem.W.fnOf "_law_led" "_law_led" (defArgs s_l_led) (defBody s_l_led) (defScope s_l_led) .none kV_l_led dc_l_led pm_l_led an_l_led cd_l_led ct_l_led), sl_l_led⟩) (C_l_led : PySem.W.codeIn K cd_l_led "_law_led" = true) (K_l_led : PySem.W.keepIn K (.ref f_l_led) = true)
    {f_l_reached : Addr} {od_l_reached an_l_reached : Option Addr} {sl_l_reached : Array (Option Value)} {oc_l_reached kV_l_reached dc_l_reached pm_l_reached cd_l_reached ct_l_reached : Value}
    (A_l_reached : PySem.W.nsIn K mainGlobals "_law_reached" = some (some (.ref f_l_reached))) (L_l_reached : K.lookup f_l_reached = some ⟨oc_l_reached, od_l_reached, .func (PySem.W.fnOf "_law_reached" "_law_reached" (defArgs s_l_reached) (defBody s_l_reached) (defScope s_l_reached) .none kV_l_reached dc_l_reached pm_l_reached an_l_reached cd_l_reached ct_l_reached), sl_l_reached⟩) (C_l_reached : PySem.W.codeIn K cd_l_reached "_law_reached" = true) (K_l_reached : PySem.W.keepIn K (.ref f_l_reached) = true)
    {f_l_twin : Addr} {od_l_twin an_l_twin : Option Addr} {sl_l_twin : Array (Option Value)} {oc_l_twin kV_l_twin dc_l_twin pm_l_twin cd_l_twin ct_l_twin : Value}
    (A_l_twin : PySem.W.nsIn K mainGlobals "_law_twin" = some (some (.ref f_l_twin))) (L_l_twin : K.lookup f_l_twin = some ⟨oc_l_twin, od_l_twin, .func (PySem.W.fnOf "_law_twin" "_law_twin" (defArgs s_l_twin) (defBody s_l_twin) (defScope s_l_twin) .none kV_l_twin dc_l_twin pm_l_twin an_l_twin cd_l_twin ct_l_twin), sl_l_twin⟩) (C_l_twin : PySem.W.codeIn K cd_l_twin "_law_twin" = true) (K_l_twin : PySem.W.keepIn K (.ref f_l_twin) = true)
    {f_l_with_other_fixed : Addr} {od_l_with_other_fixed an_l_with_other_fixed : Option Addr} {sl_l_with_other_fixed : Array (Option Value)} {oc_l_with_other_fixed kV_l_with_other_fixed dc_l_with_other_fixed pm_l_with_other_fixed cd_l_with_other_fixed ct_l_with_other_fixed : Value}
    (A_l_with_other_fixed : PySem.W.nsIn K mainGlobals "_law_with_other_fixed" = some (some (.ref f_l_with_other_fixed))) (L_l_with_other_fixed : K.lookup f_l_with_other_fixed = some ⟨oc_l_with_other_fixed, od_l_with_other_fixed, .func (PySem.W.fnOf "_law_with_other_fixed" "_law_with_other_fixed" (defArgs s_l_with_other_fixed) (defBody s_l_with_other_fixed) (defScope s_l_with_other_fixed) .none kV_l_with_other_fixed dc_l_with_other_fixed pm_l_with_other_fixed an_l_with_other_fixed cd_l_with_other_fixed ct_l_with_other_fixed), sl_l_with_other_fixed⟩) (C_l_with_other_fixed : PySem.W.codeIn K cd_l_with_other_fixed "_law_with_other_fixed" = true) (K_l_with_other_fixed : PySem.W.keepIn K (.ref f_l_with_other_fixed) = true)
    {f_l_changed : Addr} {od_l_changed an_l_changed : Option Addr} {sl_l_changed : Array (Option Value)} {oc_l_changed kV_l_changed dc_l_changed pm_l_changed cd_l_changed ct_l_changed : Value}
    (A_l_changed : PySem.W.nsIn K mainGlobals "_law_changed" = some (some (.ref f_l_changed))) (L_l_changed : K.lookup f_l_changed = some ⟨oc_l_changed, od_l_changed, .func (PySem.W.fnOf "_law_changed" "_law_changed" (defArgs s_l_changed) (defBody s_l_changed) (defScope s_l_changed) .none kV_l_changed dc_l_changed pm_l_changed an_l_changed cd_l_changed ct_l_changed), sl_l_changed⟩) (C_l_changed : PySem.W.codeIn K cd_l_changed "_law_changed" = true) (K_l_changed : PySem.W.keepIn K (.ref f_l_changed) = true)
    {f_l_kept : Addr} {od_l_kept an_l_kept : Option Addr} {sl_l_kept : Array (Option Value)} {oc_l_kept kV_l_kept dc_l_kept pm_l_kept cd_l_kept ct_l_kept : Value}
    (A_l_kept : PySem.W.nsIn K mainGlobals "_law_kept" = some (some (.ref f_l_kept))) (L_l_kept : K.lookup f_l_kept = some ⟨oc_l_kept, od_l_kept, .func (PySem.W.fnOf "_law_kept" "_law_kept" (defArgs s_l_kept) (defBody s_l_kept) (defScope s_l_kept) .none kV_l_kept dc_l_kept pm_l_kept an_l_kept cd_l_kept ct_l_kept), sl_l_kept⟩) (C_l_kept : PySem.W.codeIn K cd_l_kept "_law_kept" = true) (K_l_kept : PySem.W.keepIn K (.ref f_l_kept) = true)
    {f_l_keeps : Addr} {od_l_keeps an_l_keeps : Option Addr} {sl_l_keeps : Array (Option Value)} {oc_l_keeps kV_l_keeps dc_l_keeps pm_l_keeps cd_l_keeps ct_l_keeps : Value}
    (A_l_keeps : PySem.W.nsIn K mainGlobals "_law_keeps" = some (some (.ref f_l_keeps))) (L_l_keeps : K.lookup f_l_keeps = some ⟨oc_l_keeps, od_l_keeps, .func (PySem.W.fnOf "_law_keeps" "_law_keeps" (defArgs s_l_keeps) (defBody s_l_keeps) (defScope s_l_keeps) .none kV_l_keeps dc_l_keeps pm_l_keeps an_l_keeps cd_l_keeps ct_l_keeps), sl_l_keeps⟩) (C_l_keeps : PySem.W.codeIn K cd_l_keeps "_law_keeps" = true) (K_l_keeps : PySem.W.keepIn K (.ref f_l_keeps) = true)
    {f_l_orders : Addr} {od_l_orders an_l_orders : Option Addr} {sl_l_orders : Array (Option Value)} {oc_l_orders kV_l_orders dc_l_orders pm_l_orders cd_l_orders ct_l_orders : Value}
    (A_l_orders : PySem.W.nsIn K mainGlobals "_law_orders" = some (some (.ref f_l_orders))) (L_l_orders : K.lookup f_l_orders = some ⟨oc_l_orders, od_l_orders, .func (PySem.W.fnOf "_law_orders" "_law_orders" (defArgs s_l_orders) (defBody s_l_orders) (defScope s_l_orders) .none kV_l_orders dc_l_orders pm_l_orders an_l_orders cd_l_orders ct_l_orders), sl_l_orders⟩) (C_l_orders : PySem.W.codeIn K cd_l_orders "_law_orders" = true) (K_l_orders : PySem.W.keepIn K (.ref f_l_orders) = true)
    {f_l_paired : Addr} {od_l_paired an_l_paired : Option Addr} {sl_l_paired : Array (Option Value)} {oc_l_paired kV_l_paired dc_l_paired pm_l_paired cd_l_paired ct_l_paired : Value}
    (A_l_paired : PySem.W.nsIn K mainGlobals "_law_paired" = some (some (.ref f_l_paired))) (L_l_paired : K.lookup f_l_paired = some ⟨oc_l_paired, od_l_paired, .func (PySem.W.fnOf "_law_paired" "_law_paired" (defArgs s_l_paired) (defBody s_l_paired) (defScope s_l_paired) .none kV_l_paired dc_l_paired pm_l_paired an_l_paired cd_l_paired ct_l_paired), sl_l_paired⟩) (C_l_paired : PySem.W.codeIn K cd_l_paired "_law_paired" = true) (K_l_paired : PySem.W.keepIn K (.ref f_l_paired) = true)
    {f_l_is_order : Addr} {od_l_is_order an_l_is_order : Option Addr} {sl_l_is_order : Array (Option Value)} {oc_l_is_order kV_l_is_order dc_l_is_order pm_l_is_order cd_l_is_order ct_l_is_order : Value}
    (A_l_is_order : PySem.W.nsIn K mainGlobals "_law_is_order" = some (some (.ref f_l_is_order))) (L_l_is_order : K.lookup f_l_is_order = some ⟨oc_l_is_order, od_l_is_order, .func (PySem.W.fnOf "_law_is_order" "_law_is_order" (defArgs s_l_is_order) (defBody s_l_is_order) (defScope s_l_is_order) .none kV_l_is_order dc_l_is_order pm_l_is_order an_l_is_order cd_l_is_order ct_l_is_order), sl_l_is_order⟩) (C_l_is_order : PySem.W.codeIn K cd_l_is_order "_law_is_order" = true) (K_l_is_order : PySem.W.keepIn K (.ref f_l_is_order) = true)
    {f_l_told : Addr} {od_l_told an_l_told : Option Addr} {sl_l_told : Array (Option Value)} {oc_l_told kV_l_told dc_l_told pm_l_told cd_l_told ct_l_told : Value}
    (A_l_told : PySem.W.nsIn K mainGlobals "_law_told" = some (some (.ref f_l_told))) (L_l_told : K.lookup f_l_told = some ⟨oc_l_told, od_l_told, .func (PySem.W.fnOf "_law_told" "_law_told" (defArgs s_l_told) (defBody s_l_told) (defScope s_l_told) .none kV_l_told dc_l_told pm_l_told an_l_told cd_l_told ct_l_told), sl_l_told⟩) (C_l_told : PySem.W.codeIn K cd_l_told "_law_told" = true) (K_l_told : PySem.W.keepIn K (.ref f_l_told) = true)
    {f_l_right : Addr} {od_l_right an_l_right : Option Addr} {sl_l_right : Array (Option Value)} {oc_l_right kV_l_right dc_l_right pm_l_right cd_l_right ct_l_right : Value}
    (A_l_right : PySem.W.nsIn K mainGlobals "_law_right" = some (some (.ref f_l_right))) (L_l_right : K.lookup f_l_right = some ⟨oc_l_right, od_l_right, .func (PySem.W.fnOf "_law_right" "_law_right" (defArgs s_l_right) (defBody s_l_right) (defScope s_l_right) .none kV_l_right dc_l_right pm_l_right an_l_right cd_l_right ct_l_right), sl_l_right⟩) (C_l_right : PySem.W.codeIn K cd_l_right "_law_right" = true) (K_l_right : PySem.W.keepIn K (.ref f_l_right) = true)
    {f_law : Addr} {od_law an_law : Option Addr} {sl_law : Array (Option Value)} {oc_law kV_law dc_law pm_law cd_law ct_law : Value}
    (A_law : PySem.W.nsIn K mainGlobals "law" = some (some (.ref f_law))) (L_law : K.lookup f_law = some ⟨oc_law, od_law, .func (PySem.W.fnOf "law" "law" (defArgs s_law) (defBody s_law) (defScope s_law) .none kV_law dc_law pm_law an_law cd_law ct_law), sl_law⟩) (C_law : PySem.W.codeIn K cd_law "law" = true) (K_law : PySem.W.keepIn K (.ref f_law) = true)
    (Z_bool : PySem.W.nsIn K mainGlobals "bool" = some none)
    (Z_enumerate : PySem.W.nsIn K mainGlobals "enumerate" = some none)
    (Z_int : PySem.W.nsIn K mainGlobals "int" = some none)
    (Z_isinstance : PySem.W.nsIn K mainGlobals "isinstance" = some none)
    (Z_len : PySem.W.nsIn K mainGlobals "len" = some none)
    (Z_list : PySem.W.nsIn K mainGlobals "list" = some none)
    (Z_max : PySem.W.nsIn K mainGlobals "max" = some none)
    (Z_range : PySem.W.nsIn K mainGlobals "range" = some none)
    (Z_reversed : PySem.W.nsIn K mainGlobals "reversed" = some none)
    (Z_sorted : PySem.W.nsIn K mainGlobals "sorted" = some none)
    (Z_str : PySem.W.nsIn K mainGlobals "str" = some none)
    (Z_tuple : PySem.W.nsIn K mainGlobals "tuple" = some none) :
    ∃ fd : FuncData, (∀ (s : Shared) (v : Value), BindsTo s fd ⟨[v], []⟩ [("_law_script", v)]) ∧ ∀ base : Heap, K.In base → base.Ns mainGlobals mg → FnOk l.prog w K mg base CX0 20 fa fd ["_law_script"] (spLaw K) := by
  have e := hfa.symm.trans (PySem.W.mg_of X G A_law)
  cases e
  let T : Txt w K mg := {
    a_reference_places := f_reference_places, d_reference_places := _, F_reference_places := fun_mk (st := s_reference_places) L_reference_places C_reference_places K_reference_places, b_reference_places := (fun_mk (st := s_reference_places) L_reference_places C_reference_places K_reference_places).binds (ps := p_reference_places) (fun _ _ _ _ _ _ us hl => match us, hl with | [_], _ => rfl), m_reference_places := PySem.W.mg_of X G A_reference_places,
    a_places_in_records := f_places_in_records, d_places_in_records := _, F_places_in_records := fun_mk (st := s_places_in_records) L_places_in_records C_places_in_records K_places_in_records, b_places_in_records := (fun_mk (st := s_places_in_records) L_places_in_records C_places_in_records K_places_in_records).binds (ps := p_places_in_records) (fun _ _ _ _ _ _ us hl => match us, hl with | [_], _ => rfl), m_places_in_records := PySem.W.mg_of X G A_places_in_records,
    a_referred := f_referred, d_referred := _, F_referred := fun_mk (st := s_referred) L_referred C_referred K_referred, b_referred := (fun_mk (st := s_referred) L_referred C_referred K_referred).binds (ps := p_referred) (fun _ _ _ _ _ _ us hl => match us, hl with | [_, _], _ => rfl), m_referred := PySem.W.mg_of X G A_referred,
    a_translated := f_translated, d_translated := _, F_translated := fun_mk (st := s_translated) L_translated C_translated K_translated, b_translated := (fun_mk (st := s_translated) L_translated C_translated K_translated).binds (ps := p_translated) (fun _ _ _ _ _ _ us hl => match us, hl with | [_, _, _], _ => rfl), m_translated := PySem.W.mg_of X G A_translated,
    a_translated_record := f_translated_record, d_translated_record := _, F_translated_record := fun_mk (st := s_translated_record) L_translated_record C_translated_record K_translated_record, b_translated_record := (fun_mk (st := s_translated_record) L_translated_record C_translated_record K_translated_record).binds (ps := p_translated_record) (fun _ _ _ _ _ _ us hl => match us, hl with | [_, _, _], _ => rfl), m_translated_record := PySem.W.mg_of X G A_translated_record,
    a_neighbours := f_neighbours, d_neighbours := _, F_neighbours := fun_mk (st := s_neighbours) L_neighbours C_neighbours K_neighbours, b_neighbours := (fun_mk (st := s_neighbours) L_neighbours C_neighbours K_neighbours).binds (ps := p_neighbours) (fun _ _ _ _ _ _ us hl => match us, hl with | [_, _], _ => rfl), m_neighbours := PySem.W.mg_of X G A_neighbours,
    a_visit_records := f_visit_records, d_visit_records := _, F_visit_records := fun_mk (st := s_visit_records) L_visit_records C_visit_records K_visit_records, b_visit_records := (fun_mk (st := s_visit_records) L_visit_records C_visit_records K_visit_records).binds (ps := p_visit_records) (fun _ _ _ _ _ _ us hl => match us, hl with | [_, _, _, _], _ => rfl), m_visit_records := PySem.W.mg_of X G A_visit_records,
    a_number_key := f_number_key, d_number_key := _, F_number_key := fun_mk (st := s_number_key) L_number_key C_number_key K_number_key, b_number_key := (fun_mk (st := s_number_key) L_number_key C_number_key K_number_key).binds (ps := p_number_key) (fun _ _ _ _ _ _ us hl => match us, hl with | [_, _, _, _, _], _ => rfl), m_number_key := PySem.W.mg_of X G A_number_key,
    a_l_cell := f_l_cell, d_l_cell := _, F_l_cell := fun_mk (st := s_l_cell) L_l_cell C_l_cell K_l_cell, b_l_cell := (fun_mk (st := s_l_cell) L_l_cell C_l_cell K_l_cell).binds (ps := p_l_cell) (fun _ _ _ _ _ _ us hl => match us, hl with | [_, _], _ => rfl), m_l_cell := PySem.W.mg_of X G A_l_cell,
    a_l_source := f_l_source, d_l_source := _, F_l_source := fun_mk (st := s_l_source) L_l_source C_l_source K_l_source, b_l_source := (fun_mk (st := s_l_source) L_l_source C_l_source K_l_source).binds (ps := p_l_source) (fun _ _ _ _ _ _ us hl => match us, hl with | [_], _ => rfl), m_l_source := PySem.W.mg_of X G A_l_source,
    a_l_pick := f_l_pick, d_l_pick := _, F_l_pick := fun_mk (st := s_l_pick) L_l_pick C_l_pick K_l_pick, b_l_pick := (fun_mk (st := s_l_pick) L_l_pick C_l_pick K_l_pick).binds (ps := p_l_pick) (fun _ _ _ _ _ _ us hl => match us, hl with | [_, _], _ => rfl), m_l_pick := PySem.W.mg_of X G A_l_pick,
    a_l_one := f_l_one, d_l_one := _, F_l_one := fun_mk (st := s_l_one) L_l_one C_l_one K_l_one, b_l_one := (fun_mk (st := s_l_one) L_l_one C_l_one K_l_one).binds (ps := p_l_one) (fun _ _ _ _ _ _ us hl => match us, hl with | [_, _], _ => rfl), m_l_one := PySem.W.mg_of X G A_l_one,
    a_l_names := f_l_names, d_l_names := _, F_l_names := fun_mk (st := s_l_names) L_l_names C_l_names K_l_names, b_l_names := (fun_mk (st := s_l_names) L_l_names C_l_names K_l_names).binds (ps := p_l_names) (fun _ _ _ _ _ _ us hl => match us, hl with | [_], _ => rfl), m_l_names := PySem.W.mg_of X G A_l_names,
    a_l_renumbered := f_l_renumbered, d_l_renumbered := _, F_l_renumbered := fun_mk (st := s_l_renumbered) L_l_renumbered C_l_renumbered K_l_renumbered, b_l_renumbered := (fun_mk (st := s_l_renumbered) L_l_renumbered C_l_renumbered K_l_renumbered).binds (ps := p_l_renumbered) (fun _ _ _ _ _ _ us hl => match us, hl with | [_, _, _], _ => rfl), m_l_renumbered := PySem.W.mg_of X G A_l_renumbered,
    a_l_drawn_value := f_l_drawn_value, d_l_drawn_value := _, F_l_drawn_value := fun_mk (st := s_l_drawn_value) L_l_drawn_value C_l_drawn_value K_l_drawn_value, b_l_drawn_value := (fun_mk (st := s_l_drawn_value) L_l_drawn_value C_l_drawn_value K_l_drawn_value).binds (ps := p_l_drawn_value) (fun _ _ _ _ _ _ us hl => match us, hl with | [_, _, _], _ => rfl), m_l_drawn_value := PySem.W.mg_of X G A_l_drawn_value,
    a_l_same := f_l_same, d_l_same := _, F_l_same := fun_mk (st := s_l_same) L_l_same C_l_same K_l_same, b_l_same := (fun_mk (st := s_l_same) L_l_same C_l_same K_l_same).binds (ps := p_l_same) (fun _ _ _ _ _ _ us hl => match us, hl with | [_, _], _ => rfl), m_l_same := PySem.W.mg_of X G A_l_same,
    a_l_number_kind := f_l_number_kind, d_l_number_kind := _, F_l_number_kind := fun_mk (st := s_l_number_kind) L_l_number_kind C_l_number_kind K_l_number_kind, b_l_number_kind := (fun_mk (st := s_l_number_kind) L_l_number_kind C_l_number_kind K_l_number_kind).binds (ps := p_l_number_kind) (fun _ _ _ _ _ _ us hl => match us, hl with | [_], _ => rfl), m_l_number_kind := PySem.W.mg_of X G A_l_number_kind,
    a_l_world := f_l_world, d_l_world := _, F_l_world := fun_mk (st := s_l_world) L_l_world C_l_world K_l_world, b_l_world := (fun_mk (st := s_l_world) L_l_world C_l_world K_l_world).binds (ps := p_l_world) (fun _ _ _ _ _ _ us hl => match us, hl with | [_, _], _ => rfl), m_l_world := PySem.W.mg_of X G A_l_world,
    a_l_shuffled := f_l_shuffled, d_l_shuffled := _, F_l_shuffled := fun_mk (st := s_l_shuffled) L_l_shuffled C_l_shuffled K_l_shuffled, b_l_shuffled := (fun_mk (st := s_l_shuffled) L_l_shuffled C_l_shuffled K_l_shuffled).binds (ps := p_l_shuffled) (fun _ _ _ _ _ _ us hl => match us, hl with | [_, _], _ => rfl), m_l_shuffled := PySem.W.mg_of X G A_l_shuffled,
    a_l_moved := f_l_moved, d_l_moved := _, F_l_moved := fun_mk (st := s_l_moved) L_l_moved C_l_moved K_l_moved, b_l_moved := (fun_mk (st := s_l_moved) L_l_moved C_l_moved K_l_moved).binds (ps := p_l_moved) (fun _ _ _ _ _ _ us hl => match us, hl with | [_, _], _ => rfl), m_l_moved := PySem.W.mg_of X G A_l_moved,
    a_l_heap := f_l_heap, d_l_heap := _, F_l_heap := fun_mk (st := s_l_heap) L_l_heap C_l_heap K_l_heap, b_l_heap := (fun_mk (st := s_l_heap) L_l_heap C_l_heap K_l_heap).binds (ps := p_l_heap) (fun _ _ _ _ _ _ us hl => match us, hl with | [_, _, _, _], _ => rfl), m_l_heap := PySem.W.mg_of X G A_l_heap,
    a_l_variables := f_l_variables, d_l_variables := _, F_l_variables := fun_mk (st := s_l_variables) L_l_variables C_l_variables K_l_variables, b_l_variables := (fun_mk (st := s_l_variables) L_l_variables C_l_variables K_l_variables).binds (ps := p_l_variables) (fun _ _ _ _ _ _ us hl => match us, hl with | [_, _, _], _ => rfl), m_l_variables := PySem.W.mg_of X G A_l_variables,
    a_l_redraw := f_l_redraw, d_l_redraw := _, F_l_redraw := fun_mk (st := s_l_redraw) L_l_redraw C_l_redraw K_l_redraw, b_l_redraw := (fun_mk (st := s_l_redraw) L_l_redraw C_l_redraw K_l_redraw).binds (ps := p_l_redraw) (fun _ _ _ _ _ _ us hl => match us, hl with | [_, _, _], _ => rfl), m_l_redraw := PySem.W.mg_of X G A_l_redraw,
    a_l_first := f_l_first, d_l_first := _, F_l_first := fun_mk (st := s_l_first) L_l_first C_l_first K_l_first, b_l_first := (fun_mk (st := s_l_first) L_l_first C_l_first K_l_first).binds (ps := p_l_first) (fun _ _ _ _ _ _ us hl => match us, hl with | [_, _, _], _ => rfl), m_l_first := PySem.W.mg_of X G A_l_first,
    a_l_copy := f_l_copy, d_l_copy := _, F_l_copy := fun_mk (st := s_l_copy) L_l_copy C_l_copy K_l_copy, b_l_copy := (fun_mk (st := s_l_copy) L_l_copy C_l_copy K_l_copy).binds (ps := p_l_copy) (fun _ _ _ _ _ _ us hl => match us, hl with | [_], _ => rfl), m_l_copy := PySem.W.mg_of X G A_l_copy,
    a_l_led := f_l_led, d_l_led := _, F_l_led := fun_mk (st := s_l_led) L_l_led C_l_led K_l_led, b_l_led := (fun_mk (st := s_l_led) L_l_led C_l_led K_l_led).binds (ps := p_l_led) (fun _ _ _ _ _ _ us hl => match us, hl with | [_, _], _ => rfl), m_l_led := PySem.W.mg_of X G A_l_led,
    a_l_reached := f_l_reached, d_l_reached := _, F_l_reached := fun_mk (st := s_l_reached) L_l_reached C_l_reached K_l_reached, b_l_reached := (fun_mk (st := s_l_reached) L_l_reached C_l_reached K_l_reached).binds (ps := p_l_reached) (fun _ _ _ _ _ _ us hl => match us, hl with | [_, _], _ => rfl), m_l_reached := PySem.W.mg_of X G A_l_reached,
    a_l_twin := f_l_twin, d_l_twin := _, F_l_twin := fun_mk (st := s_l_twin) L_l_twin C_l_twin K_l_twin, b_l_twin := (fun_mk (st := s_l_twin) L_l_twin C_l_twin K_l_twin).binds (ps := p_l_twin) (fun _ _ _ _ _ _ us hl => match us, hl with | [_, _, _, _], _ => rfl), m_l_twin := PySem.W.mg_of X G A_l_twin,
    a_l_with_other_fixed := f_l_with_other_fixed, d_l_with_other_fixed := _, F_l_with_other_fixed := fun_mk (st := s_l_with_other_fixed) L_l_with_other_fixed C_l_with_other_fixed K_l_with_other_fixed, b_l_with_other_fixed := (fun_mk (st := s_l_with_other_fixed) L_l_with_other_fixed C_l_with_other_fixed K_l_with_other_fixed).binds (ps := p_l_with_other_fixed) (fun _ _ _ _ _ _ us hl => match us, hl with | [_, _, _, _, _], _ => rfl), m_l_with_other_fixed := PySem.W.mg_of X G A_l_with_other_fixed,
    a_l_changed := f_l_changed, d_l_changed := _, F_l_changed := fun_mk (st := s_l_changed) L_l_changed C_l_changed K_l_changed, b_l_changed := (fun_mk (st := s_l_changed) L_l_changed C_l_changed K_l_changed).binds (ps := p_l_changed) (fun _ _ _ _ _ _ us hl => match us, hl with | [_, _, _, _], _ => rfl), m_l_changed := PySem.W.mg_of X G A_l_changed,
    a_l_kept := f_l_kept, d_l_kept := _, F_l_kept := fun_mk (st := s_l_kept) L_l_kept C_l_kept K_l_kept, b_l_kept := (fun_mk (st := s_l_kept) L_l_kept C_l_kept K_l_kept).binds (ps := p_l_kept) (fun _ _ _ _ _ _ us hl => match us, hl with | [_, _, _, _, _], _ => rfl), m_l_kept := PySem.W.mg_of X G A_l_kept,
    a_l_keeps := f_l_keeps, d_l_keeps := _, F_l_keeps := fun_mk (st := s_l_keeps) L_l_keeps C_l_keeps K_l_keeps, b_l_keeps := (fun_mk (st := s_l_keeps) L_l_keeps C_l_keeps K_l_keeps).binds (ps := p_l_keeps) (fun _ _ _ _ _ _ us hl => match us, hl with | [_, _, _, _, _], _ => rfl), m_l_keeps := PySem.W.mg_of X G A_l_keeps,
    a_l_orders := f_l_orders, d_l_orders := _, F_l_orders := fun_mk (st := s_l_orders) L_l_orders C_l_orders K_l_orders, b_l_orders := (fun_mk (st := s_l_orders) L_l_orders C_l_orders K_l_orders).binds (ps := p_l_orders) (fun _ _ _ _ _ _ us hl => match us, hl with | [_], _ => rfl), m_l_orders := PySem.W.mg_of X G A_l_orders,
    a_l_paired := f_l_paired, d_l_paired := _, F_l_paired := fun_mk (st := s_l_paired) L_l_paired C_l_paired K_l_paired, b_l_paired := (fun_mk (st := s_l_paired) L_l_paired C_l_paired K_l_paired).binds (ps := p_l_paired) (fun _ _ _ _ _ _ us hl => match us, hl with | [_, _, _, _, _], _ => rfl), m_l_paired := PySem.W.mg_of X G A_l_paired,
    a_l_is_order := f_l_is_order, d_l_is_order := _, F_l_is_order := fun_mk (st := s_l_is_order) L_l_is_order C_l_is_order K_l_is_order, b_l_is_order := (fun_mk (st := s_l_is_order) L_l_is_order C_l_is_order K_l_is_order).binds (ps := p_l_is_order) (fun _ _ _ _ _ _ us hl => match us, hl with | [_, _], _ => rfl), m_l_is_order := PySem.W.mg_of X G A_l_is_order,
    a_l_told := f_l_told, d_l_told := _, F_l_told := fun_mk (st := s_l_told) L_l_told C_l_told K_l_told, b_l_told := (fun_mk (st := s_l_told) L_l_told C_l_told K_l_told).binds (ps := p_l_told) (fun _ _ _ _ _ _ us hl => match us, hl with | [_, _, _], _ => rfl), m_l_told := PySem.W.mg_of X G A_l_told,
    a_l_right := f_l_right, d_l_right := _, F_l_right := fun_mk (st := s_l_right) L_l_right C_l_right K_l_right, b_l_right := (fun_mk (st := s_l_right) L_l_right C_l_right K_l_right).binds (ps := p_l_right) (fun _ _ _ _ _ _ us hl => match us, hl with | [_, _, _, _], _ => rfl), m_l_right := PySem.W.mg_of X G A_l_right,
    a_law := fa, d_law := _, F_law := fun_mk (st := s_law) L_law C_law K_law, b_law := (fun_mk (st := s_law) L_law C_law K_law).binds (ps := p_law) (fun _ _ _ _ _ _ us hl => match us, hl with | [_], _ => rfl), m_law := PySem.W.mg_of X G A_law,
    z_bool := PySem.W.mg_none_of X G Z_bool,
    z_enumerate := PySem.W.mg_none_of X G Z_enumerate,
    z_int := PySem.W.mg_none_of X G Z_int,
    z_isinstance := PySem.W.mg_none_of X G Z_isinstance,
    z_len := PySem.W.mg_none_of X G Z_len,
    z_list := PySem.W.mg_none_of X G Z_list,
    z_max := PySem.W.mg_none_of X G Z_max,
    z_range := PySem.W.mg_none_of X G Z_range,
    z_reversed := PySem.W.mg_none_of X G Z_reversed,
    z_sorted := PySem.W.mg_none_of X G Z_sorted,
    z_str := PySem.W.mg_none_of X G Z_str,
    z_tuple := PySem.W.mg_none_of X G Z_tuple }
  refine ⟨PySem.W.fnOf "law" "law" (defArgs s_law) (defBody s_law) (defScope s_law) .none kV_law dc_law pm_law an_law cd_law ct_law, fun s v => .of_eq rfl, fun base _ _ => ok_law T⟩
theorem walk {l : PySem.W.OpenLaw} {q : Program} {loose : List Str} {XP : (Str → Option Value) → Heap → Prop} {YP : World → Heap → Prop} {d : DefRec} {K : Params → PySem.W.Frag} (hn : l.most = some 63) (hdf : d.params.defaults = [])
    (hY : ∀ (w : World) (h : Heap), YP w h → (K w.params).In h)
    (F : ∀ (w : World) (mg : Str → Option Value) (fa : Addr) (h : Heap), (K w.params).In h → h.Ns mainGlobals mg → mg d.name = some (.ref fa) →
      ∃ fd : FuncData, (∀ (s : Shared) (u : Value), BindsTo s fd ⟨[u], []⟩ [("_law_script", u)]) ∧ ∀ base : Heap, (K w.params).In base → base.Ns mainGlobals mg → FnOk l.prog w (K w.params) mg base CX0 20 fa fd ["_law_script"] (spLaw (K w.params))) :
    PySem.W.WalkO q loose XP YP l.row.toRowW d [] (fun f vs => PySem.call f vs) :=
  L2.walk_of (n := 63) (k := 20) (x := "_law_script") (CX := fun _ => CX0) (sp := fun w => spLaw (K w.params)) hn (by decide) hdf ⟨rfl, by decide, by decide⟩ hY F (fun _ _ a ns hl _ hS => ⟨a, ns, rfl, hS, hl, fun _ => rfl⟩) fun _ _ _ _ _ z => z
end Mine
open PySem PySem.W PyProof.Rows
set_option maxRecDepth 100000 in
set_option maxHeartbeats 0 in
theorem PySem.Challenge.cw_neverhappens_k31_whole_one_key_if_paired_holds : PySem.Challenge.rw_neverhappens_k31_whole_one_key_if_paired.Holds := by
  w_on; o_law; k_head; (case hw => w_witness2)
  k_fill
  refine Mine.walk (l := PySem.Challenge.rw_neverhappens_k31_whole_one_key_if_paired) rfl rfl (fun w h Y => PySem.W.kIn_of Y) ?F
  case F =>
    intro w mg fa h KX G hmg
    refine' Mine.all_mk KX G hmg ?A_reference_places ?L_reference_places ?C_reference_places ?K_reference_places ?A_places_in_records ?L_places_in_records ?C_places_in_records ?K_places_in_records ?A_referred ?L_referred ?C_referred ?K_referred ?A_translated ?L_translated ?C_translated ?K_translated ?A_translated_record ?L_translated_record ?C_translated_record ?K_translated_record ?A_neighbours ?L_neighbours ?C_neighbours ?K_neighbours ?A_visit_records ?L_visit_records ?C_visit_records ?K_visit_records ?A_number_key ?L_number_key ?C_number_key ?K_number_key ?A_l_cell ?L_l_cell ?C_l_cell ?K_l_cell ?A_l_source ?L_l_source ?C_l_source ?K_l_source ?A_l_pick ?L_l_pick ?C_l_pick ?K_l_pick ?A_l_one ?L_l_one ?C_l_one ?K_l_one ?A_l_names ?L_l_names ?C_l_names ?K_l_names ?A_l_renumbered ?L_l_renumbered ?C_l_renumbered ?K_l_renumbered ?A_l_drawn_value ?L_l_drawn_value ?C_l_drawn_value ?K_l_drawn_value ?A_l_same ?L_l_same ?C_l_same ?K_l_same ?A_l_number_kind ?L_l_number_kind ?C_l_number_kind ?K_l_number_kind ?A_l_world ?L_l_world ?C_l_world ?K_l_world ?A_l_shuffled ?L_l_shuffled ?C_l_shuffled ?K_l_shuffled ?A_l_moved ?L_l_moved ?C_l_moved ?K_l_moved ?A_l_heap ?L_l_heap ?C_l_heap ?K_l_heap ?A_l_variables ?L_l_variables ?C_l_variables ?K_l_variables ?A_l_redraw ?L_l_redraw ?C_l_redraw ?K_l_redraw ?A_l_first ?L_l_first ?C_l_first ?K_l_first ?A_l_copy ?L_l_copy ?C_l_copy ?K_l_copy ?A_l_led ?L_l_led ?C_l_led ?K_l_led ?A_l_reached ?L_l_reached ?C_l_reached ?K_l_reached ?A_l_twin ?L_l_twin ?C_l_twin ?K_l_twin ?A_l_with_other_fixed ?L_l_with_other_fixed ?C_l_with_other_fixed ?K_l_with_other_fixed ?A_l_changed ?L_l_changed ?C_l_changed ?K_l_changed ?A_l_kept ?L_l_kept ?C_l_kept ?K_l_kept ?A_l_keeps ?L_l_keeps ?C_l_keeps ?K_l_keeps ?A_l_orders ?L_l_orders ?C_l_orders ?K_l_orders ?A_l_paired ?L_l_paired ?C_l_paired ?K_l_paired ?A_l_is_order ?L_l_is_order ?C_l_is_order ?K_l_is_order ?A_l_told ?L_l_told ?C_l_told ?K_l_told ?A_l_right ?L_l_right ?C_l_right ?K_l_right ?A_law ?L_law ?C_law ?K_law ?Z_bool ?Z_enumerate ?Z_int ?Z_isinstance ?Z_len ?Z_list ?Z_max ?Z_range ?Z_reversed ?Z_sorted ?Z_str ?Z_tuple
    (case A_reference_places => k_is)
    (case L_reference_places => k_is)
    (case C_reference_places => k_is)
    (case K_reference_places => k_is)
    (case A_places_in_records => k_is)
    (case L_places_in_records => k_is)
    (case C_places_in_records => k_is)
    (case K_places_in_records => k_is)
    (case A_referred => k_is)
    (case L_referred => k_is)
    (case C_referred => k_is)
    (case K_referred => k_is)
    (case A_translated => k_is)
    (case L_translated => k_is)
    (case C_translated => k_is)
    (case K_translated => k_is)
    (case A_translated_record => k_is)
    (case L_translated_record => k_is)
    (case C_translated_record => k_is)
    (case K_translated_record => k_is)
    (case A_neighbours => k_is)
    (case L_neighbours => k_is)
    (case C_neighbours => k_is)
    (case K_neighbours => k_is)
    (case A_visit_records => k_is)
    (case L_visit_records => k_is)
    (case C_visit_records => k_is)
    (case K_visit_records => k_is)
    (case A_number_key => k_is)
    (case L_number_key => k_is)
    (case C_number_key => k_is)
    (case K_number_key => k_is)
    (case A_l_cell => k_is)
    (case L_l_cell => k_is)
    (case C_l_cell => k_is)
    (case K_l_cell => k_is)
    (case A_l_source => k_is)
    (case L_l_source => k_is)
    (case C_l_source => k_is)
    (case K_l_source => k_is)
    (case A_l_pick => k_is)
    (case L_l_pick => k_is)
    (case C_l_pick => k_is)
    (case K_l_pick => k_is)
    (case A_l_one => k_is)
    (case L_l_one => k_is)
    (case C_l_one => k_is)
    (case K_l_one => k_is)
    (case A_l_names => k_is)
    (case L_l_names => k_is)
    (case C_l_names => k_is)
    (case K_l_names => k_is)
    (case A_l_renumbered => k_is)
    (case L_l_renumbered => k_is)
    (case C_l_renumbered => k_is)
    (case K_l_renumbered => k_is)
    (case A_l_drawn_value => k_is)
    (case L_l_drawn_value => k_is)
    (case C_l_drawn_value => k_is)
    (case K_l_drawn_value => k_is)
    (case A_l_same => k_is)
    (case L_l_same => k_is)
    (case C_l_same => k_is)
    (case K_l_same => k_is)
    (case A_l_number_kind => k_is)
    (case L_l_number_kind => k_is)
    (case C_l_number_kind => k_is)
    (case K_l_number_kind => k_is)
    (case A_l_world => k_is)
    (case L_l_world => k_is)
    (case C_l_world => k_is)
    (case K_l_world => k_is)
    (case A_l_shuffled => k_is)
    (case L_l_shuffled => k_is)
    (case C_l_shuffled => k_is)
    (case K_l_shuffled => k_is)
    (case A_l_moved => k_is)
    (case L_l_moved => k_is)
    (case C_l_moved => k_is)
    (case K_l_moved => k_is)
    (case A_l_heap => k_is)
    (case L_l_heap => k_is)
    (case C_l_heap => k_is)
    (case K_l_heap => k_is)
    (case A_l_variables => k_is)
    (case L_l_variables => k_is)
    (case C_l_variables => k_is)
    (case K_l_variables => k_is)
    (case A_l_redraw => k_is)
    (case L_l_redraw => k_is)
    (case C_l_redraw => k_is)
    (case K_l_redraw => k_is)
    (case A_l_first => k_is)
    (case L_l_first => k_is)
    (case C_l_first => k_is)
    (case K_l_first => k_is)
    (case A_l_copy => k_is)
    (case L_l_copy => k_is)
    (case C_l_copy => k_is)
    (case K_l_copy => k_is)
    (case A_l_led => k_is)
    (case L_l_led => k_is)
    (case C_l_led => k_is)
    (case K_l_led => k_is)
    (case A_l_reached => k_is)
    (case L_l_reached => k_is)
    (case C_l_reached => k_is)
    (case K_l_reached => k_is)
    (case A_l_twin => k_is)
    (case L_l_twin => k_is)
    (case C_l_twin => k_is)
    (case K_l_twin => k_is)
    (case A_l_with_other_fixed => k_is)
    (case L_l_with_other_fixed => k_is)
    (case C_l_with_other_fixed => k_is)
    (case K_l_with_other_fixed => k_is)
    (case A_l_changed => k_is)
    (case L_l_changed => k_is)
    (case C_l_changed => k_is)
    (case K_l_changed => k_is)
    (case A_l_kept => k_is)
    (case L_l_kept => k_is)
    (case C_l_kept => k_is)
    (case K_l_kept => k_is)
    (case A_l_keeps => k_is)
    (case L_l_keeps => k_is)
    (case C_l_keeps => k_is)
    (case K_l_keeps => k_is)
    (case A_l_orders => k_is)
    (case L_l_orders => k_is)
    (case C_l_orders => k_is)
    (case K_l_orders => k_is)
    (case A_l_paired => k_is)
    (case L_l_paired => k_is)
    (case C_l_paired => k_is)
    (case K_l_paired => k_is)
    (case A_l_is_order => k_is)
    (case L_l_is_order => k_is)
    (case C_l_is_order => k_is)
    (case K_l_is_order => k_is)
    (case A_l_told => k_is)
    (case L_l_told => k_is)
    (case C_l_told => k_is)
    (case K_l_told => k_is)
    (case A_l_right => k_is)
    (case L_l_right => k_is)
    (case C_l_right => k_is)
    (case K_l_right => k_is)
    (case A_law => k_is)
    (case L_law => k_is)
    (case C_law => k_is)
    (case K_law => k_is)
    (case Z_bool => k_is)
    (case Z_enumerate => k_is)
    (case Z_int => k_is)
    (case Z_isinstance => k_is)
    (case Z_len => k_is)
    (case Z_list => k_is)
    (case Z_max => k_is)
    (case Z_range => k_is)
    (case Z_reversed => k_is)
    (case Z_sorted => k_is)
    (case Z_str => k_is)
    (case Z_tuple => k_is)
#print axioms PySem.Challenge.cw_neverhappens_k31_whole_one_key_if_paired_holds
