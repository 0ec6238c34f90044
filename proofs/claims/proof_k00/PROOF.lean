import PyProof.Rows.All
import Wide.All
import OpenK.AllK
import Wide.FinOn
import HandS.Base
import HandS.Call
import HandS.Ends
import HandS.Words
import HandS.List
import PyProof.EqAt
import PyProof.EqKinds
import PyProof.TupleCall
import KE.KRevSl
import HandS.SetFor
import HandS.Strs
import HandS.Wide
import HandS.ForMost
import HandS.IsInst
import HandS.Zip
import HandS.TupAny
import PySem.Challenge.RW_setchooser_k00_integers_names_and_sets
set_option Elab.async false
set_option linter.all false
set_option maxRecDepth 100000
set_option maxHeartbeats 4000000
/-! Gd: defs that are called where no repr is under way (what stands around has no guards), for laws that compare by repr. -/
namespace Gd
open PySem PySem.Spec PyProof.Rows L2
section
variable {P : Program} {w : World} {K : PySem.W.Frag} {mg : Str → Option Value} {base : Heap} {CX : CXT}

/-- as FnOk, wherever no guard stands around -/
structure FnG (P : Program) (w : World) (K : PySem.W.Frag) (mg : Str → Option Value) (base : Heap) (CX : CXT) (k : Nat) (f : Addr) (fd : FuncData) (ps : List Str) (sp : Sp) : Prop where
  lenG : ∀ us H Q E, sp us H Q E → us.length = ps.length
  runG : ∀ (B : Around) (fs : List Env) (t : Shared) (H : Hp) (as : Args) (ws : List Value) (us : List V) (Q : VK) (E : XK), Room k B → B.guards = some [] → Env0 P w K mg base B fs t H →
    BindsTo t fd as (ps.zip ws) → Vals us ws → sp us H Q E → codeAny (model P w) B (.call (.ref f) as) (CR CX fs P w H t Q E) t

theorem FnG.of {k : Nat} {f : Addr} {fd : FuncData} {ps : List Str} {sp : Sp} (F : FnOk P w K mg base CX k f fd ps sp) : FnG P w K mg base CX k f fd ps sp :=
  ⟨F.len, fun B fs t H as ws us Q E r _ e b v q => F.run B fs t H as ws us Q E r e b v q⟩

/-- a def of the text, by its body, where no guard stands around -/
theorem def_ok {x qual : Str} {st : Stmt} {f : Addr} {fd : FuncData} {N ps : List Str} {k : Nat} {sp : Sp} (F : Fun K x qual st f fd) (S : FnScope N ps (defScope st)) (hl : ∀ us H Q E, sp us H Q E → us.length = ps.length)
    (hb : ∀ (cd : Value) (B : Around) (fs : List Env) (t : Shared) (H : Hp) (us : List V) (Q : VK) (E : XK), Room k (B.deeper (envOfC qual (defScope st) t.heap.objs.size f cd)) → B.guards = some [] → sp us H Q E →
      ∃ r, PSs (cxOf CX P w K mg base N qual (defScope st) f cd B fs t H E).nox (defBody st) r ∧ r { nx := fun _ G => Q .non G, rt := Q } (start N us) H) : FnG P w K mg base CX (k + 1) f fd ps sp := by
  obtain ⟨oc, od, kV, doc, pm, an, cd, ct, osl, rfl, lk, hc⟩ := F.ex
  constructor
  · exact hl
  intro B fs t H as ws us Q E hr hg e0 hbd hv hq
  have e0b := e0.bs
  have inK : K.In t.heap := e0.mod.kin.keeps fun b o z => (e0b b o z).1
  have few := hl _ _ _ _ hq
  refine codeAny_call_function hr.depth (inK _ _ lk) rfl S.co S.gen rfl (PySem.W.codeRec_of inK hc) (hbd _ _ _ _ ?_)
  apply wpAny_newFunctionEnv_cells S.kind
  · rintro ⟨n, u⟩ hy
    cases S.par n (List.of_mem_zip hy).1 with
    | inl z => exact Or.inl z
    | inr z => exact Or.inr ⟨z, PySem.W.cellsFrom_some _ _ _ (Or.inl z)⟩
  intro env he t1 hx
  subst he
  constructor
  · exact Heap.NoLimit.keeps (e0.mod.nolimit.keeps fun b o z => (e0b b o z).1) hx.toInCall.keep
  apply codeAny_func
  obtain ⟨r, hpss, hrd⟩ := hb cd B fs t H us Q E (hr.deeper _) hg hq
  have J := inv_start (CX := CX) (E := E) S hr.hd e0 few hv hx
  apply wpAny_mono (hpss.nox.run [] t1 (start N us) H _ J hrd)
  · intro fl t2 h2
    cases fl with
    | next =>
      obtain ⟨σ2, G, J2, z⟩ := h2
      exact ⟨V.non, G, J2.os, J2.bare, J2.base, J2.hok, (rfl : Value.none = Value.none), z⟩
    | ret u =>
      obtain ⟨v, σ2, G, J2, rv, z⟩ := h2
      exact ⟨v, G, J2.os, J2.bare, J2.base, J2.hok, rv, z⟩
    | brk => exact (h2.elim fun _ h3 => h3.elim fun _ h4 => h4.2).elim
    | cont => exact (h2.elim fun _ h3 => h3.elim fun _ h4 => h4.2).elim
  · intro _ _ z
    exact z
end
section
variable {X : Cx} {CX : CXT} {k : Nat} {f : Addr} {fd : FuncData} {ps : List Str} {sp : Sp} {E : XK} {x : Str} {p pos : Pos} {e : Expr} {es : List Expr} {t : TA}
/-- a call of such a def -/
theorem call_ok (F : FnG X.prog X.w X.K X.mg X.base CX k f fd ps sp) (hr : Room k X.A) (hgd : X.A.guards = some []) (hg : Gl X x) (hm : X.mg x = some (.ref f)) (hk : PySem.W.keepIn X.K (.ref f) = true) (hb : Binds X.K fd ps []) (hx : Passes CX X E)
    (ha : PA X (e :: es) t) (hdb : (x == ("__debug__" : Str)) = false := by decide) (h1 : starEach (e :: es) X.env = (false, eval e X.env) :: starEach es X.env := by rfl) (h2 : (backTo pos (starEach es X.env)).any (·.1) = false := by rfl) :
    PE X (.Call (.Name x p) (e :: es) [] pos) (tCall sp [] E t) := by
  constructor
  intro pins s σ H Q I h
  refine wpAny_Call_Name_kw (ld_glob I hg hm (PySem.W.callWith_K (h₀ := X.base) I.ok.mod.kin hk ?_ h1 h2) hdb)
  refine thn (ha.run pos pins s σ H _ I h) ?_
  rintro us s1 ⟨vs, H1, J, r, q⟩
  refine ⟨J.kIn, wpAny_call ?_⟩
  have q : sp (vs ++ []) H1 Q E := q
  rw [List.append_nil] at q
  have z : (us ++ []).length = ps.length := by rw [List.append_nil, ← r.length]; exact F.lenG _ _ _ _ q
  have bd := hb s1 us J.kIn z
  rw [List.append_nil] at bd
  apply codeAny_mono (F.runG X.A X.stack s1 H1 ⟨us, []⟩ us vs Q E hr hgd J.env0 bd r q)
  intro res s2 h3
  rcases res with u | fl
  · exact hx pins σ H1 s1 _ s2 J h3
  · cases fl with
    | ret u => exact J.after h3
    | _ => exact (show False from h3).elim
end
/-- repr of data without dicts, where no guard stands around -/
def rRepr (K : PySem.W.Frag) : List V → Hp → VK → Prop := fun vs H Q => ∃ (a : Addr) (d : PyData), vs = [.ref a] ∧ Dp K H (.ref a) d ∧ d.showable = true ∧ d.hasDict = false ∧ d.depth < 60 ∧ d.shown.length ≤ sizeLine ∧ Q (.str d.shown) H
theorem call_repr {X : Cx} (hgd : X.A.guards = some []) (hu : X.A.units + 64 < cLine) : CallR X (.builtin "repr") (rRepr X.K) := by
  intro pins s σ H vs us Q I r h
  obtain ⟨a, d, rfl, hd, h1, h2, h3, h4, q⟩ := h
  obtain ⟨u, rfl, ru⟩ := vals1 r
  cases (show u = Value.ref a from ru)
  obtain ⟨as, hR⟩ := Dp.reads I d (.ref a) (.ref a) hd rfl
  refine repr_of_reads' hR h1 (PyData.noDict_hsm h2) hgd (by omega) (fun _ _ z => z) (fun h' u tk hk => ?_) h4
  exact ⟨.str d.shown, H, I.kept (t' := tk) hk, ⟨u, rfl⟩, q⟩
end Gd

namespace Gd
open PySem PySem.Spec PyProof.Rows L2
/-- the law's own call, behind the top -/
theorem law_run {P : Program} {w : World} {K : PySem.W.Frag} {mg mb : Str → Option Value} {k : Nat} {fa a : Addr} {fd : FuncData} {x : Str} {sp : Sp} {t : Shared} {vs : List Value} {ns : List Int}
    (inK : K.In t.heap) (hmg : t.heap.Ns mainGlobals mg) (hmb : t.heap.Ns builtinsNs mb) (hbb : ∀ y : Str, y ≠ "__name__" → mb y = bootBuiltins y) (hnl : t.heap.NoLimit) (hgen : t.gens = #[])
    (hobj : t.heap.get? a = some { cls := .type "list", data := .seq vs.toArray }) (hints : IntsAre vs ns) (hlen : ns.length ≤ sizeLine) (room : Room k callerA)
    (F : ∀ base : Heap, K.In base → base.Ns mainGlobals mg → FnG P w K mg base CX0 k fa fd [x] sp) (hbind : ∀ (s : Shared) (u : Value), BindsTo s fd ⟨[u], []⟩ [(x, u)])
    (hsp : ∀ H : Hp, SqL K H a (ns.map V.int) → sp [.ref a] H (fun v _ => v = .bl true) fun _ _ _ => False) :
    codeAny (model P w) callerA (.call (.ref fa) ⟨[.ref a], []⟩) (fun r t' => r = .ok (.ret (.bool true)) ∧ OldK t.heap t'.heap ∧ t'.os = t.os ∧ AllBare t'.gens) t := by
  have hv := vals_ints hints
  let ob : Obj := { cls := .type "list", data := .seq vs.toArray }
  -- whatever is tracked is the script, as it lies
  suffices main : ∀ H : Hp, (∀ b u, H b = some u → b = a ∧ u = .frz ob (.lst (ns.map V.int)) ∧ K.lookup a = none) → SqL K H a (ns.map V.int) →
      codeAny (model P w) callerA (.call (.ref fa) ⟨[.ref a], []⟩) (fun r t' => r = .ok (.ret (.bool true)) ∧ OldK t.heap t'.heap ∧ t'.os = t.os ∧ AllBare t'.gens) t by
    cases hk : K.lookup a with
    | none =>
      apply main fun b => if b = a then some (.frz ob (.lst (ns.map V.int))) else none
      · intro b u z
        by_cases hb : b = a
        · rw [if_pos hb] at z
          exact ⟨hb, (Option.some.inj z).symm, hk⟩
        · rw [if_neg hb] at z
          cases z
      · exact Or.inl (Or.inr ⟨ob, if_pos rfl⟩)
    | some o =>
      have z := inK a o hk
      rw [hobj] at z
      cases z
      apply main fun _ => none
      · intro b u z
        cases z
      · exact Or.inr ⟨_, vs.toArray, _, hk, rfl, rfl, rfl, by rw [List.size_toArray, hints.length]; exact hlen, by simpa using hv⟩
  intro H hH hS
  have hok : HOk P w H t.heap := fun b u z => by
    obtain ⟨rfl, rfl, _⟩ := hH b u z
    exact ⟨hobj, by rw [List.length_map]; exact hlen, vs, _, hv, hobj⟩
  have free : ∀ {b o}, t.heap.get? b = some o → o ≠ ob → H b = none := fun {b o} z ne => by
    cases q : H b with
    | none => rfl
    | some u =>
      obtain ⟨rfl, _, _⟩ := hH b u q
      rw [hobj] at z
      exact absurd (Option.some.inj z).symm ne
  have nsH : ∀ {b m}, t.heap.Ns b m → (hidT t.heap H).Ns b m := fun {b m} ⟨o, es, ep, z, d, r⟩ => by
    refine ⟨o, es, ep, hidT_get z (free z fun q => ?_), d, r⟩
    rw [q] at d
    exact nomatch (show Data.seq vs.toArray _ = Data.dict es ep from d)
  have inKH : K.In (hidT t.heap H) := fun b o z => hidT_get (inK b o z) (by
    cases q : H b with
    | none => rfl
    | some u =>
      obtain ⟨rfl, _, n⟩ := hH b u q
      rw [n] at z
      cases z)
  obtain ⟨mc, l1, l2⟩ := hnl
  have e0 : Env0 P w K mg (hidT t.heap H) callerA [] t H := by
    refine ⟨rfl, ⟨inKH, nsH hmg, ⟨mb, nsH hmb, hbb⟩, mc, nsH l1, l2⟩, fun b o z => of_hidT z, Nat.le_of_eq (hidT_size _ _), trivial, fun b hb => ?_, hok, .of_eq hgen⟩
    cases hb
  apply codeAny_mono ((F _ inKH (nsH hmg)).runG callerA [] t H ⟨[.ref a], []⟩ [.ref a] [.ref a] _ _ room rfl e0 (hbind t (.ref a)) (.cons rfl .nil) (hsp H hS))
  intro r t' hr
  rcases r with e | fl
  · exact (show False from hr).elim
  cases fl with
  | ret u =>
    obtain ⟨v, H', os, bare, un, hok', ru, q⟩ := hr
    have q : v = .bl true := q
    subst q
    cases (show u = Value.bool true from ru)
    refine ⟨rfl, OldK.of_keep fun b o z => ?_, os, bare⟩
    cases q : H b with
    | none => exact un.keep b o z q (fun m => nomatch (show b ∈ ([] : List Addr) from m)) (by simp)
    | some u =>
      obtain ⟨rfl, rfl, _⟩ := hH b u q
      have z2 := (hok' b _ (un.frzs b _ _ q)).1
      rw [hobj] at z
      cases z
      exact z2
  | _ => exact (show False from hr).elim

/-- the goal that k_head leaves (case hc) -/
theorem walk {l : PySem.W.OpenLaw} {n k : Nat} {q : Program} {loose : List Str} {XP : (Str → Option Value) → Heap → Prop} {YP : World → Heap → Prop} {d : DefRec} {K : Params → PySem.W.Frag} {sp : World → Sp} {x : Str}
    (hn : l.most = some n) (hn2 : n ≤ sizeLine) (hdf : d.params.defaults = []) (room : Room k callerA) (hY : ∀ (w : World) (h : Heap), YP w h → (K w.params).In h)
    (F : ∀ (w : World) (mg : Str → Option Value) (fa : Addr) (h : Heap), (K w.params).In h → h.Ns mainGlobals mg → mg d.name = some (.ref fa) →
      ∃ fd : FuncData, (∀ (s : Shared) (u : Value), BindsTo s fd ⟨[u], []⟩ [(x, u)]) ∧ ∀ base : Heap, (K w.params).In base → base.Ns mainGlobals mg → FnG l.prog w (K w.params) mg base CX0 k fa fd [x] (sp w))
    (hsp : ∀ (w : World) (H : Hp) (a : Addr) (ns : List Int), ns.length ≤ n → SqL (K w.params) H a (ns.map V.int) → sp w [.ref a] H (fun v _ => v = .bl true) fun _ _ _ => False) :
    PySem.W.WalkO q loose XP YP l.row.toRowW d [] (fun f vs => PySem.call f vs) := by
  apply Att.attach_call hn hdf
  intro w s₀ s₁ mg mb fa o pm cd doc a vs ns G Y _ _ _ hfa hobj hints hlen hg
  have inK := hY w _ Y
  obtain ⟨fd, hb, hF⟩ := F w mg fa _ inK G.T.g hfa
  exact law_run inK G.T.g G.T.b G.T.builtins G.T.nolimit hg hobj hints (Nat.le_trans hlen hn2) room hF hb fun H hS => hsp w H a ns hlen hS
end Gd

set_option Elab.async false
set_option linter.all false
set_option maxRecDepth 100000
set_option maxHeartbeats 4000000
/-! Rl: three rules that the layer lacks: ** of great ints, t[::-1] of a tuple, set(..) of a list or tuple of ints. -/
namespace Gd
open PySem PySem.Spec PyProof.Rows L2
/-! ### powers -/
def CPowG (i j : Int) : Prop := 0 ≤ j ∧ (Builtin.Int.intBits i : Int) * j ≤ 2 ^ 27
theorem op_powG {X : Cx} : OpR X (binaryOp .Pow) (rI CPowG fun i j => .int (i ^ j.toNat)) := opI fun _ _ _ _ _ _ _ c q => pow_int c.1 c.2 q
/-! ### t[::-1] -/
theorem fm_same {α β : Type} {f g : α → Option β} : ∀ l : List α, (∀ x ∈ l, f x = g x) → l.filterMap f = l.filterMap g
  | [], _ => rfl
  | x :: l, h => by
    have h1 := h x List.mem_cons_self
    have h2 := fm_same l fun y hy => h y (List.mem_cons_of_mem _ hy)
    rw [List.filterMap_cons, List.filterMap_cons, h1, h2]
theorem back_all (its : Array Value) : (List.range its.size).filterMap (fun (k : Nat) => its[(((its.size : Int) - 1) + (k : Int) * (-1)).toNat]?) = its.toList.reverse := by
  have h1 : (List.range its.size).map (fun k => its.size - 1 - k) = (List.range its.size).reverse := PySem.W.krv_range its.size
  have h2 : its.toList.reverse = ((List.range its.size).map fun k => its.size - 1 - k).filterMap (its[·]?) := by
    rw [h1, List.filterMap_reverse, PySem.W.krv_all]
  rw [h2, List.filterMap_map]
  apply fm_same
  intro k hk
  have hk : k < its.size := List.mem_range.mp hk
  show its[_]? = its[_]?
  congr 1
  show ((its.size : Int) - 1 + (k : Int) * (-1)).toNat = its.size - 1 - k
  omega
section
variable {prog : Program} {w : World} {A : Around} {E : Value → Shared → Prop} {s : Shared}
theorem back_applied {sl : Addr} {vs : Value} {n : Nat} {Q : Int × Int × Nat → Shared → Prop} (hs : s.heap.IsSliceOf sl .none .none vs) (ps : IsPart vs (some (-1)))
    (h : Q ((n : Int) - 1, -1, n) s) : wpAny (model prog w) A (Builtin.Slice.sliceApplied (.ref sl) (pure (n : Int))) Q E s := by
  have ⟨ob, ho, _, hd⟩ := hs
  unfold Builtin.Slice.sliceApplied Builtin.Slice.sliceFields
  apply wpAny_bind
  refine wpAny_bind (wpAny_field ho hd (x := Value.none) rfl ?_)
  refine wpAny_bind (wpAny_field ho hd (x := Value.none) rfl ?_)
  refine wpAny_bind (wpAny_field ho hd (x := vs) rfl (wpAny_pure ?_))
  refine wpAny_bind (HT.slicePart_ ps ?_)
  show wpAny _ _ (if ((-1 : Int) == 0) = true then _ else _) _ _ s
  rw [if_neg (by decide)]
  refine wpAny_bind (slicePart_none (wpAny_bind (slicePart_none (wpAny_bind (wpAny_pure ?_)))))
  have e1 : Builtin.Slice.sliceAdjust none none (-1) (n : Int) = ((n : Int) - 1, -1) := by
    unfold Builtin.Slice.sliceAdjust
    simp
  have e2 : Builtin.Slice.slicePlaces ((n : Int) - 1) (-1) (-1) = n := by
    unfold Builtin.Slice.slicePlaces
    simp
    try omega
  show wpAny _ _ (match Builtin.Slice.sliceAdjust none none (-1) (n : Int) with | (lo, hi) => pure (lo, (-1 : Int), Builtin.Slice.slicePlaces lo hi (-1))) _ _ s
  rw [e1]
  show wpAny _ _ (pure ((n : Int) - 1, (-1 : Int), Builtin.Slice.slicePlaces ((n : Int) - 1) (-1) (-1))) _ _ s
  rw [e2]
  exact wpAny_pure h
theorem back_item {t sl : Addr} {its : Array Value} {vs : Value} {Q : Value → Shared → Prop} (ht : IsTup s.heap t its) (hs : s.heap.IsSliceOf sl .none .none vs) (ps : IsPart vs (some (-1))) (hz : its.size ≤ sizeLine)
    (h : Q (.ref s.heap.objs.size) { s with heap := s.heap.push { cls := .type "tuple", data := .seq its.toList.reverse.toArray } }) : wpAny (model prog w) A (getItem (.ref t) (.ref sl)) Q E s := by
  have ⟨ob, ho, hc, _⟩ := hs
  have few : sizeOk (.seq its.toList.reverse.toArray) := by
    show its.toList.reverse.toArray.size ≤ sizeLine
    simpa using hz
  unfold getItem
  try with_reducible refine wpAny_holding ?_
  first | refine wpAny_bind (wpAny_pure ?_) | skip
  refine wpAny_bind (wpAny_sequenceKey ht.typeIs (by decide) (wpAny_bind (wpAny_callSpecial?_slot (name := Str.ofString "__getitem__") ht.typeIs PyProof.Rows.slot_tuple_getitem
    (wpAny_call_entry PyProof.Rows.slot_tuple_getitem ht.typeIs entry_tuple_getitem ?_ (args_tuple_getitem _ _)))))
  show wpAny _ _ (Builtin.Tuple.tupleItemsOf (.ref t) >>= _) _ _ s
  refine wpAny_bind (tupleItemsOf_ ht (wpAny_bind (wpAny_typeOf (show s.TypeIs (.ref sl) "slice" from ⟨ob, ho, hc⟩) ?_)))
  rw [if_pos (by decide)]
  refine wpAny_bind (back_applied hs ps ?_)
  show wpAny _ _ (if ((its.size : Int) - 1 == 0 && (-1 : Int) == 1 && its.size == its.size) = true then _ else _) _ _ s
  rw [if_neg (by simp), back_all]
  first
    | exact wpAny_bind (m := Builtin.Tuple.tupleExact _) (wpAny_newObj_type (wpAny_pure ⟨_, rfl, wpAny_pure h⟩) few)
    | exact wpAny_bind (wpAny_bind (m := Builtin.Tuple.tupleExact _) (wpAny_newObj_type (wpAny_pure (wpAny_pure ⟨_, rfl, wpAny_pure h⟩)) few))
    | exact wpAny_bind (wpAny_bind (m := Builtin.Tuple.tupleExact _) (wpAny_newObj_type (wpAny_pure ⟨_, rfl, wpAny_pure h⟩) few))
    | exact wpAny_bind (m := Builtin.Tuple.tupleExact _) (wpAny_newObj_type (wpAny_bind (wpAny_pure (wpAny_pure ⟨_, rfl, wpAny_pure h⟩))) few)
end
def tBack (K : PySem.W.Frag) (te : TE) : TE := fun σ H Q => te σ H fun x G => ∃ a xs, x = .ref a ∧ SqT K G a xs ∧ ∀ p, G p = none → Q (.ref p) (upd G p (.tup xs.reverse))
theorem pe_back {X : Cx} {e : Expr} {te : TE} {k : Nat} {p1 p2 p3 pos : Pos} (he : PE X e te) : PE X (.Subscript e (.Slice none none (some (.UnaryOp .USub (.Constant (.int 1) k p1) p2)) p3) pos) (tBack X.K te) := by
  constructor
  intro pins s σ H Q I h
  refine Subscript_ (thn (he.run pins s σ H _ I h) ?_)
  rintro v s1 ⟨x, G, J, rx, a, xs, rfl, hx, q⟩
  cases (show v = Value.ref a from rx)
  have st : PO X (some (.UnaryOp .USub (.Constant (.int 1) k p1) p2)) (tPart (tUn (rU fun i => .int (-i)) (tC (.int 1)))) := po_some (pe_un un_neg pe_int)
  have no := po_none (X := X)
  apply wpAny_Slice
  refine thn (no.run pins s1 σ G (fun o F => o = none ∧ F = G) J ⟨rfl, rfl⟩) ?_
  rintro vl s2 ⟨_, _, J2, pl, rfl, rfl⟩
  refine thn (no.run pins s2 σ _ (fun o F => o = none ∧ F = _) J2 ⟨rfl, rfl⟩) ?_
  rintro vu s3 ⟨_, _, J3, pu, rfl, rfl⟩
  refine thn (st.run pins s3 σ _ (fun o F => o = some (-1) ∧ F = _) J3 ⟨1, rfl, -1, rfl, rfl, rfl⟩) ?_
  rintro vs s4 ⟨_, _, J4, ps, rfl, rfl⟩
  cases pl
  cases pu
  have J5 : Inv X pins σ _ { s4 with heap := s4.heap.push { cls := .type "slice", data := .fields #[Value.none, Value.none, vs] } } := J4.kept (t' := s4.toks) fun b ob z => Heap.get?_push_of_some _ z
  obtain ⟨its, r, ht, hz⟩ := J5.tuple hx
  have few : its.toArray.size ≤ sizeLine := by
    rw [List.size_toArray, ← r.length]
    exact hz
  refine tail_any (ops := [.ref a, .ref s4.heap.objs.size]) ht.typeIs PyProof.Rows.slot_tuple_getitem.lookup (back_item ht (Heap.IsSliceOf.new _ _ _ vs) ps few ?_) (by with_unfolding_all rfl)
  refine ⟨.ref _, _, J5.laid (t' := s4.toks) (o := .tup xs.reverse) (fun b ob z => Heap.get?_push_of_some _ z) (Nat.le_refl _) ?_, rfl, q _ (J5.hok.fresh (Nat.le_refl _))⟩
  refine ⟨by rw [List.length_reverse]; exact hz, _, r.reverse, ?_⟩
  exact IsTup.new _ _
end Gd

set_option Elab.async false
set_option linter.all false
set_option maxRecDepth 100000
set_option maxHeartbeats 4000000
namespace Gd
open PySem PySem.Spec PyProof.Rows L2
section
variable {P : Program} {w : World} {A : Around} {E : Value → Shared → Prop} {s : Shared}
abbrev freshSet (w : World) : Obj := { cls := .type "set", dict := none, data := .set #[] 0 (.fresh 0 0 (!w.params.followText "set-order")) }
/-- the set of a list of ints: what stands behind set(l) -/
def SetMade (w : World) (s : Shared) (ns : List Int) (r : Value) (s2 : Shared) : Prop :=
  r = .none ∧ ∃ h' tk c, s2 = { s with heap := h', toks := tk } ∧ SetR w h' s.heap.objs.size (fun j => decide (j ∈ ns)) c ∧ c ≤ ns.length ∧ ∀ b o, s.heap.get? b = some o → h'.get? b = some o
theorem set_of_list {l : Addr} {its : Array Value} (ns : List Int) {Q : Value → Shared → Prop} (calm : A.handled = none) (hl : s.heap.IsList l its) (hi : IntsAre its.toList ns) (few : ns.length + 1 < scanBound)
    (h : ∀ (h' : Heap) (tk c : Nat), SetR w h' s.heap.objs.size (fun j => decide (j ∈ ns)) c → c ≤ ns.length → (∀ b o, s.heap.get? b = some o → h'.get? b = some o) → Q (.ref s.heap.objs.size) { s with heap := h', toks := tk }) :
    wpAny (model P w) A (call (.type "set") [.ref l]) Q E s := by
  have many : its.size = ns.length := by
    rw [← hi.length, Array.length_toList]
  have ⟨c, tl, hmro⟩ := F.called_set.mro
  have f1 := F.called_set.made
  have f2 := F.called_set.sub
  apply wpAny_call
  apply codeAny_of_tree
  show wpAny _ _ (callAny (.type "set") _) _ _ _
  refine wpAny_pure ⟨Code.quiet_builtin _ (by decide +kernel), codeAny_builtin F.entry_type_call ?_⟩
  rw [Around.under_plain (weight_type_call_type "set" [.ref l] []) rfl]
  have f3 := F.called_set.notType
  have f4 := F.called_set.canCreate
  have f5 := F.typeCall_set_1 (.ref l)
  repeat (any_goals (first | assumption | wp_step))
  refine codeAny_mono (code_set_led1 (.ref l) (E := E) (Q₁ := fun r t => r = .ref s.heap.objs.size ∧ t = { s with heap := s.heap.push (freshSet w) }) ⟨rfl, rfl⟩) ?_
  intro r s1 hr
  rcases r with e | fl
  · exact hr
  cases fl with
  | next => exact hr.elim
  | brk => exact hr.elim
  | cont => exact hr.elim
  | ret obj =>
    obtain ⟨rfl, rfl⟩ := hr
    have new : (s.heap.push (freshSet w)).get? s.heap.objs.size = some (freshSet w) := Heap.get?_push_size _ rfl
    have isS : Shared.TypeIs { s with heap := s.heap.push (freshSet w) } (.ref s.heap.objs.size) "set" := ⟨_, new, rfl⟩
    have f6 := F.called_set.init.lookup
    have f7 := F.called_set.init.bind (.ref s.heap.objs.size)
    repeat (any_goals (first | assumption | wp_step))
    refine codeAny_mono (codeAny_call_builtin (R := wants (SetMade w s ns) E) F.called_set.init.plain F.entry_set_init (check_set_init_1 isS ?_)) ?_
    · have lLt : l < s.heap.objs.size := hl.elim fun o ho => Heap.lt_size ho.1
      have hl1 : (s.heap.push (freshSet w)).IsList l its := hl.push _
      obtain ⟨⟨oc, od, dat, osl⟩, ho, hc, nl, hd⟩ := id hl1
      simp only at hc hd
      subst hc hd
      have g1 := F.sub_list_set
      have g2 := F.sub_list_frozenset
      have g3 : (Value.type "list" == Value.type "dict") = false := by decide
      unfold Builtin.«set.__init__» noKeywords Builtin.Frozenset.updateFrom
      generalize hIt : pyIter = It
      wp_walk
      subst hIt
      refine wpAny_pyIter_list hl1 (wpAny_bind (wpAny_runValue ?_))
      have sz1 : (s.heap.push (freshSet w)).objs.size = s.heap.objs.size + 1 := Heap.size_push ..
      have calm3 : A.in1.in1.in1.handled = none := by simp [calm]
      have apart : l ≠ (s.heap.push (freshSet w)).objs.size := by
        rw [sz1]
        exact Nat.ne_of_lt (Nat.lt_succ_of_lt lLt)
      have outside : s.heap.objs.size ∉ [(s.heap.push (freshSet w)).objs.size, l] := by
        rw [sz1]
        simp only [List.mem_cons, List.not_mem_nil, or_false, not_or]
        exact ⟨Nat.ne_of_lt (Nat.lt_succ_self _), Nat.ne_of_gt lLt⟩
      have vals : ∀ (i : Nat) (v : Value), its[i]? = some v → ∃ k t, ns[i]? = some k ∧ v = .int k t := by
        intro i v hv
        have lt : i < ns.length := by
          rw [← many]
          exact (Array.getElem?_eq_some_iff.mp hv).1
        obtain ⟨t, e⟩ := PyProof.Rows.IntsAre.int_at hi i v (by rw [Array.getElem?_toList]; exact hv)
        exact ⟨ns[i], t, List.getElem?_eq_getElem lt, by rw [e, List.getD_eq_getElem?_getD, List.getElem?_eq_getElem lt] <;> rfl⟩
      refine set_update_ints (Walks.list calm3 _ l apart its).toS s.heap.objs.size outside ns many few vals (its.size - 0) 0 _ (by omega) (Nat.zero_le _) ⟨⟨_, Heap.get?_push_size _ rfl, rfl, rfl⟩, hl1.push _⟩ ?_ ?_
      · exact ⟨0, Nat.le_refl 0, setR_new_at (Heap.get?_push_of_some _ new)⟩
      · intro s' c' mv hc' hS'
        obtain ⟨h', gs, dr, tk, os⟩ := s'
        obtain rfl : gs = s.gens := mv.gens
        obtain rfl : dr = s.drawn := mv.drawn
        obtain rfl : os = s.os := mv.os
        refine wpAny_pure (wpAny_pure ?_)
        refine ⟨rfl, h', tk, c', rfl, hS', by omega, fun b o z => ?_⟩
        have lt := Heap.lt_size z
        refine mv.heap b o ?_ (Heap.get?_push_of_some _ (Heap.get?_push_of_some _ z))
        rw [sz1]
        simp only [List.mem_cons, List.not_mem_nil, or_false, not_or]
        exact ⟨Nat.ne_of_lt lt, Nat.ne_of_lt (Nat.lt_succ_of_lt lt)⟩
    · intro r2 s2 hr2
      rcases r2 with e | fl
      · exact hr2
      cases fl with
      | next => exact hr2.elim
      | brk => exact hr2.elim
      | cont => exact hr2.elim
      | ret r =>
        obtain ⟨rfl, h', tk, c', rfl, hS', hc', hk⟩ := hr2
        repeat (any_goals (first | assumption | wp_step))
        exact h _ _ _ hS' hc' hk
end
/-- set(xs), xs a list or a tuple of ints -/
def rSetI (K : PySem.W.Frag) (w : World) : List V → Hp → VK → Prop := fun vs H Q => ∃ (a : Addr) (ns : List Int), vs = [.ref a] ∧ (SqL K H a (ns.map V.int) ∨ SqT K H a (ns.map V.int)) ∧ ns.length ≤ 1000 ∧
  ∀ (p : Addr) (n : Nat), n ≤ ns.length → H p = none → Q (.ref p) (upd H p (SetO w p (fun j => decide (j ∈ ns)) n))
theorem call_setI {X : Cx} (hc : X.calm = true) : CallR X (.type "set") (rSetI X.K X.w) := by
  intro pins s σ H vs us Q I r h
  obtain ⟨a, ns, rfl, hx, few, q⟩ := h
  obtain ⟨u, rfl, ru⟩ := vals1 r
  cases (show u = Value.ref a from ru)
  have calm := I.ok.hd hc
  have fin : ∀ (h' : Heap) (tk c : Nat), SetR X.w h' s.heap.objs.size (fun j => decide (j ∈ ns)) c → c ≤ ns.length → (∀ b o, s.heap.get? b = some o → h'.get? b = some o) → EP X pins σ Q (.ref s.heap.objs.size) { s with heap := h', toks := tk } := by
    intro h' tk c R hc' hk
    exact ⟨.ref _, _, I.laid (t' := tk) hk (Nat.le_refl _) (setO_new R), rfl, q _ c hc' (I.hok.fresh (Nat.le_refl _))⟩
  rcases hx with hx | hx
  · obtain ⟨its, rv, pt, _⟩ := I.list hx
    exact set_of_list ns calm pt.isList (ints_of_vals rv) (by unfold scanBound; omega) fin
  · obtain ⟨its, rv, pt, _⟩ := I.tuple hx
    exact call_set_tupI ns calm (show s.heap.IsTuple a its.toArray from pt) (ints_of_vals rv) (by unfold scanBound; omega) fin
end Gd

set_option Elab.async false
set_option linter.all false
set_option maxRecDepth 100000
set_option maxHeartbeats 4000000
/-! Lc: readings of comprehensions: what stays, what is gathered; lists compared with the empty one. -/
namespace Gd
open PySem PySem.Spec PyProof.Rows L2
theorem _root_.L2.Same.upG {H G : Hp} {p : Addr} {o : HO} (s : Same H G) (n : H p = none) : Same H (upd G p o) := fun b x e => by
  rw [upd_ne (ne_of_none e n)]
  exact s b x e
theorem _root_.L2.Same.newG {H : Hp} {p : Addr} {o : HO} (n : H p = none) : Same H (upd H p o) := (Same.refl H).upG n
theorem _root_.L2.Same.tupS {K : PySem.W.Frag} {H G : Hp} {a : Addr} {xs : List V} (s : Same H G) (h : SqT K H a xs) : SqT K G a xs := by
  rcases h with (h | ⟨o, h⟩) | h
  · exact .inl (.inl (s _ _ h))
  · exact .inl (.inr ⟨o, s _ _ h⟩)
  · exact .inr h
/-- between two turns: Ok of the heap, the list at D, what it has gathered -/
def Nx (Ok : Hp → Prop) (D : Addr) (Acc : Nat → List V → Prop) (i : Nat) : Hp → Prop := fun H => ∃ acc, Ok H ∧ H D = some (.lst acc) ∧ Acc i acc
theorem nx_put {Ok : Hp → Prop} {D : Addr} {Acc : Nat → List V → Prop} {i : Nat} {H : Hp} {acc : List V} {y : V} (hup : ∀ H o, Ok H → Ok (upd H D o)) (ok : Ok H) (e : H D = some (.lst acc)) (few : acc.length ≤ 1000) (a : Acc (i + 1) (acc ++ [y])) :
    ∃ acc, H D = some (.lst acc) ∧ acc.length < sizeLine ∧ Nx Ok D Acc (i + 1) (upd H D (.lst (acc ++ [y]))) :=
  ⟨acc, e, small1000 few, acc ++ [y], hup H _ ok, upd_same, a⟩
theorem lc_any {J : It} {n : Nat} {g : TG} {tt : TT} {te : TE} {vs : List Nat} {σ : L2.St} {H1 : Hp} {D : Addr} {Qd : Hp → Prop} (Ok : Hp → Prop) (Acc : Nat → List V → Prop) (Item : Nat → V → Hp → Prop) (h0 : Ok (upd H1 D (.lst []))) (z0 : Acc 0 [])
    (hgo : ∀ i H, i < n → Nx Ok D Acc i H → J.go i H) (hst : ∀ H, Nx Ok D Acc n H → J.stop n H) (hy : ∀ i H v H', i < n → Nx Ok D Acc i H → J.yld i H v H' → Nx Ok D Acc i H' ∧ Item i v H')
    (hs : ∀ i v H, i < n → Nx Ok D Acc i H → Item i v H → g v (wipe σ vs) H fun σ2 H2 => wipe σ2 vs = wipe σ vs ∧ tt σ2 H2 fun b H3 =>
      if b = true then te σ2 H3 fun y H4 => ∃ acc, H4 D = some (.lst acc) ∧ acc.length < sizeLine ∧ Nx Ok D Acc (i + 1) (upd H4 D (.lst (acc ++ [y]))) else Nx Ok D Acc (i + 1) H3)
    (hd : ∀ H acc, Ok H → H D = some (.lst acc) → Acc n acc → Qd H) :
    ∃ W : Nat → Nat → Hp → Prop, (∃ m, W 0 m (upd H1 D (.lst []))) ∧ ∀ i m H, W i m H →
      (J.stop i H ∧ Qd H) ∨ (J.go i H ∧ ∃ N : Hp → Prop, (∀ H', N H' → ∃ m', m' < m ∧ W (i + 1) m' H') ∧ ∀ x H', J.yld i H x H' → g x (wipe σ vs) H' fun σ2 H2 => wipe σ2 vs = wipe σ vs ∧ tt σ2 H2 fun b H3 =>
        if b = true then te σ2 H3 fun y H4 => ∃ acc, H4 D = some (.lst acc) ∧ acc.length < sizeLine ∧ N (upd H4 D (.lst (acc ++ [y]))) else N H3) := by
  refine ⟨fun i m H => i + m = n ∧ Nx Ok D Acc i H, ⟨n, by omega, [], h0, upd_same, z0⟩, ?_⟩
  rintro i m H ⟨e, nx⟩
  by_cases hi : i < n
  · refine .inr ⟨hgo i H hi nx, Nx Ok D Acc (i + 1), fun H' z => ⟨m - 1, by omega, by omega, z⟩, fun v H' y => ?_⟩
    obtain ⟨z1, z2⟩ := hy i H v H' hi nx y
    exact hs i v H' hi z1 z2
  · obtain rfl : i = n := by omega
    obtain ⟨acc, a, b, c⟩ := nx
    exact .inl ⟨hst H ⟨acc, a, b, c⟩, hd H acc a b c⟩
section
variable {K : PySem.W.Frag} {a : Addr} {xs : List V} {g : TG} {tt : TT} {te : TE} {vs : List Nat} {σ : L2.St} {H1 : Hp} {D : Addr} {Qd : Hp → Prop}
/-- over a tuple that stays -/
theorem lc_tupG (Ok : Hp → Prop) (Acc : Nat → List V → Prop) (hS : ∀ H, Ok H → SqT K H a xs) (h0 : Ok (upd H1 D (.lst []))) (z0 : Acc 0 [])
    (hs : ∀ i v H, i < xs.length → Nx Ok D Acc i H → xs[i]? = some v → g v (wipe σ vs) H fun σ2 H2 => wipe σ2 vs = wipe σ vs ∧ tt σ2 H2 fun b H3 =>
      if b = true then te σ2 H3 fun y H4 => ∃ acc, H4 D = some (.lst acc) ∧ acc.length < sizeLine ∧ Nx Ok D Acc (i + 1) (upd H4 D (.lst (acc ++ [y]))) else Nx Ok D Acc (i + 1) H3)
    (hd : ∀ H acc, Ok H → H D = some (.lst acc) → Acc xs.length acc → Qd H) :
    ∃ W : Nat → Nat → Hp → Prop, (∃ m, W 0 m (upd H1 D (.lst []))) ∧ ∀ i m H, W i m H →
      ((Itt K a).stop i H ∧ Qd H) ∨ ((Itt K a).go i H ∧ ∃ N : Hp → Prop, (∀ H', N H' → ∃ m', m' < m ∧ W (i + 1) m' H') ∧ ∀ x H', (Itt K a).yld i H x H' → g x (wipe σ vs) H' fun σ2 H2 => wipe σ2 vs = wipe σ vs ∧ tt σ2 H2 fun b H3 =>
        if b = true then te σ2 H3 fun y H4 => ∃ acc, H4 D = some (.lst acc) ∧ acc.length < sizeLine ∧ N (upd H4 D (.lst (acc ++ [y]))) else N H3) :=
  lc_any (J := Itt K a) (n := xs.length) Ok Acc (fun i v _ => xs[i]? = some v) h0 z0 (fun i H hi ⟨acc, o, _⟩ => ⟨xs, xs[i], hS H o, List.getElem?_eq_getElem hi⟩)
    (fun H ⟨acc, o, _⟩ => ⟨xs, hS H o, Nat.le_refl _⟩) (fun i H v H' hi nx ⟨e, f⟩ => by
      subst e
      obtain ⟨acc, o, r⟩ := nx
      exact ⟨⟨acc, o, r⟩, f xs (hS _ o)⟩) hs hd
/-- over the signs of a text -/
theorem lc_strG {x : Str} (Ok : Hp → Prop) (Acc : Nat → List V → Prop) (h0 : Ok (upd H1 D (.lst []))) (z0 : Acc 0 [])
    (hs : ∀ i c H, x.cps[i]? = some c → Nx Ok D Acc i H → g (.str ⟨#[c]⟩) (wipe σ vs) H fun σ2 H2 => wipe σ2 vs = wipe σ vs ∧ tt σ2 H2 fun b H3 =>
      if b = true then te σ2 H3 fun y H4 => ∃ acc, H4 D = some (.lst acc) ∧ acc.length < sizeLine ∧ Nx Ok D Acc (i + 1) (upd H4 D (.lst (acc ++ [y]))) else Nx Ok D Acc (i + 1) H3)
    (hd : ∀ H acc, Ok H → H D = some (.lst acc) → Acc x.cps.size acc → Qd H) :
    ∃ W : Nat → Nat → Hp → Prop, (∃ m, W 0 m (upd H1 D (.lst []))) ∧ ∀ i m H, W i m H →
      ((Its x).stop i H ∧ Qd H) ∨ ((Its x).go i H ∧ ∃ N : Hp → Prop, (∀ H', N H' → ∃ m', m' < m ∧ W (i + 1) m' H') ∧ ∀ v H', (Its x).yld i H v H' → g v (wipe σ vs) H' fun σ2 H2 => wipe σ2 vs = wipe σ vs ∧ tt σ2 H2 fun b H3 =>
        if b = true then te σ2 H3 fun y H4 => ∃ acc, H4 D = some (.lst acc) ∧ acc.length < sizeLine ∧ N (upd H4 D (.lst (acc ++ [y]))) else N H3) :=
  lc_any (J := Its x) (n := x.cps.size) Ok Acc (fun i v _ => ∃ c, x.cps[i]? = some c ∧ v = .str ⟨#[c]⟩) h0 z0 (fun i H hi _ => hi) (fun H _ => Nat.le_refl _)
    (fun i H v H' hi nx ⟨e, f⟩ => by
      subst e
      exact ⟨nx, f⟩)
    (fun i v H hi nx ⟨c, hc, e⟩ => by
      subst e
      exact hs i c H hc nx) hd
/-- over pairs of two tuples that stay -/
theorem lc_zipG {b : Addr} {ys : List V} {n : Nat} (hx : n ≤ xs.length) (hy : n ≤ ys.length) (hn : xs.length ≤ n ∨ ys.length ≤ n) (Ok : Hp → Prop) (Acc : Nat → List V → Prop) (hS : ∀ H, Ok H → SqT K H a xs ∧ SqT K H b ys)
    (hup : ∀ H T o, T ≠ D → H T = none → Ok H → Ok (upd H T o)) (h0 : Ok (upd H1 D (.lst []))) (z0 : Acc 0 [])
    (hs : ∀ i x y T H, xs[i]? = some x → ys[i]? = some y → Nx Ok D Acc i H → H T = some (.tup [x, y]) → g (.ref T) (wipe σ vs) H fun σ2 H2 => wipe σ2 vs = wipe σ vs ∧ tt σ2 H2 fun b H3 =>
      if b = true then te σ2 H3 fun y H4 => ∃ acc, H4 D = some (.lst acc) ∧ acc.length < sizeLine ∧ Nx Ok D Acc (i + 1) (upd H4 D (.lst (acc ++ [y]))) else Nx Ok D Acc (i + 1) H3)
    (hd : ∀ H acc, Ok H → H D = some (.lst acc) → Acc n acc → Qd H) :
    ∃ W : Nat → Nat → Hp → Prop, (∃ m, W 0 m (upd H1 D (.lst []))) ∧ ∀ i m H, W i m H →
      ((RZ.ItzT K a b).stop i H ∧ Qd H) ∨ ((RZ.ItzT K a b).go i H ∧ ∃ N : Hp → Prop, (∀ H', N H' → ∃ m', m' < m ∧ W (i + 1) m' H') ∧ ∀ v H', (RZ.ItzT K a b).yld i H v H' → g v (wipe σ vs) H' fun σ2 H2 => wipe σ2 vs = wipe σ vs ∧ tt σ2 H2 fun b H3 =>
        if b = true then te σ2 H3 fun y H4 => ∃ acc, H4 D = some (.lst acc) ∧ acc.length < sizeLine ∧ N (upd H4 D (.lst (acc ++ [y]))) else N H3) :=
  lc_any (J := RZ.ItzT K a b) (n := n) Ok Acc (fun i v H => ∃ x y T, xs[i]? = some x ∧ ys[i]? = some y ∧ v = .ref T ∧ H T = some (.tup [x, y])) h0 z0
    (fun i H hi ⟨acc, o, _⟩ => ⟨xs, ys, _, _, (hS H o).1, (hS H o).2, List.getElem?_eq_getElem (by omega), List.getElem?_eq_getElem (by omega)⟩)
    (fun H ⟨acc, o, _⟩ => ⟨xs, ys, (hS H o).1, (hS H o).2, hn⟩)
    (fun i H v H' hi nx ⟨T, x, y, e1, nT, e2, f1, f2⟩ => by
      subst e1 e2
      obtain ⟨acc, o, e, r⟩ := nx
      have ne : D ≠ T := ne_of_none e nT
      exact ⟨⟨acc, hup H T _ ne.symm nT o, by rw [upd_ne ne]; exact e, r⟩, x, y, T, f1 xs (hS H o).1, f2 ys (hS H o).2, rfl, upd_same⟩)
    (fun i v H hi nx ⟨x, y, T, hx, hy, e, hT⟩ => by
      subst e
      exact hs i x y T H hx hy nx hT) hd
end
theorem tyes {X Y : Hp → Prop} {σ : L2.St} {H : Hp} (h : X H) : tYes σ H (fun b G => if b = true then X G else Y G) := by
  show (if true = true then X H else Y H)
  rw [if_pos rfl]
  exact h
/-! ### t[i:j], t + u: some tuple -/
def rSlU (K : PySem.W.Frag) : V → Option Int → Option Int → Hp → VK → Prop := fun x lo hi H Q => ∃ a xs, x = .ref a ∧ SqT K H a xs ∧ ∀ b G, Same H G → SqT K G b (cutV xs lo hi) → Q (.ref b) G
theorem sl_tupU {X : Cx} : SlR X (rSlU X.K) := by
  intro pins s σ H x v vl vu lo hi sl Q I rx hs pl pu h
  obtain ⟨a, xs, rfl, hx, q⟩ := h
  refine sl_tupA pins s σ H _ v vl vu lo hi sl Q I rx hs pl pu ⟨a, xs, rfl, hx, fun e => q a H (Same.refl H) ?_, fun _ p np => q p _ (Same.newG np) (.inl (.inl upd_same))⟩
  have z : cutV xs lo hi = xs := by
    unfold cutV
    rw [e.1, e.2, List.drop_zero, Nat.sub_zero, List.take_length]
  rw [z]
  exact hx
def rCatU (K : PySem.W.Frag) : R2 := fun x y H Q => ∃ a b xs ys, x = .ref a ∧ y = .ref b ∧ SqT K H a xs ∧ SqT K H b ys ∧ xs.length + ys.length ≤ sizeLine ∧ ∀ c G, Same H G → SqT K G c (xs ++ ys) → Q (.ref c) G
theorem op_catU {X : Cx} : OpR X (binaryOp .Add) (rCatU X.K) := by
  intro pins s σ H x y v u Q I rx ry h
  obtain ⟨a, b, xs, ys, rfl, rfl, hx, hy, few, q⟩ := h
  refine op_catA pins s σ H _ _ v u Q I rx ry ⟨a, b, xs, ys, rfl, rfl, hx, hy, few, fun e => q b H (Same.refl H) ?_, fun _ e => q a H (Same.refl H) ?_, fun _ _ p np => q p _ (Same.newG np) (.inl (.inl upd_same))⟩
  · rw [e]
    exact hy
  · rw [e, List.append_nil]
    exact hx
def rSlV : V → Option Int → Option Int → Hp → VK → Prop := fun x lo hi H Q => ∃ a xs, x = .ref a ∧ H a = some (.tup xs) ∧ ∀ b G, Same H G → G b = some (.tup (cutV xs lo hi)) → Q (.ref b) G
theorem sl_tupV {X : Cx} : SlR X rSlV := by
  intro pins s σ H x v vl vu lo hi sl Q I rx hs pl pu h
  obtain ⟨a, xs, rfl, hx, q⟩ := h
  refine sl_tupA pins s σ H _ v vl vu lo hi sl Q I rx hs pl pu ⟨a, xs, rfl, .inl (.inl hx), fun e => q a H (Same.refl H) ?_, fun _ p np => q p _ (Same.newG np) upd_same⟩
  have z : cutV xs lo hi = xs := by
    unfold cutV
    rw [e.1, e.2, List.drop_zero, Nat.sub_zero, List.take_length]
  rw [z]
  exact hx
def rCatV : R2 := fun x y H Q => ∃ a b xs ys, x = .ref a ∧ y = .ref b ∧ H a = some (.tup xs) ∧ H b = some (.tup ys) ∧ xs.length + ys.length ≤ sizeLine ∧ ∀ c G, Same H G → G c = some (.tup (xs ++ ys)) → Q (.ref c) G
theorem op_catV {X : Cx} : OpR X (binaryOp .Add) rCatV := by
  intro pins s σ H x y v u Q I rx ry h
  obtain ⟨a, b, xs, ys, rfl, rfl, hx, hy, few, q⟩ := h
  refine op_catA pins s σ H _ _ v u Q I rx ry ⟨a, b, xs, ys, rfl, rfl, .inl (.inl hx), .inl (.inl hy), few, fun e => q b H (Same.refl H) ?_, fun _ e => q a H (Same.refl H) ?_, fun _ _ p np => q p _ (Same.newG np) upd_same⟩
  · rw [e]
    exact hy
  · rw [e, List.append_nil]
    exact hx
/-! ### a list == [], != [] -/
def rNil (f : Bool → Bool) (K : PySem.W.Frag) : R2 := fun x y H Q => ∃ a b xs, x = .ref a ∧ y = .ref b ∧ SqL K H a xs ∧ SqL K H b [] ∧ Q (.bl (f xs.isEmpty)) H
theorem op_eqNil {X : Cx} (hu : X.A.units < cLine) : OpR X (compareOp .Eq) (rNil id X.K) := by
  intro pins s σ H x y v u Q I rx ry h
  obtain ⟨a, b, xs, rfl, rfl, h1, h2, q⟩ := h
  cases (show v = Value.ref a from rx)
  cases (show u = Value.ref b from ry)
  obtain ⟨its, r1, p1, _⟩ := I.list h1
  obtain ⟨its2, r2, p2, _⟩ := I.list h2
  cases r2
  cases r1 with
  | nil =>
    exact SeqAt.eq_listAt (e := fun _ => true) p1.isList p2.isList rfl hu (fun j z _ => absurd z (by simp)) ⟨.bl true, H, I, rfl, q⟩
  | cons _ _ => exact SeqAt.eq_list_lengthsAt p1.isList p2.isList (by simp) hu ⟨.bl false, H, I, rfl, q⟩
theorem op_neNil {X : Cx} (hu : X.A.units < cLine) : OpR X (compareOp .NotEq) (rNil (!·) X.K) := by
  intro pins s σ H x y v u Q I rx ry h
  obtain ⟨a, b, xs, rfl, rfl, h1, h2, q⟩ := h
  cases (show v = Value.ref a from rx)
  cases (show u = Value.ref b from ry)
  obtain ⟨its, r1, p1, _⟩ := I.list h1
  obtain ⟨its2, r2, p2, _⟩ := I.list h2
  cases r2
  cases r1 with
  | nil => exact SeqAt.RcNeAt.lists (e := fun _ => true) p1.isList p2.isList rfl hu (fun j z _ => absurd z (by simp)) _ _ _ _ ⟨.bl false, H, I, rfl, q⟩
  | cons _ _ => exact SeqAt.RcNeAt.lists_lengths p1.isList p2.isList (by simp) hu _ _ _ _ ⟨.bl true, H, I, rfl, q⟩
end Gd

set_option Elab.async false
set_option linter.all false
set_option maxRecDepth 100000
set_option maxHeartbeats 4000000
namespace Gd
open PySem PySem.Spec PyProof.Rows L2
/-- the heap once a tuple's items are gathered into a new list -/
abbrev gath (h : Heap) (its : Array Value) : Heap := (h.push { cls := .type "list", data := .seq ([] : List Value).toArray }).update h.objs.size (Obj.mapSeq (· ++ its))
theorem gath_old {h : Heap} {its : Array Value} {b : Addr} {o : Obj} (e : h.get? b = some o) : (gath h its).get? b = some o :=
  (Heap.get?_update_other _ _ (Nat.ne_of_gt (Heap.lt_size e))).trans (Heap.get?_push_of_some _ e)
theorem gath_size (h : Heap) (its : Array Value) : (gath h its).objs.size = h.objs.size + 1 := by
  rw [Heap.size_update, size_push']
theorem gather_tuple {P : Program} {w : World} {A : Around} {E : Value → Shared → Prop} {s : Shared} {t : Addr} {o : Obj} {its : Array Value} {n : Nat} {Q : List Value → Shared → Prop} (ho : s.heap.get? t = some o) (hc : o.cls = .type "tuple") (hd : o.data = .seq its n)
    (few : its.size ≤ sizeLine) (q : Q its.toList { s with heap := gath s.heap its }) : wpAny (model P w) A (collect (.ref t)) Q E s := by
  have new : (s.heap.push { cls := .type "list", data := .seq ([] : List Value).toArray }).get? s.heap.objs.size = some { cls := .type "list", data := .seq #[] 0 } := Heap.get?_push_size _ rfl
  have full := Heap.get?_update_self (Obj.mapSeq (· ++ its)) new rfl
  unfold collect
  apply wpAny_bind
  apply wpAny_runValue
  refine codeAny_builtin F.entry_proto_collect ?_
  rw [Around.under_plainId F.plain_proto_collect _]
  show wpAny _ A.in1 (newList [] >>= fun l => again (.builtin "list.__iadd__" ⟨[l, .ref t], []⟩)) _ _ s
  refine wpAny_bind (wpAny_newObj_type (wpAny_pure ⟨plainId_quiet F.plain_list_iadd _, codeAny_builtin F.entry_list_iadd ?_⟩))
  rw [Around.under_plainId F.plain_list_iadd _]
  have fin : wpAny (model P w) A (match Value.ref s.heap.objs.size with
      | Value.ref a => do
        match (← load a).data with
          | Data.seq xs _ => pure xs.toList
          | _ => unsupported "internal:collect"
      | _ => unsupported "internal:collect") Q E { s with heap := gath s.heap its } := by
    show wpAny _ A (load s.heap.objs.size >>= _) _ _ _
    refine wpAny_bind (wpAny_load full (wpAny_pure ?_))
    show Q ((#[] : Array Value) ++ its).toList _
    rw [show ((#[] : Array Value) ++ its).toList = its.toList by simp]
    exact q
  refine wpAny_mono (wpAny_extend_seq (hsz := few) (A := A) (R := fun r t' => r = .ok (.ret (.ref s.heap.objs.size)) ∧ t' = { s with heap := gath s.heap its }) (s := { s with heap := s.heap.push { cls := .type "list", data := .seq ([] : List Value).toArray } }) _ t _ 0 (.inr rfl) new (Heap.get?_push_of_some _ ho) hc hd ⟨rfl, rfl⟩) ?_ ?_
  · intro f t' hf
    cases f with
    | done r =>
      obtain ⟨e, rfl⟩ := hf
      cases e
      exact fin
    | again c =>
      refine ⟨hf.1, codeAny_mono hf.2 ?_⟩
      rintro r t2 ⟨rfl, rfl⟩
      exact fin
  · rintro e t' ⟨z, _⟩
    cases z
/-- sorted(t) of a tuple of ints -/
def rSortT (K : PySem.W.Frag) : List V → Hp → VK → Prop := fun vs H Q => ∃ (a : Addr) (ns : List Int), vs = [V.ref a] ∧ SqT K H a (ns.map V.int) ∧ ns.length < 64 ∧
  ∀ (ms : List Int) (p : Addr), ms.Perm ns → ms.Pairwise (· ≤ ·) → H p = none → Q (.ref p) (upd H p (.lst (ms.map V.int)))
theorem call_sortT {X : Cx} : CallR X (.builtin "sorted") (rSortT X.K) := by
  intro pins s σ H vs us Q I r h
  obtain ⟨a, ns, rfl, hS, few, q⟩ := h
  obtain ⟨its, rv, pt, _⟩ := I.tuple hS
  rw [Vals.ref1 r]
  have hi : IntsAre its ns := ints_of_vals rv
  obtain ⟨o, ho, hc, n, hd⟩ := id pt
  refine Calls.call_function_entry kind_sorted plain_sorted entry_sorted (args_sorted1 _) ?_
  unfold Builtin.«sorted»
  refine wpAny_bind (m := checkCount "sorted" 1 1 _) (wpAny_pure ?_)
  refine wpAny_bind (gather_tuple (A := X.A.in1) ho hc hd (by rw [List.size_toArray, hi.length, sizeLine_eq]; omega) ?_)
  generalize hg : gath s.heap its.toArray = h'
  have hk : ∀ b u, s.heap.get? b = some u → h'.get? b = some u := fun b u e => by
    rw [← hg]
    exact gath_old e
  show wpAny _ _ _ _ _ { s with heap := h' }
  have len : its.length < 64 := by rw [hi.length]; exact few
  refine wpAny_bind (wpAny_newList ?_ (by show its.length ≤ _; rw [sizeLine_eq]; omega))
  have hoL : (h'.push (seqObj "list" its.toArray 0)).get? h'.objs.size = some (seqObj "list" its.toArray 0) := Heap.get?_push_size _ rfl
  refine wpAny_bind (wpAny_holding (wpAny_call_entry slot_list_sort ⟨_, hoL, rfl⟩ entry_list_sort (list_sort_tree hoL hi len fun out ms a1 a2 a3 => ⟨_, rfl, ?_⟩) (args_list_sort _)))
  obtain ⟨c, hcc⟩ := sortedHeap_at (vs := its) (out := out) hoL
  have keep : ∀ b u, s.heap.get? b = some u → (sortedHeap (h'.push (seqObj "list" its.toArray 0)) h'.objs.size its out).get? b = some u := by
    intro b u e
    have e2 := hk b u e
    have lt := Heap.lt_size e2
    rw [sortedHeap_old (Nat.ne_of_lt lt) (by rw [size_push']; exact Nat.lt_succ_of_lt lt)]
    exact Heap.get?_push_of_some _ e2
  have hz : s.heap.objs.size ≤ h'.objs.size := by
    rw [← hg, gath_size]
    exact Nat.le_succ _
  have few2 : (ms.map V.int).length ≤ sizeLine := by rw [List.length_map, a2.length_eq]; exact small64 few
  exact wpAny_pure ⟨_, rfl, .ref _, upd H h'.objs.size (.lst (ms.map V.int)), I.laid (t' := s.toks) keep hz ⟨few2, out.toList, c, vals_of_ints a1, hcc⟩, rfl, q ms _ a2 a3 (I.hok.fresh hz)⟩
end Gd

set_option Elab.async false
set_option linter.all false
set_option maxRecDepth 100000
set_option maxHeartbeats 4000000
namespace K0
open PySem PySem.Spec PyProof.Rows L2 Gd
/-! ### the text -/
def topS (i : Nat) : Stmt := PySem.Challenge.pw_setchooser_k00_integers_names_and_sets.main.body.getD i (.Pass ⟨0, 0, 0, 0⟩)
abbrev s_is_integer : Stmt := topS 4
abbrev s_is_number : Stmt := topS 5
abbrev s_is_name : Stmt := topS 6
abbrev s_is_ascending : Stmt := topS 7
abbrev s_is_set : Stmt := topS 8
abbrev s_sack : Stmt := topS 10
abbrev s_grab : Stmt := topS 11
abbrev s_one_of : Stmt := topS 12
abbrev s_letter : Stmt := topS 13
abbrev s_lname : Stmt := topS 14
abbrev s_is_short : Stmt := topS 15
abbrev s_numbers : Stmt := topS 16
abbrev s_texts : Stmt := topS 17
abbrev s_is_number_set : Stmt := topS 18
abbrev s_tuples : Stmt := topS 19
abbrev s_cell_right : Stmt := topS 20
abbrev s_law : Stmt := topS 21
abbrev nm_is_integer : List Str := ["value"]
abbrev nm_is_name : List Str := ["value", "letter"]
abbrev nm_is_ascending : List Str := ["values", "one", "other"]
abbrev nm_is_set : List Str := ["value", "part"]
abbrev nm_sack : List Str := ["_law_script", "_law_at", "_law_cell", "_law_great", "_law_mixed"]
abbrev nm_grab : List Str := ["_law_sack_here", "_law_total", "_law_found", "_law_one", "_law_two"]
abbrev nm_one_of : List Str := ["_law_sack_here", "_law_items"]
abbrev nm_letter : List Str := ["_law_sack_here"]
abbrev nm_lname : List Str := ["_law_value", "_law_sign"]
abbrev nm_is_short : List Str := ["_law_value"]
abbrev nm_numbers : List Str := ["_law_sack_here", "_law_cell", "_law_great", "_law_near"]
abbrev nm_texts : List Str := ["_law_sack_here", "_law_found", "_law_turn", "_law_text", "_law_spot", "_law_odd", "_law_at"]
abbrev nm_is_number_set : List Str := ["_law_value", "_law_one"]
abbrev nm_tuples : List Str := ["_law_sack_here", "_law_row", "_law_at", "_law_odd", "_law_found", "_law_turn"]
abbrev nm_cell_right : List Str := ["_law_script", "_law_at", "_law_sack_here", "_law_cell", "_law_values", "_law_turn", "_law_value", "_law_found", "_law_due"]
abbrev nm_law : List Str := ["_law_script", "_law_at"]
theorem sc_is_integer : FnScope nm_is_integer ["value"] (defScope s_is_integer) := ⟨rfl, rfl, rfl, by decide +kernel, rfl, by decide +kernel, by decide +kernel⟩
theorem sc_is_number : FnScope nm_is_integer ["value"] (defScope s_is_number) := ⟨rfl, rfl, rfl, by decide +kernel, rfl, by decide +kernel, by decide +kernel⟩
theorem sc_is_name : FnScope nm_is_name ["value"] (defScope s_is_name) := ⟨rfl, rfl, rfl, by decide +kernel, rfl, by decide +kernel, by decide +kernel⟩
theorem sc_is_ascending : FnScope nm_is_ascending ["values"] (defScope s_is_ascending) := ⟨rfl, rfl, rfl, by decide +kernel, rfl, by decide +kernel, by decide +kernel⟩
theorem sc_is_set : FnScope nm_is_set ["value"] (defScope s_is_set) := ⟨rfl, rfl, rfl, by decide +kernel, rfl, by decide +kernel, by decide +kernel⟩
theorem sc_sack : FnScope nm_sack ["_law_script", "_law_at"] (defScope s_sack) := ⟨rfl, rfl, rfl, by decide +kernel, rfl, by decide +kernel, by decide +kernel⟩
theorem sc_grab : FnScope nm_grab ["_law_sack_here", "_law_total"] (defScope s_grab) := ⟨rfl, rfl, rfl, by decide +kernel, rfl, by decide +kernel, by decide +kernel⟩
theorem sc_one_of : FnScope nm_one_of ["_law_sack_here", "_law_items"] (defScope s_one_of) := ⟨rfl, rfl, rfl, by decide +kernel, rfl, by decide +kernel, by decide +kernel⟩
theorem sc_letter : FnScope nm_letter ["_law_sack_here"] (defScope s_letter) := ⟨rfl, rfl, rfl, by decide +kernel, rfl, by decide +kernel, by decide +kernel⟩
theorem sc_lname : FnScope nm_lname ["_law_value"] (defScope s_lname) := ⟨rfl, rfl, rfl, by decide +kernel, rfl, by decide +kernel, by decide +kernel⟩
theorem sc_is_short : FnScope nm_is_short ["_law_value"] (defScope s_is_short) := ⟨rfl, rfl, rfl, by decide +kernel, rfl, by decide +kernel, by decide +kernel⟩
theorem sc_numbers : FnScope nm_numbers ["_law_sack_here", "_law_cell"] (defScope s_numbers) := ⟨rfl, rfl, rfl, by decide +kernel, rfl, by decide +kernel, by decide +kernel⟩
theorem sc_texts : FnScope nm_texts ["_law_sack_here"] (defScope s_texts) := ⟨rfl, rfl, rfl, by decide +kernel, rfl, by decide +kernel, by decide +kernel⟩
theorem sc_is_number_set : FnScope nm_is_number_set ["_law_value"] (defScope s_is_number_set) := ⟨rfl, rfl, rfl, by decide +kernel, rfl, by decide +kernel, by decide +kernel⟩
theorem sc_tuples : FnScope nm_tuples ["_law_sack_here"] (defScope s_tuples) := ⟨rfl, rfl, rfl, by decide +kernel, rfl, by decide +kernel, by decide +kernel⟩
theorem sc_cell_right : FnScope nm_cell_right ["_law_script", "_law_at"] (defScope s_cell_right) := ⟨rfl, rfl, rfl, by decide +kernel, rfl, by decide +kernel, by decide +kernel⟩
theorem sc_law : FnScope nm_law ["_law_script"] (defScope s_law) := ⟨rfl, rfl, rfl, by decide +kernel, rfl, by decide +kernel, by decide +kernel⟩
/-! ### what the module has -/
structure Blt (mg : Str → Option Value) : Prop where
  len_ : mg "len" = none
  range_ : mg "range" = none
  isinstance_ : mg "isinstance" = none
  int_ : mg "int" = none
  bool_ : mg "bool" = none
  str_ : mg "str" = none
  tuple_ : mg "tuple" = none
  list_ : mg "list" = none
  set_ : mg "set" = none
  sorted_ : mg "sorted" = none
  zip_ : mg "zip" = none
  all_ : mg "all" = none
  abs_ : mg "abs" = none
  max_ : mg "max" = none
  min_ : mg "min" = none
  repr_ : mg "repr" = none
/-- a def of the module that keeps its promise -/
structure Has (P : Program) (w : World) (K : PySem.W.Frag) (mg : Str → Option Value) (base : Heap) (k : Nat) (x : Str) (ps : List Str) (sp : Sp) : Prop where
  ex : ∃ (f : Addr) (fd : FuncData), FnOk P w K mg base CX0 k f fd ps sp ∧ mg x = some (.ref f) ∧ PySem.W.keepIn K (.ref f) = true ∧ Binds K fd ps []
/-! ### the values that are judged -/
inductive Kd where
  | non | bl (b : Bool) | int (i : Int) | str (x : Str) | lst (xs : List V) | tup (xs : List V) | dic
inductive Sees (H : Hp) : V → Kd → Prop where
  | non : Sees H .non .non
  | bl (b : Bool) : Sees H (.bl b) (.bl b)
  | int (i : Int) : Sees H (.int i) (.int i)
  | str (x : Str) (few : x.length ≤ 1000) : Sees H (.str x) (.str x)
  | lst {a : Addr} {xs : List V} : H a = some (.lst xs) → Sees H (.ref a) (.lst xs)
  | tup {a : Addr} {xs : List V} (h : H a = some (.tup xs)) (few : xs.length ≤ 60) : Sees H (.ref a) (.tup xs)
  | dic {a : Addr} {kvs : List (Key × V)} : H a = some (.dK kvs) → Sees H (.ref a) .dic
theorem Sees.same {H G : Hp} {v : V} {k : Kd} (h : Sees H v k) (s : Same H G) : Sees G v k := by
  cases h with
  | lst h => exact .lst (s _ _ h)
  | tup h few => exact .tup (s _ _ h) few
  | str x few => exact .str x few
  | dic h => exact .dic (s _ _ h)
  | _ => constructor
def Kd.isInt : Kd → Bool
  | .int _ => true
  | .bl _ => true
  | _ => false
def Kd.isBool : Kd → Bool
  | .bl _ => true
  | _ => false
def Kd.isStr : Kd → Bool
  | .str _ => true
  | _ => false
def Kd.isTup : Kd → Bool
  | .tup _ => true
  | _ => false
def Kd.tyN : Kd → String
  | .non => "NoneType"
  | .bl _ => "bool"
  | .int _ => "int"
  | .str _ => "str"
  | .lst _ => "list"
  | .tup _ => "tuple"
  | .dic => "dict"
theorem Sees.ty {K : PySem.W.Frag} {H : Hp} {v : V} {k : Kd} (h : Sees H v k) : TyX K H v (.type k.tyN) := by
  cases h with
  | non => exact .base .non
  | bl b => exact .base (.bl b)
  | int i => exact .base (.int i)
  | str x few => exact .base (.str x)
  | lst h => exact .base (.lst h)
  | tup h few => exact .base (.tup h)
  | dic h => exact .base (.dK h)
theorem kit_isInt : ∀ k : Kd, kitB k.tyN "int" = some k.isInt
  | .non => (by decide +kernel : kitB "NoneType" "int" = some false)
  | .bl _ => (by decide +kernel : kitB "bool" "int" = some true)
  | .int _ => (by decide +kernel : kitB "int" "int" = some true)
  | .str _ => (by decide +kernel : kitB "str" "int" = some false)
  | .lst _ => (by decide +kernel : kitB "list" "int" = some false)
  | .tup _ => (by decide +kernel : kitB "tuple" "int" = some false)
  | .dic => (by decide +kernel : kitB "dict" "int" = some false)
theorem kit_isBool : ∀ k : Kd, kitB k.tyN "bool" = some k.isBool
  | .non => (by decide +kernel : kitB "NoneType" "bool" = some false)
  | .bl _ => (by decide +kernel : kitB "bool" "bool" = some true)
  | .int _ => (by decide +kernel : kitB "int" "bool" = some false)
  | .str _ => (by decide +kernel : kitB "str" "bool" = some false)
  | .lst _ => (by decide +kernel : kitB "list" "bool" = some false)
  | .tup _ => (by decide +kernel : kitB "tuple" "bool" = some false)
  | .dic => (by decide +kernel : kitB "dict" "bool" = some false)
theorem kit_isStr : ∀ k : Kd, kitB k.tyN "str" = some k.isStr
  | .non => (by decide +kernel : kitB "NoneType" "str" = some false)
  | .bl _ => (by decide +kernel : kitB "bool" "str" = some false)
  | .int _ => (by decide +kernel : kitB "int" "str" = some false)
  | .str _ => (by decide +kernel : kitB "str" "str" = some true)
  | .lst _ => (by decide +kernel : kitB "list" "str" = some false)
  | .tup _ => (by decide +kernel : kitB "tuple" "str" = some false)
  | .dic => (by decide +kernel : kitB "dict" "str" = some false)
theorem kit_isTup : ∀ k : Kd, kitB k.tyN "tuple" = some k.isTup
  | .non => (by decide +kernel : kitB "NoneType" "tuple" = some false)
  | .bl _ => (by decide +kernel : kitB "bool" "tuple" = some false)
  | .int _ => (by decide +kernel : kitB "int" "tuple" = some false)
  | .str _ => (by decide +kernel : kitB "str" "tuple" = some false)
  | .lst _ => (by decide +kernel : kitB "list" "tuple" = some false)
  | .tup _ => (by decide +kernel : kitB "tuple" "tuple" = some true)
  | .dic => (by decide +kernel : kitB "dict" "tuple" = some false)
section
variable {K : PySem.W.Frag} {H : Hp} {v : V} {k : Kd} {R : Bool → Prop}
theorem isi_int (h : Sees H v k) (q : R k.isInt) : ∃ (x c : V) (t u : Value) (b : Bool), [v, V.ty "int"] = [x, c] ∧ ClsV c u ∧ TyX K H x t ∧ PySem.W.kitOne K t u = some b ∧ R b :=
  ⟨_, _, _, _, _, rfl, .ty _, h.ty, kit_ty (kit_isInt k), q⟩
theorem isi_bool (h : Sees H v k) (q : R k.isBool) : ∃ (x c : V) (t u : Value) (b : Bool), [v, V.ty "bool"] = [x, c] ∧ ClsV c u ∧ TyX K H x t ∧ PySem.W.kitOne K t u = some b ∧ R b :=
  ⟨_, _, _, _, _, rfl, .ty _, h.ty, kit_ty (kit_isBool k), q⟩
theorem isi_str (h : Sees H v k) (q : R k.isStr) : ∃ (x c : V) (t u : Value) (b : Bool), [v, V.ty "str"] = [x, c] ∧ ClsV c u ∧ TyX K H x t ∧ PySem.W.kitOne K t u = some b ∧ R b :=
  ⟨_, _, _, _, _, rfl, .ty _, h.ty, kit_ty (kit_isStr k), q⟩
theorem isi_tup (h : Sees H v k) (q : R k.isTup) : ∃ (x c : V) (t u : Value) (b : Bool), [v, V.ty "tuple"] = [x, c] ∧ ClsV c u ∧ TyX K H x t ∧ PySem.W.kitOne K t u = some b ∧ R b :=
  ⟨_, _, _, _, _, rfl, .ty _, h.ty, kit_ty (kit_isTup k), q⟩
end
def TL : Int := 1000000000000000000000000000000000000000000000000000000000000
theorem TL_pos : 0 < TL := by decide +kernel
/-- an integer of at most sixty digits -/
def short : Kd → Bool
  | .int i => decide (-TL < i) && decide (i < TL)
  | _ => false
section
variable {P : Program} {w : World} {K : PySem.W.Frag} {mg : Str → Option Value} {base : Heap}
def spInt : Sp := fun vs H Q _ => ∃ v k, vs = [v] ∧ Sees H v k ∧ Q (.bl (short k)) H
theorem ok_is_integer {f : Addr} {fd : FuncData} {t : Tok} (F : Fun K "is_integer" "is_integer" s_is_integer f fd) (B : Blt mg) (gT : mg "TOO_LONG" = some (.int TL t)) : FnOk P w K mg base CX0 1 f fd ["value"] spInt := by
  refine F.ok sc_is_integer (fun vs H Q E h => ?_) (fun cdv A outer s H vs Q E hr h => ?_)
  · obtain ⟨v, k, rfl, _⟩ := h
    rfl
  obtain ⟨v, k, rfl, hk, q⟩ := h
  refine ⟨_, (pss_one (ps_ret (pe_and (pe_callB call_isi (by rfl) B.isinstance_ (by decide +kernel) (pa_cons (pv 0) (pa_cons (pe_bltn (v := .ty "int") rfl B.int_ boot_int rfl) pa_nil))) (pe_and (pe_not (pe_callB call_isi (by rfl) B.isinstance_ (by decide +kernel) (pa_cons (pv 0) (pa_cons (pe_bltn (v := .ty "bool") rfl B.bool_ boot_bool rfl) pa_nil)))) (pe_one (pe_chain op_lt op_lt (pe_un un_neg (pe_glob (v := .int TL) rfl gT ⟨_, rfl⟩)) (pv 0) (pe_glob (v := .int TL) rfl gT ⟨_, rfl⟩))))))), ?_⟩
  refine ⟨v, rfl, isi_int hk ⟨_, rfl, ?_⟩⟩
  cases hk with
  | int i =>
    refine iteT ⟨_, rfl, isi_bool (.int i) ⟨_, rfl, _, rfl, iteT ?_⟩⟩
    refine ⟨TL, rfl, .int i, rfl, -TL, i, rfl, rfl, _, rfl, ?_⟩
    by_cases h1 : -TL < i
    · rw [decide_eq_true h1]
      refine iteT ⟨i, TL, rfl, rfl, ?_⟩
      have e : short (.int i) = decide (i < TL) := by
        show (decide (-TL < i) && decide (i < TL)) = _
        rw [decide_eq_true h1, Bool.true_and]
      rw [e] at q
      exact q
    · rw [decide_eq_false h1]
      refine iteF ?_
      have e : short (.int i) = false := by
        show (decide (-TL < i) && decide (i < TL)) = _
        rw [decide_eq_false h1, Bool.false_and]
      rw [e] at q
      exact q
  | bl b => exact iteT ⟨_, rfl, isi_bool (.bl b) ⟨_, rfl, _, rfl, iteF q⟩⟩
  | non => exact iteF q
  | str x few => exact iteF q
  | lst h => exact iteF q
  | tup h few => exact iteF q
  | dic h => exact iteF q
end
end K0

set_option Elab.async false
set_option linter.all false
set_option maxRecDepth 100000
set_option maxHeartbeats 4000000
namespace K0
open PySem PySem.Spec PyProof.Rows L2 Gd
/-! ### what is told of a value -/
def isNum : Kd → Bool
  | .int i => short (.int i) && decide (0 ≤ i)
  | _ => false
def letters : Str := "abcdefghijklmnopqrstuvwxyz"
def inLetters (c : Nat) : Bool := decide (c ∈ letters.cps.toList)
def nameOk (x : Str) : Bool := decide ((1 : Int) ≤ (x.length : Int)) && decide ((x.length : Int) ≤ 8) && x.cps.toList.all inLetters
def isNm : Kd → Bool
  | .str x => nameOk x
  | _ => false
/-- each item less than the next one -/
def ups : List Int → List Bool
  | x :: y :: r => decide (x < y) :: ups (y :: r)
  | _ => []
def asc (ns : List Int) : Bool := (ups ns).all id
theorem ups_len : ∀ ns : List Int, (ups ns).length = ns.length - 1
  | [] => rfl
  | [_] => rfl
  | x :: y :: r => by
    show (ups (y :: r)).length + 1 = r.length + 1 + 1 - 1
    rw [ups_len (y :: r)]
    show r.length + 1 - 1 + 1 = _
    omega
theorem ups_get : ∀ (ns : List Int) (i : Nat) (x y : Int), ns[i]? = some x → ns[i + 1]? = some y → (ups ns)[i]? = some (decide (x < y))
  | [], _, _, _, h, _ => by simp at h
  | [_], 0, _, _, _, h => by simp at h
  | [_], i + 1, _, _, h, _ => by simp at h
  | a :: b :: r, 0, x, y, h, h2 => by
    have e1 : a = x := Option.some.inj h
    have e2 : b = y := Option.some.inj h2
    rw [← e1, ← e2]
    rfl
  | a :: b :: r, i + 1, x, y, h, h2 => ups_get (b :: r) i x y h h2
section
variable {P : Program} {w : World} {K : PySem.W.Frag} {mg : Str → Option Value} {base : Heap}
def spNum : Sp := fun vs H Q _ => ∃ v k, vs = [v] ∧ Sees H v k ∧ Q (.bl (isNum k)) H
theorem ok_is_number {f : Addr} {fd : FuncData} (F : Fun K "is_number" "is_number" s_is_number f fd) (C : Has P w K mg base 1 "is_integer" ["value"] spInt) : FnOk P w K mg base CX0 2 f fd ["value"] spNum := by
  obtain ⟨f1, fd1, G_is_integer, g_is_integer, k_is_integer, b_is_integer⟩ := C.ex
  refine F.ok sc_is_number (fun vs H Q E h => ?_) (fun cdv A outer s H vs Q E hr h => ?_)
  · obtain ⟨v, k, rfl, _⟩ := h
    rfl
  obtain ⟨v, k, rfl, hk, q⟩ := h
  refine ⟨_, (pss_one (ps_ret (pe_and (pe_call G_is_integer (hr.mono (by decide)) (by rfl) g_is_integer k_is_integer b_is_integer .nil pass0 (pa_cons (pv 0) pa_nil)) (pe_one (pe_cmpR op_ge (pv 0) pe_int (nomark _)))))), ?_⟩
  refine ⟨v, rfl, v, k, rfl, hk, _, rfl, ?_⟩
  cases hk with
  | int i =>
    have e : isNum (.int i) = (short (.int i) && decide (0 ≤ i)) := rfl
    rw [e] at q
    cases hs : short (.int i) with
    | false =>
      rw [hs, Bool.false_and] at q
      exact iteF q
    | true =>
      rw [hs, Bool.true_and] at q
      exact iteT ⟨.int i, rfl, i, 0, rfl, rfl, q⟩
  | bl b => exact iteF q
  | non => exact iteF q
  | str x few => exact iteF q
  | lst h => exact iteF q
  | tup h few => exact iteF q
  | dic h => exact iteF q
def spName : Sp := fun vs H Q _ => ∃ v k, vs = [v] ∧ Sees H v k ∧ ∀ G, Same H G → Q (.bl (isNm k)) G
theorem ok_is_name {f : Addr} {fd : FuncData} {t1 t2 : Tok} (F : Fun K "is_name" "is_name" s_is_name f fd) (B : Blt mg) (gM : mg "MAX_LETTERS" = some (.int 8 t1)) (gL : mg "LETTERS" = some (.str letters t2)) : FnOk P w K mg base CX0 1 f fd ["value"] spName := by
  refine F.ok sc_is_name (fun vs H Q E h => ?_) (fun cdv A outer s H vs Q E hr h => ?_)
  · obtain ⟨v, k, rfl, _⟩ := h
    rfl
  obtain ⟨v, k, rfl, hk, q⟩ := h
  refine ⟨_, (pss_one (ps_ret (pe_and (pe_callB call_isi (by rfl) B.isinstance_ (by decide +kernel) (pa_cons (pv 0) (pa_cons (pe_bltn (v := .ty "str") rfl B.str_ boot_str rfl) pa_nil))) (pe_and (pe_chain op_le op_le pe_int (pe_callB call_len_str (by rfl) B.len_ (by decide +kernel) (pa_cons (pv 0) pa_nil)) (pe_glob (v := .int 8) rfl gM ⟨_, rfl⟩)) (pe_one (pe_callB (cr_all rfl) (by rfl) B.all_ (by decide +kernel) (pa_cons (pe_lc (own := [("letter", 1)]) (g := gName 1) (tt := tYes) rfl sc_is_name.nd (pi_str (pv 0)) (blkOk_by (own := [("letter", 1)]) (N := nm_is_name) (sc := defScope s_is_name) (by decide +kernel)) (fun _ _ _ _ _ => (pg_name (i := 1) sc_is_name.nd rfl (.inl rfl))) (fun _ _ _ _ _ => pts_nil) (fun _ _ _ _ _ => (pe_cmpR op_in_sign (pv 1) (pe_glob (v := .str letters) rfl gL ⟨_, rfl⟩) rfl))) pa_nil))))))), ?_⟩
  refine ⟨v, rfl, isi_str hk ⟨_, rfl, ?_⟩⟩
  cases hk with
  | str x few =>
    have e : isNm (.str x) = (decide ((1 : Int) ≤ (x.length : Int)) && decide ((x.length : Int) ≤ 8) && x.cps.toList.all inLetters) := rfl
    rw [e] at q
    refine iteT ⟨.str x, rfl, x, rfl, Nat.le_of_lt (small1000 few), 1, (x.length : Int), rfl, rfl, _, rfl, ?_⟩
    cases h1 : decide ((1 : Int) ≤ (x.length : Int)) with
    | false =>
      rw [h1, Bool.false_and, Bool.false_and] at q
      exact iteF ⟨_, rfl, iteF (q H (Same.refl H))⟩
    | true =>
      rw [h1, Bool.true_and] at q
      refine iteT ⟨_, _, rfl, rfl, _, rfl, ?_⟩
      cases h2 : decide ((x.length : Int) ≤ 8) with
      | false =>
        rw [h2, Bool.false_and] at q
        exact iteF (q H (Same.refl H))
      | true =>
        rw [h2, Bool.true_and] at q
        refine iteT ⟨.str x, rfl, x, rfl, fun D nD => ?_⟩
        refine lc_strG (Same H) (fun i acc => acc = (x.cps.toList.take i).map fun c => V.bl (inLetters c)) (Same.newG nD) rfl (fun i c G hc nx => ?_) (fun G acc sm eD ea => ?_)
        · obtain ⟨acc, sm, eD, ea⟩ := nx
          refine ⟨rfl, ?_⟩
          refine tyes ?_
          refine ⟨_, rfl, c, letters, rfl, rfl, nx_put (fun G o z => z.upG nD) sm eD ?_ ?_⟩
          · rw [ea, List.length_map, List.length_take]
            exact Nat.le_trans (Nat.min_le_right _ _) (by simpa [Str.length] using few)
          · have hc' : x.cps.toList[i]? = some c := by simpa using hc
            rw [ea, List.take_add_one, hc', List.map_append]
            rfl
        · refine ⟨D, x.cps.toList.map inLetters, rfl, .inl (.inl ?_), ?_⟩
          · rw [eD, ea, List.take_of_length_le (by simp), List.map_map]
            rfl
          · have z : (x.cps.toList.map inLetters).all id = x.cps.toList.all inLetters := by rw [List.all_map]; rfl
            rw [z]
            exact q G sm
  | bl b => exact iteF (q H (Same.refl H))
  | non => exact iteF (q H (Same.refl H))
  | int i => exact iteF (q H (Same.refl H))
  | lst h => exact iteF (q H (Same.refl H))
  | tup h few => exact iteF (q H (Same.refl H))
  | dic h => exact iteF (q H (Same.refl H))
end
end K0

set_option Elab.async false
set_option linter.all false
set_option maxRecDepth 100000
set_option maxHeartbeats 4000000
namespace K0
open PySem PySem.Spec PyProof.Rows L2 Gd
theorem cut_tail (xs : List V) : cutV xs (some 1) none = xs.drop 1 := by
  unfold cutV
  rw [show HT.sIx xs.length 0 (some 1) = min 1 xs.length from HT.sIx_nat xs.length 0 1, HT.sIx_none]
  rcases xs with _ | ⟨x, r⟩
  · rfl
  · have e : min 1 (x :: r).length = 1 := by
      rw [List.length_cons]
      omega
    rw [e]
    show List.take (r.length + 1 - 1) r = r
    rw [Nat.add_sub_cancel, List.take_length]
/-- a value as it is judged: its kind, and the kinds of its items if it is a tuple -/
inductive Jd (H : Hp) : V → Kd → List Kd → Prop where
  | flat {v : V} {k : Kd} (h : Sees H v k) (nt : k.isTup = false) : Jd H v k []
  | tup {a : Addr} {xs : List V} {ks : List Kd} (h : H a = some (.tup xs)) (few : xs.length ≤ 60) (all : Paired (Sees H) xs ks) : Jd H (.ref a) (.tup xs) ks
theorem pair_same {H G : Hp} (s : Same H G) : ∀ {xs : List V} {ks : List Kd}, Paired (Sees H) xs ks → Paired (Sees G) xs ks
  | _, _, .nil => .nil
  | _, _, .cons h t => .cons (h.same s) (pair_same s t)
theorem Jd.same {H G : Hp} {v : V} {k : Kd} {ks : List Kd} (h : Jd H v k ks) (s : Same H G) : Jd G v k ks := by
  cases h with
  | flat h nt => exact .flat (h.same s) nt
  | tup h few all => exact .tup (s _ _ h) few (pair_same s all)
theorem Jd.sees {H : Hp} {v : V} {k : Kd} {ks : List Kd} (h : Jd H v k ks) : Sees H v k := by
  cases h with
  | flat h _ => exact h
  | tup h few _ => exact .tup h few
theorem pair_len {H : Hp} : ∀ {xs : List V} {ks : List Kd}, Paired (Sees H) xs ks → xs.length = ks.length
  | _, _, .nil => rfl
  | _, _, .cons _ t => congrArg (· + 1) (pair_len t)
theorem pair_get {H : Hp} : ∀ {xs : List V} {ks : List Kd} {i : Nat} {x : V}, Paired (Sees H) xs ks → xs[i]? = some x → ∃ k, ks[i]? = some k ∧ Sees H x k
  | _, _, _, _, .nil, e => by simp at e
  | _, _, 0, _, .cons h _, e => by
    cases (Option.some.inj e)
    exact ⟨_, rfl, h⟩
  | _, _, i + 1, x, .cons _ t, e => pair_get (i := i) (x := x) t e
def Kd.val : Kd → Int
  | .int i => i
  | _ => 0
theorem pair_ints {H : Hp} : ∀ {xs : List V} {ks : List Kd}, Paired (Sees H) xs ks → ks.all isNum = true → xs = (ks.map Kd.val).map V.int
  | _, _, .nil, _ => rfl
  | _, _, .cons h t, e => by
    rw [List.all_cons, Bool.and_eq_true] at e
    have e2 := pair_ints t e.2
    rw [List.map_cons, List.map_cons, ← e2]
    cases h with
    | int i => rfl
    | _ => cases e.1
def setOk (k : Kd) (ks : List Kd) : Bool := k.isTup && ks.all isNum && asc (ks.map Kd.val)
section
variable {P : Program} {w : World} {K : PySem.W.Frag} {mg : Str → Option Value} {base : Heap}
def spAsc (K : PySem.W.Frag) : Sp := fun vs H Q _ => ∃ a ns, vs = [.ref a] ∧ SqT K H a (ns.map V.int) ∧ ns.length ≤ 1000 ∧ ∀ G, Same H G → Q (.bl (asc ns)) G
theorem ok_is_ascending {f : Addr} {fd : FuncData} (F : Fun K "is_ascending" "is_ascending" s_is_ascending f fd) (B : Blt mg) : FnOk P w K mg base CX0 1 f fd ["values"] (spAsc K) := by
  refine F.ok sc_is_ascending (fun vs H Q E h => ?_) (fun cdv A outer s H vs Q E hr h => ?_)
  · obtain ⟨a, ns, rfl, _⟩ := h
    rfl
  obtain ⟨a, ns, rfl, hS, few, q⟩ := h
  refine ⟨_, (pss_one (ps_ret (pe_callB (cr_all rfl) (by rfl) B.all_ (by decide +kernel) (pa_cons (pe_lc (own := [("one", 1), ("other", 2)]) (g := gTup K 2 (gCons (gName 1) (gCons (gName 2) gNil))) (tt := tYes) rfl sc_is_ascending.nd (RZ.pi_zipA (by rfl) B.zip_ (pa_cons (pv 0) (pa_cons (pe_slice sl_tupU (pv 0) (po_some pe_int) po_none) pa_nil))) (blkOk_by (own := [("one", 1), ("other", 2)]) (N := nm_is_ascending) (sc := defScope s_is_ascending) (by decide +kernel)) (fun _ _ _ _ _ => (pg_tup rfl (pgs_cons (pg_name (i := 1) sc_is_ascending.nd rfl (.inl rfl)) (pgs_cons (pg_name (i := 2) sc_is_ascending.nd rfl (.inl rfl)) pgs_nil)))) (fun _ _ _ _ _ => pts_nil) (fun _ _ _ _ _ => (pe_cmpR op_lt (pv 1) (pv 2) (nomark _)))) pa_nil)))), ?_⟩
  have ld : ((ns.map V.int).drop 1).length = ns.length - 1 := by rw [List.length_drop, List.length_map]
  refine ⟨.ref a, rfl, .ref a, rfl, 1, rfl, a, ns.map V.int, rfl, hS, fun b H1 s1 hb => ?_⟩
  rw [cut_tail] at hb
  refine ⟨a, b, _, _, rfl, .inr ⟨s1.tupS hS, hb, fun D nD => ?_⟩⟩
  refine lc_zipG (n := ns.length - 1) (by rw [List.length_map]; omega) (Nat.le_of_eq ld.symm) (.inr (Nat.le_of_eq ld)) (Same H1) (fun i acc => acc = ((ups ns).take i).map V.bl) (fun G z => ⟨z.tupS (s1.tupS hS), z.tupS hb⟩)
    (fun G T o _ nT z => z.upG (z.free nT)) (Same.newG nD) rfl (fun i x y T G hx hy nx hT => ?_) (fun G acc sm eD ea => ?_)
  · obtain ⟨acc, sm, eD, ea⟩ := nx
    rw [List.getElem?_map] at hx
    rw [List.getElem?_drop, List.getElem?_map, Nat.add_comm] at hy
    obtain ⟨m, hm, rfl⟩ := Option.map_eq_some_iff.mp hx
    obtain ⟨n, hn, rfl⟩ := Option.map_eq_some_iff.mp hy
    refine ⟨T, _, rfl, .inl (.inl hT), rfl, _, _, rfl, _, _, rfl, rfl, ?_⟩
    refine ⟨rfl, ?_⟩
    refine tyes ?_
    refine ⟨_, rfl, _, rfl, m, n, rfl, rfl, nx_put (fun G o z => z.upG nD) sm eD ?_ ?_⟩
    · rw [ea, List.length_map, List.length_take, ups_len]
      omega
    · rw [ea, List.take_add_one, ups_get ns i m n hm hn, List.map_append]
      rfl
  · refine ⟨D, ups ns, rfl, .inl (.inl ?_), q G (s1.trans sm)⟩
    rw [eD, ea, List.take_of_length_le (Nat.le_of_eq (ups_len ns))]
def spSet : Sp := fun vs H Q _ => ∃ v k ks, vs = [v] ∧ Jd H v k ks ∧ ∀ G, Same H G → Q (.bl (setOk k ks)) G
theorem ok_is_set {f : Addr} {fd : FuncData} (F : Fun K "is_set" "is_set" s_is_set f fd) (B : Blt mg) (C1 : Has P w K mg base 2 "is_number" ["value"] spNum) (C2 : Has P w K mg base 1 "is_ascending" ["values"] (spAsc K)) : FnOk P w K mg base CX0 3 f fd ["value"] spSet := by
  obtain ⟨f1, fd1, G_is_number, g_is_number, k_is_number, b_is_number⟩ := C1.ex
  obtain ⟨f2, fd2, G_is_ascending, g_is_ascending, k_is_ascending, b_is_ascending⟩ := C2.ex
  refine F.ok sc_is_set (fun vs H Q E h => ?_) (fun cdv A outer s H vs Q E hr h => ?_)
  · obtain ⟨v, k, ks, rfl, _⟩ := h
    rfl
  obtain ⟨v, k, ks, rfl, hk, q⟩ := h
  refine ⟨_, (pss_one (ps_ret (pe_and (pe_callB call_isi (by rfl) B.isinstance_ (by decide +kernel) (pa_cons (pv 0) (pa_cons (pe_bltn (v := .ty "tuple") rfl B.tuple_ boot_tuple rfl) pa_nil))) (pe_and (pe_callB (cr_all rfl) (by rfl) B.all_ (by decide +kernel) (pa_cons (pe_lc (own := [("part", 1)]) (g := gName 1) (tt := tYes) rfl sc_is_set.nd (pi_tup (pv 0)) (blkOk_by (own := [("part", 1)]) (N := nm_is_set) (sc := defScope s_is_set) (by decide +kernel)) (fun _ _ _ _ _ => (pg_name (i := 1) sc_is_set.nd rfl (.inl rfl))) (fun _ _ _ _ _ => pts_nil) (fun _ _ _ _ _ => (pe_call G_is_number (hr.mono (by decide)) (by rfl) g_is_number k_is_number b_is_number .nil pass0 (pa_cons (pv 1) pa_nil)))) pa_nil)) (pe_one (pe_call G_is_ascending (hr.mono (by decide)) (by rfl) g_is_ascending k_is_ascending b_is_ascending .nil pass0 (pa_cons (pv 0) pa_nil))))))), ?_⟩
  refine ⟨v, rfl, isi_tup hk.sees ⟨_, rfl, ?_⟩⟩
  have hq : setOk k ks = (k.isTup && ks.all isNum && asc (ks.map Kd.val)) := rfl
  rw [hq] at q
  cases hk with
  | flat h nt =>
    rw [nt, Bool.false_and, Bool.false_and] at q
    rw [nt]
    exact iteF (q H (Same.refl H))
  | @tup a xs _ h few all =>
    have e : Kd.isTup (.tup xs) = true := rfl
    rw [e, Bool.true_and] at q
    have len := pair_len all
    refine iteT ⟨.ref a, rfl, a, rfl, ⟨xs, .inl (.inl h)⟩, fun D nD => ?_⟩
    refine lc_tupG (xs := xs) (Same H) (fun i acc => acc = ((ks.map isNum).take i).map V.bl) (fun G z => .inl (.inl (z _ _ h))) (Same.newG nD) rfl (fun i v G hi nx hv => ?_) (fun G acc sm eD ea => ?_)
    · obtain ⟨acc, sm, eD, ea⟩ := nx
      obtain ⟨k, hk, sk⟩ := pair_get all hv
      refine ⟨rfl, ?_⟩
      refine tyes ?_
      refine ⟨_, rfl, v, k, rfl, sk.same sm, nx_put (fun G o z => z.upG nD) sm eD ?_ ?_⟩
      · rw [ea, List.length_map, List.length_take, List.length_map]
        omega
      · rw [ea, List.take_add_one, List.getElem?_map, hk, List.map_append]
        rfl
    · have ez : (ks.map isNum).all id = ks.all isNum := by
        rw [List.all_map]
        rfl
      refine ⟨D, ks.map isNum, rfl, .inl (.inl ?_), _, rfl, ?_⟩
      · rw [eD, ea, List.take_of_length_le (by rw [List.length_map]; exact Nat.le_of_eq len.symm)]
      rw [ez]
      cases hn : ks.all isNum with
      | false =>
        rw [hn, Bool.false_and] at q
        exact iteF (q G sm)
      | true =>
        rw [hn, Bool.true_and] at q
        have ex := pair_ints all hn
        refine iteT ⟨.ref a, rfl, a, ks.map Kd.val, rfl, .inl (.inl ?_), by rw [List.length_map]; omega, fun G2 s2 => q G2 (sm.trans s2)⟩
        rw [← ex]
        exact sm _ _ h
end
end K0

set_option Elab.async false
set_option linter.all false
set_option maxRecDepth 100000
set_option maxHeartbeats 4000000
namespace K0
open PySem PySem.Spec PyProof.Rows L2 Gd
theorem pw60 : (10 : Int) ^ (60 : Int).toNat = TL := by decide +kernel
theorem pc60 : CPowG 10 60 := ⟨by decide, by decide +kernel⟩
section
variable {P : Program} {w : World} {K : PySem.W.Frag} {mg : Str → Option Value} {base : Heap}
theorem ok_is_short {f : Addr} {fd : FuncData} (F : Fun K "_law_is_short" "_law_is_short" s_is_short f fd) (B : Blt mg) : FnOk P w K mg base CX0 1 f fd ["_law_value"] spInt := by
  refine F.ok sc_is_short (fun vs H Q E h => ?_) (fun cdv A outer s H vs Q E hr h => ?_)
  · obtain ⟨v, k, rfl, _⟩ := h
    rfl
  obtain ⟨v, k, rfl, hk, q⟩ := h
  refine ⟨_, (pss_one (ps_ret (pe_and (pe_callB call_isi (by rfl) B.isinstance_ (by decide +kernel) (pa_cons (pv 0) (pa_cons (pe_bltn (v := .ty "int") rfl B.int_ boot_int rfl) pa_nil))) (pe_and (pe_not (pe_callB call_isi (by rfl) B.isinstance_ (by decide +kernel) (pa_cons (pv 0) (pa_cons (pe_bltn (v := .ty "bool") rfl B.bool_ boot_bool rfl) pa_nil)))) (pe_and (pe_cmpR op_lt (pe_op op_sub pe_int (pe_op op_powG pe_int pe_int)) (pv 0) (nomark _)) (pe_one (pe_cmpR op_lt (pv 0) (pe_op op_powG pe_int pe_int) (nomark _)))))))), ?_⟩
  refine ⟨v, rfl, isi_int hk ⟨_, rfl, ?_⟩⟩
  cases hk with
  | int i =>
    refine iteT ⟨_, rfl, isi_bool (.int i) ⟨_, rfl, _, rfl, iteT ?_⟩⟩
    refine ⟨10, 60, rfl, rfl, pc60, 0, _, rfl, rfl, .int i, rfl, _, i, rfl, rfl, _, rfl, ?_⟩
    rw [pw60, Int.zero_sub]
    by_cases h1 : -TL < i
    · rw [decide_eq_true h1]
      refine iteT ⟨.int i, rfl, 10, 60, rfl, rfl, pc60, i, _, rfl, rfl, ?_⟩
      rw [pw60]
      have e : short (.int i) = decide (i < TL) := by
        show (decide (-TL < i) && decide (i < TL)) = _
        rw [decide_eq_true h1, Bool.true_and]
      rw [e] at q
      exact q
    · rw [decide_eq_false h1]
      refine iteF ?_
      have e : short (.int i) = false := by
        show (decide (-TL < i) && decide (i < TL)) = _
        rw [decide_eq_false h1, Bool.false_and]
      rw [e] at q
      exact q
  | bl b => exact iteT ⟨_, rfl, isi_bool (.bl b) ⟨_, rfl, _, rfl, iteF q⟩⟩
  | non => exact iteF q
  | str x few => exact iteF q
  | lst h => exact iteF q
  | tup h few => exact iteF q
  | dic h => exact iteF q
theorem filt_empty {α β : Type} (p : α → Bool) (g : α → β) : ∀ l : List α, ((l.filter fun c => !p c).map g).isEmpty = l.all p
  | [] => rfl
  | x :: l => by
    have ih := filt_empty p g l
    cases hp : p x with
    | true =>
      rw [List.filter_cons_of_neg (by rw [hp]; decide), List.all_cons, hp, Bool.true_and]
      exact ih
    | false =>
      rw [List.filter_cons_of_pos (by rw [hp]; decide), List.all_cons, hp, Bool.false_and]
      rfl
abbrev rNis : R2 := fun x y H Q => ∃ (c : Nat) (z : Str), x = .str ⟨#[c]⟩ ∧ y = .str z ∧ Q (.bl (!decide (c ∈ z.cps.toList))) H
theorem ok_lname {f : Addr} {fd : FuncData} (F : Fun K "_law_is_name" "_law_is_name" s_lname f fd) (B : Blt mg) : FnOk P w K mg base CX0 1 f fd ["_law_value"] spName := by
  refine F.ok sc_lname (fun vs H Q E h => ?_) (fun cdv A outer s H vs Q E hr h => ?_)
  · obtain ⟨v, k, rfl, _⟩ := h
    rfl
  obtain ⟨v, k, rfl, hk, q⟩ := h
  refine ⟨_, (pss_cons (ps_if (PW.pt (pw_or (pt_not (pt_val (pe_callB call_isi (by rfl) B.isinstance_ (by decide +kernel) (pa_cons (pv 0) (pa_cons (pe_bltn (v := .ty "str") rfl B.str_ boot_str rfl) pa_nil))))) (pw_or (pt_cmpR op_eq (pe_callB call_len_str (by rfl) B.len_ (by decide +kernel) (pa_cons (pv 0) pa_nil)) pe_int (nomark _)) (pw_or1 (pt_cmpR op_gt (pe_callB call_len_str (by rfl) B.len_ (by decide +kernel) (pa_cons (pv 0) pa_nil)) pe_int (nomark _)))))) (pss_one (ps_ret pe_bl)) pss_nil)
  (pss_one (ps_ret (pe_cmpR (op_eqNil hr.units0) (pe_lc (own := [("_law_sign", 1)]) (g := gName 1) (tt := tTest (tOp rNis (tVar 1) (tC (.str letters)))) rfl sc_lname.nd (pi_str (pv 0)) (blkOk_by (own := [("_law_sign", 1)]) (N := nm_lname) (sc := defScope s_lname) (by decide +kernel)) (fun _ _ _ _ _ => (pg_name (i := 1) sc_lname.nd rfl (.inl rfl))) (fun _ _ _ _ _ => (pts_one (pt_cmpR op_notIn_sign (pv 1) pe_str rfl))) (fun _ _ _ _ _ => (pv 1))) (pe_lst pa_nil) (nomark _))))), ?_⟩
  refine ⟨v, rfl, isi_str hk ⟨_, rfl, ?_⟩⟩
  cases hk with
  | str x few =>
    have e : isNm (.str x) = (decide ((1 : Int) ≤ (x.length : Int)) && decide ((x.length : Int) ≤ 8) && x.cps.toList.all inLetters) := rfl
    rw [e] at q
    have fx : x.length ≤ sizeLine := Nat.le_of_lt (small1000 few)
    refine iteF ⟨.str x, rfl, x, rfl, fx, rfl, _, rfl, ite2 (fun z => ?_) (fun z => ?_)⟩
    · have z0 : (x.length : Int) = 0 := V.int.inj (of_decide_eq_true z)
      rw [decide_eq_false (show ¬ (1 : Int) ≤ (x.length : Int) by omega), Bool.false_and, Bool.false_and] at q
      exact iteT (q H (Same.refl H))
    · have z0 : ¬ (x.length : Int) = 0 := fun y => z (decide_eq_true (congrArg V.int y))
      rw [decide_eq_true (show (1 : Int) ≤ (x.length : Int) by omega), Bool.true_and] at q
      refine ⟨.str x, rfl, x, rfl, fx, _, _, rfl, rfl, _, rfl, ite2 (fun y => ?_) (fun y => ?_)⟩
      · have y0 : (8 : Int) < (x.length : Int) := of_decide_eq_true y
        rw [decide_eq_false (show ¬ (x.length : Int) ≤ 8 by omega), Bool.false_and] at q
        exact q H (Same.refl H)
      · have y0 : ¬ (8 : Int) < (x.length : Int) := fun u => y (decide_eq_true u)
        rw [decide_eq_true (show (x.length : Int) ≤ 8 by omega), Bool.true_and] at q
        refine ⟨.str x, rfl, x, rfl, fun D nD => ?_⟩
        refine lc_strG (Same H) (fun i acc => acc = (((x.cps.toList.take i).filter fun c => !inLetters c).map fun c => V.str ⟨#[c]⟩)) (Same.newG nD) rfl (fun i c G hc nx => ?_) (fun G acc sm eD ea => ?_)
        · obtain ⟨acc, sm, eD, ea⟩ := nx
          have hc' : x.cps.toList[i]? = some c := by simpa using hc
          refine ⟨rfl, _, rfl, c, letters, rfl, rfl, _, rfl, ?_⟩
          show if (!inLetters c) = true then _ else _
          refine ite2 (fun z => ?_) (fun z => ?_)
          · refine ⟨_, rfl, nx_put (fun G o z => z.upG nD) sm eD ?_ ?_⟩
            · rw [ea, List.length_map]
              refine Nat.le_trans (List.length_filter_le _ _) ?_
              rw [List.length_take]
              exact Nat.le_trans (Nat.min_le_right _ _) (by simpa [Str.length] using few)
            · rw [ea, List.take_add_one, hc', List.filter_append, List.map_append]
              show _ = _ ++ List.map _ (List.filter _ [c])
              rw [List.filter_cons_of_pos (by simpa using z)]
              rfl
          · refine ⟨acc, sm, eD, ?_⟩
            show acc = List.map _ (List.filter _ (List.take (i + 1) x.cps.toList))
            rw [ea, List.take_add_one, hc', List.filter_append, List.map_append]
            show _ = _ ++ List.map _ (List.filter _ [c])
            rw [List.filter_cons_of_neg (by simpa using z)]
            simp
        · refine ⟨Nat.zero_le _, fun p np => ⟨D, p, acc, rfl, rfl, .inl (.inl ?_), .inl (.inl upd_same), ?_⟩⟩
          · rw [upd_ne (ne_of_none eD np)]
            exact eD
          · have z2 : id acc.isEmpty = x.cps.toList.all inLetters := by
              rw [ea, List.take_of_length_le (by simp)]
              exact filt_empty inLetters _ _
            rw [z2]
            exact q _ (sm.upG (sm.free np))
  | bl b => exact iteT (q H (Same.refl H))
  | non => exact iteT (q H (Same.refl H))
  | int i => exact iteT (q H (Same.refl H))
  | lst h => exact iteT (q H (Same.refl H))
  | tup h few => exact iteT (q H (Same.refl H))
  | dic h => exact iteT (q H (Same.refl H))
end
end K0

set_option Elab.async false
set_option linter.all false
set_option maxRecDepth 100000
set_option maxHeartbeats 4000000
namespace K0
open PySem PySem.Spec PyProof.Rows L2 Gd
/-! ### ascending lists -/
theorem asc_cons (x y : Int) (r : List Int) : asc (x :: y :: r) = (decide (x < y) && asc (y :: r)) := rfl
theorem asc_iff : ∀ ns : List Int, asc ns = true ↔ ns.Pairwise (· < ·)
  | [] => by simp [asc, ups]
  | [x] => by simp [asc, ups]
  | x :: y :: r => by
    rw [asc_cons, Bool.and_eq_true, decide_eq_true_eq, asc_iff (y :: r), List.pairwise_cons (a := x)]
    constructor
    · rintro ⟨h, p⟩
      refine ⟨fun z hz => ?_, p⟩
      rcases List.mem_cons.mp hz with rfl | hz
      · exact h
      · exact Int.lt_trans h ((List.pairwise_cons.mp p).1 z hz)
    · rintro ⟨h, p⟩
      exact ⟨h y List.mem_cons_self, p⟩
theorem same_sorted : ∀ {l m : List Int}, l.Pairwise (· < ·) → m.Pairwise (· < ·) → (∀ k, k ∈ l ↔ k ∈ m) → l = m
  | [], [], _, _, _ => rfl
  | [], y :: m, _, _, h => by simpa using (h y).2 List.mem_cons_self
  | x :: l, [], _, _, h => by simpa using (h x).1 List.mem_cons_self
  | x :: l, y :: m, p, q, h => by
    obtain ⟨p1, p2⟩ := List.pairwise_cons.mp p
    obtain ⟨q1, q2⟩ := List.pairwise_cons.mp q
    have e : x = y := by
      rcases List.mem_cons.mp ((h x).1 List.mem_cons_self) with e | hx
      · exact e
      · rcases List.mem_cons.mp ((h y).2 List.mem_cons_self) with e | hy
        · exact e.symm
        · have a := q1 x hx
          have b := p1 y hy
          omega
    subst e
    refine congrArg (x :: ·) (same_sorted p2 q2 fun k => ⟨fun hk => ?_, fun hk => ?_⟩)
    · rcases List.mem_cons.mp ((h k).1 (List.mem_cons_of_mem _ hk)) with e | z
      · have := p1 k hk
        omega
      · exact z
    · rcases List.mem_cons.mp ((h k).2 (List.mem_cons_of_mem _ hk)) with e | z
      · have := q1 k hk
        omega
      · exact z
theorem asc_eq {ns ms : List Int} (p : ms.Pairwise (· < ·)) (h : ∀ k, k ∈ ms ↔ k ∈ ns) : asc ns = decide (ns = ms) := by
  rw [Bool.eq_iff_iff, asc_iff, decide_eq_true_eq]
  constructor
  · intro q
    exact same_sorted q p fun k => (h k).symm
  · intro e
    rw [e]
    exact p
/-! ### lists of ints as data -/
theorem dp_ints {K : PySem.W.Frag} {H : Hp} : ∀ ns : List Int, DpAll K H (ns.map V.int) (ns.map PyData.int)
  | [] => .nil
  | n :: ns => .cons (.int n) (dp_ints ns)
theorem lay_ints : ∀ ns : List Int, PyData.canLayAll0 (ns.map PyData.int) = true
  | [] => by simp [PyData.canLayAll0]
  | n :: ns => by
    rw [List.map_cons, PyData.canLayAll0, lay_ints ns]
    simp [PyData.canLay0]
theorem deep_ints : ∀ ns : List Int, PyData.depthAll (ns.map PyData.int) = 0
  | [] => by simp [PyData.depthAll]
  | n :: ns => by
    rw [List.map_cons, PyData.depthAll, deep_ints ns]
    simp [PyData.depth]
theorem shaped_ints (ns : List Int) : SeqAt.shaped (.list (ns.map PyData.int)) = true := by
  unfold SeqAt.shaped
  rw [PyData.canLay0, lay_ints, PyData.depth, deep_ints]
  decide
theorem eqv_ints : ∀ ns ms : List Int, PyData.eqvAll (ns.map PyData.int) (ms.map PyData.int) = decide (ns = ms)
  | [], [] => by simp [PyData.eqvAll]
  | [], m :: ms => by simp [PyData.eqvAll]
  | n :: ns, [] => by simp [PyData.eqvAll]
  | n :: ns, m :: ms => by
    rw [List.map_cons, List.map_cons, PyData.eqvAll, eqv_ints ns ms, PyData.eqv, Bool.eq_iff_iff]
    simp
theorem eqv_lists (ns ms : List Int) : PyData.eqv (.list (ns.map PyData.int)) (.list (ms.map PyData.int)) = decide (ns = ms) := by
  rw [PyData.eqv]
  exact eqv_ints ns ms
section
variable {P : Program} {w : World} {K : PySem.W.Frag} {mg : Str → Option Value} {base : Heap}
theorem ok_number_set {f : Addr} {fd : FuncData} (F : Fun K "_law_is_number_set" "_law_is_number_set" s_is_number_set f fd) (B : Blt mg) (C : Has P w K mg base 1 "_law_is_short" ["_law_value"] spInt) : FnOk P w K mg base CX0 2 f fd ["_law_value"] spSet := by
  obtain ⟨f1, fd1, G_is_short, g_is_short, k_is_short, b_is_short⟩ := C.ex
  refine F.ok sc_is_number_set (fun vs H Q E h => ?_) (fun cdv A outer s H vs Q E hr h => ?_)
  · obtain ⟨v, k, ks, rfl, _⟩ := h
    rfl
  obtain ⟨v, k, ks, rfl, hk, q⟩ := h
  refine ⟨_, (pss_cons (ps_if (PW.pt (pw_or (pt_not (pt_val (pe_callB call_isi (by rfl) B.isinstance_ (by decide +kernel) (pa_cons (pv 0) (pa_cons (pe_bltn (v := .ty "tuple") rfl B.tuple_ boot_tuple rfl) pa_nil))))) (pw_or1 (pt_cmpR (op_neNil hr.units0) (pe_lc (own := [("_law_one", 1)]) (g := gName 1) (tt := tOr (tNot (tB (tCall spInt [] E0 (tCons (tVar 1) tNil)))) (tTest (tOp (rI0 fun i j => .bl (decide (i < j))) (tVar 1) (tC (.int 0))))) rfl sc_is_number_set.nd (pi_tup (pv 0)) (blkOk_by (own := [("_law_one", 1)]) (N := nm_is_number_set) (sc := defScope s_is_number_set) (by decide +kernel)) (fun _ _ _ _ _ => (pg_name (i := 1) sc_is_number_set.nd rfl (.inl rfl))) (fun _ _ _ _ _ => (pts_one (PW.pt (pw_or (pt_not (pt_val (pe_call G_is_short (hr.mono (by decide)) (by rfl) g_is_short k_is_short b_is_short .nil pass0 (pa_cons (pv 1) pa_nil)))) (pw_or1 (pt_cmpR op_lt (pv 1) pe_int (nomark _))))))) (fun _ _ _ _ _ => (pv 1))) (pe_lst pa_nil) (nomark _))))) (pss_one (ps_ret pe_bl)) pss_nil)
  (pss_one (ps_ret (pe_cmpR (op_eqD hr.units) (pe_callTy call_list_of (by rfl) B.list_ (by decide +kernel) (pa_cons (pv 0) pa_nil)) (pe_callB (cr_sortedSet rfl) (by rfl) B.sorted_ (by decide +kernel) (pa_cons (pe_callTy (call_setI rfl) (by rfl) B.set_ (by decide +kernel) (pa_cons (pv 0) pa_nil)) pa_nil)) (nomark _))))), ?_⟩
  refine ⟨v, rfl, isi_tup hk.sees ⟨_, rfl, ?_⟩⟩
  have hq : setOk k ks = (k.isTup && ks.all isNum && asc (ks.map Kd.val)) := rfl
  rw [hq] at q
  cases hk with
  | flat h nt =>
    rw [nt, Bool.false_and, Bool.false_and] at q
    rw [nt]
    exact iteT (q H (Same.refl H))
  | @tup a xs _ h few all =>
    have e : Kd.isTup (.tup xs) = true := rfl
    rw [e, Bool.true_and] at q
    have len := pair_len all
    refine iteF ⟨.ref a, rfl, a, rfl, ⟨xs, .inl (.inl h)⟩, fun D nD => ?_⟩
    refine lc_tupG (xs := xs) (Same H) (fun i acc => acc.isEmpty = (ks.take i).all isNum ∧ acc.length ≤ i) (fun G z => .inl (.inl (z _ _ h))) (Same.newG nD) ⟨rfl, Nat.le_refl 0⟩ (fun i v G hi nx hv => ?_) (fun G acc sm eD ea => ?_)
    · obtain ⟨acc, sm, eD, ea, el⟩ := nx
      obtain ⟨k, hk, sk⟩ := pair_get all hv
      have tk : (ks.take (i + 1)).all isNum = ((ks.take i).all isNum && isNum k) := by
        rw [List.take_add_one, hk, List.all_append]
        show (_ && [k].all isNum) = _
        simp
      have put : isNum k = false → ∀ R : VK, (∀ y G2, (∃ acc, G2 D = some (.lst acc) ∧ acc.length < sizeLine ∧ Nx (Same H) D (fun i acc => acc.isEmpty = (ks.take i).all isNum ∧ acc.length ≤ i) (i + 1) (upd G2 D (.lst (acc ++ [y])))) → R y G2) → R v G := by
        intro hn R hR
        refine hR v G (nx_put (fun G o z => z.upG nD) sm eD (by omega) ⟨?_, ?_⟩)
        · rw [tk, hn, Bool.and_false]
          simp
        · rw [List.length_append]
          simp
          exact el
      have skip : isNum k = true → Nx (Same H) D (fun i acc => acc.isEmpty = (ks.take i).all isNum ∧ acc.length ≤ i) (i + 1) G := by
        intro hn
        exact ⟨acc, sm, eD, by rw [tk, hn, Bool.and_true]; exact ea, by omega⟩
      refine ⟨rfl, _, rfl, v, k, rfl, sk.same sm, _, rfl, ?_⟩
      cases sk with
      | int i =>
        have en : isNum (.int i) = (short (.int i) && decide (0 ≤ i)) := rfl
        cases hs : short (.int i) with
        | false =>
          rw [hs, Bool.false_and] at en
          exact iteT ⟨_, rfl, put en _ fun y G2 z => z⟩
        | true =>
          rw [hs, Bool.true_and] at en
          refine iteF ⟨_, rfl, _, _, rfl, rfl, _, rfl, ite2 (fun z => ?_) (fun z => ?_)⟩
          · have z0 : i < 0 := of_decide_eq_true z
            rw [decide_eq_false (show ¬ 0 ≤ i by omega)] at en
            exact ⟨_, rfl, put en _ fun y G2 z => z⟩
          · have z0 : ¬ i < 0 := fun u => z (decide_eq_true u)
            rw [decide_eq_true (show 0 ≤ i by omega)] at en
            exact skip en
      | bl b => exact iteT ⟨_, rfl, put rfl _ fun y G2 z => z⟩
      | non => exact iteT ⟨_, rfl, put rfl _ fun y G2 z => z⟩
      | str x few => exact iteT ⟨_, rfl, put rfl _ fun y G2 z => z⟩
      | lst h => exact iteT ⟨_, rfl, put rfl _ fun y G2 z => z⟩
      | tup h few => exact iteT ⟨_, rfl, put rfl _ fun y G2 z => z⟩
      | dic h => exact iteT ⟨_, rfl, put rfl _ fun y G2 z => z⟩
    · obtain ⟨ea, el⟩ := ea
      rw [List.take_of_length_le (Nat.le_of_eq len.symm)] at ea
      refine ⟨Nat.zero_le _, fun p np => ⟨D, p, acc, rfl, rfl, .inl (.inl ?_), .inl (.inl upd_same), _, rfl, ?_⟩⟩
      · rw [upd_ne (ne_of_none eD np)]
        exact eD
      rw [ea]
      have s1 : Same H (upd G p (.lst [])) := sm.upG (sm.free np)
      cases hn : ks.all isNum with
      | false =>
        rw [hn, Bool.false_and] at q
        exact iteT (q _ s1)
      | true =>
        rw [hn, Bool.true_and] at q
        have ex := pair_ints all hn
        have hS : ∀ G2, Same H G2 → SqT K G2 a ((ks.map Kd.val).map V.int) := fun G2 z => by
          rw [← ex]
          exact .inl (.inl (z _ _ h))
        have few2 : (ks.map Kd.val).length ≤ 60 := by rw [List.length_map]; omega
        refine iteF ⟨.ref a, rfl, a, _, rfl, .inr (hS _ s1), fun l nl => ?_⟩
        have s2 := s1.upG (o := .lst ((ks.map Kd.val).map V.int)) (s1.free nl)
        refine ⟨.ref a, rfl, a, _, rfl, .inr (hS _ s2), by omega, fun p2 n hn2 np2 => ?_⟩
        refine ⟨p2, _, n, rfl, upd_same, by omega, fun ms p3 hp hm hl np3 => ?_⟩
        have s3 := s2.upG (o := SetO w p2 (fun j => decide (j ∈ ks.map Kd.val)) n) (s2.free np2)
        have s4 := s3.upG (o := .lst (ms.map V.int)) (s3.free np3)
        refine ⟨.list ((ks.map Kd.val).map PyData.int), .list (ms.map PyData.int), .lst (.inl (.inl ?_)) (dp_ints _), .lst (.inl (.inl upd_same)) (dp_ints _), shaped_ints _, shaped_ints _, ?_⟩
        · have n2 : l ≠ p2 := ne_of_none upd_same np2
          have e2 : (upd (upd (upd G p (.lst [])) l (.lst ((ks.map Kd.val).map V.int))) p2 (SetO w p2 (fun j => decide (j ∈ ks.map Kd.val)) n)) l = some (.lst ((ks.map Kd.val).map V.int)) := by
            rw [upd_ne n2]
            exact upd_same
          rw [upd_ne (ne_of_none e2 np3)]
          exact e2
        · rw [eqv_lists, ← asc_eq hp fun k => by rw [hm k, decide_eq_true_eq]]
          exact q _ s4
end
end K0

set_option Elab.async false
set_option linter.all false
set_option maxRecDepth 100000
set_option maxHeartbeats 4000000
namespace K0
open PySem PySem.Spec PyProof.Rows L2 Gd
/-! ### the law's store of chance -/
def Sack (H : Hp) (k : Addr) : Prop := ∃ a b c : Int, H k = some (.lst [.int a, .int b, .int c]) ∧ 0 ≤ a ∧ a.natAbs < 2 ^ 3000
/-- all but the store is as it was -/
structure But (k : Addr) (H G : Hp) : Prop where
  stay : ∀ b x, b ≠ k → H b = some x → G b = some x
  sack : Sack G k
theorem But.trans {k : Addr} {H G F : Hp} (a : But k H G) (b : But k G F) : But k H F := ⟨fun c x n e => b.stay c x n (a.stay c x n e), b.sack⟩
theorem But.same {k : Addr} {H G : Hp} (h : Sack H k) (s : Same H G) : But k H G := by
  obtain ⟨a, b, c, e, r⟩ := h
  exact ⟨fun d x _ z => s d x z, a, b, c, s _ _ e, r⟩
theorem But.up {k p : Addr} {H G : Hp} {o : HO} (a : But k H G) (n : G p = none) : But k H (upd G p o) := a.trans (But.same a.sack (Same.newG n))
theorem But.free {k p : Addr} {H G : Hp} (a : But k H G) (h : Sack H k) (n : G p = none) : H p = none := by
  cases q : H p with
  | none => rfl
  | some x =>
    by_cases e : p = k
    · obtain ⟨_, _, _, z, _⟩ := a.sack
      rw [← e, n] at z
      cases z
    · rw [a.stay p x e q] at n
      cases n
theorem fm_pos {x m : Int} (h : 0 < m) : 0 ≤ x.fmod m ∧ x.fmod m < m := by
  rw [Int.fmod_eq_emod_of_nonneg x (Int.le_of_lt h)]
  exact ⟨Int.emod_nonneg x (by omega), Int.emod_lt_of_pos x h⟩
section
variable {P : Program} {w : World} {K : PySem.W.Frag} {mg : Str → Option Value} {base : Heap}
def spGrab : Sp := fun vs H Q _ => ∃ (k : Addr) (m : Int), vs = [.ref k, .int m] ∧ Sack H k ∧ 0 < m ∧ m < 2 ^ 64 ∧ ∀ G n, But k H G → 0 ≤ n → n < m → Q (.int n) G
theorem ok_grab {f : Addr} {fd : FuncData} (F : Fun K "_law_grab" "_law_grab" s_grab f fd) (B : Blt mg) : FnOk P w K mg base CX0 1 f fd ["_law_sack_here", "_law_total"] spGrab := by
  refine F.ok sc_grab (fun vs H Q E h => ?_) (fun cdv A outer s H vs Q E hr h => ?_)
  · obtain ⟨k, m, rfl, _⟩ := h
    rfl
  obtain ⟨k, m, rfl, hk, m0, m1, q⟩ := h
  refine ⟨_, (pss_cons (ps_if (pt_cmpR op_gt (pe_ix ix_list (pv 0) pe_int (fun _ _ => rfl)) pe_int (nomark _)) (pss_cons (ps_set (i := 2) sc_grab.nd rfl (.inl rfl) (pe_op op_modN (pe_callTy call_int1 (by rfl) B.int_ (by decide +kernel) (pa_cons (pe_ix ix_list (pv 0) pe_int (fun _ _ => rfl)) pa_nil)) (pv 1)))
  (pss_cons (ps_asg (pe_op op_fdivW (pe_ix ix_list (pv 0) pe_int (fun _ _ => rfl)) (pv 1)) (pg_sub (pv 0) pe_int set_list))
  (pss_one (ps_ret (pv 2))))) pss_nil)
  (pss_cons (ps_asg (pe_op op_add (pe_ix ix_list (pv 0) pe_int (fun _ _ => rfl)) pe_int) (pg_sub (pv 0) pe_int set_list))
  (pss_cons (ps_set (i := 3) sc_grab.nd rfl (.inl rfl) (pe_op op_modN (pe_callTy call_int1 (by rfl) B.int_ (by decide +kernel) (pa_cons (pe_op op_add (pe_ix ix_list (pv 0) pe_int (fun _ _ => rfl)) (pe_op op_mul pe_int (pe_ix ix_list (pv 0) pe_int (fun _ _ => rfl)))) pa_nil)) pe_int))
  (pss_cons (ps_set (i := 4) sc_grab.nd rfl (.inl rfl) (pe_op op_add (pe_op op_mul (pe_op op_modN (pe_callTy call_int1 (by rfl) B.int_ (by decide +kernel) (pa_cons (pe_op op_mul (pv 3) (pv 3)) pa_nil)) pe_int) (pv 3)) (pe_op op_mul pe_int (pe_ix ix_list (pv 0) pe_int (fun _ _ => rfl)))))
  (pss_one (ps_ret (pe_op op_modN (pe_callTy call_int1 (by rfl) B.int_ (by decide +kernel) (pa_cons (pe_op op_fdivW (pe_op op_modN (pe_callTy call_int1 (by rfl) B.int_ (by decide +kernel) (pa_cons (pv 4) pa_nil)) pe_int) pe_int) pa_nil)) (pv 1)))))))), ?_⟩
  obtain ⟨a, b, c, hH, a0, a1⟩ := hk
  have hS : SqL K H k [.int a, .int b, .int c] := .inl (.inl hH)
  have mne : m ≠ 0 := by omega
  have mabs : m.natAbs < 2 ^ 64 := by omega
  refine ⟨.ref k, rfl, k, _, 0, .int a, rfl, rfl, hS, atI_nat (j := 0) rfl, a, 0, rfl, rfl, _, rfl, ite2 (fun z => ?_) (fun _ => ?_)⟩
  · refine ⟨.ref k, rfl, k, _, 0, .int a, rfl, rfl, hS, atI_nat (j := 0) rfl, .inl ⟨a, rfl, .int m, rfl, a, m, rfl, rfl, mne, ?_⟩⟩
    refine ⟨.ref k, rfl, k, _, 0, .int a, rfl, rfl, hS, atI_nat (j := 0) rfl, .int m, rfl, a, m, rfl, rfl, wide_div m0 mabs (by decide) (by decide), ?_⟩
    refine ⟨.ref k, rfl, k, _, 0, 0, rfl, rfl, hH, rfl, .int (a.fmod m), rfl, ?_⟩
    refine q _ _ ⟨fun d x n e => by rw [upd_ne n]; exact e, a / m, b, c, upd_same, ?_, ?_⟩ (fm_pos m0).1 (fm_pos m0).2
    · exact Int.ediv_nonneg a0 (Int.le_of_lt m0)
    · have h1 : a / m ≤ a := Int.ediv_le_self m a0
      have h2 : 0 ≤ a / m := Int.ediv_nonneg a0 (Int.le_of_lt m0)
      omega
  · refine ⟨.ref k, rfl, k, _, 2, .int c, rfl, rfl, hS, atI_nat (j := 2) rfl, c, 1, rfl, rfl, .ref k, rfl, k, _, 2, 2, rfl, rfl, hH, rfl, ?_⟩
    have hH2 : (upd H k (.lst [.int a, .int b, .int (c + 1)])) k = some (.lst [.int a, .int b, .int (c + 1)]) := upd_same
    have hS2 : SqL K (upd H k (.lst [.int a, .int b, .int (c + 1)])) k [.int a, .int b, .int (c + 1)] := .inl (.inl hH2)
    refine ⟨.ref k, rfl, k, _, 1, .int b, rfl, rfl, hS2, atI_nat (j := 1) rfl, .ref k, rfl, k, _, 2, .int (c + 1), rfl, rfl, hS2, atI_nat (j := 2) rfl, 1000427, c + 1, rfl, rfl, .inl ⟨by decide, by decide⟩, b, _, rfl, rfl, .inl ⟨_, rfl, _, _, rfl, rfl, (show (2305843009213693951 : Int) ≠ 0 by decide), ?_⟩⟩
    have one := fm_pos (x := b + 1000427 * (c + 1)) (m := 2305843009213693951) (by decide)
    have lo : -(2 ^ 64) < (b + 1000427 * (c + 1)).fmod 2305843009213693951 := by omega
    have hi : (b + 1000427 * (c + 1)).fmod 2305843009213693951 < 2 ^ 64 := by omega
    refine ⟨_, rfl, _, rfl, _, _, rfl, rfl, .inl ⟨lo, hi⟩, .inl ⟨_, rfl, _, _, rfl, rfl, (show (2305843009213693921 : Int) ≠ 0 by decide), _, rfl, _, _, rfl, rfl, .inr ⟨lo, hi⟩, .ref k, rfl, k, _, 2, .int (c + 1), rfl, rfl, hS2, atI_nat (j := 2) rfl, 9103, c + 1, rfl, rfl, .inl ⟨by decide, by decide⟩, _, _, rfl, rfl, ?_⟩⟩
    refine ⟨_, rfl, .inl ⟨_, rfl, _, _, rfl, rfl, (show (2305843009213693907 : Int) ≠ 0 by decide), _, _, rfl, rfl, wide_div (b := 15) (by decide) (by decide) (by decide) (by decide), .inl ⟨_, rfl, .int m, rfl, _, m, rfl, rfl, mne, ?_⟩⟩⟩
    exact q _ _ ⟨fun d x n e => by rw [upd_ne n]; exact e, a, b, c + 1, upd_same, a0, a1⟩ (fm_pos m0).1 (fm_pos m0).2
def spOne : Sp := fun vs H Q _ => ∃ (k l : Addr) (xs : List V), vs = [.ref k, .ref l] ∧ Sack H k ∧ l ≠ k ∧ H l = some (.lst xs) ∧ xs ≠ [] ∧ xs.length ≤ 1000 ∧ ∀ G x, But k H G → x ∈ xs → Q x G
theorem ok_one_of {f : Addr} {fd : FuncData} (F : Fun K "_law_one_of" "_law_one_of" s_one_of f fd) (B : Blt mg) (C : Has P w K mg base 1 "_law_grab" ["_law_sack_here", "_law_total"] spGrab) : FnOk P w K mg base CX0 2 f fd ["_law_sack_here", "_law_items"] spOne := by
  obtain ⟨f1, fd1, G_grab, g_grab, k_grab, b_grab⟩ := C.ex
  refine F.ok sc_one_of (fun vs H Q E h => ?_) (fun cdv A outer s H vs Q E hr h => ?_)
  · obtain ⟨k, l, xs, rfl, _⟩ := h
    rfl
  obtain ⟨k, l, xs, rfl, hk, ne, hl, nn, few, q⟩ := h
  refine ⟨_, (pss_one (ps_ret (pe_ix ix_list (pv 1) (pe_call G_grab (hr.mono (by decide)) (by rfl) g_grab k_grab b_grab .nil pass0 (pa_cons (pv 0) (pa_cons (pe_callB call_len_seq (by rfl) B.len_ (by decide +kernel) (pa_cons (pv 1) pa_nil)) pa_nil))) (fun _ _ => rfl)))), ?_⟩
  have hp : 0 < xs.length := by
    rcases xs with _ | ⟨x, r⟩
    · exact absurd rfl nn
    · simp
  refine ⟨.ref l, rfl, .ref k, rfl, .ref l, rfl, l, xs, rfl, .inl (.inl (.inl hl)), k, _, rfl, hk, by omega, by omega, fun G n bt n0 n1 => ?_⟩
  obtain ⟨j, rfl⟩ := Int.eq_ofNat_of_zero_le n0
  have hj : j < xs.length := by omega
  exact ⟨l, xs, _, xs[j], rfl, rfl, .inl (.inl (bt.stay _ _ ne hl)), atI_nat (List.getElem?_eq_getElem hj), q G _ bt (List.getElem_mem hj)⟩
def spLetter : Sp := fun vs H Q _ => ∃ (k : Addr), vs = [.ref k] ∧ Sack H k ∧ ∀ G c, But k H G → Q (.str ⟨#[c]⟩) G
theorem ok_letter {f : Addr} {fd : FuncData} (F : Fun K "_law_letter" "_law_letter" s_letter f fd) (B : Blt mg) (C : Has P w K mg base 1 "_law_grab" ["_law_sack_here", "_law_total"] spGrab) : FnOk P w K mg base CX0 2 f fd ["_law_sack_here"] spLetter := by
  obtain ⟨f1, fd1, G_grab, g_grab, k_grab, b_grab⟩ := C.ex
  refine F.ok sc_letter (fun vs H Q E h => ?_) (fun cdv A outer s H vs Q E hr h => ?_)
  · obtain ⟨k, rfl, _⟩ := h
    rfl
  obtain ⟨k, rfl, hk, q⟩ := h
  refine ⟨_, (pss_one (ps_ret (pe_ix ix_str pe_str (pe_call G_grab (hr.mono (by decide)) (by rfl) g_grab k_grab b_grab .nil pass0 (pa_cons (pv 0) (pa_cons pe_int pa_nil))) (fun _ _ => rfl)))), ?_⟩
  refine ⟨.ref k, rfl, k, 26, rfl, hk, by decide, by decide, fun G n bt n0 n1 => ?_⟩
  obtain ⟨j, rfl⟩ := Int.eq_ofNat_of_zero_le n0
  have hl : letters.cps.toList.length = 26 := by decide +kernel
  have hj : j < letters.cps.toList.length := by rw [hl]; omega
  exact ⟨letters, _, letters.cps.toList[j], rfl, rfl, by decide +kernel, atI_nat (List.getElem?_eq_getElem hj), q G _ bt⟩
end
end K0

set_option Elab.async false
set_option linter.all false
set_option maxRecDepth 100000
set_option maxHeartbeats 4000000
namespace K0
open PySem PySem.Spec PyProof.Rows L2 Gd
theorem pc47 : CPowG 10 47 := ⟨by decide, by decide +kernel⟩
theorem pc13 : CPowG ((10 : Int) ^ (47 : Int).toNat) 13 := ⟨by decide, by decide +kernel⟩
theorem pc18 : CPowG 10 18 := ⟨by decide, by decide +kernel⟩
theorem pc30 : CPowG 10 30 := ⟨by decide, by decide +kernel⟩
theorem big_pos : 0 < ((10 : Int) ^ (47 : Int).toNat) ^ (13 : Int).toNat := by decide +kernel
theorem big_lt : (((10 : Int) ^ (47 : Int).toNat) ^ (13 : Int).toNat).natAbs ≤ 2 ^ 3000 := by decide +kernel
theorem pw18 : 0 ≤ (10 : Int) ^ (18 : Int).toNat := by decide +kernel
theorem fm_lt {x m : Int} {N : Nat} (h : 0 < m) (hN : m.natAbs ≤ N) : (x.fmod m).natAbs < N := by
  have := fm_pos (x := x) h
  omega
theorem cut0 {g c : Int} {N : Nat} (g0 : 0 ≤ g) (hg : g.natAbs < N) (c0 : 0 ≤ c) : 0 ≤ (if g - c > 0 then g - c else 0) ∧ (if g - c > 0 then g - c else 0).natAbs < N := by
  split <;> omega
section
variable {P : Program} {w : World} {K : PySem.W.Frag} {mg : Str → Option Value} {base : Heap}
def spSack (K : PySem.W.Frag) : Sp := fun vs H Q _ => ∃ (a : Addr) (ns : List Int) (j : Nat), vs = [.ref a, .int (j : Int)] ∧ SqL K H a (ns.map V.int) ∧ ∀ p x y z, H p = none → 0 ≤ x → x.natAbs < 2 ^ 3000 → Q (.ref p) (upd H p (.lst [.int x, .int y, .int z]))
theorem ok_sack {f : Addr} {fd : FuncData} (F : Fun K "_law_sack" "_law_sack" s_sack f fd) (B : Blt mg) : FnOk P w K mg base CX0 1 f fd ["_law_script", "_law_at"] (spSack K) := by
  refine F.ok sc_sack (fun vs H Q E h => ?_) (fun cdv A outer s H vs Q E hr h => ?_)
  · obtain ⟨a, ns, j, rfl, _⟩ := h
    rfl
  obtain ⟨a, ns, j, rfl, hS, q⟩ := h
  refine ⟨_, (pss_cons (ps_set (i := 2) sc_sack.nd rfl (.inl rfl) (pe_ifExp (pt_cmpR op_lt (pv 1) (pe_callB call_len_seq (by rfl) B.len_ (by decide +kernel) (pa_cons (pv 0) pa_nil)) (nomark _)) (pe_ix ix_list (pv 0) (pv 1) (fun _ _ => rfl)) (pe_op op_add (pe_op op_mul pe_int (pv 1)) pe_int)))
  (pss_cons (ps_set (i := 3) sc_sack.nd rfl (.inl rfl) (pe_op op_modN (pe_callTy call_int1 (by rfl) B.int_ (by decide +kernel) (pa_cons (pe_callB call_abs (by rfl) B.abs_ (by decide +kernel) (pa_cons (pv 2) pa_nil)) pa_nil)) (pe_op op_powG (pe_op op_powG pe_int pe_int) pe_int)))
  (pss_cons (ps_set (i := 4) sc_sack.nd rfl (.inl rfl) (pe_op op_add (pe_op op_add (pe_op op_add (pe_op op_mul (pe_op op_modN (pe_callTy call_int1 (by rfl) B.int_ (by decide +kernel) (pa_cons (pv 3) pa_nil)) pe_int) pe_int) (pe_op op_mul pe_int (pv 1))) (pe_op op_mul pe_int (pe_callTy call_int1 (by rfl) B.int_ (by decide +kernel) (pa_cons (pe_cmpR op_lt (pv 2) pe_int (nomark _)) pa_nil)))) pe_int))
  (pss_one (ps_ret (pe_lst (pa_cons (pe_callB (call_max2 rfl) (by rfl) B.max_ (by decide +kernel) (pa_cons pe_int (pa_cons (pe_op op_sub (pv 3) (pe_op op_powG pe_int pe_int)) pa_nil))) (pa_cons (pe_op op_modN (pe_callTy call_int1 (by rfl) B.int_ (by decide +kernel) (pa_cons (pv 4) pa_nil)) pe_int) (pa_cons pe_int pa_nil))))))))), ?_⟩
  refine ⟨.int (j : Int), rfl, .ref a, rfl, a, _, rfl, .inl hS, _, _, rfl, rfl, _, rfl, ite2 (fun z => ?c1) (fun z => ?c2)⟩
  case' c1 =>
    have hj : (j : Int) < ((ns.map V.int).length : Nat) := of_decide_eq_true z
    rw [List.length_map] at hj
    have hj : j < ns.length := by omega
    have hat : (ns.map V.int)[j]? = some (.int ns[j]) := by
      rw [List.getElem?_map, List.getElem?_eq_getElem hj]
      rfl
    refine ⟨.ref a, rfl, .int (j : Int), rfl, a, _, _, .int ns[j], rfl, rfl, hS, atI_nat hat, ?_⟩
    generalize ns[j] = cell
  case' c2 =>
    refine ⟨.int (j : Int), rfl, 67, _, rfl, rfl, .inl ⟨by decide, by decide⟩, _, _, rfl, rfl, ?_⟩
    generalize (67 * (j : Int)) = cell0
  all_goals
    refine ⟨_, rfl, _, rfl, .inl ⟨_, rfl, 10, 47, rfl, rfl, pc47, _, 13, rfl, rfl, pc13, _, _, rfl, rfl, Int.ne_of_gt big_pos, ?_⟩⟩
    refine ⟨_, rfl, .inl ⟨_, rfl, _, _, rfl, rfl, (show (2147483237 : Int) ≠ 0 by decide), _, _, rfl, rfl, .inr ⟨(by decide : -(2 ^ 64) < (96293 : Int)), (by decide : (96293 : Int) < 2 ^ 64)⟩, _, rfl, _, _, rfl, rfl, .inl ⟨(by decide : -(2 ^ 64) < (8123 : Int)), (by decide : (8123 : Int) < 2 ^ 64)⟩, _, _, rfl, rfl, ?_⟩⟩
    refine ⟨_, rfl, _, _, rfl, rfl, .inr ⟨_, rfl, _, _, rfl, rfl, .inl ⟨(by decide : -(2 ^ 64) < (47 : Int)), (by decide : (47 : Int) < 2 ^ 64)⟩, _, _, rfl, rfl, _, _, rfl, rfl, ?_⟩⟩
    refine ⟨_, rfl, 10, 18, rfl, rfl, pc18, _, _, rfl, rfl, _, _, rfl, _, rfl, .inl ⟨_, rfl, _, _, rfl, rfl, (show (2305843009213693907 : Int) ≠ 0 by decide), by show 3 ≤ sizeLine; decide, fun p np => ?_⟩⟩
    exact q p _ _ _ np (cut0 (fm_pos big_pos).1 (fm_lt big_pos big_lt) pw18).1 (cut0 (fm_pos big_pos).1 (fm_lt big_pos big_lt) pw18).2
/-! ### values that stay good, whatever the store does -/
def Keep (k : Addr) (H G : Hp) : Prop := ∀ b x, b ≠ k → H b = some x → G b = some x
def Good (k : Addr) (H : Hp) (v : V) : Prop := ∀ G, Keep k H G → ∃ kd ks, Jd G v kd ks
theorem Good.keep {k : Addr} {H G : Hp} {v : V} (g : Good k H v) (h : Keep k H G) : Good k G v := fun F hf => g F fun b x n e => hf b x n (h b x n e)
theorem keep_same {k : Addr} {H G : Hp} (s : Same H G) : Keep k H G := fun b x _ e => s b x e
theorem Good.int {k : Addr} {H : Hp} (i : Int) : Good k H (.int i) := fun G _ => ⟨_, _, .flat (.int i) rfl⟩
theorem Good.bl {k : Addr} {H : Hp} (b : Bool) : Good k H (.bl b) := fun G _ => ⟨_, _, .flat (.bl b) rfl⟩
theorem Good.non {k : Addr} {H : Hp} : Good k H .non := fun G _ => ⟨_, _, .flat .non rfl⟩
theorem Good.str {k : Addr} {H : Hp} (x : Str) (few : x.length ≤ 1000) : Good k H (.str x) := fun G _ => ⟨_, _, .flat (.str x few) rfl⟩
theorem Good.lst {k : Addr} {H : Hp} {a : Addr} {xs : List V} (h : H a = some (.lst xs)) (ne : a ≠ k) : Good k H (.ref a) := fun G g => ⟨_, _, .flat (.lst (g _ _ ne h)) rfl⟩
theorem Good.dic {k : Addr} {H : Hp} {a : Addr} {kvs : List (Key × V)} (h : H a = some (.dK kvs)) (ne : a ≠ k) : Good k H (.ref a) := fun G g => ⟨_, _, .flat (.dic (g _ _ ne h)) rfl⟩
/-- what may be an item of a judged tuple -/
def Item (k : Addr) (H : Hp) (v : V) : Prop := ∀ G, Keep k H G → ∃ kd, Sees G v kd
theorem Good.item {k : Addr} {H : Hp} {v : V} (g : Good k H v) : Item k H v := fun G h => by
  obtain ⟨kd, ks, j⟩ := g G h
  exact ⟨kd, j.sees⟩
theorem items_paired {k : Addr} {H G : Hp} (h : Keep k H G) : ∀ {xs : List V}, (∀ x ∈ xs, Item k H x) → ∃ ks, Paired (Sees G) xs ks
  | [], _ => ⟨[], .nil⟩
  | x :: xs, a => by
    obtain ⟨kd, hk⟩ := a x List.mem_cons_self G h
    obtain ⟨ks, hs⟩ := items_paired (xs := xs) h fun y hy => a y (List.mem_cons_of_mem _ hy)
    exact ⟨kd :: ks, .cons hk hs⟩
theorem Good.tup {k : Addr} {H : Hp} {a : Addr} {xs : List V} (sk : Sack H k) (h : H a = some (.tup xs)) (few : xs.length ≤ 60) (all : ∀ x ∈ xs, Item k H x) : Good k H (.ref a) := fun G g => by
  have ne : a ≠ k := fun e => by
    obtain ⟨_, _, _, z, _⟩ := sk
    rw [e, z] at h
    cases h
  obtain ⟨ks, hs⟩ := items_paired g all
  exact ⟨_, ks, .tup (g _ _ ne h) few hs⟩
/-- a list of good values is made -/
def spMade (K : PySem.W.Frag) (pre : List V → Addr → Hp → Prop) : Sp := fun vs H Q _ => ∃ k, pre vs k H ∧ Sack H k ∧ ∀ G p us, But k H G → p ≠ k → G p = some (.lst us) → us.length ≤ 100 → (∀ u ∈ us, Good k G u) → Q (.ref p) G
theorem pw90 : CMulW ((10 : Int) ^ (60 : Int).toNat) ((10 : Int) ^ (30 : Int).toNat) := by
  show _ < _
  decide +kernel
theorem pos90 : (10 : Int) ^ (60 : Int).toNat * (10 : Int) ^ (30 : Int).toNat ≠ 0 := by decide +kernel
def spNumbers : Sp := fun vs H Q _ => ∃ k cell, vs = [.ref k, .int cell] ∧ Sack H k ∧ ∀ G p us, But k H G → p ≠ k → G p = some (.lst us) → us.length ≤ 100 → (∀ u ∈ us, Good k G u) → Q (.ref p) G
theorem ok_numbers {f : Addr} {fd : FuncData} (F : Fun K "_law_numbers" "_law_numbers" s_numbers f fd) (B : Blt mg) (C : Has P w K mg base 1 "_law_grab" ["_law_sack_here", "_law_total"] spGrab) : FnOk P w K mg base CX0 2 f fd ["_law_sack_here", "_law_cell"] spNumbers := by
  obtain ⟨f1, fd1, G_grab, g_grab, k_grab, b_grab⟩ := C.ex
  refine F.ok sc_numbers (fun vs H Q E h => ?_) (fun cdv A outer s H vs Q E hr h => ?_)
  · obtain ⟨k, cell, rfl, _⟩ := h
    rfl
  obtain ⟨k, cell, rfl, hk, q⟩ := h
  refine ⟨_, (pss_cons (ps_par (i := 2) (j := 3) (by rfl) sc_numbers.nd rfl rfl (by decide) rfl rfl (pa_cons (pe_op op_modN (pe_callTy call_int1 (by rfl) B.int_ (by decide +kernel) (pa_cons (pv 1) pa_nil)) (pe_op op_mulW (pe_op op_powG pe_int pe_int) (pe_op op_powG pe_int pe_int))) (pa_cons (pe_op op_sub (pe_op op_add (pe_op op_powG pe_int pe_int) (pe_call G_grab (hr.mono (by decide)) (by rfl) g_grab k_grab b_grab .nil pass0 (pa_cons (pv 0) (pa_cons pe_int pa_nil)))) pe_int) pa_nil)) (by rfl))
  (pss_one (ps_ret (pe_lst (pa_cons (pv 2) (pa_cons (pe_op op_sub pe_int (pv 2)) (pa_cons (pv 3) (pa_cons (pe_op op_sub pe_int (pv 3)) (pa_cons (pe_op op_powG pe_int pe_int) (pa_cons (pe_op op_sub pe_int (pe_op op_powG pe_int pe_int)) (pa_cons (pe_op op_sub (pe_op op_powG pe_int pe_int) pe_int) (pa_cons (pe_op op_sub pe_int (pe_op op_powG pe_int pe_int)) (pa_cons pe_int (pa_cons (pe_op op_sub pe_int pe_int) pa_nil)))))))))))))), ?_⟩
  refine ⟨.int cell, rfl, .inl ⟨_, rfl, 10, 60, rfl, rfl, pc60, 10, 30, rfl, rfl, pc30, _, _, rfl, rfl, pw90, _, _, rfl, rfl, pos90, ?_⟩⟩
  refine ⟨10, 60, rfl, rfl, pc60, .ref k, rfl, k, 5, rfl, hk, by decide, by decide, fun G n bt _ _ => ⟨_, _, rfl, rfl, _, _, rfl, rfl, _, _, rfl, ?_⟩⟩
  refine ⟨_, rfl, _, rfl, _, _, rfl, rfl, _, rfl, _, rfl, _, _, rfl, rfl, 10, 60, rfl, rfl, pc60, 10, 60, rfl, rfl, pc60, _, _, rfl, rfl, 10, 60, rfl, rfl, pc60, _, _, rfl, rfl, 10, 60, rfl, rfl, pc60, _, _, rfl, rfl, _, _, rfl, rfl, by show 10 ≤ sizeLine; decide, fun p np => ?_⟩
  refine q _ p _ (bt.up np) ?_ upd_same (by show 10 ≤ 100; decide) ?_
  · intro e
    obtain ⟨_, _, _, z, _⟩ := bt.sack
    rw [← e, np] at z
    cases z
  · intro u hu
    simp only [List.mem_cons, List.not_mem_nil, or_false] at hu
    rcases hu with rfl | rfl | rfl | rfl | rfl | rfl | rfl | rfl | rfl | rfl <;> exact Good.int _
end
end K0

set_option Elab.async false
set_option linter.all false
set_option maxRecDepth 100000
set_option maxHeartbeats 4000000
namespace K0
open PySem PySem.Spec PyProof.Rows L2 Gd
theorem But.upD {k p : Addr} {H G : Hp} {o : HO} (n : H p = none) (ne : p ≠ k) (a : But k H G) : But k H (upd G p o) := by
  obtain ⟨x, y, z, e, r⟩ := a.sack
  refine ⟨fun b u nb e => ?_, x, y, z, by rw [upd_ne ne.symm]; exact e, r⟩
  rw [upd_ne (ne_of_none e n)]
  exact a.stay b u nb e
theorem Sack.ne {H : Hp} {k p : Addr} (h : Sack H k) (n : H p = none) : p ≠ k := fun e => by
  obtain ⟨_, _, _, z, _⟩ := h
  rw [← e, n] at z
  cases z
theorem But.keep {k : Addr} {H G : Hp} (a : But k H G) : Keep k H G := a.stay
theorem add_len (a b : Str) : (a ++ b).length = a.length + b.length := by
  show (a.cps ++ b.cps).size = _
  rw [Array.size_append]
  rfl
/-- over a range, whatever stays -/
theorem lc_rngG {lo : Int} {n : Nat} {g : TG} {tt : TT} {te : TE} {vs : List Nat} {σ : L2.St} {H1 : Hp} {D : Addr} {Qd : Hp → Prop} (Ok : Hp → Prop) (Acc : Nat → List V → Prop) (h0 : Ok (upd H1 D (.lst []))) (z0 : Acc 0 [])
    (hs : ∀ i H, i < n → Nx Ok D Acc i H → g (.int (lo + i)) (wipe σ vs) H fun σ2 H2 => wipe σ2 vs = wipe σ vs ∧ tt σ2 H2 fun b H3 =>
      if b = true then te σ2 H3 fun y H4 => ∃ acc, H4 D = some (.lst acc) ∧ acc.length < sizeLine ∧ Nx Ok D Acc (i + 1) (upd H4 D (.lst (acc ++ [y]))) else Nx Ok D Acc (i + 1) H3)
    (hd : ∀ H acc, Ok H → H D = some (.lst acc) → Acc n acc → Qd H) :
    ∃ W : Nat → Nat → Hp → Prop, (∃ m, W 0 m (upd H1 D (.lst []))) ∧ ∀ i m H, W i m H →
      ((Itr lo n).stop i H ∧ Qd H) ∨ ((Itr lo n).go i H ∧ ∃ N : Hp → Prop, (∀ H', N H' → ∃ m', m' < m ∧ W (i + 1) m' H') ∧ ∀ v H', (Itr lo n).yld i H v H' → g v (wipe σ vs) H' fun σ2 H2 => wipe σ2 vs = wipe σ vs ∧ tt σ2 H2 fun b H3 =>
        if b = true then te σ2 H3 fun y H4 => ∃ acc, H4 D = some (.lst acc) ∧ acc.length < sizeLine ∧ N (upd H4 D (.lst (acc ++ [y]))) else N H3) :=
  lc_any (J := Itr lo n) (n := n) Ok Acc (fun i v _ => v = .int (lo + i)) h0 z0 (fun i H hi _ => hi) (fun H _ => Nat.le_refl _)
    (fun i H v H' hi nx ⟨e, f⟩ => by
      subst e
      exact ⟨nx, f⟩)
    (fun i v H hi nx e => by
      subst e
      exact hs i H hi nx) hd
section
variable {P : Program} {w : World} {K : PySem.W.Frag} {mg : Str → Option Value} {base : Heap}
/-- a list of good values is made -/
def spMk : Sp := fun vs H Q _ => ∃ k, vs = [.ref k] ∧ Sack H k ∧ ∀ G p us, But k H G → p ≠ k → G p = some (.lst us) → us.length ≤ 100 → (∀ u ∈ us, Good k G u) → Q (.ref p) G
abbrev CGrab (P : Program) (w : World) (K : PySem.W.Frag) (mg : Str → Option Value) (base : Heap) : Prop := Has P w K mg base 1 "_law_grab" ["_law_sack_here", "_law_total"] spGrab
abbrev COne (P : Program) (w : World) (K : PySem.W.Frag) (mg : Str → Option Value) (base : Heap) : Prop := Has P w K mg base 2 "_law_one_of" ["_law_sack_here", "_law_items"] spOne
theorem ok_texts {f : Addr} {fd : FuncData} (F : Fun K "_law_texts" "_law_texts" s_texts f fd) (B : Blt mg) (C1 : CGrab P w K mg base) (C2 : COne P w K mg base) (C3 : Has P w K mg base 2 "_law_letter" ["_law_sack_here"] spLetter) : FnOk P w K mg base CX0 3 f fd ["_law_sack_here"] spMk := by
  obtain ⟨f1, fd1, G_grab, g_grab, k_grab, b_grab⟩ := C1.ex
  obtain ⟨f2, fd2, G_one_of, g_one_of, k_one_of, b_one_of⟩ := C2.ex
  obtain ⟨f3, fd3, G_letter, g_letter, k_letter, b_letter⟩ := C3.ex
  refine F.ok sc_texts (fun vs H Q E h => ?_) (fun cdv A outer s H vs Q E hr h => ?_)
  · obtain ⟨k, rfl, _⟩ := h
    rfl
  obtain ⟨k, rfl, hk, q⟩ := h
  refine ⟨_, (pss_cons (ps_set (i := 1) sc_texts.nd rfl (.inl rfl) (pe_lst pa_nil))
  (pss_cons (ps_for PassesOwn.never rfl (pi_range1 (by rfl) B.range_ (pa_cons pe_int pa_nil)) (pg_name (i := 2) sc_texts.nd rfl (.inl rfl)) (pss_cons (ps_set (i := 3) sc_texts.nd rfl (.inl rfl) (pe_join pe_str (pe_lc (own := [("_law_at", 6)]) (g := gName 6) (tt := tYes) rfl sc_texts.nd (pi_range1 (by rfl) B.range_ (pa_cons (pe_call G_grab (hr.mono (by decide)) (by rfl) g_grab k_grab b_grab .nil pass0 (pa_cons (pv 0) (pa_cons pe_int pa_nil))) pa_nil)) (blkOk_by (own := [("_law_at", 6)]) (N := nm_texts) (sc := defScope s_texts) (by decide +kernel)) (fun _ _ _ _ _ => (pg_name (i := 6) sc_texts.nd rfl (.inl rfl))) (fun _ _ _ _ _ => pts_nil) (fun _ _ _ _ _ => (pe_call G_letter (hr.mono (by decide)) (by rfl) g_letter k_letter b_letter .nil pass0 (pa_cons (pv 0) pa_nil))))))
  (pss_cons (ps_set (i := 4) sc_texts.nd rfl (.inl rfl) (pe_call G_grab (hr.mono (by decide)) (by rfl) g_grab k_grab b_grab .nil pass0 (pa_cons (pv 0) (pa_cons (pe_op op_add (pe_callB call_len_str (by rfl) B.len_ (by decide +kernel) (pa_cons (pv 3) pa_nil)) pe_int) pa_nil))))
  (pss_cons (ps_set (i := 5) sc_texts.nd rfl (.inl rfl) (pe_call G_one_of (hr.mono (by decide)) (by rfl) g_one_of k_one_of b_one_of .nil pass0 (pa_cons (pv 0) (pa_cons (pe_lst (pa_cons pe_str (pa_cons pe_str (pa_cons pe_str (pa_cons pe_str (pa_cons pe_str (pa_cons pe_str (pa_cons pe_str (pa_cons pe_str (pa_cons pe_str (pa_cons pe_str (pa_cons pe_str (pa_cons pe_str pa_nil))))))))))))) pa_nil))))
  (pss_one (ps_set (i := 1) sc_texts.nd rfl (.inl rfl) (pe_op op_cat (pv 1) (pe_lst (pa_cons (pv 3) (pa_cons (pe_op op_add_str (pe_op op_add_str (pe_slice sl_str (pv 3) po_none (po_some (pv 4))) (pv 5)) (pe_slice sl_str (pv 3) (po_some (pv 4)) po_none)) (pa_cons (pe_op op_add_str (pe_op op_add_str (pe_slice sl_str (pv 3) po_none (po_some (pv 4))) (pv 5)) (pe_slice sl_str (pv 3) (po_some (pe_op op_add (pv 4) pe_int)) po_none)) pa_nil)))))))))))
  (pss_one (ps_ret (pv 1))))), ?_⟩
  refine ⟨Nat.zero_le _, fun p0 np0 => ⟨4, rfl, by decide, by decide, for_range (n := 4) (fun i σ G => ∃ p us y2 y3 y4 y5 y6, σ = [some (.ref k), some (.ref p), y2, y3, y4, y5, y6] ∧ But k H G ∧ p ≠ k ∧ G p = some (.lst us) ∧ us.length = 3 * i ∧ ∀ u ∈ us, Good k G u) ?_ (fun i σ G hi hW => ?_) (fun σ G hW => ?_)⟩⟩
  · exact ⟨p0, [], _, _, _, _, _, rfl, (But.same hk (Same.refl H)).up np0, hk.ne np0, upd_same, rfl, fun u hu => by cases hu⟩
  · obtain ⟨p, us, y2, y3, y4, y5, y6, rfl, bt, pk, hp, hl, hg⟩ := hW
    -- text
    refine ⟨⟨_, rfl⟩, .ref k, rfl, k, 11, rfl, bt.sack, by decide, by decide, fun G1 n b1 n0 n1 => ⟨n, rfl, by omega, by omega, fun D nD => ?_⟩⟩
    have Dk : D ≠ k := b1.sack.ne nD
    refine lc_rngG (But k G1) (fun i acc => ∃ cs : List Str, acc = cs.map V.str ∧ cs.length = i ∧ ∀ c ∈ cs, c.length = 1) ((But.same b1.sack (Same.refl G1)).up nD) ⟨[], rfl, rfl, fun c hc => by cases hc⟩ (fun i G2 hi nx => ?_) (fun G2 acc b2 eD ea => ?_)
    · obtain ⟨acc, b2, eD, cs, ea, el, ec⟩ := nx
      refine ⟨rfl, ?_⟩
      refine tyes ?_
      refine ⟨.ref k, rfl, k, rfl, b2.sack, fun G3 c b3 => nx_put (fun F o z => z.upD nD Dk) (b2.trans b3) (b3.stay D _ Dk eD) (by rw [ea, List.length_map, el]; omega) ⟨cs ++ [⟨#[c]⟩], ?_, ?_, ?_⟩⟩
      · rw [ea, List.map_append]
        rfl
      · rw [List.length_append, el]
        rfl
      · intro d hd
        rcases List.mem_append.mp hd with hd | hd
        · exact ec d hd
        · cases List.mem_singleton.mp hd
          rfl
    · obtain ⟨cs, ea, el, ec⟩ := ea
      have sum : ∀ l : List Str, (∀ c ∈ l, c.length = 1) → (l.map (·.length)).sum = l.length := by
        intro l
        induction l with
        | nil => intro _; rfl
        | cons c l ih =>
          intro h
          rw [List.map_cons, List.sum_cons, ih fun d hd => h d (List.mem_cons_of_mem _ hd), h c List.mem_cons_self, List.length_cons]
          omega
      have hcs := sum cs ec
      have hn : n.toNat ≤ 10 := by omega
      refine ⟨_, D, cs, rfl, rfl, .inl (.inl (.inl (by rw [eD, ea]))), by
        rw [hcs, show (Str.ofString "").length = 0 from rfl]
        omega, ?_⟩
      generalize ht : Txt.join (Str.ofString "") cs = text
      have tl : text.length ≤ 10 := by
        have z := StrLaws.join_length_le (Str.ofString "") cs
        rw [← TL.join_eq, ht, hcs, show (Str.ofString "").length = 0 from rfl] at z
        omega
      have tz : text.length ≤ sizeLine := Nat.le_of_lt (small1000 (by omega))
      have b2h : But k H G2 := (bt.trans b1).trans b2
      -- spot
      refine ⟨.ref k, rfl, .str text, rfl, text, rfl, tz, _, 1, rfl, rfl, k, _, rfl, b2.sack, by omega, by omega, fun G3 sp b3 s0 s1 => ?_⟩
      refine ⟨.ref k, rfl, by show 12 ≤ sizeLine; decide, fun pl npl => ⟨k, pl, _, rfl, ((But.same b3.sack (Same.refl G3)).up npl).sack, b3.sack.ne npl, upd_same, by simp, by show 12 ≤ 1000; decide, fun G4 od b4 hod => ?_⟩⟩
      have hod : ∃ o : Str, od = .str o ∧ o.length ≤ 1 := by
        simp only [List.mem_cons, List.not_mem_nil, or_false] at hod
        rcases hod with rfl | rfl | rfl | rfl | rfl | rfl | rfl | rfl | rfl | rfl | rfl | rfl <;> exact ⟨_, rfl, by decide +kernel⟩
      obtain ⟨o, rfl, ol⟩ := hod
      have b4h : But k G G4 := (((b1.trans b2).trans b3).up npl).trans b4
      have cl : ∀ lo hi, (cutS text lo hi).length ≤ 10 := fun lo hi => Nat.le_trans (cutS_length text lo hi) tl
      have big : ∀ n : Nat, n ≤ 100 → n ≤ sizeLine := fun n h => Nat.le_of_lt (small1000 (by omega))
      have l1 := cl none (some sp)
      have l2 := cl (some sp) none
      have l3 := cl (some (sp + 1)) none
      have a1 := add_len (cutS text none (some sp)) o
      have a2 := add_len (cutS text none (some sp) ++ o) (cutS text (some sp) none)
      have a3 := add_len (cutS text none (some sp) ++ o) (cutS text (some (sp + 1)) none)
      refine ⟨.ref p, rfl, .str text, rfl, .str text, rfl, .int sp, rfl, sp, rfl, text, rfl, tz, .str o, rfl, _, _, rfl, rfl, big _ (by omega), .str text, rfl, .int sp, rfl, sp, rfl, text, rfl, tz, _, _, rfl, rfl, big _ (by omega), ?_⟩
      refine ⟨.str text, rfl, .int sp, rfl, sp, rfl, text, rfl, tz, .str o, rfl, _, _, rfl, rfl, big _ (by omega), .str text, rfl, .int sp, rfl, sp, 1, rfl, rfl, sp + 1, rfl, text, rfl, tz, _, _, rfl, rfl, big _ (by omega), ?_⟩
      refine ⟨by show 3 ≤ sizeLine; decide, fun pn npn => ?_⟩
      have hp4 : G4 p = some (.lst us) := b4h.stay p _ pk hp
      refine ⟨p, pn, us, _, rfl, rfl, by rw [upd_ne (ne_of_none hp4 npn)]; exact hp4, upd_same, big _ (by rw [hl]; show 3 * i + 3 ≤ 100; omega), fun pr npr => ?_⟩
      have b5 : But k G (upd G4 pn (.lst [.str text, .str (cutS text none (some sp) ++ o ++ cutS text (some sp) none), .str (cutS text none (some sp) ++ o ++ cutS text (some (sp + 1)) none)])) := b4h.up npn
      refine ⟨pr, _, _, _, _, _, _, rfl, bt.trans (b5.up npr), b5.sack.ne npr, upd_same, by rw [List.length_append, hl]; show 3 * i + 3 = 3 * (i + 1); omega, fun u hu => ?_⟩
      rcases List.mem_append.mp hu with hu | hu
      · exact (hg u hu).keep (b5.up npr).keep
      · simp only [List.mem_cons, List.not_mem_nil, or_false] at hu
        rcases hu with rfl | rfl | rfl
        · exact Good.str _ (by omega)
        · exact Good.str _ (by omega)
        · exact Good.str _ (by omega)
  · obtain ⟨p, us, y2, y3, y4, y5, y6, rfl, bt, pk, hp, hl, hg⟩ := hW
    exact ⟨.ref p, rfl, q G p us bt pk hp (by omega) hg⟩
end
end K0

set_option Elab.async false
set_option linter.all false
set_option maxRecDepth 100000
set_option maxHeartbeats 8000000
namespace K0
open PySem PySem.Spec PyProof.Rows L2 Gd
theorem Sack.same {H G : Hp} {k : Addr} (h : Sack H k) (s : Same H G) : Sack G k := (But.same h s).sack
theorem Item.keep {k : Addr} {H G : Hp} {v : V} (g : Item k H v) (h : Keep k H G) : Item k G v := fun F hf => g F fun b x n e => hf b x n (h b x n e)
theorem mem_cut {xs : List V} {lo hi : Option Int} {x : V} (h : x ∈ cutV xs lo hi) : x ∈ xs := List.mem_of_mem_drop (List.mem_of_mem_take h)
theorem item_map {k : Addr} {H : Hp} {ns : List Int} {x : V} (h : x ∈ ns.map V.int) : Item k H x := by
  obtain ⟨i, _, rfl⟩ := List.mem_map.mp h
  exact (Good.int i).item
theorem cut_ints (ns : List Int) (lo hi : Option Int) : ∃ ms : List Int, cutV (ns.map V.int) lo hi = ms.map V.int ∧ ms.length ≤ ns.length := by
  refine ⟨(ns.drop (HT.sIx (ns.map V.int).length 0 lo)).take (HT.sIx (ns.map V.int).length (ns.map V.int).length hi - HT.sIx (ns.map V.int).length 0 lo), ?_, ?_⟩
  · unfold cutV
    rw [List.map_take, List.map_drop]
  · rw [List.length_take, List.length_drop]
    omega
theorem cut_len (ns : List Int) (lo hi : Option Int) : (cutV (ns.map V.int) lo hi).length ≤ ns.length := by
  have := cutV_length (ns.map V.int) lo hi
  rw [List.length_map] at this
  exact this
section
variable {P : Program} {w : World} {K : PySem.W.Frag} {mg : Str → Option Value} {base : Heap}
theorem ok_tuples {f : Addr} {fd : FuncData} (F : Fun K "_law_tuples" "_law_tuples" s_tuples f fd) (B : Blt mg) (C1 : CGrab P w K mg base) (C2 : COne P w K mg base) : FnOk P w K mg base CX0 3 f fd ["_law_sack_here"] spMk := by
  obtain ⟨f1, fd1, G_grab, g_grab, k_grab, b_grab⟩ := C1.ex
  obtain ⟨f2, fd2, G_one_of, g_one_of, k_one_of, b_one_of⟩ := C2.ex
  refine F.ok sc_tuples (fun vs H Q E h => ?_) (fun cdv A outer s H vs Q E hr h => ?_)
  · obtain ⟨k, rfl, _⟩ := h
    rfl
  obtain ⟨k, rfl, hk, q⟩ := h
  refine ⟨_, (pss_cons (ps_set (i := 1) sc_tuples.nd rfl (.inl rfl) (pe_callTy call_tuple_of (by rfl) B.tuple_ (by decide +kernel) (pa_cons (pe_callB (cr_sortedSet rfl) (by rfl) B.sorted_ (by decide +kernel) (pa_cons (pe_callTy (call_setI rfl) (by rfl) B.set_ (by decide +kernel) (pa_cons (pe_lc (own := [("_law_turn", 5)]) (g := gName 5) (tt := tYes) rfl sc_tuples.nd (pi_range1 (by rfl) B.range_ (pa_cons (pe_call G_grab (hr.mono (by decide)) (by rfl) g_grab k_grab b_grab .nil pass0 (pa_cons (pv 0) (pa_cons pe_int pa_nil))) pa_nil)) (blkOk_by (own := [("_law_turn", 5)]) (N := nm_tuples) (sc := defScope s_tuples) (by decide +kernel)) (fun _ _ _ _ _ => (pg_name (i := 5) sc_tuples.nd rfl (.inl rfl))) (fun _ _ _ _ _ => pts_nil) (fun _ _ _ _ _ => (pe_call G_grab (hr.mono (by decide)) (by rfl) g_grab k_grab b_grab .nil pass0 (pa_cons (pv 0) (pa_cons (pe_call G_one_of (hr.mono (by decide)) (by rfl) g_one_of k_one_of b_one_of .nil pass0 (pa_cons (pv 0) (pa_cons (pe_lst (pa_cons pe_int (pa_cons pe_int (pa_cons (pe_op op_powG pe_int pe_int) pa_nil)))) pa_nil))) pa_nil))))) pa_nil)) pa_nil)) pa_nil)))
  (pss_cons (ps_par (i := 2) (j := 3) (by rfl) sc_tuples.nd rfl rfl (by decide) rfl rfl (pa_cons (pe_call G_grab (hr.mono (by decide)) (by rfl) g_grab k_grab b_grab .nil pass0 (pa_cons (pv 0) (pa_cons (pe_op op_add (pe_callB call_len_seq (by rfl) B.len_ (by decide +kernel) (pa_cons (pv 1) pa_nil)) pe_int) pa_nil))) (pa_cons (pe_call G_one_of (hr.mono (by decide)) (by rfl) g_one_of k_one_of b_one_of .nil pass0 (pa_cons (pv 0) (pa_cons (pe_lst (pa_cons (pe_op op_sub pe_int pe_int) (pa_cons pe_bl (pa_cons pe_non (pa_cons pe_str (pa_cons (pe_op op_powG pe_int pe_int) (pa_cons (pe_tup (pa_cons pe_int pa_nil)) (pa_cons pe_int (pa_cons (pe_op op_sub (pe_op op_powG pe_int pe_int) pe_int) pa_nil))))))))) pa_nil))) pa_nil)) (by rfl))
  (pss_cons (ps_set (i := 4) sc_tuples.nd rfl (.inl rfl) (pe_lst (pa_cons (pv 1) (pa_cons (pe_back (pv 1)) (pa_cons (pe_op op_catV (pv 1) (pe_slice sl_tupV (pv 1) po_none (po_some pe_int))) (pa_cons (pe_op op_catV (pe_slice sl_tupV (pv 1) po_none (po_some (pv 2))) (pe_slice sl_tupV (pv 1) (po_some (pe_op op_add (pv 2) pe_int)) po_none)) (pa_cons (pe_op op_catV (pe_op op_catV (pe_slice sl_tupV (pv 1) po_none (po_some (pv 2))) (pe_tup (pa_cons (pv 3) pa_nil))) (pe_slice sl_tupV (pv 1) (po_some (pv 2)) po_none)) (pa_cons (pe_callTy call_list_of (by rfl) B.list_ (by decide +kernel) (pa_cons (pv 1) pa_nil)) (pa_cons (pe_tup (pa_cons (pv 3) pa_nil)) (pa_cons (pe_tup pa_nil) pa_nil))))))))))
  (pss_cons (ps_set (i := 4) sc_tuples.nd rfl (.inl rfl) (pe_op op_cat (pv 4) (pe_lst (pa_cons (pe_callTy call_tuple_of (by rfl) B.tuple_ (by decide +kernel) (pa_cons (pe_callB call_sortT (by rfl) B.sorted_ (by decide +kernel) (pa_cons (pe_op op_catV (pv 1) (pe_slice sl_tupV (pv 1) po_none (po_some pe_int))) pa_nil)) pa_nil)) (pa_cons (pe_op op_catV (pv 1) (pe_tup (pa_cons (pe_op op_sub (pe_op op_powG pe_int pe_int) pe_int) pa_nil))) (pa_cons (pe_op op_catV (pv 1) (pe_tup (pa_cons (pe_op op_powG pe_int pe_int) pa_nil))) (pa_cons (pe_op op_catV (pe_tup (pa_cons (pe_op op_sub pe_int pe_int) pa_nil)) (pv 1)) (pa_cons (pe_disp (pps_cons pe_int pe_int pps_nil) (by rfl) (by rfl) (fun z => by cases z) (by decide)) (pa_cons pe_str pa_nil)))))))))
  (pss_one (ps_ret (pe_op op_cat (pv 4) (pe_lst (pa_cons pe_non (pa_cons pe_int (pa_cons (pe_lst pa_nil) (pa_cons (pe_tup (pa_cons (pe_tup (pa_cons pe_int pa_nil)) pa_nil)) (pa_cons (pe_tup (pa_cons pe_int (pa_cons pe_int (pa_cons pe_int (pa_cons pe_int pa_nil))))) (pa_cons (pe_tup (pa_cons pe_int (pa_cons pe_int pa_nil))) (pa_cons (pe_tup (pa_cons pe_int (pa_cons pe_int pa_nil))) (pa_cons (pe_tup (pa_cons pe_bl (pa_cons pe_int pa_nil))) pa_nil)))))))))))))))), ?_⟩
  have big : ∀ n : Nat, n ≤ 100 → n ≤ sizeLine := fun n h => Nat.le_of_lt (small1000 (by omega))
  -- row
  refine ⟨.ref k, rfl, k, 15, rfl, hk, by decide, by decide, fun G1 n b1 n0 n1 => ⟨n, rfl, by omega, by omega, fun D nD => ?_⟩⟩
  have Dk : D ≠ k := b1.sack.ne nD
  refine lc_rngG (But k G1) (fun i acc => ∃ ns : List Int, acc = ns.map V.int ∧ ns.length = i) ((But.same b1.sack (Same.refl G1)).up nD) ⟨[], rfl, rfl⟩ (fun i G2 hi nx => ?_) (fun G2 acc b2 eD ea => ?_)
  · obtain ⟨acc, b2, eD, ns, ea, el⟩ := nx
    refine ⟨rfl, ?_⟩
    refine tyes ?_
    refine ⟨.ref k, rfl, .ref k, rfl, 10, 18, rfl, rfl, pc18, by show 3 ≤ sizeLine; decide, fun pl npl => ⟨k, pl, _, rfl, b2.sack.same (Same.newG npl), b2.sack.ne npl, upd_same, by simp, by show 3 ≤ 1000; decide, fun G3 x b3 hx => ?_⟩⟩
    have hx : ∃ m, x = .int m ∧ 0 < m ∧ m < 2 ^ 64 := by
      simp only [List.mem_cons, List.not_mem_nil, or_false] at hx
      rcases hx with rfl | rfl | rfl
      · exact ⟨3, rfl, by decide, by decide⟩
      · exact ⟨20, rfl, by decide, by decide⟩
      · exact ⟨_, rfl, by decide +kernel, by decide +kernel⟩
    obtain ⟨m, rfl, m0, m1⟩ := hx
    refine ⟨k, m, rfl, b3.sack, m0, m1, fun G4 y b4 _ _ => ?_⟩
    have b24 : But k G2 G4 := ((But.same b2.sack (Same.newG npl)).trans b3).trans b4
    refine nx_put (fun F o z => z.upD nD Dk) (b2.trans b24) (b24.stay D _ Dk eD) (by rw [ea, List.length_map, el]; omega) ⟨ns ++ [y], ?_, ?_⟩
    · rw [ea, List.map_append]
      rfl
    · rw [List.length_append, el]
      rfl
  obtain ⟨ns, ea, el⟩ := ea
  refine ⟨D, ns, rfl, .inl (.inl (.inl (by rw [eD, ea]))), by omega, fun p1 c hc np1 => ⟨p1, _, c, rfl, upd_same, by omega, fun ms p2 _ _ hl np2 => ⟨p2, _, rfl, .inl ⟨.inl (.inl upd_same), fun row nrow => ?_⟩⟩⟩⟩
  have ml : ms.length ≤ 14 := by omega
  have bt : But k H (upd (upd (upd G2 p1 (SetO w p1 (fun j => decide (j ∈ ns)) c)) p2 (.lst (ms.map V.int))) row (.tup (ms.map V.int))) := (((b1.trans b2).up np1).up np2).up nrow
  have hrow : (upd (upd (upd G2 p1 (SetO w p1 (fun j => decide (j ∈ ns)) c)) p2 (.lst (ms.map V.int))) row (.tup (ms.map V.int))) row = some (.tup (ms.map V.int)) := upd_same
  show _
  have rk : row ≠ k := ((((b1.trans b2).up np1).up np2).sack).ne nrow
  -- at, odd
  have s0 := bt.sack
  refine ⟨.ref k, rfl, .ref row, rfl, row, _, rfl, .inr (.inl (.inl hrow)), _, 1, rfl, rfl, k, _, rfl, s0, by omega, by rw [List.length_map]; omega, fun G5 at_ b5 a0 a1 => ?_⟩
  refine ⟨.ref k, rfl, _, _, rfl, rfl, 10, 60, rfl, rfl, pc60, by show 1 ≤ sizeLine; decide, fun pt npt => ⟨10, 60, rfl, rfl, pc60, _, _, rfl, rfl, by show 8 ≤ sizeLine; decide, fun pl npl => ?_⟩⟩
  have st := b5.sack.same (Same.newG (o := .tup [.int 0]) npt)
  have sl := st.same (Same.newG (o := .lst [.int (0 - 1), .bl true, .non, .str "0", .int ((10 : Int) ^ (60 : Int).toNat), .ref pt, .int 0, .int ((10 : Int) ^ (60 : Int).toNat - 1)]) npl)
  refine ⟨k, pl, _, rfl, sl, st.ne npl, upd_same, by simp, by show 8 ≤ 1000; decide, fun G6 od b6 hod => ?_⟩
  have gpt : Good k (upd G5 pt (.tup [.int 0])) (.ref pt) := Good.tup st upd_same (by decide) fun x hx => by
    cases List.mem_singleton.mp hx
    exact (Good.int 0).item
  have iod : Item k G6 od := by
    simp only [List.mem_cons, List.not_mem_nil, or_false] at hod
    rcases hod with rfl | rfl | rfl | rfl | rfl | rfl | rfl | rfl
    · exact (Good.int _).item
    · exact (Good.bl _).item
    · exact Good.non.item
    · exact (Good.str _ (by decide +kernel)).item
    · exact (Good.int _).item
    · exact (gpt.item.keep (keep_same (Same.newG npl))).keep b6.keep
    · exact (Good.int _).item
    · exact (Good.int _).item
  have bh : But k H G6 := (((bt.trans b5).up npt).up npl).trans b6
  have hr6 : G6 row = some (.tup (ms.map V.int)) := ((((But.same s0 (Same.refl _)).trans b5).up npt |>.up npl).trans b6).stay row _ rk hrow
  have s6 := bh.sack
  refine ⟨_, _, rfl, ?_⟩
  have iall : ∀ (G : Hp) (x : V), x ∈ ms.map V.int → Item k G x := fun G x hx => item_map hx
  -- the first eight
  refine ⟨.ref row, rfl, .ref row, rfl, row, _, rfl, .inl (.inl hr6), fun q2 nq2 => ?_⟩
  have t2 : Same G6 (upd G6 q2 (.tup (ms.map V.int).reverse)) := Same.newG nq2
  have e2 : (upd G6 q2 (.tup (ms.map V.int).reverse)) q2 = some (.tup (ms.map V.int).reverse) := upd_same
  generalize upd G6 q2 (.tup (ms.map V.int).reverse) = A2 at t2 e2 ⊢
  have g2 : Good k A2 (.ref q2) := Good.tup (s6.same t2) e2 (by rw [List.length_reverse, List.length_map]; omega) fun x hx => iall _ x (List.mem_reverse.mp hx)
  refine ⟨.ref row, rfl, .ref row, rfl, 1, rfl, row, _, rfl, t2 _ _ hr6, fun b3 A3 t3 h3 => ⟨row, b3, _, _, rfl, rfl, t3 _ _ (t2 _ _ hr6), h3, big _ (by rw [List.length_map]; have := cut_len ms none (some 1); omega), fun q3 A4 t4 e3 => ?_⟩⟩
  have g3 : Good k A4 (.ref q3) := Good.tup (((s6.same t2).same t3).same t4) e3 (by rw [List.length_append, List.length_map]; have := cut_len ms none (some 1); omega) fun x hx => (List.mem_append.mp hx).elim (iall _ x) fun z => iall _ x (mem_cut z)
  have u4 := (t2.trans t3).trans t4
  refine ⟨.ref row, rfl, .int at_, rfl, at_, rfl, row, _, rfl, u4 _ _ hr6, fun b5 A5 t5 h5 => ⟨.ref row, rfl, .int at_, rfl, at_, 1, rfl, rfl, at_ + 1, rfl, row, _, rfl, t5 _ _ (u4 _ _ hr6), fun b6 A6 t6 h6 => ⟨b5, b6, _, _, rfl, rfl, t6 _ _ h5, h6, big _ (by have := cut_len ms none (some at_); have := cut_len ms (some (at_ + 1)) none; omega), fun q4 A7 t7 e4 => ?_⟩⟩⟩
  have u7 := ((u4.trans t5).trans t6).trans t7
  have g4 : Good k A7 (.ref q4) := Good.tup (s6.same u7) e4 (by rw [List.length_append]; have := cut_len ms none (some at_); have := cut_len ms (some (at_ + 1)) none; omega) fun x hx => (List.mem_append.mp hx).elim (fun z => iall _ x (mem_cut z)) fun z => iall _ x (mem_cut z)
  refine ⟨.ref row, rfl, .int at_, rfl, at_, rfl, row, _, rfl, u7 _ _ hr6, fun b8 A8 t8 h8 => ⟨od, rfl, by show 1 ≤ sizeLine; decide, fun b9 nb9 => ?_⟩⟩
  have t9 : Same A8 (upd A8 b9 (.tup [od])) := Same.newG nb9
  have e9 : (upd A8 b9 (.tup [od])) b9 = some (.tup [od]) := upd_same
  generalize upd A8 b9 (.tup [od]) = A9 at t9 e9 ⊢
  refine ⟨b8, b9, _, _, rfl, rfl, t9 _ _ h8, e9, big _ (by have := cut_len ms none (some at_); show _ + 1 ≤ 100; omega), fun b10 A10 t10 h10 => ?_⟩
  have u10 := ((u7.trans t8).trans t9).trans t10
  refine ⟨.ref row, rfl, .int at_, rfl, at_, rfl, row, _, rfl, u10 _ _ hr6, fun b11 A11 t11 h11 => ⟨b10, b11, _, _, rfl, rfl, t11 _ _ h10, h11, big _ (by rw [List.length_append]; have := cut_len ms none (some at_); have := cut_len ms (some at_) none; show _ + 1 + _ ≤ 100; omega), fun q5 A12 t12 e5 => ?_⟩⟩
  have u12 := (u10.trans t11).trans t12
  have iod12 : Item k A12 od := iod.keep (keep_same u12)
  have g5 : Good k A12 (.ref q5) := Good.tup (s6.same u12) e5 (by rw [List.length_append, List.length_append]; have := cut_len ms none (some at_); have := cut_len ms (some at_) none; show _ + 1 + _ ≤ 60; omega) fun x hx => by
    rcases List.mem_append.mp hx with hx | hx
    · rcases List.mem_append.mp hx with hx | hx
      · exact iall _ x (mem_cut hx)
      · cases List.mem_singleton.mp hx
        exact iod12
    · exact iall _ x (mem_cut hx)
  refine ⟨.ref row, rfl, row, _, rfl, .inr (.inl (.inl (u12 _ _ hr6))), fun q6 nq6 => ?_⟩
  have q6k := (s6.same u12).ne nq6
  have t13 : Same A12 (upd A12 q6 (.lst (ms.map V.int))) := Same.newG nq6
  have e6 : (upd A12 q6 (.lst (ms.map V.int))) q6 = some (.lst (ms.map V.int)) := upd_same
  generalize upd A12 q6 (.lst (ms.map V.int)) = A13 at t13 e6 ⊢
  have g6 : Good k A13 (.ref q6) := Good.lst e6 q6k
  refine ⟨od, rfl, by show 1 ≤ sizeLine; decide, fun q7 nq7 => ?_⟩
  have t14 : Same A13 (upd A13 q7 (.tup [od])) := Same.newG nq7
  have e7 : (upd A13 q7 (.tup [od])) q7 = some (.tup [od]) := upd_same
  generalize upd A13 q7 (.tup [od]) = A14 at t14 e7 ⊢
  have u14 := (u12.trans t13).trans t14
  have g7 : Good k A14 (.ref q7) := Good.tup (s6.same u14) e7 (by show 1 ≤ 60; decide) fun x hx => by
    cases List.mem_singleton.mp hx
    exact iod.keep (keep_same u14)
  refine ⟨Nat.zero_le _, fun q8 nq8 => ?_⟩
  have t15 : Same A14 (upd A14 q8 (.tup [])) := Same.newG nq8
  have e8 : (upd A14 q8 (.tup [])) q8 = some (.tup []) := upd_same
  generalize upd A14 q8 (.tup []) = A15 at t15 e8 ⊢
  have u15 := u14.trans t15
  have g8 : Good k A15 (.ref q8) := Good.tup (s6.same u15) e8 (Nat.zero_le _) fun x hx => by cases hx
  have g1 : Good k A15 (.ref row) := Good.tup (s6.same u15) (u15 _ _ hr6) (by rw [List.length_map]; omega) (iall _)
  have w13 := t14.trans t15
  have w12 := t13.trans w13
  have w11 := t12.trans w12
  have w10 := t11.trans w11
  have w9 := t10.trans w10
  have w8 := t9.trans w9
  have w7 := t8.trans w8
  have w6 := t7.trans w7
  have w5 := t6.trans w6
  have w4 := t5.trans w5
  have w3 := t4.trans w4
  have w2 := t3.trans w3
  have g2 := g2.keep (keep_same w2)
  have g3 := g3.keep (keep_same w4)
  have g4 := g4.keep (keep_same w7)
  have g5 := g5.keep (keep_same w12)
  have g6 := g6.keep (keep_same w13)
  have g7 := g7.keep (keep_same t15)
  have all1 : ∀ u ∈ [V.ref row, .ref q2, .ref q3, .ref q4, .ref q5, .ref q6, .ref q7, .ref q8], Good k A15 u := by
    intro u hu
    simp only [List.mem_cons, List.not_mem_nil, or_false] at hu
    rcases hu with rfl | rfl | rfl | rfl | rfl | rfl | rfl | rfl <;> assumption
  refine ⟨by show 8 ≤ sizeLine; decide, fun fo nfo => ?_⟩
  have s16 := s6.same u15
  have fok := s16.ne nfo
  have t16 : Same A15 (upd A15 fo (.lst [V.ref row, .ref q2, .ref q3, .ref q4, .ref q5, .ref q6, .ref q7, .ref q8])) := Same.newG nfo
  have e16 : (upd A15 fo (.lst [V.ref row, .ref q2, .ref q3, .ref q4, .ref q5, .ref q6, .ref q7, .ref q8])) fo = some (.lst [V.ref row, .ref q2, .ref q3, .ref q4, .ref q5, .ref q6, .ref q7, .ref q8]) := upd_same
  generalize upd A15 fo (.lst [V.ref row, .ref q2, .ref q3, .ref q4, .ref q5, .ref q6, .ref q7, .ref q8]) = A16 at t16 e16 ⊢
  have u16 := u15.trans t16
  have r16 := u16 _ _ hr6
  -- six more
  obtain ⟨ms2, em2, lm2⟩ := cut_ints ms none (some 2)
  refine ⟨.ref fo, rfl, .ref row, rfl, .ref row, rfl, 2, rfl, row, _, rfl, r16, fun c1 B1 v1 h1 => ⟨row, c1, _, _, rfl, rfl, v1 _ _ r16, h1, big _ (by rw [List.length_map]; have := cut_len ms none (some 2); omega), fun c2 B2 v2 h2 => ?_⟩⟩
  refine ⟨c2, ms ++ ms2, rfl, .inl (.inl (by rw [List.map_append, ← em2]; exact h2)), by rw [List.length_append]; omega, fun ms3 p3 hp3 _ np3 => ⟨p3, _, rfl, .inl ⟨.inl (.inl upd_same), fun r1 nr1 => ?_⟩⟩⟩
  have v3 : Same B2 (upd (upd B2 p3 (.lst (ms3.map V.int))) r1 (.tup (ms3.map V.int))) := (Same.newG np3).trans (Same.newG nr1)
  have d3 : (upd (upd B2 p3 (.lst (ms3.map V.int))) r1 (.tup (ms3.map V.int))) r1 = some (.tup (ms3.map V.int)) := upd_same
  generalize upd (upd B2 p3 (.lst (ms3.map V.int))) r1 (.tup (ms3.map V.int)) = B3 at v3 d3 ⊢
  have x3 := ((u16.trans v1).trans v2).trans v3
  have lm3 : ms3.length ≤ 28 := by rw [hp3.length_eq, List.length_append]; omega
  have k1 : Good k B3 (.ref r1) := Good.tup (s6.same x3) d3 (by rw [List.length_map]; omega) fun x hx => item_map hx
  refine ⟨.ref row, rfl, 10, 60, rfl, rfl, pc60, _, _, rfl, rfl, by show 1 ≤ sizeLine; decide, fun d1 nd1 => ?_⟩
  have v4 : Same B3 (upd B3 d1 (.tup [.int ((10 : Int) ^ (60 : Int).toNat - 1)])) := Same.newG nd1
  have d4 : (upd B3 d1 (.tup [.int ((10 : Int) ^ (60 : Int).toNat - 1)])) d1 = some (.tup [.int ((10 : Int) ^ (60 : Int).toNat - 1)]) := upd_same
  refine ⟨row, d1, _, _, rfl, rfl, v4 _ _ (x3 _ _ hr6), d4, big _ (by rw [List.length_map]; show _ + 1 ≤ 100; omega), fun r2 B5 v5 h5 => ?_⟩
  have x5 := (x3.trans v4).trans v5
  have k2 : Good k B5 (.ref r2) := Good.tup (s6.same x5) h5 (by rw [List.length_append, List.length_map]; show _ + 1 ≤ 60; omega) fun x hx => (List.mem_append.mp hx).elim (iall _ x) fun z => by
    cases List.mem_singleton.mp z
    exact (Good.int _).item
  refine ⟨.ref row, rfl, 10, 60, rfl, rfl, pc60, by show 1 ≤ sizeLine; decide, fun d2 nd2 => ?_⟩
  have v6 : Same B5 (upd B5 d2 (.tup [.int ((10 : Int) ^ (60 : Int).toNat)])) := Same.newG nd2
  have d6 : (upd B5 d2 (.tup [.int ((10 : Int) ^ (60 : Int).toNat)])) d2 = some (.tup [.int ((10 : Int) ^ (60 : Int).toNat)]) := upd_same
  refine ⟨row, d2, _, _, rfl, rfl, v6 _ _ (x5 _ _ hr6), d6, big _ (by rw [List.length_map]; show _ + 1 ≤ 100; omega), fun r3 B7 v7 h7 => ?_⟩
  have x7 := (x5.trans v6).trans v7
  have k3 : Good k B7 (.ref r3) := Good.tup (s6.same x7) h7 (by rw [List.length_append, List.length_map]; show _ + 1 ≤ 60; omega) fun x hx => (List.mem_append.mp hx).elim (iall _ x) fun z => by
    cases List.mem_singleton.mp z
    exact (Good.int _).item
  refine ⟨_, _, rfl, rfl, by show 1 ≤ sizeLine; decide, fun d3_ nd3 => ?_⟩
  have v8 : Same B7 (upd B7 d3_ (.tup [.int (0 - 1)])) := Same.newG nd3
  have d8 : (upd B7 d3_ (.tup [.int (0 - 1)])) d3_ = some (.tup [.int (0 - 1)]) := upd_same
  refine ⟨.ref row, rfl, d3_, row, _, _, rfl, rfl, d8, v8 _ _ (x7 _ _ hr6), big _ (by rw [List.length_map]; show 1 + _ ≤ 100; omega), fun r4 B9 v9 h9 => ?_⟩
  have x9 := (x7.trans v8).trans v9
  have k4 : Good k B9 (.ref r4) := Good.tup (s6.same x9) h9 (by rw [List.length_append, List.length_map]; show 1 + _ ≤ 60; omega) fun x hx => (List.mem_append.mp hx).elim (fun z => by
    cases List.mem_singleton.mp z
    exact (Good.int _).item) (iall _ x)
  refine fun r5 nr5 => ⟨upd_same, [(.inl 0, .int 1)], rfl, by decide, ?_⟩
  have r5k := (s6.same x9).ne nr5
  have v10 : Same B9 (upd (upd B9 r5 (.dK [])) r5 (.dK (mergeK [] [(.inl 0, .int 1)]))) := by
    rw [upd_upd]
    exact Same.newG nr5
  have d10 : (upd (upd B9 r5 (.dK [])) r5 (.dK (mergeK [] [(.inl 0, .int 1)]))) r5 = some (.dK (mergeK [] [(.inl 0, .int 1)])) := upd_same
  generalize upd (upd B9 r5 (.dK [])) r5 (.dK (mergeK [] [(.inl 0, .int 1)])) = B10 at v10 d10 ⊢
  have x10 := x9.trans v10
  have k5 : Good k B10 (.ref r5) := Good.dic d10 r5k
  have z9 := v10
  have z7 := (v8.trans v9).trans z9
  have z5 := (v6.trans v7).trans z7
  have z3 := (v4.trans v5).trans z5
  have k1 := k1.keep (keep_same z3)
  have k2 := k2.keep (keep_same z5)
  have k3 := k3.keep (keep_same z7)
  have k4 := k4.keep (keep_same z9)
  have k6 : Good k B10 (.str "01") := Good.str _ (by decide +kernel)
  have z16 : Same A16 B10 := ((v1.trans v2).trans v3).trans z3
  have all2 : ∀ u ∈ [V.ref r1, .ref r2, .ref r3, .ref r4, .ref r5, .str "01"], Good k B10 u := by
    intro u hu
    simp only [List.mem_cons, List.not_mem_nil, or_false] at hu
    rcases hu with rfl | rfl | rfl | rfl | rfl | rfl <;> assumption
  have all1 : ∀ u ∈ [V.ref row, .ref q2, .ref q3, .ref q4, .ref q5, .ref q6, .ref q7, .ref q8], Good k B10 u := fun u hu => (all1 u hu).keep (keep_same (t16.trans z16))
  have e16 := z16 _ _ e16
  refine ⟨by show 6 ≤ sizeLine; decide, fun l2 nl2 => ?_⟩
  have v11 : Same B10 (upd B10 l2 (.lst [V.ref r1, .ref r2, .ref r3, .ref r4, .ref r5, .str "01"])) := Same.newG nl2
  have d11 : (upd B10 l2 (.lst [V.ref r1, .ref r2, .ref r3, .ref r4, .ref r5, .str "01"])) l2 = some (.lst [V.ref r1, .ref r2, .ref r3, .ref r4, .ref r5, .str "01"]) := upd_same
  generalize upd B10 l2 (.lst [V.ref r1, .ref r2, .ref r3, .ref r4, .ref r5, .str "01"]) = B11 at v11 d11 ⊢
  refine ⟨fo, l2, _, _, rfl, rfl, v11 _ _ e16, d11, by show 8 + 6 ≤ sizeLine; decide, fun fp nfp => ?_⟩
  have fpk := (s6.same (x10.trans v11)).ne nfp
  have all3 : ∀ u ∈ [V.ref row, .ref q2, .ref q3, .ref q4, .ref q5, .ref q6, .ref q7, .ref q8] ++ [V.ref r1, .ref r2, .ref r3, .ref r4, .ref r5, .str "01"], Good k B11 u := fun u hu => (List.mem_append.mp hu).elim (fun z => (all1 u z).keep (keep_same v11)) fun z => (all2 u z).keep (keep_same v11)
  have l3 : ([V.ref row, .ref q2, .ref q3, .ref q4, .ref q5, .ref q6, .ref q7, .ref q8] ++ [V.ref r1, .ref r2, .ref r3, .ref r4, .ref r5, .str "01"]).length = 14 := rfl
  generalize [V.ref row, .ref q2, .ref q3, .ref q4, .ref q5, .ref q6, .ref q7, .ref q8] ++ [V.ref r1, .ref r2, .ref r3, .ref r4, .ref r5, .str "01"] = us at all3 l3 ⊢
  have v12 : Same B11 (upd B11 fp (.lst us)) := Same.newG nfp
  have d12 : (upd B11 fp (.lst us)) fp = some (.lst us) := upd_same
  generalize upd B11 fp (.lst us) = B12 at v12 d12 ⊢
  have x12 := (x10.trans v11).trans v12
  have all3 : ∀ u ∈ us, Good k B12 u := fun u hu => (all3 u hu).keep (keep_same v12)
  -- the last eight
  refine ⟨.ref fp, rfl, Nat.zero_le _, fun m1 nm1 => ?_⟩
  have m1k := (s6.same x12).ne nm1
  have y1 : Same B12 (upd B12 m1 (.lst [])) := Same.newG nm1
  have j1 : Good k (upd B12 m1 (.lst [])) (.ref m1) := Good.lst upd_same m1k
  generalize upd B12 m1 (.lst []) = D1 at y1 j1 ⊢
  have o1 := s6.same (x12.trans y1)
  refine ⟨by show 1 ≤ sizeLine; decide, fun m2 nm2 => ?_⟩
  have y2 : Same D1 (upd D1 m2 (.tup [.int 0])) := Same.newG nm2
  have j2 : Good k (upd D1 m2 (.tup [.int 0])) (.ref m2) := Good.tup (o1.same y2) upd_same (by show 1 ≤ 60; decide) fun x hx => by
    cases List.mem_singleton.mp hx
    exact (Good.int _).item
  generalize upd D1 m2 (.tup [.int 0]) = D2 at y2 j2 ⊢
  have o2 := o1.same y2
  refine ⟨by show 1 ≤ sizeLine; decide, fun m3 nm3 => ?_⟩
  have y3 : Same D2 (upd D2 m3 (.tup [.ref m2])) := Same.newG nm3
  have j3 : Good k (upd D2 m3 (.tup [.ref m2])) (.ref m3) := Good.tup (o2.same y3) upd_same (by show 1 ≤ 60; decide) fun x hx => by
    cases List.mem_singleton.mp hx
    exact j2.item.keep (keep_same y3)
  generalize upd D2 m3 (.tup [.ref m2]) = D3 at y3 j3 ⊢
  have o3 := o2.same y3
  refine ⟨by show 4 ≤ sizeLine; decide, fun m4 nm4 => ?_⟩
  have y4 : Same D3 (upd D3 m4 (.tup [.int 0, .int 1, .int 2, .int 3])) := Same.newG nm4
  have j4 : Good k (upd D3 m4 (.tup [.int 0, .int 1, .int 2, .int 3])) (.ref m4) := Good.tup (o3.same y4) upd_same (by show 4 ≤ 60; decide) fun x hx => by
    simp only [List.mem_cons, List.not_mem_nil, or_false] at hx
    rcases hx with rfl | rfl | rfl | rfl <;> exact (Good.int _).item
  generalize upd D3 m4 (.tup [.int 0, .int 1, .int 2, .int 3]) = D4 at y4 j4 ⊢
  have o4 := o3.same y4
  refine ⟨by show 2 ≤ sizeLine; decide, fun m5 nm5 => ?_⟩
  have y5 : Same D4 (upd D4 m5 (.tup [.int 0, .int 0])) := Same.newG nm5
  have j5 : Good k (upd D4 m5 (.tup [.int 0, .int 0])) (.ref m5) := Good.tup (o4.same y5) upd_same (by show 2 ≤ 60; decide) fun x hx => by
    simp only [List.mem_cons, List.not_mem_nil, or_false] at hx
    rcases hx with rfl | rfl <;> exact (Good.int _).item
  generalize upd D4 m5 (.tup [.int 0, .int 0]) = D5 at y5 j5 ⊢
  have o5 := o4.same y5
  refine ⟨by show 2 ≤ sizeLine; decide, fun m6 nm6 => ?_⟩
  have y6 : Same D5 (upd D5 m6 (.tup [.int 1, .int 0])) := Same.newG nm6
  have j6 : Good k (upd D5 m6 (.tup [.int 1, .int 0])) (.ref m6) := Good.tup (o5.same y6) upd_same (by show 2 ≤ 60; decide) fun x hx => by
    simp only [List.mem_cons, List.not_mem_nil, or_false] at hx
    rcases hx with rfl | rfl <;> exact (Good.int _).item
  generalize upd D5 m6 (.tup [.int 1, .int 0]) = D6 at y6 j6 ⊢
  have o6 := o5.same y6
  refine ⟨by show 2 ≤ sizeLine; decide, fun m7 nm7 => ?_⟩
  have y7 : Same D6 (upd D6 m7 (.tup [.bl false, .int 1])) := Same.newG nm7
  have j7 : Good k (upd D6 m7 (.tup [.bl false, .int 1])) (.ref m7) := Good.tup (o6.same y7) upd_same (by show 2 ≤ 60; decide) fun x hx => by
    simp only [List.mem_cons, List.not_mem_nil, or_false] at hx
    rcases hx with rfl | rfl
    · exact (Good.bl _).item
    · exact (Good.int _).item
  generalize upd D6 m7 (.tup [.bl false, .int 1]) = D7 at y7 j7 ⊢
  have o7 := o6.same y7
  have w6 := y7
  have w5 := y6.trans w6
  have w4 := y5.trans w5
  have w3 := y4.trans w4
  have w1 := (y2.trans y3).trans w3
  have w0 := y1.trans w1
  have j1 := j1.keep (keep_same w1)
  have j3 := j3.keep (keep_same w3)
  have j4 := j4.keep (keep_same w4)
  have j5 := j5.keep (keep_same w5)
  have j6 := j6.keep (keep_same w6)
  have jn : Good k D7 .non := Good.non
  have jz : Good k D7 (.int 0) := Good.int 0
  have all4 : ∀ u ∈ [V.non, .int 0, .ref m1, .ref m3, .ref m4, .ref m5, .ref m6, .ref m7], Good k D7 u := by
    intro u hu
    simp only [List.mem_cons, List.not_mem_nil, or_false] at hu
    rcases hu with rfl | rfl | rfl | rfl | rfl | rfl | rfl | rfl <;> assumption
  refine ⟨by show 8 ≤ sizeLine; decide, fun l3_ nl3 => ?_⟩
  have y8 : Same D7 (upd D7 l3_ (.lst [V.non, .int 0, .ref m1, .ref m3, .ref m4, .ref m5, .ref m6, .ref m7])) := Same.newG nl3
  have d8_ : (upd D7 l3_ (.lst [V.non, .int 0, .ref m1, .ref m3, .ref m4, .ref m5, .ref m6, .ref m7])) l3_ = some (.lst [V.non, .int 0, .ref m1, .ref m3, .ref m4, .ref m5, .ref m6, .ref m7]) := upd_same
  generalize upd D7 l3_ (.lst [V.non, .int 0, .ref m1, .ref m3, .ref m4, .ref m5, .ref m6, .ref m7]) = D8 at y8 d8_ ⊢
  refine ⟨fp, l3_, us, _, rfl, rfl, y8 _ _ (w0 _ _ d12), d8_, by rw [l3]; show 14 + 8 ≤ sizeLine; decide, fun fin nfin => ?_⟩
  have y9 : Same D8 (upd D8 fin (.lst (us ++ [V.non, .int 0, .ref m1, .ref m3, .ref m4, .ref m5, .ref m6, .ref m7]))) := Same.newG nfin
  have last := ((x12.trans w0).trans y8).trans y9
  refine q _ fin _ (bh.trans (But.same s6 last)) ((s6.same ((x12.trans w0).trans y8)).ne nfin) upd_same (by rw [List.length_append, l3]; show 14 + 8 ≤ 100; decide) fun u hu => ?_
  rcases List.mem_append.mp hu with hu | hu
  · exact (all3 u hu).keep (keep_same ((w0.trans y8).trans y9))
  · exact (all4 u hu).keep (keep_same (y8.trans y9))
end
end K0

set_option Elab.async false
set_option linter.all false
set_option maxRecDepth 100000
set_option maxHeartbeats 8000000
namespace K0
open PySem PySem.Spec PyProof.Rows L2 Gd
theorem same_of_but {H G : Hp} {k : Addr} {o : HO} (n : H k = none) (b : But k (upd H k o) G) : Same H G := fun c x e => by
  have ne : c ≠ k := ne_of_none e n
  exact b.stay c x ne (by rw [upd_ne ne]; exact e)
/-- three answers, as they are shown -/
abbrev three (a b c : Bool) : PyData := .list [.bool a, .bool b, .bool c]
theorem three_show (a b c : Bool) : (three a b c).showable = true ∧ (three a b c).hasDict = false ∧ (three a b c).depth < 60 ∧ (three a b c).shown.length ≤ sizeLine := by
  cases a <;> cases b <;> cases c <;> refine ⟨by decide +kernel, by decide +kernel, by decide +kernel, by decide +kernel⟩
theorem three_dp {K : PySem.W.Frag} {H : Hp} {p : Addr} {a b c : Bool} (h : H p = some (.lst [.bl a, .bl b, .bl c])) : Dp K H (.ref p) (three a b c) :=
  .lst (.inl (.inl h)) (.cons (.bl a) (.cons (.bl b) (.cons (.bl c) .nil)))
section
variable {P : Program} {w : World} {K : PySem.W.Frag} {mg : Str → Option Value} {base : Heap}
def spCell (K : PySem.W.Frag) : Sp := fun vs H Q _ => ∃ (a : Addr) (ns : List Int) (j : Nat), vs = [.ref a, .int (j : Int)] ∧ SqL K H a (ns.map V.int) ∧ ∀ G, Same H G → Q (.bl true) G
structure Defs (P : Program) (w : World) (K : PySem.W.Frag) (mg : Str → Option Value) (base : Heap) : Prop where
  sack : Has P w K mg base 1 "_law_sack" ["_law_script", "_law_at"] (spSack K)
  numbers : Has P w K mg base 2 "_law_numbers" ["_law_sack_here", "_law_cell"] spNumbers
  texts : Has P w K mg base 3 "_law_texts" ["_law_sack_here"] spMk
  tuples : Has P w K mg base 3 "_law_tuples" ["_law_sack_here"] spMk
  isInt : Has P w K mg base 1 "is_integer" ["value"] spInt
  isName : Has P w K mg base 1 "is_name" ["value"] spName
  isSet : Has P w K mg base 3 "is_set" ["value"] spSet
  short : Has P w K mg base 1 "_law_is_short" ["_law_value"] spInt
  lname : Has P w K mg base 1 "_law_is_name" ["_law_value"] spName
  nset : Has P w K mg base 2 "_law_is_number_set" ["_law_value"] spSet
theorem ok_cell {f : Addr} {fd : FuncData} (F : Fun K "_law_cell_right" "_law_cell_right" s_cell_right f fd) (B : Blt mg) (C : Defs P w K mg base) : FnG P w K mg base CX0 4 f fd ["_law_script", "_law_at"] (spCell K) := by
  obtain ⟨f1, fd1, G_sack, g_sack, k_sack, b_sack⟩ := C.sack.ex
  obtain ⟨f2, fd2, G_numbers, g_numbers, k_numbers, b_numbers⟩ := C.numbers.ex
  obtain ⟨f3, fd3, G_texts, g_texts, k_texts, b_texts⟩ := C.texts.ex
  obtain ⟨f4, fd4, G_tuples, g_tuples, k_tuples, b_tuples⟩ := C.tuples.ex
  obtain ⟨f5, fd5, G_is_integer, g_is_integer, k_is_integer, b_is_integer⟩ := C.isInt.ex
  obtain ⟨f6, fd6, G_is_name, g_is_name, k_is_name, b_is_name⟩ := C.isName.ex
  obtain ⟨f7, fd7, G_is_set, g_is_set, k_is_set, b_is_set⟩ := C.isSet.ex
  obtain ⟨f8, fd8, G_is_short, g_is_short, k_is_short, b_is_short⟩ := C.short.ex
  obtain ⟨f9, fd9, G_lname, g_lname, k_lname, b_lname⟩ := C.lname.ex
  obtain ⟨f0, fd0, G_is_number_set, g_is_number_set, k_is_number_set, b_is_number_set⟩ := C.nset.ex
  refine def_ok F sc_cell_right (fun vs H Q E h => ?_) (fun cdv A outer s H vs Q E hr hgd0 h => ?_)
  · obtain ⟨a, ns, j, rfl, _⟩ := h
    rfl
  obtain ⟨a, ns, j, rfl, hS, q⟩ := h
  have hgd : (A.deeper (envOfC "_law_cell_right" (defScope s_cell_right) s.heap.objs.size f cdv)).guards = some [] := hgd0
  refine ⟨_, (pss_cons (ps_par (i := 2) (j := 3) (by rfl) sc_cell_right.nd rfl rfl (by decide) rfl rfl (pa_cons (pe_call G_sack (hr.mono (by decide)) (by rfl) g_sack k_sack b_sack .nil pass0 (pa_cons (pv 0) (pa_cons (pv 1) pa_nil))) (pa_cons (pe_op op_add (pe_op op_mul pe_int (pv 1)) pe_int) pa_nil)) (by rfl))
  (pss_cons (ps_if (pt_cmpR op_lt (pv 1) (pe_callB call_len_seq (by rfl) B.len_ (by decide +kernel) (pa_cons (pv 0) pa_nil)) (nomark _)) (pss_one (ps_set (i := 3) sc_cell_right.nd rfl (.inl rfl) (pe_ix ix_list (pv 0) (pv 1) (fun _ _ => rfl)))) pss_nil)
  (pss_cons (ps_set (i := 4) sc_cell_right.nd rfl (.inl rfl) (pe_op op_cat (pe_op op_cat (pe_call G_numbers (hr.mono (by decide)) (by rfl) g_numbers k_numbers b_numbers .nil pass0 (pa_cons (pv 2) (pa_cons (pv 3) pa_nil))) (pe_call G_texts (hr.mono (by decide)) (by rfl) g_texts k_texts b_texts .nil pass0 (pa_cons (pv 2) pa_nil))) (pe_call G_tuples (hr.mono (by decide)) (by rfl) g_tuples k_tuples b_tuples .nil pass0 (pa_cons (pv 2) pa_nil))))
  (pss_cons (ps_set (i := 4) sc_cell_right.nd rfl (.inl rfl) (pe_op op_cat (pv 4) (pe_lst (pa_cons pe_bl (pa_cons pe_bl (pa_cons pe_non (pa_cons pe_str (pa_cons (pe_lst pa_nil) (pa_cons pe_dnewK (pa_cons (pe_tup (pa_cons (pe_lst pa_nil) pa_nil)) (pa_cons (pe_tup (pa_cons pe_int pa_nil)) (pa_cons (pe_tup (pa_cons pe_non pa_nil)) (pa_cons (pe_lst (pa_cons pe_int pa_nil)) (pa_cons (pe_disp (pps_cons pe_str pe_int pps_nil) (by rfl) (by rfl) (fun z => by cases z) (by decide)) (pa_cons pe_str (pa_cons pe_str pa_nil))))))))))))))))
  (pss_cons (ps_for PassesOwn.never rfl (pi_range1 (by rfl) B.range_ (pa_cons pe_int pa_nil)) (pg_name (i := 5) sc_cell_right.nd rfl (.inl rfl)) (pss_one (ps_for PassesOwn.never rfl (pi_list (pv 4)) (pg_name (i := 6) sc_cell_right.nd rfl (.inl rfl)) (pss_cons (ps_set (i := 7) sc_cell_right.nd rfl (.inl rfl) (pe_lst (pa_cons (pe_call G_is_integer (hr.mono (by decide)) (by rfl) g_is_integer k_is_integer b_is_integer .nil pass0 (pa_cons (pv 6) pa_nil)) (pa_cons (pe_call G_is_name (hr.mono (by decide)) (by rfl) g_is_name k_is_name b_is_name .nil pass0 (pa_cons (pv 6) pa_nil)) (pa_cons (pe_call G_is_set (hr.mono (by decide)) (by rfl) g_is_set k_is_set b_is_set .nil pass0 (pa_cons (pv 6) pa_nil)) pa_nil)))))
  (pss_cons (ps_set (i := 8) sc_cell_right.nd rfl (.inl rfl) (pe_lst (pa_cons (pe_call G_is_short (hr.mono (by decide)) (by rfl) g_is_short k_is_short b_is_short .nil pass0 (pa_cons (pv 6) pa_nil)) (pa_cons (pe_call G_lname (hr.mono (by decide)) (by rfl) g_lname k_lname b_lname .nil pass0 (pa_cons (pv 6) pa_nil)) (pa_cons (pe_call G_is_number_set (hr.mono (by decide)) (by rfl) g_is_number_set k_is_number_set b_is_number_set .nil pass0 (pa_cons (pv 6) pa_nil)) pa_nil)))))
  (pss_one (ps_if (pt_cmpR op_ne (pe_callB (call_repr hgd hr.units) (by rfl) B.repr_ (by decide +kernel) (pa_cons (pv 7) pa_nil)) (pe_callB (call_repr hgd hr.units) (by rfl) B.repr_ (by decide +kernel) (pa_cons (pv 8) pa_nil)) (nomark _)) (pss_one (ps_ret pe_bl)) pss_nil)))))))
  (pss_one (ps_ret pe_bl))))))), ?_⟩
  have big : ∀ n : Nat, n ≤ 400 → n ≤ sizeLine := fun n h => Nat.le_of_lt (small1000 (by omega))
  refine ⟨.ref a, rfl, .int (j : Int), rfl, a, ns, j, rfl, hS, fun k x y z nk x0 x1 => ?_⟩
  have b0 : But k (upd H k (.lst [.int x, .int y, .int z])) (upd H k (.lst [.int x, .int y, .int z])) := ⟨fun _ _ _ e => e, x, y, z, upd_same, x0, x1⟩
  have sk := b0.sack
  have hS0 : SqL K (upd H k (.lst [.int x, .int y, .int z])) a (ns.map V.int) := (Same.newG nk).seq hS
  refine ⟨.int (j : Int), rfl, 41, _, rfl, rfl, .inl ⟨by decide, by decide⟩, _, _, rfl, rfl, _, _, rfl, ?_⟩
  refine ⟨.int (j : Int), rfl, .ref a, rfl, a, _, rfl, .inl hS0, _, _, rfl, rfl, _, rfl, ite2 (fun z => ?c1) (fun z => ?c2)⟩
  case' c1 =>
    have hj : (j : Int) < ((ns.map V.int).length : Nat) := of_decide_eq_true z
    rw [List.length_map] at hj
    have hj : j < ns.length := by omega
    have hat : (ns.map V.int)[j]? = some (.int ns[j]) := by
      rw [List.getElem?_map, List.getElem?_eq_getElem hj]
      rfl
    refine ⟨.ref a, rfl, .int (j : Int), rfl, a, _, _, .int ns[j], rfl, rfl, hS0, atI_nat hat, ?_⟩
  all_goals
    refine ⟨.ref k, rfl, _, rfl, k, _, rfl, sk, fun G1 p1 us1 b1 n1 e1 l1 g1 => ?_⟩
    refine ⟨.ref k, rfl, k, rfl, b1.sack, fun G2 p2 us2 b2 n2 e2 l2 g2 => ?_⟩
    refine ⟨p1, p2, us1, us2, rfl, rfl, b2.stay _ _ n1 e1, e2, big _ (by omega), fun p3 np3 => ?_⟩
    have b3 := b2.up (o := .lst (us1 ++ us2)) np3
    have n3 := b2.sack.ne np3
    have e3 : (upd G2 p3 (.lst (us1 ++ us2))) p3 = some (.lst (us1 ++ us2)) := upd_same
    have g3 : ∀ u ∈ us1 ++ us2, Good k (upd G2 p3 (.lst (us1 ++ us2))) u := fun u hu => (List.mem_append.mp hu).elim (fun h => (g1 u h).keep b3.keep) fun h => (g2 u h).keep (keep_same (Same.newG np3))
    generalize upd G2 p3 (.lst (us1 ++ us2)) = G3 at b3 e3 g3 ⊢
    refine ⟨.ref k, rfl, k, rfl, b3.sack, fun G4 p4 us4 b4 n4 e4 l4 g4 => ?_⟩
    refine ⟨p3, p4, us1 ++ us2, us4, rfl, rfl, b4.stay _ _ n3 e3, e4, big _ (by rw [List.length_append]; omega), fun p5 np5 => ?_⟩
    have t5 : Same G4 (upd G4 p5 (.lst (us1 ++ us2 ++ us4))) := Same.newG np5
    have e5 : (upd G4 p5 (.lst (us1 ++ us2 ++ us4))) p5 = some (.lst (us1 ++ us2 ++ us4)) := upd_same
    have g5 : ∀ u ∈ us1 ++ us2 ++ us4, Good k (upd G4 p5 (.lst (us1 ++ us2 ++ us4))) u := fun u hu => (List.mem_append.mp hu).elim (fun h => ((g3 u h).keep b4.keep).keep (keep_same t5)) fun h => (g4 u h).keep (keep_same t5)
    have l5 : (us1 ++ us2 ++ us4).length ≤ 300 := by rw [List.length_append, List.length_append]; omega
    generalize upd G4 p5 (.lst (us1 ++ us2 ++ us4)) = G5 at t5 e5 g5 ⊢
    generalize us1 ++ us2 ++ us4 = us5 at e5 g5 l5 ⊢
    have s5 : Sack G5 k := b4.sack.same t5
    have h5 : Same H G5 := (same_of_but nk ((b1.trans b3).trans b4)).trans t5
    refine ⟨.ref p5, rfl, Nat.zero_le _, fun m1 nm1 => ?_⟩
    have y1 : Same G5 (upd G5 m1 (.lst [])) := Same.newG nm1
    have j1 : Good k (upd G5 m1 (.lst [])) (.ref m1) := Good.lst upd_same (s5.ne nm1)
    generalize upd G5 m1 (.lst []) = D1 at y1 j1 ⊢
    have o1 := s5.same y1
    refine fun m2 nm2 => ?_
    have y2 : Same D1 (upd D1 m2 (.dK [])) := Same.newG nm2
    have j2 : Good k (upd D1 m2 (.dK [])) (.ref m2) := Good.dic upd_same (o1.ne nm2)
    generalize upd D1 m2 (.dK []) = D2 at y2 j2 ⊢
    have o2 := o1.same y2
    refine ⟨Nat.zero_le _, fun m3 nm3 => ?_⟩
    have y3 : Same D2 (upd D2 m3 (.lst [])) := Same.newG nm3
    have j3 : Good k (upd D2 m3 (.lst [])) (.ref m3) := Good.lst upd_same (o2.ne nm3)
    generalize upd D2 m3 (.lst []) = D3 at y3 j3 ⊢
    have o3 := o2.same y3
    refine ⟨by show 1 ≤ sizeLine; decide, fun m4 nm4 => ?_⟩
    have y4 : Same D3 (upd D3 m4 (.tup [.ref m3])) := Same.newG nm4
    have j4 : Good k (upd D3 m4 (.tup [.ref m3])) (.ref m4) := Good.tup (o3.same y4) upd_same (by show 1 ≤ 60; decide) fun x hx => by
      cases List.mem_singleton.mp hx
      exact j3.item.keep (keep_same y4)
    generalize upd D3 m4 (.tup [.ref m3]) = D4 at y4 j4 ⊢
    have o4 := o3.same y4
    refine ⟨by show 1 ≤ sizeLine; decide, fun m5 nm5 => ?_⟩
    have y5 : Same D4 (upd D4 m5 (.tup [.int 0])) := Same.newG nm5
    have j5 : Good k (upd D4 m5 (.tup [.int 0])) (.ref m5) := Good.tup (o4.same y5) upd_same (by show 1 ≤ 60; decide) fun x hx => by
      cases List.mem_singleton.mp hx
      exact (Good.int _).item
    generalize upd D4 m5 (.tup [.int 0]) = D5 at y5 j5 ⊢
    have o5 := o4.same y5
    refine ⟨by show 1 ≤ sizeLine; decide, fun m6 nm6 => ?_⟩
    have y6 : Same D5 (upd D5 m6 (.tup [.non])) := Same.newG nm6
    have j6 : Good k (upd D5 m6 (.tup [.non])) (.ref m6) := Good.tup (o5.same y6) upd_same (by show 1 ≤ 60; decide) fun x hx => by
      cases List.mem_singleton.mp hx
      exact Good.non.item
    generalize upd D5 m6 (.tup [.non]) = D6 at y6 j6 ⊢
    have o6 := o5.same y6
    refine ⟨by show 1 ≤ sizeLine; decide, fun m7 nm7 => ?_⟩
    have y7 : Same D6 (upd D6 m7 (.lst [.int 1])) := Same.newG nm7
    have j7 : Good k (upd D6 m7 (.lst [.int 1])) (.ref m7) := Good.lst upd_same (o6.ne nm7)
    generalize upd D6 m7 (.lst [.int 1]) = D7 at y7 j7 ⊢
    have o7 := o6.same y7
    refine fun m8 nm8 => ⟨upd_same, [(.inr "a", .int 1)], rfl, by decide, ?_⟩
    have y8 : Same D7 (upd (upd D7 m8 (.dK [])) m8 (.dK (mergeK [] [(.inr "a", .int 1)]))) := by
      rw [upd_upd]
      exact Same.newG nm8
    have j8 : Good k (upd (upd D7 m8 (.dK [])) m8 (.dK (mergeK [] [(.inr "a", .int 1)]))) (.ref m8) := Good.dic upd_same (o7.ne nm8)
    generalize upd (upd D7 m8 (.dK [])) m8 (.dK (mergeK [] [(.inr "a", .int 1)])) = D8 at y8 j8 ⊢
    have o8 := o7.same y8
    have z7 := y8
    have z6 := y7.trans z7
    have z5 := y6.trans z6
    have z4 := y5.trans z5
    have z2 := (y3.trans y4).trans z4
    have z1 := y2.trans z2
    have j1 := j1.keep (keep_same z1)
    have j2 := j2.keep (keep_same z2)
    have j4 := j4.keep (keep_same z4)
    have j5 := j5.keep (keep_same z5)
    have j6 := j6.keep (keep_same z6)
    have j7 := j7.keep (keep_same z7)
    have i1 : Good k D8 (.bl true) := Good.bl _
    have i2 : Good k D8 (.bl false) := Good.bl _
    have i3 : Good k D8 .non := Good.non
    have i4 : Good k D8 (.str "1") := Good.str _ (by decide +kernel)
    have i5 : Good k D8 (.str "abcdefgh") := Good.str _ (by decide +kernel)
    have i6 : Good k D8 (.str "abcdefghi") := Good.str _ (by decide +kernel)
    have all : ∀ u ∈ [V.bl true, .bl false, .non, .str "1", .ref m1, .ref m2, .ref m4, .ref m5, .ref m6, .ref m7, .ref m8, .str "abcdefgh", .str "abcdefghi"], Good k D8 u := by
      intro u hu
      simp only [List.mem_cons, List.not_mem_nil, or_false] at hu
      rcases hu with rfl | rfl | rfl | rfl | rfl | rfl | rfl | rfl | rfl | rfl | rfl | rfl | rfl <;> assumption
    refine ⟨by show 13 ≤ sizeLine; decide, fun m9 nm9 => ?_⟩
    have y9 : Same D8 (upd D8 m9 (.lst [V.bl true, .bl false, .non, .str "1", .ref m1, .ref m2, .ref m4, .ref m5, .ref m6, .ref m7, .ref m8, .str "abcdefgh", .str "abcdefghi"])) := Same.newG nm9
    have d9 : (upd D8 m9 (.lst [V.bl true, .bl false, .non, .str "1", .ref m1, .ref m2, .ref m4, .ref m5, .ref m6, .ref m7, .ref m8, .str "abcdefgh", .str "abcdefghi"])) m9 = some (.lst [V.bl true, .bl false, .non, .str "1", .ref m1, .ref m2, .ref m4, .ref m5, .ref m6, .ref m7, .ref m8, .str "abcdefgh", .str "abcdefghi"]) := upd_same
    generalize upd D8 m9 (.lst [V.bl true, .bl false, .non, .str "1", .ref m1, .ref m2, .ref m4, .ref m5, .ref m6, .ref m7, .ref m8, .str "abcdefgh", .str "abcdefghi"]) = D9 at y9 d9 ⊢
    have z5_ : Same G5 D8 := y1.trans z1
    refine ⟨p5, m9, us5, _, rfl, rfl, y9 _ _ (z5_ _ _ e5), d9, big _ (by show us5.length + 13 ≤ 400; omega), fun pv_ npv => ?_⟩
    have y10 : Same D9 (upd D9 pv_ (.lst (us5 ++ [V.bl true, .bl false, .non, .str "1", .ref m1, .ref m2, .ref m4, .ref m5, .ref m6, .ref m7, .ref m8, .str "abcdefgh", .str "abcdefghi"]))) := Same.newG npv
    have d10 : (upd D9 pv_ (.lst (us5 ++ [V.bl true, .bl false, .non, .str "1", .ref m1, .ref m2, .ref m4, .ref m5, .ref m6, .ref m7, .ref m8, .str "abcdefgh", .str "abcdefghi"]))) pv_ = some (.lst (us5 ++ [V.bl true, .bl false, .non, .str "1", .ref m1, .ref m2, .ref m4, .ref m5, .ref m6, .ref m7, .ref m8, .str "abcdefgh", .str "abcdefghi"])) := upd_same
    have g10 : ∀ u ∈ us5 ++ [V.bl true, .bl false, .non, .str "1", .ref m1, .ref m2, .ref m4, .ref m5, .ref m6, .ref m7, .ref m8, .str "abcdefgh", .str "abcdefghi"], Good k (upd D9 pv_ (.lst (us5 ++ [V.bl true, .bl false, .non, .str "1", .ref m1, .ref m2, .ref m4, .ref m5, .ref m6, .ref m7, .ref m8, .str "abcdefgh", .str "abcdefghi"]))) u := fun u hu => (List.mem_append.mp hu).elim (fun h => (g5 u h).keep (keep_same ((z5_.trans y9).trans y10))) fun h => (all u h).keep (keep_same (y9.trans y10))
    generalize upd D9 pv_ (.lst (us5 ++ [V.bl true, .bl false, .non, .str "1", .ref m1, .ref m2, .ref m4, .ref m5, .ref m6, .ref m7, .ref m8, .str "abcdefgh", .str "abcdefghi"])) = Dz at y10 d10 g10 ⊢
    generalize us5 ++ [V.bl true, .bl false, .non, .str "1", .ref m1, .ref m2, .ref m4, .ref m5, .ref m6, .ref m7, .ref m8, .str "abcdefgh", .str "abcdefghi"] = us at d10 g10 ⊢
    have hz : Same H Dz := ((h5.trans z5_).trans y9).trans y10
    have jd : ∀ u ∈ us, ∃ kd ks, Jd Dz u kd ks := fun u hu => g10 u hu Dz fun b x _ e => e
    refine ⟨2, rfl, by decide, by decide, for_range (n := 2) (fun i σ F => ∃ y5 y6 y7 y8, σ = [some (.ref a), some (.int (j : Int)), some (.ref k), _, some (.ref pv_), y5, y6, y7, y8] ∧ Same Dz F) ⟨_, _, _, _, rfl, Same.refl _⟩ (fun i σ F hi hW => ?_) (fun σ F hW => ?_)⟩
    · obtain ⟨y5, y6, y7, y8, rfl, sF⟩ := hW
      refine ⟨.ref pv_, rfl, pv_, rfl, ⟨us, .inl (.inl (sF _ _ d10))⟩, ?_⟩
      refine for_list (xs := us) (fun i σ F => ∃ y5 y6 y7 y8, σ = [some (.ref a), some (.int (j : Int)), some (.ref k), _, some (.ref pv_), y5, y6, y7, y8] ∧ Same Dz F) ⟨_, _, _, _, rfl, sF⟩ (fun i σ F _ hW => ?_) (fun i v σ F hv hW => ?_) (fun σ F hW => ?_)
      · obtain ⟨_, _, _, _, _, sF⟩ := hW
        exact .inl (.inl (sF _ _ d10))
      · obtain ⟨y5, y6, y7, y8, rfl, sF⟩ := hW
        obtain ⟨kd, ks, jv⟩ := jd v (List.mem_of_getElem? hv)
        have jF := jv.same sF
        refine ⟨v, rfl, v, kd, rfl, jF.sees, v, rfl, v, kd, rfl, jF.sees, fun F1 s1 => ⟨v, rfl, v, kd, ks, rfl, jF.same s1, fun F2 s2 => ⟨by show 3 ≤ sizeLine; decide, fun pf npf => ?_⟩⟩⟩
        have s3 := (s1.trans s2).upG (o := .lst [.bl (short kd), .bl (isNm kd), .bl (setOk kd ks)]) ((s1.trans s2).free npf)
        have ef : (upd F2 pf (.lst [.bl (short kd), .bl (isNm kd), .bl (setOk kd ks)])) pf = some (.lst [.bl (short kd), .bl (isNm kd), .bl (setOk kd ks)]) := upd_same
        have jF3 := jF.same s3
        refine ⟨v, rfl, v, kd, rfl, jF3.sees, v, rfl, v, kd, rfl, jF3.sees, fun F4 s4 => ⟨v, rfl, v, kd, ks, rfl, jF3.same s4, fun F5 s5 => ⟨by show 3 ≤ sizeLine; decide, fun pd npd => ?_⟩⟩⟩
        have s6 := (s4.trans s5).upG (o := .lst [.bl (short kd), .bl (isNm kd), .bl (setOk kd ks)]) ((s4.trans s5).free npd)
        have ed : (upd F5 pd (.lst [.bl (short kd), .bl (isNm kd), .bl (setOk kd ks)])) pd = some (.lst [.bl (short kd), .bl (isNm kd), .bl (setOk kd ks)]) := upd_same
        obtain ⟨w1, w2, w3, w4⟩ := three_show (short kd) (isNm kd) (setOk kd ks)
        refine ⟨.ref pf, rfl, pf, _, rfl, three_dp (s6 _ _ ef), w1, w2, w3, w4, .ref pd, rfl, pd, _, rfl, three_dp ed, w1, w2, w3, w4, rfl, _, rfl, ?_⟩
        rw [decide_eq_true rfl]
        refine iteF ⟨_, _, _, _, rfl, (sF.trans s3).trans s6⟩
      · obtain ⟨y5, y6, y7, y8, rfl, sF⟩ := hW
        exact ⟨_, _, _, _, rfl, sF⟩
    · obtain ⟨y5, y6, y7, y8, rfl, sF⟩ := hW
      exact q F (hz.trans sF)
end
end K0

set_option Elab.async false
set_option linter.all false
set_option maxRecDepth 100000
set_option maxHeartbeats 8000000
namespace K0
open PySem PySem.Spec PyProof.Rows L2 Gd
section
variable {P : Program} {w : World} {K : PySem.W.Frag} {mg : Str → Option Value} {base : Heap}
def spLaw (K : PySem.W.Frag) : Sp := fun vs H Q _ => ∃ (a : Addr) (ns : List Int), vs = [.ref a] ∧ SqL K H a (ns.map V.int) ∧ ns.length ≤ 63 ∧ ∀ G, Q (.bl true) G
theorem ok_law {f fc : Addr} {fd fdc : FuncData} {t1 : Tok} (F : Fun K "law" "law" s_law f fd) (B : Blt mg) (gM : mg "MAX_LETTERS" = some (.int 8 t1)) (G_cell : FnG P w K mg base CX0 4 fc fdc ["_law_script", "_law_at"] (spCell K)) (g_cell : mg "_law_cell_right" = some (.ref fc)) (k_cell : PySem.W.keepIn K (.ref fc) = true) (b_cell : Binds K fdc ["_law_script", "_law_at"] []) : FnG P w K mg base CX0 5 f fd ["_law_script"] (spLaw K) := by
  refine def_ok F sc_law (fun vs H Q E h => ?_) (fun cdv A outer s H vs Q E hr hgd0 h => ?_)
  · obtain ⟨a, ns, rfl, _⟩ := h
    rfl
  obtain ⟨a, ns, rfl, hS, few, q⟩ := h
  have hgd : (A.deeper (envOfC "law" (defScope s_law) s.heap.objs.size f cdv)).guards = some [] := hgd0
  refine ⟨_, (pss_cons (ps_if (pt_cmpR op_ne (pe_glob (v := .int 8) rfl gM ⟨_, rfl⟩) pe_int (nomark _)) (pss_one (ps_ret pe_bl)) pss_nil)
  (pss_cons (ps_for PassesOwn.never rfl (pi_range1 (by rfl) B.range_ (pa_cons (pe_callB (call_max2 rfl) (by rfl) B.max_ (by decide +kernel) (pa_cons pe_int (pa_cons (pe_callB (call_min2 rfl) (by rfl) B.min_ (by decide +kernel) (pa_cons pe_int (pa_cons (pe_callB call_len_seq (by rfl) B.len_ (by decide +kernel) (pa_cons (pv 0) pa_nil)) pa_nil))) pa_nil))) pa_nil)) (pg_name (i := 1) sc_law.nd rfl (.inl rfl)) (pss_one (ps_if (pt_not (pt_val (call_ok G_cell (hr.mono (by decide)) hgd (by rfl) g_cell k_cell b_cell pass0 (pa_cons (pv 0) (pa_cons (pv 1) pa_nil))))) (pss_one (ps_ret pe_bl)) pss_nil)))
  (pss_one (ps_ret pe_bl)))), ?_⟩
  refine ⟨rfl, _, rfl, ?_⟩
  rw [decide_eq_true rfl]
  refine iteF ?_
  refine ⟨.ref a, rfl, a, _, rfl, .inl hS, _, _, rfl, _, _, rfl, _, rfl, ?_, ?_, for_range (fun i σ G => ∃ y, σ = [some (.ref a), y] ∧ Same H G) ⟨_, rfl, Same.refl H⟩ (fun i σ G _ hW => ?_) (fun σ G _ => q G)⟩
  · rw [List.length_map]
    split <;> split <;> omega
  · rw [List.length_map]
    split <;> split <;> omega
  · obtain ⟨y, rfl, sG⟩ := hW
    refine ⟨.ref a, rfl, .int (0 + (i : Int)), rfl, a, ns, i, by rw [Int.zero_add]; rfl, sG.seq hS, fun G2 s2 => ⟨true, rfl, ?_⟩⟩
    exact iteF ⟨_, rfl, sG.trans s2⟩
end
/-- a def's facts give its Fun -/
theorem all_mk {l : PySem.W.OpenLaw} {w : World} {K : PySem.W.Frag} {h : Heap} {mg : Str → Option Value} {fa : Addr} (X : K.In h) (G : h.Ns mainGlobals mg) (hfa : mg "law" = some (.ref fa))
    {f1 f2 f3 f4 f5 f6 f7 f8 f9 f10 f11 f12 f13 f14 f15 f16 f17 : Addr} {fd1 fd2 fd3 fd4 fd5 fd6 fd7 fd8 fd9 fd10 fd11 fd12 fd13 fd14 fd15 fd16 fd17 : FuncData} {iM iT : Int} {sL : Str} {tM tT tL : Tok}
    (e1 : PySem.W.nsIn K mainGlobals "is_integer" = some (some (.ref f1))) (F1 : Fun K "is_integer" "is_integer" s_is_integer f1 fd1)
    (e2 : PySem.W.nsIn K mainGlobals "is_number" = some (some (.ref f2))) (F2 : Fun K "is_number" "is_number" s_is_number f2 fd2)
    (e3 : PySem.W.nsIn K mainGlobals "is_name" = some (some (.ref f3))) (F3 : Fun K "is_name" "is_name" s_is_name f3 fd3)
    (e4 : PySem.W.nsIn K mainGlobals "is_ascending" = some (some (.ref f4))) (F4 : Fun K "is_ascending" "is_ascending" s_is_ascending f4 fd4)
    (e5 : PySem.W.nsIn K mainGlobals "is_set" = some (some (.ref f5))) (F5 : Fun K "is_set" "is_set" s_is_set f5 fd5)
    (e6 : PySem.W.nsIn K mainGlobals "_law_sack" = some (some (.ref f6))) (F6 : Fun K "_law_sack" "_law_sack" s_sack f6 fd6)
    (e7 : PySem.W.nsIn K mainGlobals "_law_grab" = some (some (.ref f7))) (F7 : Fun K "_law_grab" "_law_grab" s_grab f7 fd7)
    (e8 : PySem.W.nsIn K mainGlobals "_law_one_of" = some (some (.ref f8))) (F8 : Fun K "_law_one_of" "_law_one_of" s_one_of f8 fd8)
    (e9 : PySem.W.nsIn K mainGlobals "_law_letter" = some (some (.ref f9))) (F9 : Fun K "_law_letter" "_law_letter" s_letter f9 fd9)
    (e10 : PySem.W.nsIn K mainGlobals "_law_is_name" = some (some (.ref f10))) (F10 : Fun K "_law_is_name" "_law_is_name" s_lname f10 fd10)
    (e11 : PySem.W.nsIn K mainGlobals "_law_is_short" = some (some (.ref f11))) (F11 : Fun K "_law_is_short" "_law_is_short" s_is_short f11 fd11)
    (e12 : PySem.W.nsIn K mainGlobals "_law_numbers" = some (some (.ref f12))) (F12 : Fun K "_law_numbers" "_law_numbers" s_numbers f12 fd12)
    (e13 : PySem.W.nsIn K mainGlobals "_law_texts" = some (some (.ref f13))) (F13 : Fun K "_law_texts" "_law_texts" s_texts f13 fd13)
    (e14 : PySem.W.nsIn K mainGlobals "_law_is_number_set" = some (some (.ref f14))) (F14 : Fun K "_law_is_number_set" "_law_is_number_set" s_is_number_set f14 fd14)
    (e15 : PySem.W.nsIn K mainGlobals "_law_tuples" = some (some (.ref f15))) (F15 : Fun K "_law_tuples" "_law_tuples" s_tuples f15 fd15)
    (e16 : PySem.W.nsIn K mainGlobals "_law_cell_right" = some (some (.ref f16))) (F16 : Fun K "_law_cell_right" "_law_cell_right" s_cell_right f16 fd16)
    (e17 : PySem.W.nsIn K mainGlobals "law" = some (some (.ref f17))) (F17 : Fun K "law" "law" s_law f17 fd17) (bl : ∀ (s : Shared) (v : Value), BindsTo s fd17 ⟨[v], []⟩ [("_law_script", v)])
    (gM : PySem.W.nsIn K mainGlobals "MAX_LETTERS" = some (some (.int iM tM))) (hM : iM = 8)
    (gT : PySem.W.nsIn K mainGlobals "TOO_LONG" = some (some (.int iT tT))) (hT : iT = TL)
    (gL : PySem.W.nsIn K mainGlobals "LETTERS" = some (some (.str sL tL))) (hL : sL = letters)
    (z1 : PySem.W.nsIn K mainGlobals "len" = some none) (z2 : PySem.W.nsIn K mainGlobals "range" = some none) (z3 : PySem.W.nsIn K mainGlobals "isinstance" = some none) (z4 : PySem.W.nsIn K mainGlobals "int" = some none)
    (z5 : PySem.W.nsIn K mainGlobals "bool" = some none) (z6 : PySem.W.nsIn K mainGlobals "str" = some none) (z7 : PySem.W.nsIn K mainGlobals "tuple" = some none) (z8 : PySem.W.nsIn K mainGlobals "list" = some none)
    (z9 : PySem.W.nsIn K mainGlobals "set" = some none) (z10 : PySem.W.nsIn K mainGlobals "sorted" = some none) (z11 : PySem.W.nsIn K mainGlobals "zip" = some none) (z12 : PySem.W.nsIn K mainGlobals "all" = some none)
    (z13 : PySem.W.nsIn K mainGlobals "abs" = some none) (z14 : PySem.W.nsIn K mainGlobals "max" = some none) (z15 : PySem.W.nsIn K mainGlobals "min" = some none) (z16 : PySem.W.nsIn K mainGlobals "repr" = some none) :
    ∃ fd : FuncData, (∀ (s : Shared) (v : Value), BindsTo s fd ⟨[v], []⟩ [("_law_script", v)]) ∧ ∀ base : Heap, K.In base → base.Ns mainGlobals mg → FnG l.prog w K mg base CX0 5 fa fd ["_law_script"] (spLaw K) := by
  have e := hfa.symm.trans (PySem.W.mg_of X G e17)
  cases e
  subst hM hT hL
  have B : Blt mg := ⟨PySem.W.mg_none_of X G z1, PySem.W.mg_none_of X G z2, PySem.W.mg_none_of X G z3, PySem.W.mg_none_of X G z4, PySem.W.mg_none_of X G z5, PySem.W.mg_none_of X G z6, PySem.W.mg_none_of X G z7, PySem.W.mg_none_of X G z8, PySem.W.mg_none_of X G z9, PySem.W.mg_none_of X G z10, PySem.W.mg_none_of X G z11, PySem.W.mg_none_of X G z12, PySem.W.mg_none_of X G z13, PySem.W.mg_none_of X G z14, PySem.W.mg_none_of X G z15, PySem.W.mg_none_of X G z16⟩
  have mM := PySem.W.mg_of X G gM
  have mT := PySem.W.mg_of X G gT
  have mL := PySem.W.mg_of X G gL
  refine ⟨fd17, bl, fun base _ _ => ?_⟩
  have H1 : Has l.prog w K mg base 1 "is_integer" ["value"] spInt := ⟨f1, fd1, ok_is_integer F1 B mT, PySem.W.mg_of X G e1, F1.kp, F1.binds fun _ _ _ _ _ _ us hl => match us, hl with | [_], _ => rfl⟩
  have H2 : Has l.prog w K mg base 2 "is_number" ["value"] spNum := ⟨f2, fd2, ok_is_number F2 H1, PySem.W.mg_of X G e2, F2.kp, F2.binds fun _ _ _ _ _ _ us hl => match us, hl with | [_], _ => rfl⟩
  have H3 : Has l.prog w K mg base 1 "is_name" ["value"] spName := ⟨f3, fd3, ok_is_name F3 B mM mL, PySem.W.mg_of X G e3, F3.kp, F3.binds fun _ _ _ _ _ _ us hl => match us, hl with | [_], _ => rfl⟩
  have H4 : Has l.prog w K mg base 1 "is_ascending" ["values"] (spAsc K) := ⟨f4, fd4, ok_is_ascending F4 B, PySem.W.mg_of X G e4, F4.kp, F4.binds fun _ _ _ _ _ _ us hl => match us, hl with | [_], _ => rfl⟩
  have H5 : Has l.prog w K mg base 3 "is_set" ["value"] spSet := ⟨f5, fd5, ok_is_set F5 B H2 H4, PySem.W.mg_of X G e5, F5.kp, F5.binds fun _ _ _ _ _ _ us hl => match us, hl with | [_], _ => rfl⟩
  have H6 : Has l.prog w K mg base 1 "_law_sack" ["_law_script", "_law_at"] (spSack K) := ⟨f6, fd6, ok_sack F6 B, PySem.W.mg_of X G e6, F6.kp, F6.binds fun _ _ _ _ _ _ us hl => match us, hl with | [_, _], _ => rfl⟩
  have H7 : CGrab l.prog w K mg base := ⟨f7, fd7, ok_grab F7 B, PySem.W.mg_of X G e7, F7.kp, F7.binds fun _ _ _ _ _ _ us hl => match us, hl with | [_, _], _ => rfl⟩
  have H8 : COne l.prog w K mg base := ⟨f8, fd8, ok_one_of F8 B H7, PySem.W.mg_of X G e8, F8.kp, F8.binds fun _ _ _ _ _ _ us hl => match us, hl with | [_, _], _ => rfl⟩
  have H9 : Has l.prog w K mg base 2 "_law_letter" ["_law_sack_here"] spLetter := ⟨f9, fd9, ok_letter F9 B H7, PySem.W.mg_of X G e9, F9.kp, F9.binds fun _ _ _ _ _ _ us hl => match us, hl with | [_], _ => rfl⟩
  have H10 : Has l.prog w K mg base 1 "_law_is_name" ["_law_value"] spName := ⟨f10, fd10, ok_lname F10 B, PySem.W.mg_of X G e10, F10.kp, F10.binds fun _ _ _ _ _ _ us hl => match us, hl with | [_], _ => rfl⟩
  have H11 : Has l.prog w K mg base 1 "_law_is_short" ["_law_value"] spInt := ⟨f11, fd11, ok_is_short F11 B, PySem.W.mg_of X G e11, F11.kp, F11.binds fun _ _ _ _ _ _ us hl => match us, hl with | [_], _ => rfl⟩
  have H12 : Has l.prog w K mg base 2 "_law_numbers" ["_law_sack_here", "_law_cell"] spNumbers := ⟨f12, fd12, ok_numbers F12 B H7, PySem.W.mg_of X G e12, F12.kp, F12.binds fun _ _ _ _ _ _ us hl => match us, hl with | [_, _], _ => rfl⟩
  have H13 : Has l.prog w K mg base 3 "_law_texts" ["_law_sack_here"] spMk := ⟨f13, fd13, ok_texts F13 B H7 H8 H9, PySem.W.mg_of X G e13, F13.kp, F13.binds fun _ _ _ _ _ _ us hl => match us, hl with | [_], _ => rfl⟩
  have H14 : Has l.prog w K mg base 2 "_law_is_number_set" ["_law_value"] spSet := ⟨f14, fd14, ok_number_set F14 B H11, PySem.W.mg_of X G e14, F14.kp, F14.binds fun _ _ _ _ _ _ us hl => match us, hl with | [_], _ => rfl⟩
  have H15 : Has l.prog w K mg base 3 "_law_tuples" ["_law_sack_here"] spMk := ⟨f15, fd15, ok_tuples F15 B H7 H8, PySem.W.mg_of X G e15, F15.kp, F15.binds fun _ _ _ _ _ _ us hl => match us, hl with | [_], _ => rfl⟩
  exact ok_law F17 B mM (ok_cell F16 B ⟨H6, H12, H13, H15, H1, H3, H5, H11, H10, H14⟩) (PySem.W.mg_of X G e16) F16.kp (F16.binds fun _ _ _ _ _ _ us hl => match us, hl with | [_, _], _ => rfl)
end K0

set_option Elab.async false
set_option linter.all false
set_option maxRecDepth 100000
open PySem PySem.W PyProof.Rows
set_option maxHeartbeats 0 in
theorem PySem.Challenge.cw_setchooser_k00_integers_names_and_sets_holds : PySem.Challenge.rw_setchooser_k00_integers_names_and_sets.Holds := by
  w_on; o_law; k_head; (case hw => w_witness2)
  k_fill
  refine Gd.walk (l := PySem.Challenge.rw_setchooser_k00_integers_names_and_sets) (n := 63) (k := 5) (x := "_law_script") (sp := fun w => K0.spLaw _) rfl (by decide) rfl ⟨rfl, by decide, by decide⟩ (fun w h Y => PySem.W.kIn_of Y) ?F (fun _ _ a ns hl hS => ⟨a, ns, rfl, hS, hl, fun _ => rfl⟩)
  case F =>
    intro w mg fa h KX G hmg
    refine' K0.all_mk KX G hmg ?e1 (L2.fun_mk ?l1 ?c1 ?k1) ?e2 (L2.fun_mk ?l2 ?c2 ?k2) ?e3 (L2.fun_mk ?l3 ?c3 ?k3) ?e4 (L2.fun_mk ?l4 ?c4 ?k4) ?e5 (L2.fun_mk ?l5 ?c5 ?k5) ?e6 (L2.fun_mk ?l6 ?c6 ?k6) ?e7 (L2.fun_mk ?l7 ?c7 ?k7) ?e8 (L2.fun_mk ?l8 ?c8 ?k8) ?e9 (L2.fun_mk ?l9 ?c9 ?k9) ?e10 (L2.fun_mk ?l10 ?c10 ?k10) ?e11 (L2.fun_mk ?l11 ?c11 ?k11) ?e12 (L2.fun_mk ?l12 ?c12 ?k12) ?e13 (L2.fun_mk ?l13 ?c13 ?k13) ?e14 (L2.fun_mk ?l14 ?c14 ?k14) ?e15 (L2.fun_mk ?l15 ?c15 ?k15) ?e16 (L2.fun_mk ?l16 ?c16 ?k16) ?e17 (L2.fun_mk ?l17 ?c17 ?k17) (fun s v => .of_eq rfl) ?gM ?hM ?gT ?hT ?gL ?hL ?z1 ?z2 ?z3 ?z4 ?z5 ?z6 ?z7 ?z8 ?z9 ?z10 ?z11 ?z12 ?z13 ?z14 ?z15 ?z16
    (case e1 => k_is)
    (case l1 => k_is)
    (case c1 => k_is)
    (case k1 => k_is)
    (case e2 => k_is)
    (case l2 => k_is)
    (case c2 => k_is)
    (case k2 => k_is)
    (case e3 => k_is)
    (case l3 => k_is)
    (case c3 => k_is)
    (case k3 => k_is)
    (case e4 => k_is)
    (case l4 => k_is)
    (case c4 => k_is)
    (case k4 => k_is)
    (case e5 => k_is)
    (case l5 => k_is)
    (case c5 => k_is)
    (case k5 => k_is)
    (case e6 => k_is)
    (case l6 => k_is)
    (case c6 => k_is)
    (case k6 => k_is)
    (case e7 => k_is)
    (case l7 => k_is)
    (case c7 => k_is)
    (case k7 => k_is)
    (case e8 => k_is)
    (case l8 => k_is)
    (case c8 => k_is)
    (case k8 => k_is)
    (case e9 => k_is)
    (case l9 => k_is)
    (case c9 => k_is)
    (case k9 => k_is)
    (case e10 => k_is)
    (case l10 => k_is)
    (case c10 => k_is)
    (case k10 => k_is)
    (case e11 => k_is)
    (case l11 => k_is)
    (case c11 => k_is)
    (case k11 => k_is)
    (case e12 => k_is)
    (case l12 => k_is)
    (case c12 => k_is)
    (case k12 => k_is)
    (case e13 => k_is)
    (case l13 => k_is)
    (case c13 => k_is)
    (case k13 => k_is)
    (case e14 => k_is)
    (case l14 => k_is)
    (case c14 => k_is)
    (case k14 => k_is)
    (case e15 => k_is)
    (case l15 => k_is)
    (case c15 => k_is)
    (case k15 => k_is)
    (case e16 => k_is)
    (case l16 => k_is)
    (case c16 => k_is)
    (case k16 => k_is)
    (case e17 => k_is)
    (case l17 => k_is)
    (case c17 => k_is)
    (case k17 => k_is)
    (case gM => k_is)
    (case gT => k_is)
    (case gL => k_is)
    (case hM => rfl)
    (case hT => rfl)
    (case hL => rfl)
    (case z1 => k_is)
    (case z2 => k_is)
    (case z3 => k_is)
    (case z4 => k_is)
    (case z5 => k_is)
    (case z6 => k_is)
    (case z7 => k_is)
    (case z8 => k_is)
    (case z9 => k_is)
    (case z10 => k_is)
    (case z11 => k_is)
    (case z12 => k_is)
    (case z13 => k_is)
    (case z14 => k_is)
    (case z15 => k_is)
    (case z16 => k_is)
